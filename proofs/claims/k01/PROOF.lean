
import PyProof.Rows.All
import Wide.All
import OpenK.AllK
import Wide.FinOn
import HandS.ForMost
import HandS.Gcd
import HandS.Wide
import HandS.EndBits
import HandS.IsInst
import HandS.SortInts
import HandS.NoneIn
import HandS.More
import HandS.Codes
import HandS.Zip
import HandS.ClsMeth
import HandS.ExcInit
import HandS.ExcIs
import HandS.ExcField
import HandS.ExcOwn
import HandS.WordsExc
import HandS.TryOnly
import HandS.TryMany
import HandS.FStrTup
import HandS.FStr
import KE.KExcIs
import KE.RegKIsAll
import PySem.Str
import HandS.Walk
import PySem.Challenge.RW_pactford_k01_words_cross
namespace My
def g (ns : List Int) (i : Nat) : Int := ns.getD i 0
def swp (ns : List Int) (i j : Nat) : List Int := (ns.set i (g ns j)).set j (g ns i)
theorem swp_len (ns : List Int) (i j : Nat) : (swp ns i j).length = ns.length := by unfold swp; rw [List.length_set, List.length_set]
theorem g_lt {ns : List Int} {i : Nat} (h : i < ns.length) : ns[i]? = some (g ns i) := by
  unfold g
  rw [List.getD_eq_getElem?_getD, List.getElem?_eq_getElem h]
  rfl
theorem g_swp {ns : List Int} {i j : Nat} (hi : i < ns.length) (hj : j < ns.length) (k : Nat) : g (swp ns i j) k = if k = j then g ns i else if k = i then g ns j else g ns k := by
  show (swp ns i j).getD k 0 = _
  unfold swp
  rw [List.getD_eq_getElem?_getD, List.getElem?_set, List.length_set, List.getElem?_set]
  by_cases h1 : j = k
  · subst h1
    simp only [if_true, if_pos hj]
    rfl
  · have h1' : ¬ k = j := fun q => h1 q.symm
    simp only [if_neg h1, if_neg h1']
    by_cases h2 : i = k
    · subst h2
      simp only [if_true, if_pos hi]
      rfl
    · have h2' : ¬ k = i := fun q => h2 q.symm
      simp only [if_neg h2, if_neg h2']
      unfold g
      rw [List.getD_eq_getElem?_getD]
theorem swp_perm {ns : List Int} {i j : Nat} (hi : i < ns.length) (hj : j < ns.length) : (swp ns i j).Perm ns := by
  have e1 : g ns j = ns[j] := by
    have := g_lt hj
    rw [List.getElem?_eq_getElem hj] at this
    exact (Option.some.inj this).symm
  have e2 : g ns i = ns[i] := by
    have := g_lt hi
    rw [List.getElem?_eq_getElem hi] at this
    exact (Option.some.inj this).symm
  unfold swp
  rw [e1, e2]
  exact List.set_set_perm hi hj
def IsHeap (ns : List Int) : Prop := ∀ i, 0 < i → i < ns.length → g ns ((i - 1) / 2) ≤ g ns i
def UpI (ns : List Int) (pos : Nat) : Prop := (∀ i, 0 < i → i < ns.length → i ≠ pos → g ns ((i - 1) / 2) ≤ g ns i) ∧
  ∀ c, 0 < c → c < ns.length → (c - 1) / 2 = pos → 0 < pos → g ns ((pos - 1) / 2) ≤ g ns c
def DnI (ns : List Int) (pos : Nat) : Prop := (∀ i, 0 < i → i < ns.length → i ≠ pos → (i - 1) / 2 ≠ pos → g ns ((i - 1) / 2) ≤ g ns i) ∧
  ∀ c, 0 < c → c < ns.length → (c - 1) / 2 = pos → 0 < pos → g ns ((pos - 1) / 2) ≤ g ns c
theorem UpI.done {ns : List Int} {pos : Nat} (h : UpI ns pos) (hp : pos = 0 ∨ g ns ((pos - 1) / 2) ≤ g ns pos) : IsHeap ns := by
  intro i h0 hl
  by_cases e : i = pos
  · subst e
    rcases hp with e | e
    · omega
    · exact e
  · exact h.1 i h0 hl e
theorem UpI.step {ns : List Int} {pos : Nat} (h : UpI ns pos) (h0 : 0 < pos) (hl : pos < ns.length) (hlt : g ns pos < g ns ((pos - 1) / 2)) : UpI (swp ns ((pos - 1) / 2) pos) ((pos - 1) / 2) := by
  have hq : (pos - 1) / 2 < ns.length := by omega
  have G := g_swp hq hl
  refine ⟨fun i i0 il ne => ?_, fun c c0 cl e q0 => ?_⟩
  · rw [swp_len] at il
    rw [G, G]
    by_cases e1 : i = pos
    · subst e1
      rw [if_pos rfl, if_neg (by omega), if_pos rfl]
      omega
    · rw [if_neg e1, if_neg ne]
      by_cases e2 : (i - 1) / 2 = pos
      · rw [if_pos e2]
        exact h.2 i i0 il e2 h0
      · rw [if_neg e2]
        by_cases e3 : (i - 1) / 2 = (pos - 1) / 2
        · rw [if_pos e3]
          have := h.1 i i0 il e1
          rw [e3] at this
          omega
        · rw [if_neg e3]
          exact h.1 i i0 il e1
  · rw [swp_len] at cl
    rw [G, G]
    have k1 := h.1 ((pos - 1) / 2) q0 hq (by omega)
    rw [if_neg (by omega), if_neg (by omega)]
    by_cases e1 : c = pos
    · rw [if_pos e1]
      exact k1
    · rw [if_neg e1, if_neg (by omega)]
      have k2 := h.1 c c0 cl e1
      rw [e] at k2
      omega
theorem DnI.leaf {ns : List Int} {pos : Nat} (h : DnI ns pos) (hl : ¬ pos < ns.length / 2) : UpI ns pos :=
  ⟨fun i i0 il ne => h.1 i i0 il ne (by omega), h.2⟩
theorem DnI.step {ns : List Int} {pos m : Nat} (h : DnI ns pos) (hm : m < ns.length) (m0 : 0 < m) (e : (m - 1) / 2 = pos) (hmin : ∀ c, 0 < c → c < ns.length → (c - 1) / 2 = pos → g ns m ≤ g ns c) : DnI (swp ns m pos) m := by
  have hp : pos < ns.length := by omega
  have G := g_swp hm hp
  refine ⟨fun i i0 il n1 n2 => ?_, fun c c0 cl ec _ => ?_⟩
  · rw [swp_len] at il
    rw [G, G]
    by_cases e1 : i = pos
    · rw [if_pos e1, if_neg (by omega), if_neg n2]
      subst e1
      exact h.2 m m0 hm e i0
    · rw [if_neg e1, if_neg n1]
      by_cases e2 : (i - 1) / 2 = pos
      · rw [if_pos e2]
        exact hmin i i0 il e2
      · rw [if_neg e2, if_neg n2]
        exact h.1 i i0 il e1 e2
  · rw [swp_len] at cl
    rw [G, G]
    rw [e, if_pos rfl, if_neg (by omega), if_neg (by omega)]
    have := h.1 c c0 cl (by omega) (by omega)
    rw [ec] at this
    exact this
theorem IsHeap.least {ns : List Int} (h : IsHeap ns) : ∀ i, i < ns.length → g ns 0 ≤ g ns i := by
  intro i
  induction i using Nat.strongRecOn with
  | _ i ih =>
    intro hl
    by_cases h0 : i = 0
    · subst h0; exact Int.le_refl _
    · exact Int.le_trans (ih ((i - 1) / 2) (by omega) (by omega)) (h i (by omega) hl)
theorem IsHeap.least_mem {ns : List Int} (h : IsHeap ns) {x : Int} (hx : x ∈ ns) : g ns 0 ≤ x := by
  obtain ⟨i, hi, e⟩ := List.mem_iff_getElem.mp hx
  have := h.least i hi
  have q := g_lt hi
  rw [List.getElem?_eq_getElem hi, e] at q
  rw [← Option.some.inj q] at this
  exact this
/-- one more at the end -/
theorem IsHeap.push {ns : List Int} (h : IsHeap ns) (x : Int) : UpI (ns ++ [x]) ns.length := by
  have ga : ∀ i, i < ns.length → g (ns ++ [x]) i = g ns i := fun i hi => by
    unfold g
    rw [List.getD_eq_getElem?_getD, List.getElem?_append_left hi, List.getD_eq_getElem?_getD]
  refine ⟨fun i i0 il ne => ?_, fun c c0 cl e _ => ?_⟩
  · rw [List.length_append, List.length_singleton] at il
    rw [ga i (by omega), ga _ (by omega)]
    exact h i i0 (by omega)
  · rw [List.length_append, List.length_singleton] at cl
    omega
/-- the last one put in the first one's place -/
theorem IsHeap.pop {ns : List Int} (h : IsHeap ns) (x : Int) : DnI (ns.dropLast.set 0 x) 0 := by
  have hlen : (ns.dropLast.set 0 x).length = ns.length - 1 := by rw [List.length_set, List.length_dropLast]
  have ga : ∀ i, 0 < i → i < ns.length - 1 → g (ns.dropLast.set 0 x) i = g ns i := fun i i0 hi => by
    unfold g
    rw [List.getD_eq_getElem?_getD, List.getElem?_set, if_neg (by omega), List.getD_eq_getElem?_getD, List.getElem?_dropLast, if_pos hi]
  refine ⟨fun i i0 il n1 n2 => ?_, fun c c0 cl e q => absurd q (by omega)⟩
  rw [hlen] at il
  rw [ga i i0 il, ga _ (by omega) (by omega)]
  exact h i i0 (by omega)
theorem pop_perm {ns : List Int} (h2 : 2 ≤ ns.length) : (g ns 0 :: (ns.dropLast.set 0 (g ns (ns.length - 1)))).Perm ns := by
  match ns, h2 with
  | a :: b :: r, _ =>
    have e1 : g (a :: b :: r) 0 = a := rfl
    have e2 : g (a :: b :: r) ((a :: b :: r).length - 1) = (b :: r).getLast (by simp) := by
      unfold g
      rw [List.getD_eq_getElem?_getD, ← List.getLast?_eq_getElem?, List.getLast?_cons_cons, List.getLast?_eq_some_getLast (by simp)]
      rfl
    rw [e1, e2, List.dropLast_cons_cons, List.set_cons_zero]
    refine List.Perm.cons _ ?_
    have e3 : (b :: r).dropLast ++ [(b :: r).getLast (by simp)] = b :: r := List.dropLast_concat_getLast _
    exact (List.perm_append_comm (l₁ := [(b :: r).getLast (by simp)]) (l₂ := (b :: r).dropLast)).trans (by rw [e3])
end My

set_option Elab.async false
set_option linter.all false
set_option maxRecDepth 100000
set_option maxHeartbeats 4000000
namespace L2
open PySem PySem.Spec PyProof.Rows
theorem iteD {p A B : Prop} [Decidable p] (h1 : p → A) (h2 : ¬ p → B) : if decide p = true then A else B := by
  by_cases h : p
  · rw [decide_eq_true h, if_pos rfl]; exact h1 h
  · rw [decide_eq_false h, if_neg Bool.false_ne_true]; exact h2 h
theorem iteB {b : Bool} {A B : Prop} (h1 : b = true → A) (h2 : b = false → B) : if b = true then A else B := by
  cases b with
  | true => rw [if_pos rfl]; exact h1 rfl
  | false => rw [if_neg Bool.false_ne_true]; exact h2 rfl
/-- a word that no step opens -/
@[irreducible] def Blk (p : Prop) : Prop := p
theorem Blk.of {p : Prop} (h : p) : Blk p := by unfold Blk; exact h
theorem Blk.out {p : Prop} (h : Blk p) : p := by unfold Blk at h; exact h
/-- all but the addresses of S stays -/
def Keeps (S : List Addr) (H H' : Hp) : Prop := ∀ b o, H b = some o → b ∉ S → H' b = some o
theorem Keeps.refl (S : List Addr) (H : Hp) : Keeps S H H := fun _ _ h _ => h
theorem Keeps.trans {S : List Addr} {H H1 H2 : Hp} (a : Keeps S H H1) (b : Keeps S H1 H2) : Keeps S H H2 := fun c o h n => b c o (a c o h n) n
theorem Keeps.mono {S S' : List Addr} {H H1 : Hp} (a : Keeps S H H1) (h : ∀ x ∈ S, x ∈ S') : Keeps S' H H1 := fun c o e n => a c o e fun q => n (h c q)
theorem Keeps.upd {S : List Addr} {H H1 : Hp} {x : Addr} {o : HO} (a : Keeps S H H1) (hx : x ∈ S ∨ H x = none) : Keeps S H (upd H1 x o) := fun c u e n => by
  have ne : c ≠ x := fun q => by
    subst q
    rcases hx with h | h
    · exact n h
    · rw [h] at e; cases e
  rw [upd_ne ne]
  exact a c u e n
/-- fresh at H1, so fresh at H (or in S) -/
theorem Keeps.fresh {S : List Addr} {H H1 : Hp} {x : Addr} (a : Keeps S H H1) (h : H1 x = none) : x ∈ S ∨ H x = none := by
  cases e : H x with
  | none => exact .inr rfl
  | some o =>
    by_cases hm : x ∈ S
    · exact .inl hm
    · rw [a x o e hm] at h; cases h
section
variable {X : Cx}
/-- xs[i], by values -/
def rGetL (K : PySem.W.Frag) : V → V → Hp → VK → Prop := fun x y H Q => ∃ p xs i v, x = .ref p ∧ y = .int i ∧ SqL K H p xs ∧ 0 ≤ i ∧ xs[i.toNat]? = some v ∧ Q v H
theorem pget_list : PGet X (rGetL X.K) := by
  intro pins s σ H o i ov iv Q I ro ri h
  obtain ⟨p, xs, j, v, rfl, rfl, hq, h0, hv, q⟩ := h
  cases ro
  obtain ⟨t, rfl⟩ := ri
  obtain ⟨its, r, pl, hz⟩ := I.list hq
  obtain ⟨w, ew, rw'⟩ := r.get hv
  have hl := r.length
  have hlt : j.toNat < xs.length := (List.getElem?_eq_some_iff.mp hv).1
  have hn := line63
  exact wpAny_getItem_list pl.isList h0 (by omega) (by simpa using ew) ⟨v, H, I, rw', q⟩
/-- the keywords alone: each parameter but the first by its name, in their order -/
structure KwB (K : PySem.W.Frag) (fd : FuncData) (ps ks : List Str) : Prop where
  to : ∀ (s : Shared) (u : Value) (ws : List Value), K.In s.heap → ws.length = ks.length → BindsTo s fd ⟨[u], ks.zip ws⟩ (ps.zip (u :: ws))
  len : ps.length = ks.length + 1
def tMethKw (C : Addr) (m : Str) (sp : Sp) (E : XK) (ta : TE) (tk : TA) : TE := fun σ H Q => ta σ H fun x H1 => ∃ a dx fs, x = .ref a ∧ H1 a = some (.ins C dx fs) ∧ fs.lookup m = none ∧
  tk σ H1 fun vs H2 => sp (x :: vs) H2 Q E
variable {CX : CXT} {k : Nat} {f C : Addr} {fd : FuncData} {ps ks : List Str} {sp : Sp} {E : XK} {m : Str} {pos apos : Pos} {o : Expr} {kws : List Keyword} {ta : TE} {tk : TA}
theorem run_kwm {pins : List (Addr × Obj)} {σ : St} {H : Hp} {s : Shared} {Q : VK} {u : Value} {v : V} {ws : List Value} {zs : List V} (F : FnOk X.prog X.w X.K X.mg X.base CX k f fd ps sp) (hr : Room k X.A) (hb : KwB X.K fd ps ks) (hx : Passes CX X E)
    (I : Inv X pins σ H s) (r : RelV v u) (rz : Vals zs ws) (h : sp (v :: zs) H Q E) : wpAny (model X.prog X.w) X.A (call (.ref f) [u] (ks.zip ws)) (EP X pins σ Q) X.xe s := by
  have r2 : Vals (v :: zs) (u :: ws) := .cons r rz
  have hl : (u :: ws).length = ps.length := by rw [← r2.length]; exact F.len _ _ _ _ h
  have hl2 : ws.length = ks.length := by have := hb.len; rw [List.length_cons] at hl; omega
  refine wpAny_call (codeAny_mono (F.run X.A X.stack s H ⟨[u], ks.zip ws⟩ (u :: ws) (v :: zs) Q E hr I.env0 (hb.to s u ws I.kIn hl2) r2 h) fun r s' hq => ?_)
  cases r with
  | error e => exact hx pins σ H s e s' I hq
  | ok fl =>
    cases fl with
    | ret u => exact I.after hq
    | next => exact False.elim hq
    | brk => exact False.elim hq
    | cont => exact False.elim hq
/-- o.m(k = v, ..) -/
theorem pe_methKw {pl : Sem Bool} (he : PE X o ta) (c : Cls X.K C) (hm : Meth X.K C m f) (F : FnOk X.prog X.w X.K X.mg X.base CX k f fd ps sp) (hr : Room k X.A) (hb : KwB X.K fd ps ks) (hx : Passes CX X E) (hkw : PK X kws tk)
    (hall : (backToKw pos (keywordEach kws X.env)).all (·.1.isSome) = true := by rfl) (hks : (backToKw pos (keywordEach kws X.env)).filterMap (·.1) = ks := by rfl)
    (hpl : ((backTo pos (starEach [] X.env)).any (·.1) || (backToKw pos (keywordEach kws X.env)).any (·.1.isNone)) = false := by rfl)
    (ht : eval (.Call (.Attribute o m apos) [] kws pos) X.env = (do
      let v0 ← eval o X.env
      standAt apos.atName
      let (g, frst) ← holding [v0] (getMethod v0 m pl)
      callWith pos g frst (backTo pos (starEach [] X.env)) (backToKw pos (keywordEach kws X.env))) := by rfl) :
    PE X (.Call (.Attribute o m apos) [] kws pos) (tMethKw C m sp E ta tk) := by
  constructor
  intro pins s σ H Q I h
  refine PySem.W.methodCall_KW (pl := pl) (thn (he.run pins s σ H _ I h) fun w s1 ⟨y, H1, I1, ry, a, dx, fs, ey, ea, l, q⟩ => ?_) ht
  subst ey
  obtain rfl : w = Value.ref a := ry
  refine getmeth_ok I1 ea c hm l (PySem.W.callWith_KW0 (h₀ := X.base) I.ok.mod.kin hm.kp hall (thn (hkw.run pos pins s1 σ H1 _ I1 q) fun ws s2 ⟨zs, H2, I2, rz, q2⟩ => ⟨I2.kIn, ?_⟩) hpl)
  rw [hks]
  exact run_kwm (v := .ref a) F hr hb hx I2 rfl rz q2
end
theorem kwb_mk {K : PySem.W.Frag} {x qual : Str} {st : Stmt} {f : Addr} {fd : FuncData} {ps ks : List Str} (F : Fun K x qual st f fd) (hl : ps.length = ks.length + 1)
    (h : ∀ (kV doc pm : Value) (an : Option Addr) (cdv ct : Value) (u : Value) (ws : List Value), ws.length = ks.length → bindArgs (PySem.W.fnOf x qual (defArgs st) (defBody st) (defScope st) .none kV doc pm an cdv ct) ⟨[u], ks.zip ws⟩ = pure (ps.zip (u :: ws))) : KwB K fd ps ks := by
  obtain ⟨_, _, kV, doc, pm, an, cdv, ct, _, rfl, _, _⟩ := F.ex
  exact ⟨fun s u ws _ hw => .of_eq (h kV doc pm an cdv ct u ws hw), hl⟩
/-! ### the box of draws -/
/-- a box at b: its great cells at g, the rest of the one that is drawn from, the lesser cells at l, how many draws -/
def BoxAt (H : Hp) (b g l : Addr) (n : Int) : Prop := ∃ (gs ls : List Int) (cur : Int), H b = some (.lst [.ref g, .int cur, .ref l, .int n]) ∧ H g = some (.lst (gs.map V.int)) ∧ H l = some (.lst (ls.map V.int)) ∧ b ≠ g ∧ b ≠ l ∧ g ≠ l ∧ gs.length ≤ 63 ∧ ls.length ≤ 63
theorem ints_get {ns : List Int} {i : Nat} {y : V} (h : (ns.map V.int)[i]? = some y) : ∃ z, ns[i]? = some z ∧ y = V.int z := by
  rw [List.getElem?_map] at h
  cases e : ns[i]? with
  | none => rw [e] at h; cases h
  | some z => rw [e] at h; exact ⟨z, rfl, (Option.some.inj h).symm⟩
theorem get_lt {α : Type} {xs : List α} {i : Nat} {y : α} (h : xs[i]? = some y) : i < xs.length := (List.getElem?_eq_some_iff.mp h).1
theorem Same.upd {H H1 : Hp} {x : Addr} {o : HO} (a : Same H H1) (h : H x = none) : Same H (upd H1 x o) := fun c u e => by
  rw [upd_ne (ne_of_none e h)]
  exact a c u e
theorem small {n : Nat} (h : n ≤ 100000) : n < sizeLine := Nat.lt_of_le_of_lt h (by decide)
theorem ixN_at {n j : Nat} (h : j < n) : ixN n ((j : Nat) : Int) = some j := by
  have h2 : ((j : Nat) : Int) < ((n : Nat) : Int) := Int.ofNat_lt.mpr h
  simp [ixN, h2]
theorem BoxAt.upd {H : Hp} {b g l x : Addr} {n : Int} {o : HO} (h : BoxAt H b g l n) (hx : H x = none) : BoxAt (upd H x o) b g l n := by
  obtain ⟨gs, ls, cur, e1, e2, e3, r⟩ := h
  exact ⟨gs, ls, cur, by rw [upd_ne (ne_of_none e1 hx)]; exact e1, by rw [upd_ne (ne_of_none e2 hx)]; exact e2, by rw [upd_ne (ne_of_none e3 hx)]; exact e3, r⟩
theorem BoxAt.keep {H H' : Hp} {b g l : Addr} {n : Int} {S : List Addr} (h : BoxAt H b g l n) (k : Keeps S H H') (a : b ∉ S) (c : g ∉ S) (d : l ∉ S) : BoxAt H' b g l n := by
  obtain ⟨gs, ls, cur, e1, e2, e3, r⟩ := h
  exact ⟨gs, ls, cur, k _ _ e1 a, k _ _ e2 c, k _ _ e3 d, r⟩
theorem BoxAt.same {H H' : Hp} {b g l : Addr} {n : Int} (h : BoxAt H b g l n) (k : Same H H') : BoxAt H' b g l n := by
  obtain ⟨gs, ls, cur, e1, e2, e3, r⟩ := h
  exact ⟨gs, ls, cur, k _ _ e1, k _ _ e2, k _ _ e3, r⟩
theorem BoxAt.off {H : Hp} {b g l q : Addr} {n : Int} (h : BoxAt H b g l n) (hq : H q = none) : q ∉ [b, g] := by
  obtain ⟨gs, ls, cur, e1, e2, _⟩ := h
  intro c
  simp at c
  rcases c with rfl | rfl
  · rw [e1] at hq; cases hq
  · rw [e2] at hq; cases hq
end L2

set_option linter.all false
set_option maxRecDepth 100000
set_option maxHeartbeats 4000000
namespace L2
open PySem PySem.Spec PyProof.Rows
section
variable {X : Cx} {CX : CXT} {k : Nat} {g C : Addr} {fd : FuncData} {sp : Sp} {E : XK}
/-- len(o), o an instance whose class has its own __len__ -/
def rLenOwn (C : Addr) (sp : Sp) (E : XK) : List V → Hp → VK → Prop := fun xs H Q => ∃ a dx fs, xs = [V.ref a] ∧ H a = some (.ins C dx fs) ∧ sp [.ref a] H (fun v H' => ∃ n : Int, v = .int n ∧ 0 ≤ n ∧ n < 2 ^ 63 ∧ Q (.int n) H') E
theorem call_lenOwn (hm : Meth X.K C "__len__" g) (F : FnOk X.prog X.w X.K X.mg X.base CX k g fd ["self"] sp) (hr : Room (k + 1) X.A) (hb : Binds X.K fd ["self"] []) (hx : Passes CX X E) : CallR X (.builtin "len") (rLenOwn C sp E) := by
  intro pins s σ H xs us Q I r h
  obtain ⟨a, dx, fs, rfl, ha, q⟩ := h
  obtain ⟨u, rfl, ru⟩ := r.one
  cases (show u = Value.ref a from ru)
  obtain ⟨_, _, _, e, mA, ⟨od, es, ep, e2, _⟩, _⟩ := I.hok a _ ha
  have J : PySem.W.InstAt s.heap a (PySem.W.instObj C dx) C (some od) := ⟨e, rfl, rfl, e2⟩
  obtain ⟨m, hF⟩ := I.fr
  have r2 : Vals [V.ref a] [Value.ref a] := .cons (show RelV (.ref a) (.ref a) from rfl) .nil
  have key : codeAny (model X.prog X.w) X.A.in1 (.call (.ref g) ⟨[.ref a], []⟩) (fun r s' => match r with
    | .ok (.ret v) => EP X pins σ (fun v H' => ∃ n : Int, v = .int n ∧ 0 ≤ n ∧ n < 2 ^ 63 ∧ Q (.int n) H') v s'
    | .ok _ => False
    | .error e => X.xe e s') s := by
    refine codeAny_mono (F.run X.A.in1 X.stack s H ⟨[.ref a], []⟩ [.ref a] [.ref a] _ E hr.in1 I.env0.in1 (hb s [.ref a] I.kIn rfl) r2 q) fun r s' hq => ?_
    cases r with
    | error e => exact hx pins σ H s e s' I hq
    | ok fl =>
      cases fl with
      | ret u => exact I.after hq
      | next => exact False.elim hq
      | brk => exact False.elim hq
      | cont => exact False.elim hq
  refine PySem.W.len_K hF I.ok.mod.kin J hm.at_ hm.fn (wpAny_mono (wpAny_call key) (fun v s' hv => ?_) fun _ _ x => x)
  obtain ⟨z, H', I', rz, n, rfl, n0, n1, qz⟩ := hv
  obtain ⟨t, rfl⟩ := (show ∃ t, v = Value.int n t from rz)
  exact ⟨⟨n0, n1⟩, .int n, H', I'.tok _, ⟨_, rfl⟩, qz⟩
end
/-- a loop over a locked dict's keys, by an invariant -/
theorem for_keys {d : Addr} {o : Obj} {kvs : List (Key × V)} {g : TG} {tb : TS} {D : Ends} {σ : St} {H : Hp} (Pv : Nat → St → Hp → Prop) (h0 : Pv 0 σ H) (hl : ∀ i σ H, Pv i σ H → H d = some (.frz o (.dK kvs)))
    (hs : ∀ i k v σ H, kvs[i]? = some (k, v) → Pv i σ H → g (kV k) σ H fun σ2 H2 => tb { D with nx := Pv (i + 1), ct := Pv (i + 1), bk := D.nx } σ2 H2) (hd : ∀ σ H, Pv kvs.length σ H → D.nx σ H) :
    ∃ W : Nat → Nat → St → Hp → Prop, (∃ m, W 0 m σ H) ∧ ∀ i m σ H, W i m σ H → ((Itk d o kvs).stop i H ∧ D.nx σ H) ∨
      ((Itk d o kvs).go i H ∧ ∃ N : St → Hp → Prop, (∀ σ' H', N σ' H' → ∃ m', m' < m ∧ W (i + 1) m' σ' H') ∧ ∀ x H', (Itk d o kvs).yld i H x H' → g x σ H' fun σ2 H2 => tb { D with nx := N, ct := N, bk := D.nx } σ2 H2) := by
  refine ⟨fun i m σ H => m + i = kvs.length ∧ Pv i σ H, ⟨kvs.length, rfl, h0⟩, fun i m σ H ⟨hm, p⟩ => ?_⟩
  have q := hl i σ H p
  by_cases hlt : i < kvs.length
  · refine .inr ⟨⟨q, hlt⟩, Pv (i + 1), fun σ' H' p' => ⟨m - 1, by omega, by omega, p'⟩, fun x H' y => ?_⟩
    obtain ⟨rfl, k, v, hk, rfl⟩ := y
    exact hs i k v σ _ hk p
  · obtain rfl : i = kvs.length := by omega
    exact .inl ⟨⟨q, Nat.le_refl _⟩, hd σ H p⟩
end L2

set_option linter.all false
set_option maxRecDepth 100000
set_option maxHeartbeats 4000000
namespace L2
open PySem PySem.Spec PyProof.Rows
/-- what the top says of a class over ValueError without an own __init__ -/
structure MidC (K : PySem.W.Frag) (D : Addr) : Prop where
  ga : PySem.W.specialIn K (.ref D) "__getattribute__" = some (some (.builtin "type.__getattribute__"))
  rd : PySem.W.readsIn K D (.type "type") = true
  fi : PySem.W.findCls K (.ref D) (.type "type") "__init__" = some (.val (.builtin "ValueError.__init__"))
section
variable {X : Cx} {e : Expr} {es : List Expr} {ta : TA} {n : Str} {D : Addr} {p1 p2 pos : Pos}
/-- D.__init__(self, ..), D an own class over ValueError that has no __init__ of its own -/
theorem pe_midInit {pl : Sem Bool} (T : MidC X.K D) (hg : Gl X n) (hm : X.mg n = some (.ref D)) (ha : PA X (e :: es) ta)
    (hc : eval (.Call (.Attribute (.Name n p1) "__init__" p2) (e :: es) [] pos) X.env = (do
      let ov ← eval (.Name n p1) X.env
      standAt p2.atName
      let (g, frst) ← holding [ov] (getMethod ov "__init__" pl)
      callWith pos g frst (backTo pos (starEach (e :: es) X.env)) (backToKw pos (keywordEach [] X.env))) := by rfl)
    (hdb : (n == ("__debug__" : Str)) = false := by decide)
    (st1 : starEach (e :: es) X.env = (false, eval e X.env) :: starEach es X.env := by rfl) (st2 : (backTo pos (starEach es X.env)).any (·.1) = false := by rfl) :
    PE X (.Call (.Attribute (.Name n p1) "__init__" p2) (e :: es) [] pos) (tVeI X.K ta) := by
  refine ⟨fun pins s σ H Q I h => ?_⟩
  refine PySem.W.methodCall_KW (ld_glob I hg hm ?_ hdb) hc
  refine PySem.W.method_cls I.kIn T.ga (PySem.W.cls_value I.kIn T.rd T.fi (by decide +kernel) ?_)
  refine PyProof.Rows.callWith_method1 (id := "ValueError.__init__") (thn (ha.run pos pins _ σ H _ (I.tok _) h) fun us s1 ⟨vs, H1, I1, r1, a, C, ws, ev, hl, T2, ea, q⟩ => ?_) st1 st2
  subst ev
  cases r1 with
  | @cons _ u0 _ ur ra rw' =>
    obtain rfl : u0 = Value.ref a := ra
    have hlen : ur.length ≤ sizeLine := by
      rw [← Paired.length rw', sizeLine_eq]
      omega
    exact oinit_ok T2 I1 ea hlen fun s' J => ⟨.non, H1, J, rfl, q⟩
end
/-- two promises of one def: one that lets nothing out, one that may -/
theorem FnOk.orX {P : Program} {w : World} {K : PySem.W.Frag} {mg : Str → Option Value} {base : Heap} {CX : CXT} {k : Nat} {f : Addr} {fd : FuncData} {ps : List Str} {sp1 sp2 : Sp} (F1 : FnOk P w K mg base CX0 k f fd ps sp1) (F2 : FnOk P w K mg base CX k f fd ps sp2) :
    FnOk P w K mg base CX k f fd ps (fun vs H Q E => sp1 vs H Q E ∨ sp2 vs H Q E) := by
  constructor
  · intro vs H Q E h
    rcases h with h | h
    · exact F1.len _ _ _ _ h
    · exact F2.len _ _ _ _ h
  · intro A outer s H args us vs Q E hr he hb hv h
    rcases h with h | h
    · refine codeAny_mono (F1.run A outer s H args us vs Q E hr he hb hv h) fun r s' z => ?_
      cases r with
      | error e => exact False.elim z
      | ok fl =>
        cases fl with
        | ret u => exact z
        | next => exact z
        | brk => exact z
        | cont => exact z
    · exact F2.run A outer s H args us vs Q E hr he hb hv h
/-! ### a method whose errors are taken by the body around -/
def tMethAt (C : Addr) (m : Str) (sp : Sp) (E : St → XK) (ta : TE) (t : TA) : TE := fun σ H Q => ta σ H fun x H1 => ∃ a dx fs, x = .ref a ∧ H1 a = some (.ins C dx fs) ∧ fs.lookup m = none ∧ t σ H1 fun vs H2 => sp (x :: vs) H2 Q (E σ)
section
variable {X : Cx} {CX : CXT} {k : Nat} {f C : Addr} {fd : FuncData} {ps : List Str} {sp : Sp} {E : St → XK} {m : Str} {pos apos : Pos} {e o : Expr} {es : List Expr} {ta : TE} {t : TA}
theorem pe_methAt {pl : Sem Bool} (ho : PE X o ta) (c : Cls X.K C) (hm : Meth X.K C m f) (F : FnOk X.prog X.w X.K X.mg X.base CX k f fd ps sp) (hr : Room k X.A) (hb : Binds X.K fd ps []) (hx : ∀ σ, PassesAt CX X σ (E σ)) (ha : PA X (e :: es) t)
    (h1 : starEach (e :: es) X.env = (false, eval e X.env) :: starEach es X.env := by rfl) (h2 : (backTo pos (starEach es X.env)).any (·.1) = false := by rfl)
    (h3 : eval (.Call (.Attribute o m apos) (e :: es) [] pos) X.env = (do
      let v0 ← eval o X.env
      standAt apos.atName
      let (g, first) ← holding [v0] (getMethod v0 m pl)
      callWith pos g first (backTo pos (starEach (e :: es) X.env)) (backToKw pos (keywordEach [] X.env))) := by rfl) :
    PE X (.Call (.Attribute o m apos) (e :: es) [] pos) (tMethAt C m sp E ta t) := by
  constructor
  intro pins s σ H Q I h
  refine PySem.W.methodCall_KW (pl := pl) (thn (ho.run pins s σ H _ I h) fun u s1 ⟨x, H1, I1, rx, a, dx, fs, ex, ea, l, q⟩ => ?_) h3
  subst ex
  obtain rfl : u = Value.ref a := rx
  refine getmeth_ok I1 ea c hm l (PySem.W.callWith_K (h₀ := X.base) (first := [.ref a]) I.ok.mod.kin hm.kp (thn (ha.run pos pins s1 σ H1 _ I1 q) fun us s2 ⟨vs, H2, I2, r, q2⟩ => ⟨I2.kIn, ?_⟩) h1 h2)
  exact run_fnS (vs := .ref a :: vs) (us := .ref a :: us) F hr hb (hx σ) I2 (.cons rfl r) q2
end
/-! ### a tuple of numbers in an f-string -/
theorem reprs_int {prog : Program} {w : World} : ∀ {l : List Int} {its : List Value}, Vals (l.map V.int) its → (∀ y ∈ l, y.natAbs.log2 < 1920) → ReprAll prog w its (l.map fun i => Str.ofString (toString i))
  | [], _, r, _ => by
    cases r
    exact .nil
  | y :: l, _, r, h => by
    cases r with
    | cons r1 r2 =>
      obtain ⟨t, rfl⟩ := r1
      exact .cons (ReprIs.int t (h y List.mem_cons_self)) (reprs_int r2 fun z hz => h z (List.mem_cons_of_mem _ hz))
theorem piled_int : ∀ l : List Int, (∀ y ∈ l, y.natAbs.log2 < 1920) → piled (l.map fun i => Str.ofString (toString i)) ≤ 1923 * l.length
  | [], _ => Nat.zero_le _
  | y :: l, h => by
    have h1 := int_text_len_1921 (h y List.mem_cons_self)
    have h2 := piled_int l fun z hz => h z (List.mem_cons_of_mem _ hz)
    rw [List.map_cons, piled_cons, List.length_cons]
    omega
/-- {t}, t a tuple of numbers: some text -/
def tFmtI (K : PySem.W.Frag) (te : TE) : TE := fun σ H Q => te σ H fun x H1 => ∃ (a : Addr) (l : List Int), x = .ref a ∧ SqT K H1 a (l.map V.int) ∧ (∀ y ∈ l, y.natAbs.log2 < 1920) ∧ l.length ≤ 20 ∧ ∀ m : Str, m.length ≤ 40000 → Q (.str m) H1
theorem pe_fmtI {X : Cx} {e : Expr} {te : TE} {pos : Pos} {k : Nat} (hr : Room k X.A) (he : PE X e te) : PE X (.FormattedValue e (-1) none pos) (tFmtI X.K te) := by
  refine ⟨fun pins s σ H Q I h => ?_⟩
  refine wpAny_FormattedValue_plain (thn (he.run pins s σ H _ I h) fun v s1 got => ?_)
  obtain ⟨x, H1, I1, r1, a, l, rfl, ht, hc, hz, q⟩ := got
  cases r1
  obtain ⟨its, rv, ⟨ox, ho, hcl, nx, hd⟩, _⟩ := I1.tuple ht
  have hp := piled_int l hc
  have htx := fmt_text (l.map fun i => Str.ofString (toString i))
  have hu := hr.units
  have hb : 40000 ≤ sizeLine := by rw [sizeLine_eq]; decide
  exact fmt_tuple (by omega) ho hcl hd (reprs_int rv hc) (by omega) fun m u tk hm => ⟨.str m, H1, I1.tok _, ⟨u, rfl⟩, q m (by omega)⟩
end L2

set_option linter.all false
set_option maxRecDepth 100000
set_option maxHeartbeats 4000000
/-! several clauses `except C as n` -/
namespace L2
open PySem PySem.Spec PyProof.Rows
/-- the ends of a suite whose name, in slot i, is let go of -/
def unb (i : Nat) (D : Ends) : Ends where
  nx := fun σ' H' => D.nx (σ'.set i none) H'
  rt := D.rt
  bk := fun σ' H' => D.bk (σ'.set i none) H'
  ct := fun σ' H' => D.ct (σ'.set i none) H'
abbrev Clause := Value × Nat × (Addr → Value → Option Addr → TS)
def wNamed (K : PySem.W.Frag) (Wout : WX) (D : Ends) : List Clause → WX
  | [] => Wout
  | c :: r => fun cls d σ H => ∃ b : Bool, PySem.W.exmOne K cls c.1 = some b ∧ (b = true → ∀ z, H z = none → c.2.2 z cls d (unb c.2.1 D) (σ.set c.2.1 (some (.ref z))) H) ∧ (b = false → wNamed K Wout D r cls d σ H)
inductive HdN (X : Cx) : List ExceptHandler → List Clause → Prop
  | nil : HdN X [] []
  | cons {x n : Str} {c : Value} {i : Nat} {ts : Addr → Value → Option Addr → TS} {q0 : Stmt} {qs : List Stmt} {p1 p2 : Pos} {hds : List ExceptHandler} {l : List Clause} (hc : Names X x c) (hi : X.N[i]? = some n) (hk : X.env.kindOf n = some .local)
      (hq : ∀ (z : Addr) (oz : Obj) (cls : Value) (d : Option Addr) (pn : List (Addr × Obj)), Zc cls d oz → (∃ fv, oz.data = .fields fv) → PSs (X.suite z ((z, oz) :: pn)) (q0 :: qs) (ts z cls d)) (rest : HdN X hds l) :
      HdN X (.ExceptHandler (some (.Name x p1)) (some n) (q0 :: qs) p2 :: hds) ((c, i, ts) :: l)
/-- an exception at a on its way through the body of X, the state around as told -/
structure Fly (X : Cx) (pins : List (Addr × Obj)) (a : Addr) (cls : Value) (d : Option Addr) (σ : St) (H : Hp) (B : Heap) (sI s3 : Shared) : Prop where
  inv : Inv X pins σ H sI
  nb : ∀ b o, sI.heap.get? b = some o → b ∉ frs X.stack → B.get? b = some o
  up : sI.heap.UpToSlots s3.heap
  fly : HandSPX.FlyingZ B (X.env :: X.outer) a (Zc cls d) s3.heap
  na : H a = none
  os : s3.os = sI.os
  ag : AllBare s3.gens
section
variable {X : Cx} {pins : List (Addr × Obj)} {a : Addr} {cls : Value} {d : Option Addr} {σ : St} {H : Hp} {B : Heap} {sI s3 : Shared}
theorem Fly.stands (F : Fly X pins a cls d σ H B sI s3) : Inv X pins σ H s3 := F.inv.landed F.nb F.fly.1 F.up F.os F.ag
theorem Fly.held (F : Fly X pins a cls d σ H B sI s3) (hf : X.env.frame = some X.env.locals) :
    ∃ (oz : Obj) (fv : Array Value), s3.heap.get? a = some oz ∧ Zc cls d oz ∧ oz.data = .fields fv ∧ Inv (X.suite a ((a, oz) :: (X.pn ++ pins))) [] σ H s3 := by
  obtain ⟨oz, fv, e, z, hd⟩ := F.fly.there
  have off : a ∉ frs (X.env :: X.outer) := by
    intro m
    obtain ⟨_, o2, e2, nf⟩ := F.fly.2.2.1.mem m
    obtain rfl := Option.some.inj (e.symm.trans e2)
    exact nf _ hd
  refine ⟨oz, fv, e, z, hd, F.stands.suite e hd F.na (fun q => off ?_) (fun q => off ?_)⟩
  · rw [q]
    exact List.mem_filterMap.mpr ⟨X.env, List.mem_cons_self, hf⟩
  · obtain ⟨v, hv, hv2⟩ := List.mem_filterMap.mp q
    exact List.mem_filterMap.mpr ⟨v, List.mem_cons_of_mem _ hv, hv2⟩
/-- the clauses, one after the other -/
theorem Fly.clauses {l : List Clause} {hds : List ExceptHandler} {Wout : WX} {D : Ends} (hs : X.stack = X.env :: X.outer) (hf : X.env.frame = some X.env.locals) (hN : X.N.Nodup) (tk : Takes X Wout) (h : HdN X hds l) (F : Fly X pins a cls d σ H B sI s3)
    (w : wNamed X.K Wout D l cls d σ H) : wpAny (model X.prog X.w) X.A (handleBy (.ref a) X.env hds) (SP X pins D) X.xe s3 := by
  induction h with
  | nil =>
    refine wpAny_handleBy_nil ?_
    obtain ⟨_, _, _, oz, fv, tb0, oT, tn, e, z, hd, h1, hr⟩ := id F.fly
    unfold PySem.passOn
    refine wpAny_bind (wpAny_field e hd h1 ?_)
    rw [if_neg (by simp : ¬ ((Value.ref tb0 == Value.none) = true))]
    have out : wpAny (model X.prog X.w) X.A (setFlight (.ref a) X.env.frame) (fun _ s4 => wpAny (model X.prog X.w) X.A (throw (.ref a) : Sem Flow) (SP X pins D) X.xe s4) X.xe s3 := by
      rw [hf]
      refine HandSPX.setFlight_upZ F.fly fun h4 held up4 => wpAny_throw (tk _ _ ?_)
      refine ⟨a, B, sI, pins, σ, H, cls, d, rfl, F.inv, F.nb, F.up.trans up4, ?_, F.na, F.os, F.ag, w⟩
      rw [hs]
      exact .inr (.inr held)
    first
      | exact wpAny_bind (wpAny_pure (wpAny_bind out))
      | exact wpAny_bind out
  | @cons x n c i ts q0 qs p1 p2 hds l hc hi hk hq rest ih =>
    obtain ⟨b, hb, yes, no⟩ := w
    obtain ⟨oz, fv, e, z, hd, S3⟩ := F.held hf
    refine wpAny_handleBy_cons (codeAny_handlers_test ?_) (fun w => by cases w)
    have LC : PySem.W.Looks (model X.prog X.w) s3.heap (typeOf (.ref a)) cls := fun _ _ _ _ k q => wpAny_typeOf_ref (k _ _ e) (by rw [z.1]; exact q)
    have LM := PySem.W.exm_one (M := model X.prog X.w) F.stands.kIn LC hb
    have named : ∀ {Q E : Value → Shared → Prop}, Q c s3 → wpAny (model X.prog X.w) (X.A.mark (some (.ref a))) (eval (.Name x p1) X.env) Q E s3 := by
      intro Q E q
      obtain ⟨hg, hdb, hm | ⟨hm, hv, hn⟩⟩ := hc
      · exact ld_glob S3 hg hm q hdb
      · exact ld_blt S3 hg hm hv q hn hdb
    refine named (LM.here ?_)
    cases b with
    | false => exact ih (no rfl)
    | true =>
      refine codeAny_handlers_suite_as (HandSPX.lands_againZ F.fly fun h4 fl4 up4 => ?_)
      have F4 : Fly X pins a cls d σ H B sI { s3 with heap := h4 } := ⟨F.inv, F.nb, F.up.trans up4, fl4, F.na, F.os, F.ag⟩
      obtain ⟨oy, fy, ey, zy, dy, S4⟩ := F4.held hf
      refine store_ok (X := X.suite a ((a, oy) :: (X.pn ++ pins))) (v := .ref a) S4 hN hi (.inl hk) rfl (fun s5 S5 => ?_) (.inr hk)
      refine wpAny_mono ((hq a oy cls d (X.pn ++ pins) zy ⟨_, dy⟩).run [] s5 _ H _ S5 (yes rfl a F.na)) (fun f s6 hsp => ?_) (fun _ _ q => q.elim)
      have ok := F.inv.ok
      have fin : ∀ {τ : St} {H6 : Hp} {P : Shared → Prop}, Inv (X.suite a ((a, oy) :: (X.pn ++ pins))) [] τ H6 s6 → (∀ s7, Inv X pins (τ.set i none) H6 s7 → P s7) →
          wpAny (model X.prog X.w) X.A (do bindName X.env n .none; unbindBehindTheSuite X.env n p2) (fun _ s7 => P s7) X.xe s6 := fun I6 q => gone_ok (I6.unsuite ok) hN hi hk q
      cases f with
      | next =>
        obtain ⟨τ, H6, I6, q6⟩ := hsp
        exact fin I6 fun _ I7 => ⟨_, _, I7, q6⟩
      | brk =>
        obtain ⟨τ, H6, I6, q6⟩ := hsp
        exact fin I6 fun _ I7 => ⟨_, _, I7, q6⟩
      | cont =>
        obtain ⟨τ, H6, I6, q6⟩ := hsp
        exact fin I6 fun _ I7 => ⟨_, _, I7, q6⟩
      | ret u =>
        obtain ⟨v, τ, H6, I6, r6, q6⟩ := hsp
        exact fin I6 fun _ I7 => ⟨_, _, _, I7, r6, q6⟩
theorem ps_try_named {body : List Stmt} {h0 : ExceptHandler} {hds : List ExceptHandler} {l : List Clause} {pos : Pos} {tb : WX → TS} {Wout : WX} (hs : X.stack = X.env :: X.outer) (hf : X.env.frame = some X.env.locals) (hN : X.N.Nodup) (tk : Takes X Wout)
    (hb : ∀ (W : WX) (qs : List (Addr × Obj)) (xe : Value → Shared → Prop), Takes (X.tr qs xe) W → PassesOwn (model X.prog X.w) X.A X.env xe → PSs (X.tr qs xe) body (tb W))
    (hh : HdN X (h0 :: hds) l) : PS X (.Try body (h0 :: hds) [] [] pos) (fun D σ H => tb (wNamed X.K Wout D l) D σ H) := by
  constructor
  intro pins s σ H D I h
  have ok := I.ok
  have hfr : X.A.frames = some (X.env :: X.outer) := ok.frames.trans (by rw [hs])
  refine wpAny_Try_except (wpAny_mono ((hb (wNamed X.K Wout D l) (X.pn ++ pins) (fun e t1 => wpAny (model X.prog X.w) X.A (noteFrame e X.env) (fun _ t2 => wpAny (model X.prog X.w) X.A (setFlight e none)
    (fun _ t3 => wpAny (model X.prog X.w) X.A (handleBy e X.env (h0 :: hds)) (SP X pins D) X.xe t3) X.xe t2) X.xe t1) (fun u s' hx => ?_) PassesOwn.looking).run [] s σ H D (I.toTry _) h) (fun f s1 hsp => ?_) (fun _ _ q => q))
  · obtain ⟨a, B, sI, pn', τ, H', cls, d, rfl, J, nb, up, sky, na, os, ag, w⟩ := hx
    have sky2 : Sky B (X.env :: X.outer) a (Zc cls d) X.env.locals s'.heap := hs ▸ sky
    refine Sky.land (a := a) Zc.steady hfr hf sky2 fun h3 fl up3 => ?_
    exact Fly.clauses (s3 := { s' with heap := h3 }) hs hf hN tk hh ⟨J.ofTry ok, nb, up.trans up3, fl, na, os, ag⟩ w
  · cases f with
    | next =>
      obtain ⟨τ, H', J, q⟩ := hsp
      exact wpAny_execs_nil ⟨τ, H', J.ofTry ok, q⟩
    | brk =>
      obtain ⟨τ, H', J, q⟩ := hsp
      exact ⟨τ, H', J.ofTry ok, q⟩
    | cont =>
      obtain ⟨τ, H', J, q⟩ := hsp
      exact ⟨τ, H', J.ofTry ok, q⟩
    | ret u =>
      obtain ⟨v, τ, H', J, r, q⟩ := hsp
      exact ⟨v, τ, H', J.ofTry ok, r, q⟩
end
/-- isinstance(e, c), e the caught exception, which has its dict -/
def rIsD (K : PySem.W.Frag) (z : Addr) (cls : Value) (d : Option Addr) : List V → Hp → VK → Prop := fun xs H Q => ∃ (D dd : Addr) (fs : List (Str × V)) (c : V) (cv : Value) (b : Bool),
  cls = .ref D ∧ d = some dd ∧ H dd = some (.xd fs) ∧ ExcC K D ∧ xs = [.ref z, c] ∧ (∀ u, RelV c u → u = cv) ∧ PySem.W.kitOne K (.ref D) cv = some b ∧ Q (.bl b) H
theorem call_isD {X : Cx} {z : Addr} {cls : Value} {d : Option Addr} {oz : Obj} {pn : List (Addr × Obj)} (hz : Zc cls d oz) (hf : ∃ fv, oz.data = .fields fv) : CallR (X.suite z ((z, oz) :: pn)) (.builtin "isinstance") (rIsD X.K z cls d) := by
  intro pins s σ H xs us Q I r h
  obtain ⟨D, dd, fs, c, cv, b, rfl, rfl, ed, T, rfl, hcv, e, q⟩ := h
  obtain ⟨u1, u2, rfl, r1, r2⟩ : ∃ u1 u2, us = [u1, u2] ∧ RelV (.ref z) u1 ∧ RelV c u2 := by
    cases r with
    | cons r1 r =>
      cases r with
      | cons r2 r =>
        cases r
        exact ⟨_, _, rfl, r1, r2⟩
  obtain rfl : u1 = Value.ref z := r1
  obtain rfl := hcv _ r2
  obtain ⟨at1, _⟩ := I.pin (z, oz) (List.mem_append_left _ List.mem_cons_self)
  obtain ⟨fv, hd⟩ := hf
  have hx : ObjOk X.prog X.w H s.heap dd (.xd fs) := I.hok dd _ ed
  obtain ⟨mA, hns, hr⟩ := hx
  obtain ⟨od, ho, _⟩ := lookIn_ns hns
  have J : PySem.W.InstAt s.heap z oz D (some od) := ⟨at1, hz.1, by unfold PySem.W.notCls; rw [hd] <;> rfl, by rw [hz.2]; exact ho⟩
  have hcl : (PySem.W.clsIn X.K D).isSome = true := by
    obtain ⟨cd, hc, _⟩ := PySem.W.any_some T.hd
    rw [hc]
    rfl
  exact PySem.W.kia_one (PySem.W.kitx_exc hcl T.hg T.hk T.hs T.ha T.hn T.ht T.hm) I.kIn J e (fun w => nomatch w) fun tk => ⟨.bl b, H, I.kept (t' := tk) fun _ _ w => w, rfl, q⟩
end L2

set_option linter.all false
set_option maxRecDepth 100000
namespace My
open PySem
/-- small letters, names -/
def letter (c : Nat) : Bool := decide (97 ≤ c) && decide (c ≤ 122)
def nameB (s : Str) : Bool := decide (1 ≤ s.cps.size) && decide (s.cps.size ≤ 8) && s.cps.toList.all letter
/-- the pigeonhole -/
theorem len_le {α : Type} [DecidableEq α] : ∀ {l m : List α}, l.Nodup → (∀ x, x ∈ l → x ∈ m) → l.length ≤ m.length
  | [], m, _, _ => Nat.zero_le _
  | a :: l, m, nd, h => by
    rw [List.nodup_cons] at nd
    have h2 : ∀ x, x ∈ l → x ∈ m.erase a := fun x hx => (List.mem_erase_of_ne (fun (e : x = a) => nd.1 (e ▸ hx))).mpr (h x (List.mem_cons_of_mem _ hx))
    have := len_le nd.2 h2
    have hm := h a List.mem_cons_self
    have := List.length_erase_of_mem hm
    have := List.length_pos_of_mem hm
    rw [List.length_cons]
    omega
def spares : List Str := ["q", "qa", "qb", "qc", "qd", "qe", "qf", "qg", "qh", "qi", "qj", "qk", "ql", "qm", "qn", "qo"]
theorem spares_nodup : spares.Nodup := by decide +kernel
theorem spares_name : ∀ s, s ∈ spares → nameB s = true := by decide +kernel
/-- how far the search for a spare name has come: i spares were looked at -/
def Seek (found : List Str) (i : Nat) (x : Str) : Prop := nameB x = true ∧ (x ∉ found ∨ ((∀ j, j + 1 < i → ∀ s, spares[j]? = some s → s ∈ found) ∧ (∀ s, 0 < i → spares[i - 1]? = some s → x = s)))
theorem Seek.first {found : List Str} {x : Str} (h : nameB x = true) : Seek found 0 x := ⟨h, .inr ⟨fun j h => absurd h (by omega), fun s h => absurd h (by omega)⟩⟩
theorem Seek.keep {found : List Str} {i : Nat} {x : Str} (h : Seek found i x) (n : x ∉ found) : Seek found (i + 1) x := ⟨h.1, .inl n⟩
theorem Seek.next {found : List Str} {i : Nat} {x s : Str} (h : Seek found i x) (n : x ∈ found) (hs : spares[i]? = some s) : Seek found (i + 1) s := by
  refine ⟨spares_name s (List.mem_of_getElem? hs), .inr ⟨fun j hj t ht => ?_, fun t _ ht => ?_⟩⟩
  · rcases h.2 with h2 | ⟨h2, h3⟩
    · exact absurd n h2
    · by_cases e : j + 1 < i
      · exact h2 j e t ht
      · obtain rfl : i = j + 1 := by omega
        have := h3 t (by omega) (by simpa using ht)
        exact this ▸ n
  · have : i + 1 - 1 = i := by omega
    rw [this, hs] at ht
    exact Option.some.inj ht
theorem Seek.done {found : List Str} {x : Str} (h : Seek found 16 x) (hl : found.length < 15) : nameB x = true ∧ x ∉ found := by
  refine ⟨h.1, ?_⟩
  rcases h.2 with h2 | ⟨h2, _⟩
  · exact h2
  · exfalso
    have nd : (spares.take 15).Nodup := by decide +kernel
    have hle : (spares.take 15).length ≤ found.length := len_le nd fun s hs => by
      obtain ⟨j, hj⟩ := List.getElem?_of_mem hs
      have hj2 : j < 15 := by
        have := (List.getElem?_eq_some_iff.mp hj).1
        have e : (spares.take 15).length = 15 := by decide +kernel
        omega
      rw [List.getElem?_take, if_pos hj2] at hj
      exact h2 j (by omega) s hj
    have e : (spares.take 15).length = 15 := by decide +kernel
    omega
/-- pairs of words: near, far, laden -/
abbrev Pr := Str × Str × Bool
structure PairsOk (ps : List Pr) : Prop where
  many : ps.length ≤ 6
  nm : ∀ p, p ∈ ps → nameB p.1 = true ∧ nameB p.2.1 = true
  nears : (ps.map (·.1)).Nodup
  fars : (ps.map (·.2.1)).Nodup
theorem PairsOk.take {ps : List Pr} (h : PairsOk ps) (n : Nat) : PairsOk (ps.take n) := by
  refine ⟨by have := h.many; rw [List.length_take]; omega, fun p hp => h.nm p (List.mem_of_mem_take hp), ?_, ?_⟩
  · rw [List.map_take]; exact h.nears.sublist (List.take_sublist _ _)
  · rw [List.map_take]; exact h.fars.sublist (List.take_sublist _ _)
theorem rot_nodup {α : Type} {l : List α} (h : l.Nodup) : (l.drop 1 ++ l.take 1).Nodup := by
  have e : (l.drop 1 ++ l.take 1).Perm (l.take 1 ++ l.drop 1) := List.perm_append_comm
  rw [List.take_append_drop] at e
  exact e.nodup_iff.mpr h
theorem rot_len {α : Type} (l : List α) : (l.drop 1 ++ l.take 1).length = l.length := by
  rw [List.length_append, List.length_drop, List.length_take]
  omega
end My

set_option linter.all false
set_option maxRecDepth 100000
set_option maxHeartbeats 4000000
/-! a method called with values by place and by name -/
namespace L2
open PySem PySem.Spec PyProof.Rows
structure KwN (K : PySem.W.Frag) (fd : FuncData) (ps : List Str) (n : Nat) (ks : List Str) : Prop where
  to : ∀ (s : Shared) (us ws : List Value), K.In s.heap → us.length = n → ws.length = ks.length → BindsTo s fd ⟨us, ks.zip ws⟩ (ps.zip (us ++ ws))
  len : ps.length = n + ks.length
theorem kwn_mk {K : PySem.W.Frag} {x qual : Str} {st : Stmt} {f : Addr} {fd : FuncData} {ps ks : List Str} {n : Nat} (F : Fun K x qual st f fd) (hl : ps.length = n + ks.length)
    (h : ∀ (kV doc pm : Value) (an : Option Addr) (cdv ct : Value) (us ws : List Value), us.length = n → ws.length = ks.length → bindArgs (PySem.W.fnOf x qual (defArgs st) (defBody st) (defScope st) .none kV doc pm an cdv ct) ⟨us, ks.zip ws⟩ = pure (ps.zip (us ++ ws))) : KwN K fd ps n ks := by
  obtain ⟨_, _, kV, doc, pm, an, cdv, ct, _, rfl, _, _⟩ := F.ex
  exact ⟨fun s us ws _ hu hw => .of_eq (h kV doc pm an cdv ct us ws hu hw), hl⟩
section
variable {X : Cx} {CX : CXT} {k n : Nat} {f C : Addr} {fd : FuncData} {ps ks : List Str} {sp : Sp} {m : Str} {pos apos : Pos} {o e : Expr} {es : List Expr} {kws : List Keyword} {ta : TE} {t tk : TA}
theorem run_fnN2 {E : XK} {pins : List (Addr × Obj)} {σ : St} {H : Hp} {s : Shared} {Q : VK} {us ws : List Value} {vs zs : List V} (F : FnOk X.prog X.w X.K X.mg X.base CX k f fd ps sp) (hr : Room k X.A) (hb : KwN X.K fd ps n ks) (hx : PassesAt CX X σ E)
    (I : Inv X pins σ H s) (r : Vals vs us) (rz : Vals zs ws) (hn : vs.length = n) (h : sp (vs ++ zs) H Q E) : wpAny (model X.prog X.w) X.A (call (.ref f) us (ks.zip ws)) (EP X pins σ Q) X.xe s := by
  have r2 := r.append rz
  have hl : (vs ++ zs).length = ps.length := F.len _ _ _ _ h
  have l1 : us.length = n := by rw [← r.length]; exact hn
  have l2 : ws.length = ks.length := by
    have := hb.len
    rw [← rz.length]
    rw [List.length_append] at hl
    omega
  refine wpAny_call (codeAny_mono (F.run X.A X.stack s H ⟨us, ks.zip ws⟩ (us ++ ws) (vs ++ zs) Q E hr I.env0 (hb.to s us ws I.kIn l1 l2) r2 h) fun r s' hq => ?_)
  cases r with
  | error e => exact hx pins H s e s' I hq
  | ok fl =>
    cases fl with
    | ret u => exact I.after hq
    | next => exact False.elim hq
    | brk => exact False.elim hq
    | cont => exact False.elim hq
def tMethNAt (C : Addr) (m : Str) (n : Nat) (sp : Sp) (E : St → XK) (ta : TE) (t tk : TA) : TE := fun σ H Q => ta σ H fun x H1 => ∃ a dx fs, x = .ref a ∧ H1 a = some (.ins C dx fs) ∧ fs.lookup m = none ∧
  t σ H1 fun vs H2 => tk σ H2 fun zs H3 => vs.length + 1 = n ∧ sp (x :: (vs ++ zs)) H3 Q (E σ)
theorem pe_methNAt {E : St → XK} {pl : Sem Bool} (ho : PE X o ta) (c : Cls X.K C) (hm : Meth X.K C m f) (F : FnOk X.prog X.w X.K X.mg X.base CX k f fd ps sp) (hr : Room k X.A) (hb : KwN X.K fd ps n ks) (hx : ∀ σ, PassesAt CX X σ (E σ)) (ha : PA X (e :: es) t) (hkw : PK X kws tk)
    (hall : (backToKw pos (keywordEach kws X.env)).all (·.1.isSome) = true := by rfl) (hks : (backToKw pos (keywordEach kws X.env)).filterMap (·.1) = ks := by rfl)
    (h1 : starEach (e :: es) X.env = (false, eval e X.env) :: starEach es X.env := by rfl)
    (hpl : ((backTo pos (starEach (e :: es) X.env)).any (·.1) || (backToKw pos (keywordEach kws X.env)).any (·.1.isNone)) = false := by rfl)
    (h3 : eval (.Call (.Attribute o m apos) (e :: es) kws pos) X.env = (do
      let v0 ← eval o X.env
      standAt apos.atName
      let (g, first) ← holding [v0] (getMethod v0 m pl)
      callWith pos g first (backTo pos (starEach (e :: es) X.env)) (backToKw pos (keywordEach kws X.env))) := by rfl) :
    PE X (.Call (.Attribute o m apos) (e :: es) kws pos) (tMethNAt C m n sp E ta t tk) := by
  constructor
  intro pins s σ H Q I h
  refine PySem.W.methodCall_KW (pl := pl) (thn (ho.run pins s σ H _ I h) fun u s1 ⟨x, H1, I1, rx, a, dx, fs, ex, ea, l, q⟩ => ?_) h3
  subst ex
  obtain rfl : u = Value.ref a := rx
  refine getmeth_ok I1 ea c hm l (PySem.W.callWith_KW (h₀ := X.base) (first := [.ref a]) I.ok.mod.kin hm.kp hall (thn (ha.run pos pins s1 σ H1 _ I1 q) fun us s2 ⟨vs, H2, I2, r, q2⟩ => ?_) hpl h1)
  refine thn (hkw.run pos pins s2 σ H2 _ I2 q2) fun ws s3 ⟨zs, H3, I3, rz, hn, q3⟩ => ⟨I3.kIn, ?_⟩
  rw [hks]
  exact run_fnN2 (vs := .ref a :: vs) (us := .ref a :: us) F hr hb (hx σ) I3 (.cons rfl r) rz hn q3
def tMethN (C : Addr) (m : Str) (n : Nat) (sp : Sp) (E : XK) (ta : TE) (t tk : TA) : TE := tMethNAt C m n sp (fun _ => E) ta t tk
theorem pe_methN {E : XK} {pl : Sem Bool} (ho : PE X o ta) (c : Cls X.K C) (hm : Meth X.K C m f) (F : FnOk X.prog X.w X.K X.mg X.base CX k f fd ps sp) (hr : Room k X.A) (hb : KwN X.K fd ps n ks) (hx : Passes CX X E) (ha : PA X (e :: es) t) (hkw : PK X kws tk)
    (hall : (backToKw pos (keywordEach kws X.env)).all (·.1.isSome) = true := by rfl) (hks : (backToKw pos (keywordEach kws X.env)).filterMap (·.1) = ks := by rfl)
    (h1 : starEach (e :: es) X.env = (false, eval e X.env) :: starEach es X.env := by rfl)
    (hpl : ((backTo pos (starEach (e :: es) X.env)).any (·.1) || (backToKw pos (keywordEach kws X.env)).any (·.1.isNone)) = false := by rfl)
    (h3 : eval (.Call (.Attribute o m apos) (e :: es) kws pos) X.env = (do
      let v0 ← eval o X.env
      standAt apos.atName
      let (g, first) ← holding [v0] (getMethod v0 m pl)
      callWith pos g first (backTo pos (starEach (e :: es) X.env)) (backToKw pos (keywordEach kws X.env))) := by rfl) :
    PE X (.Call (.Attribute o m apos) (e :: es) kws pos) (tMethN C m n sp E ta t tk) :=
  pe_methNAt (pl := pl) ho c hm F hr hb (fun σ pins H s e s' I q => hx pins σ H s e s' I q) ha hkw hall hks h1 hpl h3
end
end L2

set_option Elab.async false
set_option linter.all false
set_option maxRecDepth 100000
set_option maxHeartbeats 4000000
namespace Lw
open PySem L2
local macro_rules | `(tactic| walk_at "hp") => `(tactic| (repeat (first | exact upd_same | assumption | (refine (upd_ne (by first | assumption | exact Ne.symm (by assumption) | exact ne_of_none (by assumption) (by assumption) | exact Ne.symm (ne_of_none (by assumption) (by assumption)))).trans ?_))))
local macro_rules | `(tactic| walk_at "r1") => `(tactic| (first
  | (refine ⟨_, rfl, ?_⟩) | (refine ⟨_, _, rfl, rfl, ?_⟩) | (refine ⟨_, _, _, _, rfl, rfl, SqL.of (by walk_at "hp"), rfl, ?_⟩) | (refine ⟨_, _, _, _, rfl, rfl, (by walk_at "hp"), rfl, ?_⟩) | (refine ⟨rfl, ?_⟩)
  | (refine ⟨_, .inl ⟨_, SqL.of (by walk_at "hp"), rfl⟩, ?_⟩) | (refine ⟨_, _, rfl, .inl (SqL.of (by walk_at "hp")), ?_⟩) | (refine ⟨.inl ⟨rfl, _, SqL.of (by walk_at "hp")⟩, ?_⟩)
  | (refine ⟨_, _, _, _, _, rfl, (by walk_at "hp"), (by assumption), (by assumption), (by assumption), ?_⟩) | (refine ⟨_, _, _, _, rfl, (by walk_at "hp"), (by assumption), (by assumption), (by first | (show 0 < 1000; decide) | (show 1 < 1000; decide) | (show 2 < 1000; decide) | (show 3 < 1000; decide) | (show 4 < 1000; decide)), ?_⟩)
  | (refine ⟨(by show (0 : Int) < _; first | decide | omega), ?_⟩) | (refine ⟨⟨by assumption, by assumption⟩, ?_⟩) | (refine ⟨.inl ⟨by decide, by decide⟩, ?_⟩) | (refine ⟨.inr ⟨by decide, by decide⟩, ?_⟩)))
local macro_rules | `(tactic| walk_at "rd") => `(tactic| (repeat walk_at "r1"))
def top (i : Nat) : Stmt := PySem.Challenge.pw_pactford_k01_words_cross.main.body.getD i (.Pass ⟨0, 0, 0, 0⟩)
abbrev s_NoWord_init : Stmt := inClass (top 3) 0
theorem sc_NoWord_init : FnScope ["self", "word"] ["self", "word"] (defScope s_NoWord_init) := ⟨rfl, rfl, rfl, by decide +kernel, rfl, by decide +kernel, by decide +kernel⟩
abbrev s_is_whole : Stmt := top 8
theorem sc_is_whole : FnScope ["thing"] ["thing"] (defScope s_is_whole) := ⟨rfl, rfl, rfl, by decide +kernel, rfl, by decide +kernel, by decide +kernel⟩
abbrev s_is_side : Stmt := top 9
theorem sc_is_side : FnScope ["thing"] ["thing"] (defScope s_is_side) := ⟨rfl, rfl, rfl, by decide +kernel, rfl, by decide +kernel, by decide +kernel⟩
abbrev s_is_name : Stmt := top 10
theorem sc_is_name : FnScope ["thing", "sign"] ["thing"] (defScope s_is_name) := ⟨rfl, rfl, rfl, by decide +kernel, rfl, by decide +kernel, by decide +kernel⟩
abbrev s_Pacts_init : Stmt := inClass (top 17) 0
theorem sc_Pacts_init : FnScope ["self", "pairs", "helpers", "pair", "pact"] ["self", "pairs", "helpers"] (defScope s_Pacts_init) := ⟨rfl, rfl, rfl, by decide +kernel, rfl, by decide +kernel, by decide +kernel⟩
abbrev s_Pacts_pairs : Stmt := inClass (top 17) 1
theorem sc_Pacts_pairs : FnScope ["self"] ["self"] (defScope s_Pacts_pairs) := ⟨rfl, rfl, rfl, by decide +kernel, rfl, by decide +kernel, by decide +kernel⟩
abbrev s_Pacts_laden : Stmt := inClass (top 17) 4
theorem sc_Pacts_laden : FnScope ["self", "word", "side"] ["self", "word", "side"] (defScope s_Pacts_laden) := ⟨rfl, rfl, rfl, by decide +kernel, rfl, by decide +kernel, by decide +kernel⟩
abbrev s_Pacts_over : Stmt := inClass (top 17) 5
theorem sc_Pacts_over : FnScope ["self", "word", "side"] ["self", "word", "side"] (defScope s_Pacts_over) := ⟨rfl, rfl, rfl, by decide +kernel, rfl, by decide +kernel, by decide +kernel⟩
abbrev s_Pacts_p_pair : Stmt := inClass (top 17) 6
theorem sc_Pacts_p_pair : FnScope ["self", "word", "side", "pair"] ["self", "word", "side"] (defScope s_Pacts_p_pair) := ⟨rfl, rfl, rfl, by decide +kernel, rfl, by decide +kernel, by decide +kernel⟩
abbrev s_Pacts_len : Stmt := inClass (top 17) 8
theorem sc_Pacts_len : FnScope ["self"] ["self"] (defScope s_Pacts_len) := ⟨rfl, rfl, rfl, by decide +kernel, rfl, by decide +kernel, by decide +kernel⟩
abbrev s_p_is_pair : Stmt := top 18
theorem sc_p_is_pair : FnScope ["pair", "near", "far", "laden"] ["pair"] (defScope s_p_is_pair) := ⟨rfl, rfl, rfl, by decide +kernel, rfl, by decide +kernel, by decide +kernel⟩
abbrev s_p_fits_pairs : Stmt := top 19
theorem sc_p_fits_pairs : FnScope ["pair", "ahead", "nears", "fars", "one"] ["pair", "ahead"] (defScope s_p_fits_pairs) := ⟨rfl, rfl, rfl, by decide +kernel, rfl, by decide +kernel, by decide +kernel⟩
abbrev s_box : Stmt := top 27
theorem sc_box : FnScope ["_law_script", "_law_great", "_law_cell"] ["_law_script"] (defScope s_box) := ⟨rfl, rfl, rfl, by decide +kernel, rfl, by decide +kernel, by decide +kernel⟩
abbrev s_mixed : Stmt := top 28
theorem sc_mixed : FnScope ["_law_cell", "_law_k", "_law_whole"] ["_law_cell", "_law_k"] (defScope s_mixed) := ⟨rfl, rfl, rfl, by decide +kernel, rfl, by decide +kernel, by decide +kernel⟩
abbrev s_take : Stmt := top 29
theorem sc_take : FnScope ["_law_box_here", "_law_size", "_law_found", "_law_cell", "_law_reach"] ["_law_box_here", "_law_size"] (defScope s_take) := ⟨rfl, rfl, rfl, by decide +kernel, rfl, by decide +kernel, by decide +kernel⟩
abbrev s_name : Stmt := top 30
theorem sc_name : FnScope ["_law_box_here", "_law_many", "_law_k"] ["_law_box_here"] (defScope s_name) := ⟨rfl, rfl, rfl, by decide +kernel, rfl, by decide +kernel, by decide +kernel⟩
abbrev s_names : Stmt := top 31
theorem sc_names : FnScope ["_law_box_here", "_law_many", "_law_found", "_law_k", "_law_name_here", "_law_spare"] ["_law_box_here", "_law_many"] (defScope s_names) := ⟨rfl, rfl, rfl, by decide +kernel, rfl, by decide +kernel, by decide +kernel⟩
abbrev s_pairs : Stmt := top 32
theorem sc_pairs : FnScope ["_law_box_here", "_law_most", "_law_nears", "_law_fars", "_law_near", "_law_far"] ["_law_box_here", "_law_most"] (defScope s_pairs) := ⟨rfl, rfl, rfl, by decide +kernel, rfl, by decide +kernel, by decide +kernel⟩
abbrev s_refused : Stmt := top 33
theorem sc_refused : FnScope ["_law_pacts", "_law_term", "_law_team", "_law_seen", "e", "_law_right"] ["_law_pacts", "_law_term", "_law_team"] (defScope s_refused) := ⟨rfl, rfl, rfl, by decide +kernel, rfl, by decide +kernel, by decide +kernel⟩
abbrev s_told : Stmt := top 34
theorem sc_told : FnScope ["_law_pacts", "_law_pairs_here", "_law_near", "_law_far", "_law_laden", "_law_truths", "_law_truth"] ["_law_pacts", "_law_pairs_here"] (defScope s_told) := ⟨rfl, rfl, rfl, by decide +kernel, rfl, by decide +kernel, by decide +kernel⟩
abbrev s_law : Stmt := top 35
theorem sc_law : FnScope ["_law_script", "_law_box_here", "_law_pairs_here", "_law_others", "_law_mine", "_law_pacts", "_law_told_here", "_law_team", "_law_words", "_law_term", "_law_pair"] ["_law_script"] (defScope s_law) := ⟨rfl, rfl, rfl, by decide +kernel, rfl, by decide +kernel, by decide +kernel⟩
/-- the addresses -/
structure Ad where
  c_Pacts : Addr
  c_NoWord : Addr
  c_PactError : Addr
  c_NoHelper : Addr
  t_LONGEST_NAME : Tok
  t_MOST_PAIRS : Tok
  f_NoWord_init : Addr
  d_NoWord_init : FuncData
  f_is_whole : Addr
  d_is_whole : FuncData
  f_is_side : Addr
  d_is_side : FuncData
  f_is_name : Addr
  d_is_name : FuncData
  f_Pacts_init : Addr
  d_Pacts_init : FuncData
  f_Pacts_pairs : Addr
  d_Pacts_pairs : FuncData
  f_Pacts_laden : Addr
  d_Pacts_laden : FuncData
  f_Pacts_over : Addr
  d_Pacts_over : FuncData
  f_Pacts_p_pair : Addr
  d_Pacts_p_pair : FuncData
  f_Pacts_len : Addr
  d_Pacts_len : FuncData
  f_p_is_pair : Addr
  d_p_is_pair : FuncData
  f_p_fits_pairs : Addr
  d_p_fits_pairs : FuncData
  f_box : Addr
  d_box : FuncData
  f_mixed : Addr
  d_mixed : FuncData
  f_take : Addr
  d_take : FuncData
  f_name : Addr
  d_name : FuncData
  f_names : Addr
  d_names : FuncData
  f_pairs : Addr
  d_pairs : FuncData
  f_refused : Addr
  d_refused : FuncData
  f_told : Addr
  d_told : FuncData
  f_law : Addr
  d_law : FuncData
/-- what the top has written -/
structure Txt (K : PySem.W.Frag) (mg : Str → Option Value) (a : Ad) : Prop where
  cl_Pacts : Cls K a.c_Pacts
  mk_Pacts : Mk K a.c_Pacts a.f_Pacts_init
  g_Pacts : mg "Pacts" = some (.ref a.c_Pacts)
  n_Pacts__pairs : NoAttr K a.c_Pacts "_pairs"
  n_Pacts__helpers : NoAttr K a.c_Pacts "_helpers"
  x_NoWord : OexC K a.c_NoWord
  xi_NoWord : PySem.W.findIn K (.ref a.c_NoWord) "__init__" = some (some (.ref a.f_NoWord_init))
  xt_NoWord : PySem.W.typeIn K (.ref a.f_NoWord_init) = some (.type "function")
  xf_NoWord : XfC K a.c_NoWord
  g_NoWord : mg "NoWord" = some (.ref a.c_NoWord)
  n_NoWord_word : PySem.W.findIn K (.ref a.c_NoWord) "word" = some none
  md_PactError : MidC K a.c_PactError
  g_PactError : mg "PactError" = some (.ref a.c_PactError)
  g_NoHelper : mg "NoHelper" = some (.ref a.c_NoHelper)
  fa_NoWord : PySem.W.findIn K (.ref a.c_NoWord) "__class__" = some (some (.builtin "object.__class__"))
  fm_NoWord : PySem.W.mroIn K a.c_NoWord (.type "object") = some true
  fs_NoWord : PySem.W.kitOne K (.ref a.c_NoWord) (.ref a.c_NoWord) = some true
  fv_NoWord : PySem.W.kitOne K (.ref a.c_NoWord) (.type "ValueError") = some true
  fx_NoWord : PySem.W.kitOne K (.ref a.c_NoWord) (.ref a.c_NoHelper) = some false
  fe_NoWord : PySem.W.exmOne K (.ref a.c_NoWord) (.ref a.c_PactError) = some true
  fg : PySem.W.specialIn K (.builtin "object.__class__") "__get__" = some (some (.builtin "getset_descriptor.__get__"))
  ft : PySem.W.takesIn K (.builtin "object.__class__") = some true
  F_NoWord_init : Fun K "__init__" "NoWord.__init__" s_NoWord_init a.f_NoWord_init a.d_NoWord_init
  B_NoWord_init : Binds K a.d_NoWord_init ["self", "word"] []
  F_is_whole : Fun K "is_whole" "is_whole" s_is_whole a.f_is_whole a.d_is_whole
  B_is_whole : Binds K a.d_is_whole ["thing"] []
  g_is_whole : mg "is_whole" = some (.ref a.f_is_whole)
  k_is_whole : PySem.W.keepIn K (.ref a.f_is_whole) = true
  F_is_side : Fun K "is_side" "is_side" s_is_side a.f_is_side a.d_is_side
  B_is_side : Binds K a.d_is_side ["thing"] []
  g_is_side : mg "is_side" = some (.ref a.f_is_side)
  k_is_side : PySem.W.keepIn K (.ref a.f_is_side) = true
  F_is_name : Fun K "is_name" "is_name" s_is_name a.f_is_name a.d_is_name
  B_is_name : Binds K a.d_is_name ["thing"] []
  g_is_name : mg "is_name" = some (.ref a.f_is_name)
  k_is_name : PySem.W.keepIn K (.ref a.f_is_name) = true
  F_Pacts_init : Fun K "__init__" "Pacts.__init__" s_Pacts_init a.f_Pacts_init a.d_Pacts_init
  B_Pacts_init : Binds K a.d_Pacts_init ["self", "pairs", "helpers"] []
  F_Pacts_pairs : Fun K "pairs" "Pacts.pairs" s_Pacts_pairs a.f_Pacts_pairs a.d_Pacts_pairs
  B_Pacts_pairs : Binds K a.d_Pacts_pairs ["self"] []
  m_Pacts_pairs : Meth K a.c_Pacts "pairs" a.f_Pacts_pairs
  F_Pacts_laden : Fun K "laden" "Pacts.laden" s_Pacts_laden a.f_Pacts_laden a.d_Pacts_laden
  m_Pacts_laden : Meth K a.c_Pacts "laden" a.f_Pacts_laden
  F_Pacts_over : Fun K "over" "Pacts.over" s_Pacts_over a.f_Pacts_over a.d_Pacts_over
  m_Pacts_over : Meth K a.c_Pacts "over" a.f_Pacts_over
  F_Pacts_p_pair : Fun K "_pair" "Pacts._pair" s_Pacts_p_pair a.f_Pacts_p_pair a.d_Pacts_p_pair
  B_Pacts_p_pair : Binds K a.d_Pacts_p_pair ["self", "word", "side"] []
  m_Pacts_p_pair : Meth K a.c_Pacts "_pair" a.f_Pacts_p_pair
  F_Pacts_len : Fun K "__len__" "Pacts.__len__" s_Pacts_len a.f_Pacts_len a.d_Pacts_len
  B_Pacts_len : Binds K a.d_Pacts_len ["self"] []
  m_Pacts_len : Meth K a.c_Pacts "__len__" a.f_Pacts_len
  F_p_is_pair : Fun K "_is_pair" "_is_pair" s_p_is_pair a.f_p_is_pair a.d_p_is_pair
  B_p_is_pair : Binds K a.d_p_is_pair ["pair"] []
  g_p_is_pair : mg "_is_pair" = some (.ref a.f_p_is_pair)
  k_p_is_pair : PySem.W.keepIn K (.ref a.f_p_is_pair) = true
  F_p_fits_pairs : Fun K "_fits_pairs" "_fits_pairs" s_p_fits_pairs a.f_p_fits_pairs a.d_p_fits_pairs
  B_p_fits_pairs : Binds K a.d_p_fits_pairs ["pair", "ahead"] []
  g_p_fits_pairs : mg "_fits_pairs" = some (.ref a.f_p_fits_pairs)
  k_p_fits_pairs : PySem.W.keepIn K (.ref a.f_p_fits_pairs) = true
  F_box : Fun K "_law_box" "_law_box" s_box a.f_box a.d_box
  B_box : Binds K a.d_box ["_law_script"] []
  g_box : mg "_law_box" = some (.ref a.f_box)
  k_box : PySem.W.keepIn K (.ref a.f_box) = true
  F_mixed : Fun K "_law_mixed" "_law_mixed" s_mixed a.f_mixed a.d_mixed
  B_mixed : Binds K a.d_mixed ["_law_cell", "_law_k"] []
  g_mixed : mg "_law_mixed" = some (.ref a.f_mixed)
  k_mixed : PySem.W.keepIn K (.ref a.f_mixed) = true
  F_take : Fun K "_law_take" "_law_take" s_take a.f_take a.d_take
  B_take : Binds K a.d_take ["_law_box_here", "_law_size"] []
  g_take : mg "_law_take" = some (.ref a.f_take)
  k_take : PySem.W.keepIn K (.ref a.f_take) = true
  F_name : Fun K "_law_name" "_law_name" s_name a.f_name a.d_name
  B_name : Binds K a.d_name ["_law_box_here"] []
  g_name : mg "_law_name" = some (.ref a.f_name)
  k_name : PySem.W.keepIn K (.ref a.f_name) = true
  F_names : Fun K "_law_names" "_law_names" s_names a.f_names a.d_names
  B_names : Binds K a.d_names ["_law_box_here", "_law_many"] []
  g_names : mg "_law_names" = some (.ref a.f_names)
  k_names : PySem.W.keepIn K (.ref a.f_names) = true
  F_pairs : Fun K "_law_pairs" "_law_pairs" s_pairs a.f_pairs a.d_pairs
  B_pairs : Binds K a.d_pairs ["_law_box_here", "_law_most"] []
  g_pairs : mg "_law_pairs" = some (.ref a.f_pairs)
  k_pairs : PySem.W.keepIn K (.ref a.f_pairs) = true
  F_refused : Fun K "_law_refused" "_law_refused" s_refused a.f_refused a.d_refused
  B_refused : Binds K a.d_refused ["_law_pacts", "_law_term", "_law_team"] []
  g_refused : mg "_law_refused" = some (.ref a.f_refused)
  k_refused : PySem.W.keepIn K (.ref a.f_refused) = true
  F_told : Fun K "_law_told" "_law_told" s_told a.f_told a.d_told
  B_told : Binds K a.d_told ["_law_pacts", "_law_pairs_here"] []
  g_told : mg "_law_told" = some (.ref a.f_told)
  k_told : PySem.W.keepIn K (.ref a.f_told) = true
  F_law : Fun K "law" "law" s_law a.f_law a.d_law
  B_law : Binds K a.d_law ["_law_script"] []
  g_law : mg "law" = some (.ref a.f_law)
  k_law : PySem.W.keepIn K (.ref a.f_law) = true
  KB_Pacts_over : KwB K a.d_Pacts_over ["self", "word", "side"] ["word", "side"]
  KN_Pacts_laden_2 : KwN K a.d_Pacts_laden ["self", "word", "side"] 2 ["side"]
  KN_Pacts_over_2 : KwN K a.d_Pacts_over ["self", "word", "side"] 2 ["side"]
  v_LONGEST_NAME : mg "LONGEST_NAME" = some (.int 8 a.t_LONGEST_NAME)
  v_MOST_PAIRS : mg "MOST_PAIRS" = some (.int 6 a.t_MOST_PAIRS)
  z_ValueError : mg "ValueError" = none
  z_isinstance : mg "isinstance" = none
  z_int : mg "int" = none
  z_bool : mg "bool" = none
  z_tuple : mg "tuple" = none
  z_list : mg "list" = none
  z_str : mg "str" = none
  z_len : mg "len" = none
  z_all : mg "all" = none
  z_range : mg "range" = none
  z_zip : mg "zip" = none
section
variable {P : Program} {w : World} {K : PySem.W.Frag} {mg : Str → Option Value} {base : Heap} {a : Ad}
/-! ### texts and kinds -/
theorem inV_str (x : Str) : ∀ l : List Str, inV (.str x) (l.map V.str) = decide (x ∈ l)
  | [] => rfl
  | y :: l => by
    have ih := inV_str x l
    unfold inV at ih ⊢
    rw [List.map_cons, List.any_cons, ih]
    show ((y == x) || decide (x ∈ l)) = decide (x ∈ y :: l)
    by_cases e : y = x
    · subst e; simp
    · have e2 : ¬ x = y := fun z => e z.symm
      simp [e, e2]
theorem flat_str (l : List Str) : (l.map V.str).all flatV = true := List.all_eq_true.mpr fun v hv => by
  obtain ⟨s, _, rfl⟩ := List.mem_map.mp hv
  rfl
theorem strs_get {xs : List Str} {i : Nat} {y : V} (h : (xs.map V.str)[i]? = some y) : ∃ s, xs[i]? = some s ∧ y = V.str s := by
  rw [List.getElem?_map] at h
  cases e : xs[i]? with
  | none => rw [e] at h; cases h
  | some z => rw [e] at h; exact ⟨z, rfl, (Option.some.inj h).symm⟩
theorem refs_get {xs : List Addr} {i : Nat} {y : V} (h : (xs.map V.ref)[i]? = some y) : ∃ s, xs[i]? = some s ∧ y = V.ref s := by
  rw [List.getElem?_map] at h
  cases e : xs[i]? with
  | none => rw [e] at h; cases h
  | some z => rw [e] at h; exact ⟨z, rfl, (Option.some.inj h).symm⟩
theorem take_snoc {α : Type} {xs : List α} {i : Nat} {x : α} (h : xs[i]? = some x) : xs.take (i + 1) = xs.take i ++ [x] := by rw [List.take_add_one, h]; rfl
def sp_is_whole : Sp := fun vs H Q _ => ∃ i : Int, vs = [.int i] ∧ Q (.bl true) H
theorem ok_is_whole (T : Txt K mg a) : FnOk P w K mg base CX0 1 a.f_is_whole a.d_is_whole ["thing"] sp_is_whole := by
  refine T.F_is_whole.ok sc_is_whole (fun vs H Q E h => ?_) (fun cdv A outer s H vs Q E hr h => ?_)
  · obtain ⟨i, rfl, _⟩ := h
    rfl
  · obtain ⟨i, rfl, kk⟩ := h
    refine ⟨_, (pss_one (ps_ret (pe_and (pe_callB call_isi (by rfl) T.z_isinstance (by decide +kernel) (pa_cons (pv 0) (pa_cons (pe_bltn (v := .ty "int") (by rfl) T.z_int (by decide +kernel) rfl) pa_nil))) (pe_one (pe_not (pe_callB call_isi (by rfl) T.z_isinstance (by decide +kernel) (pa_cons (pv 0) (pa_cons (pe_bltn (v := .ty "bool") (by rfl) T.z_bool (by decide +kernel) rfl) pa_nil)))))))), ?_⟩
    refine ⟨_, rfl, _, _, _, _, true, rfl, .ty "int", .base (.int i), kit_ty (by decide +kernel), true, rfl, ?_⟩
    refine iteT ?_
    refine ⟨_, rfl, _, _, _, _, false, rfl, .ty "bool", .base (.int i), kit_ty (by decide +kernel), ?_⟩
    refine ⟨_, rfl, ?_⟩
    exact kk
theorem inV_01 (i : Int) : inV (.int i) [.int 0, .int 1] = decide (i = 0 ∨ i = 1) := by
  show ((0 == i) || ((1 == i) || false)) = _
  by_cases h0 : i = 0
  · subst h0; rfl
  · by_cases h1 : i = 1
    · subst h1; rfl
    · have a0 : ((0 : Int) == i) = false := beq_eq_false_iff_ne.mpr fun z => h0 z.symm
      have a1 : ((1 : Int) == i) = false := beq_eq_false_iff_ne.mpr fun z => h1 z.symm
      rw [a0, a1]
      simp [h0, h1]
def sp_is_side : Sp := fun vs H Q _ => ∃ i : Int, vs = [.int i] ∧ ∀ H', Same H H' → Q (.bl (decide (i = 0 ∨ i = 1))) H'
theorem ok_is_side (T : Txt K mg a) : FnOk P w K mg base CX0 2 a.f_is_side a.d_is_side ["thing"] sp_is_side := by
  refine T.F_is_side.ok sc_is_side (fun vs H Q E h => ?_) (fun cdv A outer s H vs Q E hr h => ?_)
  · obtain ⟨i, rfl, _⟩ := h
    rfl
  · obtain ⟨i, rfl, kk⟩ := h
    refine ⟨_, (pss_one (ps_ret (pe_and (pe_call (ok_is_whole T) (hr.mono (by decide)) rfl T.g_is_whole T.k_is_whole T.B_is_whole .nil pass0 (pa_cons (pv 0) pa_nil)) (pe_one (pe_cmpR op_in_seq (pv 0) (pe_tup (pa_cons pe_int (pa_cons pe_int pa_nil))) (by rfl)))))), ?_⟩
    refine ⟨_, rfl, i, rfl, true, rfl, ?_⟩
    refine iteT ?_
    refine ⟨_, rfl, by show 2 ≤ sizeLine; decide, fun t ht => ?_⟩
    refine ⟨t, _, rfl, .inr (SqT.of upd_same), rfl, rfl, ?_⟩
    show Q (.bl (inV (.int i) [.int 0, .int 1])) _
    rw [inV_01]
    exact kk _ ((Same.refl H).upd ht)
theorem one_lt (c d : Nat) : (([c] : List Nat) < [d]) ↔ c < d := by
  rw [List.cons_lt_cons_iff]
  simp
theorem le_a (c : Nat) : (!decide ((⟨#[c]⟩ : Str).cps.toList < ("a" : Str).cps.toList)) = decide (97 ≤ c) := by
  have e : ("a" : Str).cps.toList = [97] := by decide +kernel
  rw [e]
  show (!decide (([c] : List Nat) < [97])) = _
  rw [decide_eq_decide.mpr (one_lt c 97)]
  by_cases h : c < 97
  · rw [decide_eq_true h, decide_eq_false (by omega)]; rfl
  · rw [decide_eq_false h, decide_eq_true (by omega)]; rfl
theorem le_z (c : Nat) : (!decide (("z" : Str).cps.toList < (⟨#[c]⟩ : Str).cps.toList)) = decide (c ≤ 122) := by
  have e : ("z" : Str).cps.toList = [122] := by decide +kernel
  rw [e]
  show (!decide (([122] : List Nat) < [c])) = _
  rw [decide_eq_decide.mpr (one_lt 122 c)]
  by_cases h : 122 < c
  · rw [decide_eq_true h, decide_eq_false (by omega)]; rfl
  · rw [decide_eq_false h, decide_eq_true (by omega)]; rfl
theorem all_id (l : List Nat) : (l.map My.letter).all id = l.all My.letter := by rw [List.all_map]; rfl
def sp_is_name : Sp := fun vs H Q _ => ∃ s : Str, vs = [.str s] ∧ s.length ≤ sizeLine ∧ ∀ H', Same H H' → Q (.bl (My.nameB s)) H'
theorem ok_is_name (T : Txt K mg a) : FnOk P w K mg base CX0 1 a.f_is_name a.d_is_name ["thing"] sp_is_name := by
  refine T.F_is_name.ok sc_is_name (fun vs H Q E h => ?_) (fun cdv A outer s H vs Q E hr h => ?_)
  · obtain ⟨s, rfl, _⟩ := h
    rfl
  · obtain ⟨s, rfl, hz, kk⟩ := h
    refine ⟨_, (pss_cons (ps_if (PW.pt (pw_or (pt_not (pt_val (pe_callB call_isi (by rfl) T.z_isinstance (by decide +kernel) (pa_cons (pv 0) (pa_cons (pe_bltn (v := .ty "str") (by rfl) T.z_str (by decide +kernel) rfl) pa_nil))))) (pw_or1 (pt_not (pt_chain op_le op_le pe_int (pe_callB call_len_str (by rfl) T.z_len (by decide +kernel) (pa_cons (pv 0) pa_nil)) (pe_glob (v := .int 8) rfl T.v_LONGEST_NAME ⟨_, rfl⟩)))))) (pss_one (ps_ret pe_bl)) pss_nil)
      (pss_one (ps_ret (pe_callB (cr_all rfl) (by rfl) T.z_all (by decide +kernel) (pa_cons (pe_lc (own := [("sign", 1)]) (g := gName 1) (tt := tYes) rfl sc_is_name.nd (pi_str (pv 0)) (blkOk_by (own := [("sign", 1)]) (N := ["thing", "sign"]) (sc := defScope s_is_name) (by decide +kernel)) (fun _ _ _ _ _ => pg_name (i := 1) sc_is_name.nd rfl (Or.inl rfl)) (fun _ _ _ _ _ => pts_nil) (fun _ _ _ _ _ => by exact (pe_chain op_le_str op_le_str pe_str (pv 1) pe_str))) pa_nil))))), ?_⟩
    have no : ¬ (1 ≤ s.cps.size ∧ s.cps.size ≤ 8) → Q (.bl false) H := fun n => by
      have e : My.nameB s = false := by
        unfold My.nameB
        by_cases h1 : 1 ≤ s.cps.size
        · have h2 : ¬ s.cps.size ≤ 8 := fun z => n ⟨h1, z⟩
          rw [decide_eq_false h2]; simp
        · rw [decide_eq_false h1]; simp
      exact e ▸ kk H (Same.refl H)
    refine ⟨_, rfl, _, _, _, _, true, rfl, .ty "str", .base (.str s), kit_ty (by decide +kernel), true, rfl, ?_⟩
    refine iteF ?_
    refine ⟨_, rfl, _, rfl, hz, ?_⟩
    refine ⟨_, _, rfl, rfl, _, rfl, ?_⟩
    refine iteD (fun h1 => ?_) (fun h1 => ?_)
    · refine ⟨_, _, rfl, rfl, _, rfl, ?_⟩
      refine iteB (fun h2 => ?_) (fun h2 => ?_)
      · refine no fun z => ?_
        have z2 : ((s.length : Nat) : Int) ≤ 8 := by
          show ((s.cps.size : Nat) : Int) ≤ 8
          omega
        rw [show (!decide ((s.length : Int) ≤ 8)) = false by rw [decide_eq_true z2]; rfl] at h2
        cases h2
      · have h2' : ((s.cps.size : Nat) : Int) ≤ 8 := by
          show ((s.length : Nat) : Int) ≤ 8
          by_cases z : ((s.length : Nat) : Int) ≤ 8
          · exact z
          · rw [show (!decide ((s.length : Int) ≤ 8)) = true by rw [decide_eq_false z]; rfl] at h2
            cases h2
        have b1 : 1 ≤ s.cps.size := by
          have : (1 : Int) ≤ (s.cps.size : Int) := h1
          omega
        have b2 : s.cps.size ≤ 8 := by omega
        refine ⟨_, rfl, s, rfl, fun D hD => ?_⟩
        refine lc_it walk_str (fun i H1 => Blk (H1 = upd H D (.lst (((s.cps.toList.take i).map My.letter).map V.bl)) ∧ i ≤ s.cps.size)) (Blk.of ⟨rfl, by omega⟩) (fun i H1 _ hB => trivial) ?_ ?_
        · intro i y H1 H2 hi hB hy
          obtain ⟨rfl, hi2⟩ := hB.out
          obtain ⟨rfl, c, hc, rfl⟩ := hy
          have hc2 : s.cps.toList[i]? = some c := by rw [Array.getElem?_toList]; exact hc
          refine ⟨rfl, ?_⟩
          dsimp only [tYes]
          refine iteT ?_
          refine ⟨_, rfl, _, _, rfl, rfl, _, rfl, ?_⟩
          rw [le_a]
          have fin : ∀ b : Bool, b = My.letter c → ∃ acc, upd H D (.lst (((s.cps.toList.take i).map My.letter).map V.bl)) D = some (.lst acc) ∧ acc.length < sizeLine ∧
              Blk (upd (upd H D (.lst (((s.cps.toList.take i).map My.letter).map V.bl))) D (.lst (acc ++ [.bl b])) = upd H D (.lst (((s.cps.toList.take (i + 1)).map My.letter).map V.bl)) ∧ i + 1 ≤ s.cps.size) := by
            rintro b rfl
            refine ⟨_, upd_same, ?_, Blk.of ⟨?_, by omega⟩⟩
            · rw [List.length_map, List.length_map, List.length_take]
              exact small (by omega)
            · rw [upd_upd, take_snoc hc2, List.map_append, List.map_append]
              rfl
          refine iteD (fun ha => ?_) (fun ha => ?_)
          · refine ⟨_, _, rfl, rfl, ?_⟩
            rw [le_z]
            refine fin _ ?_
            unfold My.letter
            rw [decide_eq_true ha]
            rfl
          · refine fin false ?_
            unfold My.letter
            rw [decide_eq_false ha]
            rfl
        · intro H1 hB
          obtain ⟨rfl, _⟩ := hB.out
          refine ⟨D, _, rfl, SqL.of upd_same, ?_⟩
          have el : s.cps.toList.take s.cps.size = s.cps.toList := by rw [← Array.length_toList, List.take_length]
          rw [el, all_id]
          have en : s.cps.toList.all My.letter = My.nameB s := by
            unfold My.nameB
            rw [decide_eq_true b1, decide_eq_true b2]
            rfl
          rw [en]
          exact kk _ ((Same.refl H).upd hD)
    · refine ⟨_, rfl, ?_⟩
      refine iteT (no fun z => h1 ?_)
      show (1 : Int) ≤ (s.cps.size : Int)
      omega

/-! ### _law_mixed -/
def sp_mixed : Sp := fun vs H Q _ => ∃ (c k : Int), vs = [.int c, .int k] ∧ 0 ≤ k ∧ k < 100000000 ∧ ∀ r : Int, 0 ≤ r → r < 1000000007 → Q (.int r) H
theorem mixed_bound {c k : Int} (h0 : 0 ≤ k) (h1 : k < 100000000) : (c % 2147483647 + 1009 * k * k + 48611 * k + 17).natAbs < 2 ^ 64 := by
  have a0 := Int.emod_nonneg c (by decide : (2147483647 : Int) ≠ 0)
  have a1 := Int.emod_lt_of_pos c (by decide : (0 : Int) < 2147483647)
  have b0 : 0 ≤ 1009 * k * k := Int.mul_nonneg (by omega) h0
  have b1 : 1009 * k * k ≤ 1009 * 100000000 * 100000000 := Int.mul_le_mul (by omega) (by omega) h0 (by omega)
  have e : (2 : Nat) ^ 64 = 18446744073709551616 := by decide
  rw [e]
  omega
theorem ok_mixed (T : Txt K mg a) : FnOk P w K mg base CX0 1 a.f_mixed a.d_mixed ["_law_cell", "_law_k"] sp_mixed := by
  refine T.F_mixed.ok sc_mixed (fun vs H Q E h => ?_) (fun cdv A outer s H vs Q E hr h => ?_)
  · obtain ⟨c, k, rfl, _⟩ := h
    rfl
  · obtain ⟨c, k, rfl, h0, h1, kk⟩ := h
    refine ⟨_, (pss_cons (ps_set (i := 2) sc_mixed.nd rfl (Or.inl rfl) (pe_op op_mod (pe_op op_pow (pe_op op_add (pe_op op_add (pe_op op_add (pe_op op_mod (pv 0) pe_int) (pe_op op_mul (pe_op op_mul pe_int (pv 1)) (pv 1))) (pe_op op_mul pe_int (pv 1))) pe_int) pe_int) pe_int))
      (pss_one (ps_ret (pe_op op_mod (pe_op op_add (pe_op op_mul (pv 2) pe_int) (pe_op op_mul pe_int (pv 1))) pe_int)))), ?_⟩
    have eb := mixed_bound (c := c) h0 h1
    generalize hx : c % 2147483647 + 1009 * k * k + 48611 * k + 17 = x at eb
    refine ⟨_, rfl, _, _, rfl, rfl, (by show (0 : Int) < _; decide), _, rfl, _, _, rfl, rfl, .inl ⟨by decide, by decide⟩, _, rfl, _, _, rfl, rfl, .inl ⟨by omega, by omega⟩, _, _, rfl, rfl, _, rfl, _, _, rfl, rfl, .inl ⟨by decide, by decide⟩,
      _, _, rfl, rfl, _, _, rfl, rfl, _, _, rfl, rfl, ⟨by decide, by decide, by rw [hx]; exact eb⟩, _, _, rfl, rfl, (by show (0 : Int) < _; decide), ?_⟩
    rw [hx]
    generalize x ^ Int.toNat 5 % 2147483647 = y
    refine ⟨_, rfl, _, _, rfl, rfl, .inr ⟨by decide, by decide⟩, _, rfl, _, _, rfl, rfl, .inl ⟨by decide, by decide⟩, _, _, rfl, rfl, _, _, rfl, rfl, (by show (0 : Int) < _; decide), ?_⟩
    exact kk _ (Int.emod_nonneg _ (by decide)) (Int.emod_lt_of_pos _ (by decide))

/-! ### _law_take -/
def sp_take : Sp := fun vs H Q _ => ∃ (b g l : Addr) (n size : Int), vs = [.ref b, .int size] ∧ BoxAt H b g l n ∧ 0 ≤ n ∧ n < 10000000 ∧ 0 < size ∧ size.natAbs.log2 < 9000 ∧
  ∀ (k : Int) (H' : Hp), 0 ≤ k → k < size → BoxAt H' b g l (n + 1) → Keeps [b, g] H H' → Q (.int k) H'
theorem ok_take (T : Txt K mg a) : FnOk P w K mg base CX0 2 a.f_take a.d_take ["_law_box_here", "_law_size"] sp_take := by
  refine T.F_take.ok sc_take (fun vs H Q E h => ?_) (fun cdv A outer s H vs Q E hr h => ?_)
  · obtain ⟨b, g, l, n, size, rfl, _⟩ := h
    rfl
  · obtain ⟨b, g, l, n, size, rfl, ⟨gs, ls, cur, hb, hg, hl, nbg, nbl, ngl, zg, zl⟩, n0, n1, s0, s1, kk⟩ := h
    refine ⟨_, (pss_cons (ps_asg (pe_op op_add (pe_ix ix_list (pv 0) pe_int (fun _ _ => rfl)) pe_int) (pg_sub (pv 0) pe_int set_list))
      (C8.pss_cut (ps_if (PW.pt (pw_and (pt_cmpR op_eq (pe_ix ix_list (pv 0) pe_int (fun _ _ => rfl)) pe_int (nomark _)) (pw_and1 (pt_cmpR op_gt (pe_callB call_len_seq (by rfl) T.z_len (by decide +kernel) (pa_cons (pe_ix ix_list (pv 0) pe_int (fun _ _ => rfl)) pa_nil)) pe_int (nomark _))))) (pss_one (ps_asg (pe_bm PySem.F.plainAttrs_list PySem.F.slot_list_pop PySem.F.type_list_pop mt_popAt (pe_ix ix_list (pv 0) pe_int (fun _ _ => rfl)) (pa_cons pe_int pa_nil)) (pg_sub (pv 0) pe_int set_list))) pss_nil)
      (pss_cons (ps_if (pt_cmpR op_gt (pe_ix ix_list (pv 0) pe_int (fun _ _ => rfl)) pe_int (nomark _)) (pss_cons (ps_set (i := 2) sc_take.nd rfl (Or.inl rfl) (pe_op op_mod (pe_ix ix_list (pv 0) pe_int (fun _ _ => rfl)) (pv 1)))
      (pss_cons (ps_asg (pe_op op_fdivW (pe_ix ix_list (pv 0) pe_int (fun _ _ => rfl)) (pv 1)) (pg_sub (pv 0) pe_int set_list))
      (pss_one (ps_ret (pv 2))))) pss_nil)
      (pss_cons (ps_set (i := 3) sc_take.nd rfl (Or.inl rfl) (pe_op op_mul pe_int (pe_ix ix_list (pv 0) pe_int (fun _ _ => rfl))))
      (C8.pss_cut (ps_if (pt_cmpR op_gt (pe_callB call_len_seq (by rfl) T.z_len (by decide +kernel) (pa_cons (pe_ix ix_list (pv 0) pe_int (fun _ _ => rfl)) pa_nil)) pe_int (nomark _)) (pss_one (ps_set (i := 3) sc_take.nd rfl (Or.inl rfl) (pe_ix ix_list (pe_ix ix_list (pv 0) pe_int (fun _ _ => rfl)) (pe_op op_mod (pe_ix ix_list (pv 0) pe_int (fun _ _ => rfl)) (pe_callB call_len_seq (by rfl) T.z_len (by decide +kernel) (pa_cons (pe_ix ix_list (pv 0) pe_int (fun _ _ => rfl)) pa_nil))) (fun _ _ => rfl)))) pss_nil)
      (pss_cons (ps_set (i := 2) sc_take.nd rfl (Or.inl rfl) pe_int)
      (pss_cons (ps_set (i := 4) sc_take.nd rfl (Or.inl rfl) pe_int)
      (pss_cons (ps_while PassesOwn.never (pt_cmpR op_lt (pv 4) (pv 1) (nomark _)) (pss_cons (ps_set (i := 2) sc_take.nd rfl (Or.inl rfl) (pe_op op_add (pe_op op_mul (pv 2) pe_int) (pe_call (ok_mixed T) (hr.mono (by decide)) rfl T.g_mixed T.k_mixed T.B_mixed .nil pass0 (pa_cons (pv 3) (pa_cons (pe_op op_add (pe_ix ix_list (pv 0) pe_int (fun _ _ => rfl)) (pe_op op_mul pe_int (pe_op op_mod (pv 2) pe_int))) pa_nil)))))
      (pss_one (ps_set (i := 4) sc_take.nd rfl (Or.inl rfl) (pe_op op_mul (pv 4) pe_int)))))
      (pss_one (ps_ret (pe_op op_mod (pv 2) (pv 1)))))))))))), ?_⟩
    -- box[3] = box[3] + 1
    walk_at "rd"
    have kp0 : Keeps [b, g] H (upd H b (.lst [.ref g, .int cur, .ref l, .int (n + 1)])) := (Keeps.refl _ H).upd (.inl (List.mem_cons_self))
    refine ⟨fun σ H1 => Blk (σ = [some (.ref b), some (.int size), none, none, none] ∧ ∃ (gs : List Int) (cur : Int), H1 b = some (.lst [.ref g, .int cur, .ref l, .int (n + 1)]) ∧ H1 g = some (.lst (gs.map V.int)) ∧ gs.length ≤ 63 ∧ H1 l = some (.lst (ls.map V.int)) ∧ Keeps [b, g] H H1), ?_, ?_⟩
    · walk_at "rd"
      refine iteD (fun hc => ?_) (fun hc => ?_)
      · walk_at "rd"
        refine iteD (fun hc => ?_) (fun hc => ?_)
        · rw [List.length_map] at hc
          match gs, hc with
          | x :: gs, _ =>
            walk_at "rd"
            refine ⟨_, _, _, _, _, rfl, rfl, (by walk_at "hp"), by decide, by decide, seqIndex_of (by decide) (by simp), rfl, ?_⟩
            walk_at "rd"
            refine Blk.of ⟨rfl, gs, x, upd_same, (by walk_at "hp"), by rw [List.length_cons] at zg; omega, by walk_at "hp", ?_⟩
            exact (kp0.upd (.inl (by simp))).upd (.inl (by simp))
        · refine Blk.of ⟨rfl, gs, cur, upd_same, by walk_at "hp", zg, by walk_at "hp", kp0⟩
      · refine iteF ?_
        refine Blk.of ⟨rfl, gs, cur, upd_same, by walk_at "hp", zg, by walk_at "hp", kp0⟩
    · rintro σ H1 hB
      obtain ⟨rfl, gs, cur, hb, hg, zg, hl, kp⟩ := hB.out
      walk_at "rd"
      refine iteD (fun hc => ?_) (fun hc => ?_)
      · walk_at "rd"
        refine kk _ _ (Int.emod_nonneg _ (by omega)) (Int.emod_lt_of_pos _ s0) ⟨gs, ls, _, upd_same, by walk_at "hp", by walk_at "hp", nbg, nbl, ngl, zg, zl⟩ (kp.upd (.inl (by simp)))
      · walk_at "rd"
        refine ⟨fun σ H2 => Blk (H2 = H1 ∧ ∃ cell : Int, σ = [some (.ref b), some (.int size), none, some (.int cell), none]), ?_, ?_⟩
        · walk_at "rd"
          refine iteD (fun hc2 => ?_) (fun hc2 => ?_)
          · have hpos : (0 : Int) < ((ls.map V.int).length : Int) := hc2
            walk_at "rd"
            have i0 := Int.emod_nonneg (n + 1) (show (((ls.map V.int).length : Nat) : Int) ≠ 0 by omega)
            have i1 := Int.emod_lt_of_pos (n + 1) hpos
            have hx : (ls.map V.int)[((n + 1) % (((ls.map V.int).length : Nat) : Int)).toNat]? = some (.int (My.g ls ((n + 1) % (((ls.map V.int).length : Nat) : Int)).toNat)) := by
              rw [List.getElem?_map, My.g_lt (by rw [List.length_map] at *; omega)]; rfl
            refine ⟨_, _, _, _, rfl, rfl, SqL.of (by walk_at "hp"), at_of (j := ((n + 1) % (((ls.map V.int).length : Nat) : Int)).toNat) (by omega) hx, ?_⟩
            exact Blk.of ⟨rfl, _, rfl⟩
          · exact Blk.of ⟨rfl, _, rfl⟩
        · rintro σ H2 hB
          obtain ⟨rfl, cell, rfl⟩ := hB.out
          walk_at "rd"
          refine while_by (fun σ H1 => H1 = H2 ∧ ∃ found reach : Int, σ = [some (.ref b), some (.int size), some (.int found), some (.int cell), some (.int reach)] ∧ 0 < reach)
            (fun σ _ => match σ with | [_, _, _, _, some (.int r)] => (size - r).toNat | _ => 0) ⟨rfl, 0, 1, rfl, by decide⟩ ?_ ?_
          · rintro σ H1 ⟨rfl, found, reach, rfl, hr0⟩
            walk_at "rd"
            refine iteD (fun hlt => ?_) (fun hlt => ?_)
            · walk_at "rd"
              have f0 := Int.emod_nonneg found (show (89 : Int) ≠ 0 by decide)
              have f1 := Int.emod_lt_of_pos found (show (0 : Int) < 89 by decide)
              refine ⟨_, _, rfl, (by show 0 ≤ n + 1 + 1000 * (found % 89); omega), (by show n + 1 + 1000 * (found % 89) < 100000000; omega), fun r r0 r1 => ?_⟩
              walk_at "rd"
              refine ⟨⟨rfl, _, _, rfl, by omega⟩, ?_⟩
              show (size - reach * 1000000007).toNat < (size - reach).toNat
              omega
            · walk_at "rd"
              exact kk _ _ (Int.emod_nonneg _ (by omega)) (Int.emod_lt_of_pos _ s0) ⟨gs, ls, _, hb, hg, hl, nbg, nbl, ngl, zg, zl⟩ kp
          · intro σ H Q Q' hq h
            obtain ⟨v, h1, u, h2, i, j, e1, e2, k, e3, q⟩ := h
            exact ⟨v, h1, u, h2, i, j, e1, e2, k, e3, hq _ _ q⟩

/-! ### _law_box -/
def sp_box (K : PySem.W.Frag) : Sp := fun vs H Q _ => ∃ (s : Addr) (ns : List Int), vs = [.ref s] ∧ SqL K H s (ns.map V.int) ∧ ns.length ≤ 63 ∧
  ∀ (b g l : Addr) (H' : Hp), H b = none → H g = none → H l = none → BoxAt H' b g l 0 → Same H H' → Q (.ref b) H'
theorem ok_box (T : Txt K mg a) : FnOk P w K mg base CX0 1 a.f_box a.d_box ["_law_script"] (sp_box K) := by
  refine T.F_box.ok sc_box (fun vs H Q E h => ?_) (fun cdv A outer s H vs Q E hr h => ?_)
  · obtain ⟨s, ns, rfl, _⟩ := h
    rfl
  · obtain ⟨sc, ns, rfl, hS, hz, kk⟩ := h
    refine ⟨_, (pss_cons (ps_setLc (i := 1) (own := [("_law_cell", 2)]) (g := gName 2) rfl sc_box.nd rfl rfl (sw_true rfl rfl rfl (by decide +kernel)) (pi_list (pv 0)) (blkOk_by (own := [("_law_cell", 2)]) (N := ["_law_script", "_law_great", "_law_cell"]) (sc := defScope s_box) (by decide +kernel)) (fun _ _ _ _ _ => pg_name (i := 2) sc_box.nd rfl (Or.inl rfl)) (fun _ _ _ _ _ => pts_one (pt_cmpR op_ge (pv 2) (pe_op op_pow pe_int pe_int) (nomark _))) (fun _ _ _ _ _ => by exact (pv 2)))
      (pss_one (ps_ret (pe_lst (pa_cons (pv 1) (pa_cons pe_int (pa_cons (pe_lc (own := [("_law_cell", 2)]) (g := gName 2) rfl sc_box.nd (pi_list (pv 0)) (blkOk_by (own := [("_law_cell", 2)]) (N := ["_law_script", "_law_great", "_law_cell"]) (sc := defScope s_box) (by decide +kernel)) (fun _ _ _ _ _ => pg_name (i := 2) sc_box.nd rfl (Or.inl rfl)) (fun _ _ _ _ _ => pts_one (pt_cmpR op_lt (pv 2) (pe_op op_pow pe_int pe_int) (nomark _))) (fun _ _ _ _ _ => by exact (pv 2))) (pa_cons pe_int pa_nil)))))))), ?_⟩
    refine ⟨_, rfl, sc, rfl, ⟨_, hS⟩, fun g hg => ?_⟩
    have sG : ∀ o, Same H (upd H g o) := fun o => (Same.refl H).upd hg
    refine lc_list (K := K) (a := sc) (xs := ns.map V.int) (fun i H1 => Blk (∃ gs : List Int, H1 = upd H g (.lst (gs.map V.int)) ∧ gs.length ≤ i)) (Blk.of ⟨[], rfl, Nat.le_refl _⟩) (fun i H1 _ hB => ?_) ?_ ?_
    · obtain ⟨gs, rfl, _⟩ := hB.out
      exact (sG _).seq hS
    · intro i y H1 hi hB
      obtain ⟨gs, rfl, hl⟩ := hB.out
      obtain ⟨z, hz, rfl⟩ := ints_get hi
      have := get_lt hi
      rw [List.length_map] at this
      refine ⟨rfl, _, rfl, _, _, rfl, rfl, ⟨by decide, by decide, by decide⟩, _, _, rfl, rfl, _, rfl, iteD (fun hc => ?_) (fun hc => ?_)⟩
      · refine ⟨_, rfl, _, upd_same, by rw [List.length_map]; exact small (by omega), Blk.of ⟨gs ++ [z], ?_, by rw [List.length_append]; simp; omega⟩⟩
        rw [upd_upd, List.map_append]; rfl
      · exact Blk.of ⟨gs, rfl, by omega⟩
    · intro H1 hB
      obtain ⟨gs, rfl, hgl⟩ := hB.out
      rw [List.length_map] at hgl
      refine ⟨_, rfl, ?_⟩
      refine ⟨_, rfl, sc, rfl, ⟨_, (sG _).seq hS⟩, fun l hl => ?_⟩
      have ngl : g ≠ l := ne_of_none upd_same hl
      have hl0 : H l = none := by rw [upd_ne ngl.symm] at hl; exact hl
      refine lc_list (K := K) (a := sc) (xs := ns.map V.int) (fun i H1 => Blk (∃ ls : List Int, H1 = upd (upd H g (.lst (gs.map V.int))) l (.lst (ls.map V.int)) ∧ ls.length ≤ i)) (Blk.of ⟨[], rfl, Nat.le_refl _⟩) (fun i H1 _ hB => ?_) ?_ ?_
      · obtain ⟨ls, rfl, _⟩ := hB.out
        exact ((sG _).upd hl0).seq hS
      · intro i y H1 hi hB
        obtain ⟨ls, rfl, hl⟩ := hB.out
        obtain ⟨z, hz, rfl⟩ := ints_get hi
        have := get_lt hi
        rw [List.length_map] at this
        refine ⟨rfl, _, rfl, _, _, rfl, rfl, ⟨by decide, by decide, by decide⟩, _, _, rfl, rfl, _, rfl, iteD (fun hc => ?_) (fun hc => ?_)⟩
        · refine ⟨_, rfl, _, upd_same, by rw [List.length_map]; exact small (by omega), Blk.of ⟨ls ++ [z], ?_, by rw [List.length_append]; simp; omega⟩⟩
          rw [upd_upd, List.map_append]; rfl
        · exact Blk.of ⟨ls, rfl, by omega⟩
      · intro H1 hB
        obtain ⟨ls, rfl, hll⟩ := hB.out
        rw [List.length_map] at hll
        refine ⟨by show 4 ≤ sizeLine; decide, fun b hb => ?_⟩
        have nlb : l ≠ b := ne_of_none upd_same hb
        have hb' : upd H g (.lst (gs.map V.int)) b = none := by rw [upd_ne nlb.symm] at hb; exact hb
        have ngb : g ≠ b := ne_of_none upd_same hb'
        have hb0 : H b = none := by rw [upd_ne ngb.symm] at hb'; exact hb'
        exact kk b g l _ hb0 hg hl0 ⟨gs, ls, 0, upd_same, by rw [upd_ne ngb, upd_ne ngl, upd_same], by rw [upd_ne nlb, upd_same], ngb.symm, nlb.symm, ngl, by omega, by omega⟩ (((sG _).upd hl0).upd hb0)

/-! ### names that are drawn -/
theorem abc_at : ∀ j, j < 26 → ∃ c, ("abcdefghijklmnopqrstuvwxyz" : Str).cps.toList[j]? = some c ∧ My.letter c = true := by
  intro j hj
  have e : ("abcdefghijklmnopqrstuvwxyz" : Str).cps.toList = (List.range 26).map (· + 97) := by decide +kernel
  rw [e]
  refine ⟨j + 97, by rw [List.getElem?_map, List.getElem?_range hj]; rfl, ?_⟩
  unfold My.letter
  rw [decide_eq_true (by omega), decide_eq_true (by omega)]
  rfl
theorem abc_len : ("abcdefghijklmnopqrstuvwxyz" : Str).length ≤ sizeLine := by decide +kernel
theorem abc_ix {k : Int} (h0 : 0 ≤ k) (h1 : k < 26) : ∃ c, atI ("abcdefghijklmnopqrstuvwxyz" : Str).cps.toList k = some c ∧ My.letter c = true := by
  obtain ⟨j, rfl⟩ : ∃ j : Nat, k = j := ⟨k.toNat, by omega⟩
  obtain ⟨c, hc, l⟩ := abc_at j (by omega)
  exact ⟨c, atI_nat hc, l⟩
def sign (c : Nat) : Str := ⟨#[c]⟩
theorem join_signs (cs : List Nat) : Txt.join ("" : Str) (cs.map sign) = ⟨cs.toArray⟩ := by
  have e0 : ("" : Str) = SX.S [] := by decide +kernel
  have e1 : cs.map sign = (cs.map fun c => [c]).map SX.S := by rw [List.map_map]; rfl
  rw [e0, e1, SX.join_S]
  have e2 : ∀ l : List Nat, TL.joinL [] (l.map fun c => [c]) = l := by
    intro l
    induction l with
    | nil => rfl
    | cons x r ih =>
      cases r with
      | nil => rfl
      | cons y r =>
        show [x] ++ ([] ++ TL.joinL [] ((y :: r).map fun c => [c])) = _
        rw [ih]
        rfl
  rw [e2]
theorem name_of {cs : List Nat} (h1 : 1 ≤ cs.length) (h2 : cs.length ≤ 8) (hl : cs.all My.letter = true) : My.nameB ⟨cs.toArray⟩ = true := by
  unfold My.nameB
  have e : (cs.toArray).size = cs.length := by simp
  simp only [e]
  rw [decide_eq_true h1, decide_eq_true h2]
  simpa using hl
theorem nameB_out {s : Str} (h : My.nameB s = true) : 1 ≤ s.cps.size ∧ s.cps.size ≤ 8 ∧ s.cps.toList.all My.letter = true := by
  unfold My.nameB at h
  simp only [Bool.and_eq_true, decide_eq_true_eq] at h
  exact ⟨h.1.1, h.1.2, h.2⟩
theorem name_len {s : Str} (h : My.nameB s = true) : s.length ≤ 8 := (nameB_out h).2.1
theorem name_line {s : Str} (h : My.nameB s = true) : s.length ≤ sizeLine := Nat.le_trans (name_len h) (by rw [sizeLine_eq]; decide)
theorem cut7 (z : Str) : cutS z none (some 7) = ⟨(z.cps.toList.take 7).toArray⟩ := by
  unfold cutS
  congr 1
  congr 1
  have e0 : HT.sIx z.length 0 none = 0 := rfl
  have e1 : HT.sIx z.length z.length (some 7) = min 7 z.length := HT.sIx_nat _ _ 7
  rw [e0, e1, List.drop_zero, Nat.sub_zero]
  have hl : z.cps.toList.length = z.length := Array.length_toList
  by_cases h : 7 ≤ z.length
  · rw [Nat.min_eq_left h]
  · rw [Nat.min_eq_right (by omega), List.take_of_length_le (by omega), List.take_of_length_le (by omega)]
theorem name_cut {z : Str} {c : Nat} (h : My.nameB z = true) (hc : My.letter c = true) : My.nameB (cutS z none (some 7) ++ sign c) = true := by
  rw [cut7]
  have e : ((⟨(z.cps.toList.take 7).toArray⟩ : Str) ++ sign c) = ⟨(z.cps.toList.take 7 ++ [c]).toArray⟩ := SX.S_cat _ _
  rw [e]
  have hl := (nameB_out h).2.2
  refine name_of ?_ ?_ ?_
  · rw [List.length_append]; simp
  · rw [List.length_append, List.length_take]; simp; omega
  · rw [List.all_append]
    have : (z.cps.toList.take 7).all My.letter = true := List.all_eq_true.mpr fun x hx => (List.all_eq_true.mp hl) x (List.mem_of_mem_take hx)
    rw [this]
    simpa using hc
theorem offbox {b g l x : Addr} {n : Int} {H0 : Hp} (bx : BoxAt H0 b g l n) (hx : H0 x = none) : x ∉ [b, g] := by
  obtain ⟨gs, ls, cur, e1, e2, _⟩ := bx
  intro hq
  simp at hq
  rcases hq with rfl | rfl
  · rw [e1] at hx; cases hx
  · rw [e2] at hx; cases hx
theorem offbox3 {b g l x : Addr} {n : Int} {H0 : Hp} (bx : BoxAt H0 b g l n) (hx : H0 x = none) : x ∉ [b, g, l] := by
  obtain ⟨gs, ls, cur, e1, e2, e3, _⟩ := bx
  intro hq
  simp at hq
  rcases hq with rfl | rfl | rfl
  · rw [e1] at hx; cases hx
  · rw [e2] at hx; cases hx
  · rw [e3] at hx; cases hx
theorem box_put {H : Hp} {b g l x : Addr} {n : Int} {o : HO} (h : BoxAt H b g l n) (hx : x ∉ [b, g, l]) : BoxAt (upd H x o) b g l n := by
  obtain ⟨gs, ls, cur, e1, e2, e3, r⟩ := h
  simp at hx
  exact ⟨gs, ls, cur, by rw [upd_ne (Ne.symm hx.1)]; exact e1, by rw [upd_ne (Ne.symm hx.2.1)]; exact e2, by rw [upd_ne (Ne.symm hx.2.2)]; exact e3, r⟩
def sp_name : Sp := fun vs H Q _ => ∃ (b g l : Addr) (n : Int), vs = [.ref b] ∧ BoxAt H b g l n ∧ 0 ≤ n ∧ n < 9000000 ∧ ∀ (s : Str) (n' : Int) (H' : Hp), My.nameB s = true → n ≤ n' → n' ≤ n + 10 → BoxAt H' b g l n' → Keeps [b, g] H H' → Q (.str s) H'
theorem ok_name (T : Txt K mg a) : FnOk P w K mg base CX0 3 a.f_name a.d_name ["_law_box_here"] sp_name := by
  refine T.F_name.ok sc_name (fun vs H Q E h => ?_) (fun cdv A outer s H vs Q E hr h => ?_)
  · obtain ⟨b, g, l, n, rfl, _⟩ := h
    rfl
  · obtain ⟨b, g, l, n, rfl, bx, n0, n1, kk⟩ := h
    refine ⟨_, (pss_cons (ps_set (i := 1) sc_name.nd rfl (Or.inl rfl) (pe_op op_add pe_int (pe_call (ok_take T) (hr.mono (by decide)) rfl T.g_take T.k_take T.B_take .nil pass0 (pa_cons (pv 0) (pa_cons (pe_ix ix_list (pe_lst (pa_cons pe_int (pa_cons pe_int (pa_cons pe_int pa_nil)))) (pe_call (ok_take T) (hr.mono (by decide)) rfl T.g_take T.k_take T.B_take .nil pass0 (pa_cons (pv 0) (pa_cons pe_int pa_nil))) (fun _ _ => rfl)) pa_nil)))))
      (pss_one (ps_ret (pe_join pe_str (pe_lc (own := [("_law_k", 2)]) (g := gName 2) (tt := tYes) rfl sc_name.nd (pi_range1 (by rfl) T.z_range (pa_cons (pv 1) pa_nil)) (blkOk_by (own := [("_law_k", 2)]) (N := ["_law_box_here", "_law_many", "_law_k"]) (sc := defScope s_name) (by decide +kernel)) (fun _ _ _ _ _ => pg_name (i := 2) sc_name.nd rfl (Or.inl rfl)) (fun _ _ _ _ _ => pts_nil) (fun _ _ _ _ _ => by exact (pe_ix ix_str pe_str (pe_call (ok_take T) (hr.mono (by decide)) rfl T.g_take T.k_take T.B_take .nil pass0 (pa_cons (pv 0) (pa_cons pe_int pa_nil))) (fun _ _ => rfl)))))))), ?_⟩
    refine ⟨_, rfl, by show 3 ≤ sizeLine; decide, fun L hL => ?_⟩
    refine ⟨_, rfl, b, g, l, n, 3, rfl, bx.upd hL, n0, by omega, by decide, by decide, fun k H1 k0 k1 bx1 kp1 => ?_⟩
    have hL1 : H1 L = some (.lst [.int 1, .int 2, .int 8]) := kp1 _ _ upd_same (offbox bx hL)
    obtain ⟨z, hz, z0, z1⟩ : ∃ z : Int, atI [V.int 1, .int 2, .int 8] k = some (.int z) ∧ 0 < z ∧ z ≤ 8 := by
      have : k = 0 ∨ k = 1 ∨ k = 2 := by omega
      rcases this with rfl | rfl | rfl
      · exact ⟨_, rfl, by decide, by decide⟩
      · exact ⟨_, rfl, by decide, by decide⟩
      · exact ⟨_, rfl, by decide, by decide⟩
    have z2 : z.natAbs.log2 < 9000 := by
      have : z = 1 ∨ z = 2 ∨ z = 3 ∨ z = 4 ∨ z = 5 ∨ z = 6 ∨ z = 7 ∨ z = 8 := by omega
      rcases this with rfl | rfl | rfl | rfl | rfl | rfl | rfl | rfl <;> decide
    refine ⟨_, _, _, _, rfl, rfl, SqL.of hL1, hz, ?_⟩
    refine ⟨b, g, l, n + 1, z, rfl, bx1, by omega, by omega, z0, z2, fun m H2 m0 m1 bx2 kp2 => ?_⟩
    refine ⟨_, _, rfl, rfl, ?_⟩
    have k02 : Keeps [b, g] H H2 := (((Keeps.refl [b, g] H).upd (.inr hL)).trans kp1).trans kp2
    refine ⟨⟨_, rfl⟩, ?_⟩
    refine ⟨_, rfl, 1 + m, rfl, by omega, by omega, fun D hD => ?_⟩
    have hD0 : D ∉ [b, g] := offbox bx2 hD
    refine lc_range (lo := 0) (n := (1 + m).toNat) (fun i H3 => Blk (∃ cs : List Nat, cs.length = i ∧ cs.all My.letter = true ∧ H3 D = some (.lst ((cs.map sign).map V.str)) ∧ BoxAt H3 b g l (n + 2 + i) ∧ Keeps [b, g] H H3)) ?_ ?_ ?_
    · refine Blk.of ⟨[], rfl, rfl, upd_same, ?_, k02.upd ?_⟩
      · have e : n + 2 + ((0 : Nat) : Int) = n + 1 + 1 := by omega
        rw [e]
        exact bx2.upd hD
      · exact .inr (by
          rcases k02.fresh hD with q | q
          · exact absurd q hD0
          · exact q)
    · intro i H3 hi hB
      obtain ⟨cs, rfl, hl, h3, bx3, kp3⟩ := hB.out
      refine ⟨rfl, ?_⟩
      dsimp only [tYes]
      refine iteT ?_
      refine ⟨_, rfl, b, g, l, _, 26, rfl, bx3, by omega, by omega, by decide, by decide, fun j H4 j0 j1 bx4 kp4 => ?_⟩
      obtain ⟨c, hc, lc⟩ := abc_ix j0 j1
      refine ⟨_, _, _, rfl, rfl, abc_len, hc, ?_⟩
      have h4 := kp4 _ _ h3 hD0
      refine ⟨_, h4, ?_, Blk.of ⟨cs ++ [c], by rw [List.length_append]; rfl, by rw [List.all_append, hl]; simpa using lc, ?_, ?_, ?_⟩⟩
      · rw [List.length_map, List.length_map]
        exact small (by omega)
      · rw [upd_same, List.map_append, List.map_append]
        rfl
      · have e : n + 2 + ((cs.length + 1 : Nat) : Int) = n + 2 + (cs.length : Int) + 1 := by omega
        rw [e]
        exact box_put bx4 fun q => offbox3 bx2 hD q
      · refine (kp3.trans kp4).upd (.inr ?_)
        rcases k02.fresh hD with q | q
        · exact absurd q hD0
        · exact q
    · intro H3 hB
      obtain ⟨cs, hcl, hl, h3, bx3, kp3⟩ := hB.out
      refine ⟨_, D, cs.map sign, rfl, rfl, .inl (SqL.of h3), ?_, ?_⟩
      · have e : ((cs.map sign).map (·.length)).sum = cs.length := by
          rw [List.map_map]
          clear h3 hl hcl
          induction cs with
          | nil => rfl
          | cons x r ih => rw [List.map_cons, List.sum_cons, ih]; show 1 + r.length = _; rw [List.length_cons]; omega
        rw [e, List.length_map]
        have : ("" : Str).length = 0 := by decide +kernel
        rw [this]
        omega
      · rw [join_signs]
        exact kk _ _ _ (name_of (by omega) (by omega) hl) (by omega) (by omega) bx3 kp3

/-! ### _law_names -/
def sp_names : Sp := fun vs H Q _ => ∃ (b g l : Addr) (n m : Int), vs = [.ref b, .int m] ∧ BoxAt H b g l n ∧ 0 ≤ n ∧ n < 8000000 ∧ 0 ≤ m ∧ m ≤ 14 ∧
  ∀ (p : Addr) (ns : List Str) (n' : Int) (H' : Hp), H p = none → H' p = some (.lst (ns.map V.str)) → (ns.length : Int) = m → (∀ s, s ∈ ns → My.nameB s = true) → ns.Nodup → n ≤ n' → n' ≤ n + 12 * m → BoxAt H' b g l n' → Keeps [b, g] H H' → Q (.ref p) H'
theorem ok_names (T : Txt K mg a) : FnOk P w K mg base CX0 4 a.f_names a.d_names ["_law_box_here", "_law_many"] sp_names := by
  refine T.F_names.ok sc_names (fun vs H Q E h => ?_) (fun cdv A outer s H vs Q E hr h => ?_)
  · obtain ⟨b, g, l, n, m, rfl, _⟩ := h
    rfl
  · obtain ⟨b, g, l, n, m, rfl, bx, n0, n1, m0, m1, kk⟩ := h
    refine ⟨_, (pss_cons (ps_set (i := 2) sc_names.nd rfl (Or.inl rfl) (pe_lst pa_nil))
      (pss_cons (ps_for PassesOwn.never rfl (pi_range1 (by rfl) T.z_range (pa_cons (pv 1) pa_nil)) (pg_name (i := 3) sc_names.nd rfl (Or.inl rfl)) (pss_cons (ps_set (i := 4) sc_names.nd rfl (Or.inl rfl) (pe_call (ok_name T) (hr.mono (by decide)) rfl T.g_name T.k_name T.B_name .nil pass0 (pa_cons (pv 0) pa_nil)))
      (C8.pss_cut (ps_if (PW.pt (pw_and (pt_cmpR op_gt (pe_callB call_len_seq (by rfl) T.z_len (by decide +kernel) (pa_cons (pv 2) pa_nil)) pe_int (nomark _)) (pw_and1 (pt_cmpR op_eq (pe_call (ok_take T) (hr.mono (by decide)) rfl T.g_take T.k_take T.B_take .nil pass0 (pa_cons (pv 0) (pa_cons pe_int pa_nil))) pe_int (nomark _))))) (pss_one (ps_set (i := 4) sc_names.nd rfl (Or.inl rfl) (pe_op op_add_str (pe_slice sl_str (pe_ix ix_list (pv 2) (pe_un un_neg pe_int) (fun _ _ => rfl)) po_none (po_some pe_int)) (pe_ix ix_str pe_str (pe_call (ok_take T) (hr.mono (by decide)) rfl T.g_take T.k_take T.B_take .nil pass0 (pa_cons (pv 0) (pa_cons pe_int pa_nil))) (fun _ _ => rfl))))) pss_nil)
      (pss_cons (ps_for PassesOwn.never rfl (pi_list (pe_lst (pa_cons pe_str (pa_cons pe_str (pa_cons pe_str (pa_cons pe_str (pa_cons pe_str (pa_cons pe_str (pa_cons pe_str (pa_cons pe_str (pa_cons pe_str (pa_cons pe_str (pa_cons pe_str (pa_cons pe_str (pa_cons pe_str (pa_cons pe_str (pa_cons pe_str (pa_cons pe_str pa_nil)))))))))))))))))) (pg_name (i := 5) sc_names.nd rfl (Or.inl rfl)) (pss_one (ps_if (pt_cmpR op_in_seq (pv 4) (pv 2) (by rfl)) (pss_one (ps_set (i := 4) sc_names.nd rfl (Or.inl rfl) (pv 5))) pss_nil)))
      (pss_one (ps_expr (pe_bm PySem.F.plainAttrs_list PySem.F.slot_list_append PySem.F.type_list_append mt_append (pv 2) (pa_cons (pv 4) pa_nil))))))))
      (pss_one (ps_ret (pv 2))))), ?_⟩
    refine ⟨by show 0 ≤ sizeLine; decide, fun F hF => ?_⟩
    refine ⟨_, rfl, m, rfl, by omega, by omega, ?_⟩
    have hF0 : F ∉ [b, g, l] := offbox3 bx hF
    have hF2 : F ∉ [b, g] := offbox bx hF
    refine for_range (lo := 0) (n := m.toNat) (fun i σ H1 => Blk (∃ (v3 v4 v5 : Option V) (ns : List Str) (n1 : Int), σ = [some (.ref b), some (.int m), some (.ref F), v3, v4, v5] ∧ ns.length = i ∧ (∀ s, s ∈ ns → My.nameB s = true) ∧ ns.Nodup ∧ n ≤ n1 ∧ n1 ≤ n + 12 * i ∧
      H1 F = some (.lst (ns.map V.str)) ∧ BoxAt H1 b g l n1 ∧ Keeps [b, g] H H1)) ?_ ?_ ?_
    · exact Blk.of ⟨_, _, _, [], n, rfl, rfl, fun s hs => by simp at hs, List.nodup_nil, by omega, by omega, upd_same, bx.upd hF, (Keeps.refl [b, g] H).upd (.inr hF)⟩
    · intro i σ H1 hi hB
      obtain ⟨v3, v4, v5, ns, n2, rfl, rfl, hnm, hnd, hn1, hn2, h1, bx1, kp1⟩ := hB.out
      refine ⟨_, rfl, b, g, l, n2, rfl, bx1, by omega, by omega, fun x n3 H2 nx hn3 hn4 bx2 kp2 => ?_⟩
      have h2 := kp2 _ _ h1 hF2
      refine ⟨fun σ H3 => Blk (∃ (x : Str) (n4 : Int), σ = [some (.ref b), some (.int m), some (.ref F), some (.int (0 + (ns.length : Nat))), some (.str x), v5] ∧ My.nameB x = true ∧ n3 ≤ n4 ∧ n4 ≤ n3 + 2 ∧ H3 F = some (.lst (ns.map V.str)) ∧ BoxAt H3 b g l n4 ∧ Keeps [b, g] H H3), ?_, ?_⟩
      · refine ⟨_, rfl, _, _, rfl, .inl (SqL.of h2), _, _, rfl, rfl, _, rfl, ?_⟩
        refine iteD (fun hp => ?_) (fun hp => ?_)
        · refine ⟨_, rfl, b, g, l, n3, 3, rfl, bx2, by omega, by omega, by decide, by decide, fun k H3 k0 k1 bx3 kp3 => ?_⟩
          have h3 := kp3 _ _ h2 hF2
          refine ⟨rfl, _, rfl, ?_⟩
          refine iteB (fun hk => ?_) (fun hk => ?_)
          · have hne : ns ≠ [] := fun e => by
              subst e
              simp at hp
            obtain ⟨l0, y, rfl⟩ : ∃ l0 y, ns = l0 ++ [y] := ⟨ns.dropLast, ns.getLast hne, (List.dropLast_concat_getLast hne).symm⟩
            have hy := hnm y (by simp)
            refine ⟨_, rfl, _, rfl, _, _, _, _, rfl, rfl, SqL.of h3, (by rw [List.map_append]; exact atI_last _ _), ?_⟩
            refine ⟨_, rfl, _, rfl, name_line hy, ?_⟩
            refine ⟨_, rfl, b, g, l, n3 + 1, 26, rfl, bx3, by omega, by omega, by decide, by decide, fun j H4 j0 j1 bx4 kp4 => ?_⟩
            obtain ⟨c, hc, lc⟩ := abc_ix j0 j1
            have h4 := kp4 _ _ h3 hF2
            refine ⟨_, _, _, rfl, rfl, abc_len, hc, ?_⟩
            refine ⟨_, _, rfl, rfl, ?_, ?_⟩
            · have e1 : (cutS y none (some 7)).length ≤ 7 := by
                rw [cut7]
                show ((y.cps.toList.take 7).toArray).size ≤ 7
                simp
                omega
              have e2 : (⟨#[c]⟩ : Str).length = 1 := rfl
              rw [e2, sizeLine_eq]
              omega
            · exact Blk.of ⟨_, _, rfl, name_cut hy lc, by omega, by omega, h4, bx4, ((kp1.trans kp2).trans kp3).trans kp4⟩
          · exact Blk.of ⟨x, _, rfl, nx, by omega, by omega, h3, bx3, (kp1.trans kp2).trans kp3⟩
        · refine iteF ?_
          exact Blk.of ⟨x, n3, rfl, nx, by omega, by omega, h2, bx2, kp1.trans kp2⟩
      · rintro σ H3 hB
        obtain ⟨x, n4, rfl, nx, hn5, hn6, h3, bx3, kp3⟩ := hB.out
        refine ⟨by show 16 ≤ sizeLine; decide, fun L hL => ?_⟩
        have nFL : F ≠ L := ne_of_none h3 hL
        refine ⟨L, rfl, ⟨_, SqL.of upd_same⟩, ?_⟩
        refine for_list (K := K) (a := L) (xs := My.spares.map V.str) (fun i σ H4 => Blk (∃ (v5 : Option V) (x : Str), σ = [some (.ref b), some (.int m), some (.ref F), some (.int (0 + (ns.length : Nat))), some (.str x), v5] ∧ My.Seek ns i x ∧ H4 = upd H3 L (.lst (My.spares.map V.str)))) ?_ ?_ ?_ ?_
        · exact Blk.of ⟨_, x, rfl, My.Seek.first nx, rfl⟩
        · intro i σ H4 _ hB
          obtain ⟨v5, x, rfl, _, rfl⟩ := hB.out
          exact SqL.of upd_same
        · intro i y σ H4 hy hB
          obtain ⟨v5, x, rfl, sk, rfl⟩ := hB.out
          obtain ⟨s, hs, rfl⟩ := strs_get hy
          refine ⟨_, rfl, _, rfl, F, _, rfl, .inl (SqL.of ((upd_ne nFL).trans h3)), rfl, flat_str _, _, rfl, ?_⟩
          rw [if_neg Bool.false_ne_true, inV_str]
          refine iteD (fun hm => ?_) (fun hm => ?_)
          · exact ⟨_, rfl, Blk.of ⟨_, s, rfl, sk.next hm hs, rfl⟩⟩
          · exact Blk.of ⟨_, x, rfl, sk.keep hm, rfl⟩
        · intro σ H4 hB
          obtain ⟨v5, x, rfl, sk, rfl⟩ := hB.out
          obtain ⟨nx2, nin⟩ := sk.done (by omega)
          refine ⟨_, rfl, .inl ⟨rfl, _, SqL.of ((upd_ne nFL).trans h3)⟩, _, rfl, F, _, _, rfl, rfl, (upd_ne nFL).trans h3, by rw [List.length_map]; exact small (by omega), ?_⟩
          refine Blk.of ⟨_, _, _, ns ++ [x], n4, rfl, by rw [List.length_append]; rfl, ?_, ?_, by omega, by omega, ?_, ?_, ?_⟩
          · intro s hs
            rcases List.mem_append.mp hs with e | e
            · exact hnm s e
            · simp at e; subst e; exact nx2
          · rw [List.nodup_append]
            exact ⟨hnd, by simp, fun a ha b hb => by simp at hb; subst hb; exact fun e => nin (e ▸ ha)⟩
          · rw [upd_same, List.map_append]; rfl
          · exact box_put (bx3.upd hL) hF0
          · refine (kp3.upd (.inr ?_)).upd (.inr hF)
            rcases kp3.fresh hL with q | q
            · exact absurd q (offbox bx3 hL)
            · exact q
    · intro σ H1 hB
      obtain ⟨v3, v4, v5, ns, n2, rfl, hl, hnm, hnd, hn1, hn2, h1, bx1, kp1⟩ := hB.out
      exact ⟨_, rfl, kk F ns n2 H1 hF h1 (by omega) hnm hnd hn1 (by omega) bx1 kp1⟩

/-! ### pairs of words -/
def prO (p : My.Pr) : HO := .tup [.str p.1, .str p.2.1, .bl p.2.2]
/-- at as stand the objects of xs -/
structure Objs {α : Type} (H : Hp) (as : List Addr) (f : α → HO) (xs : List α) : Prop where
  len : as.length = xs.length
  at_ : ∀ (i : Nat) (h : Addr) (x : α), as[i]? = some h → xs[i]? = some x → H h = some (f x)
theorem Objs.keep {α : Type} {H H' : Hp} {R as : List Addr} {f : α → HO} {xs : List α} (o : Objs H as f xs) (k : Keeps R H H') (d : ∀ x, x ∈ R → x ∉ as) : Objs H' as f xs :=
  ⟨o.len, fun i h x e1 e2 => k _ _ (o.at_ i h x e1 e2) fun q => d h q (List.mem_of_getElem? e1)⟩
theorem Objs.same {α : Type} {H H' : Hp} {as : List Addr} {f : α → HO} {xs : List α} (o : Objs H as f xs) (k : Same H H') : Objs H' as f xs :=
  ⟨o.len, fun i h x e1 e2 => k _ _ (o.at_ i h x e1 e2)⟩
theorem Objs.get {α : Type} {H : Hp} {as : List Addr} {f : α → HO} {xs : List α} (o : Objs H as f xs) {i : Nat} {h : Addr} (e : as[i]? = some h) : ∃ x, xs[i]? = some x ∧ H h = some (f x) := by
  have hl := get_lt e
  rw [o.len] at hl
  have e2 : xs[i]? = some xs[i] := List.getElem?_eq_getElem hl
  exact ⟨_, e2, o.at_ i h _ e e2⟩
theorem Objs.nil {α : Type} {H : Hp} {f : α → HO} : Objs H [] f [] := ⟨rfl, fun i h x e => by simp at e⟩
theorem Objs.snoc {α : Type} {H : Hp} {as : List Addr} {f : α → HO} {xs : List α} (o : Objs H as f xs) {h : Addr} {x : α} (e : H h = some (f x)) : Objs H (as ++ [h]) f (xs ++ [x]) := by
  refine ⟨by rw [List.length_append, List.length_append, o.len]; rfl, fun i h' x' e1 e2 => ?_⟩
  by_cases hi : i < as.length
  · rw [List.getElem?_append_left hi] at e1
    rw [List.getElem?_append_left (by rw [← o.len]; exact hi)] at e2
    exact o.at_ i h' x' e1 e2
  · have hl := get_lt e1
    rw [List.length_append, List.length_singleton] at hl
    obtain rfl : i = as.length := by omega
    have e3 : as.length = xs.length := o.len
    simp at e1
    rw [e3] at e2
    simp at e2
    subst e1 e2
    exact e
theorem Objs.take {α : Type} {H : Hp} {as : List Addr} {f : α → HO} {xs : List α} (o : Objs H as f xs) (n : Nat) : Objs H (as.take n) f (xs.take n) := by
  refine ⟨by rw [List.length_take, List.length_take, o.len], fun i h x e1 e2 => ?_⟩
  by_cases hi : i < n
  · rw [List.getElem?_take, if_pos hi] at e1 e2
    exact o.at_ i h x e1 e2
  · rw [List.getElem?_take, if_neg hi] at e1
    cases e1
def sp_pairs : Sp := fun vs H Q _ => ∃ (b g l : Addr) (n m : Int), vs = [.ref b, .int m] ∧ BoxAt H b g l n ∧ 0 ≤ n ∧ n < 7000000 ∧ 0 ≤ m ∧ m ≤ 6 ∧
  ∀ (p : Addr) (as : List Addr) (ps : List My.Pr) (n' : Int) (H' : Hp), H p = none → H' p = some (.lst (as.map V.ref)) → Objs H' as prO ps → (∀ h, h ∈ as → H h = none) → My.PairsOk ps → n ≤ n' → n' ≤ n + 200 → BoxAt H' b g l n' → Keeps [b, g] H H' → Q (.ref p) H'
theorem cutV_tail (xs : List V) : cutV xs (some 1) none = xs.drop 1 := by
  unfold cutV
  have e0 : HT.sIx xs.length 0 (some 1) = min 1 xs.length := HT.sIx_nat _ _ 1
  have e1 : HT.sIx xs.length xs.length none = xs.length := rfl
  rw [e0, e1]
  cases xs with
  | nil => rfl
  | cons x r =>
    have : min 1 (x :: r).length = 1 := by rw [List.length_cons]; omega
    rw [this]
    refine List.take_of_length_le ?_
    rw [List.length_drop]
    exact Nat.le_refl _
theorem cutV_head (xs : List V) : cutV xs none (some 1) = xs.take 1 := by
  unfold cutV
  have e0 : HT.sIx xs.length 0 none = 0 := rfl
  have e1 : HT.sIx xs.length xs.length (some 1) = min 1 xs.length := HT.sIx_nat _ _ 1
  rw [e0, e1, List.drop_zero, Nat.sub_zero]
  cases xs with
  | nil => rfl
  | cons x r =>
    have : min 1 (x :: r).length = 1 := by rw [List.length_cons]; omega
    rw [this]
theorem ok_pairs (T : Txt K mg a) : FnOk P w K mg base CX0 5 a.f_pairs a.d_pairs ["_law_box_here", "_law_most"] sp_pairs := by
  refine T.F_pairs.ok sc_pairs (fun vs H Q E h => ?_) (fun cdv A outer s H vs Q E hr h => ?_)
  · obtain ⟨b, g, l, n, m, rfl, _⟩ := h
    rfl
  · obtain ⟨b, g, l, n, m, rfl, bx, n0, n1, m0, m1, kk⟩ := h
    refine ⟨_, (pss_cons (ps_set (i := 2) sc_pairs.nd rfl (Or.inl rfl) (pe_call (ok_names T) (hr.mono (by decide)) rfl T.g_names T.k_names T.B_names .nil pass0 (pa_cons (pv 0) (pa_cons (pe_call (ok_take T) (hr.mono (by decide)) rfl T.g_take T.k_take T.B_take .nil pass0 (pa_cons (pv 0) (pa_cons (pe_op op_add (pv 1) pe_int) pa_nil))) pa_nil))))
      (pss_cons (ps_set (i := 3) sc_pairs.nd rfl (Or.inl rfl) (pe_call (ok_names T) (hr.mono (by decide)) rfl T.g_names T.k_names T.B_names .nil pass0 (pa_cons (pv 0) (pa_cons (pe_callB call_len_seq (by rfl) T.z_len (by decide +kernel) (pa_cons (pv 2) pa_nil)) pa_nil))))
      (C8.pss_cut (ps_if (pt_cmpR op_eq (pe_call (ok_take T) (hr.mono (by decide)) rfl T.g_take T.k_take T.B_take .nil pass0 (pa_cons (pv 0) (pa_cons pe_int pa_nil))) pe_int (nomark _)) (pss_one (ps_set (i := 3) sc_pairs.nd rfl (Or.inl rfl) (pe_op op_cat (pe_slice sl_list (pv 2) (po_some pe_int) po_none) (pe_slice sl_list (pv 2) po_none (po_some pe_int))))) pss_nil)
      (pss_one (ps_ret (pe_lc (own := [("_law_near", 4), ("_law_far", 5)]) (g := (gTup K 2 (gCons (gName 4) (gCons (gName 5) gNil)))) (tt := tYes) rfl sc_pairs.nd (pi_zip (by rfl) T.z_zip (pa_cons (pv 2) (pa_cons (pv 3) pa_nil))) (blkOk_by (own := [("_law_near", 4), ("_law_far", 5)]) (N := ["_law_box_here", "_law_most", "_law_nears", "_law_fars", "_law_near", "_law_far"]) (sc := defScope s_pairs) (by decide +kernel)) (fun _ _ _ _ _ => by exact pg_tup rfl (pgs_cons (pg_name (i := 4) sc_pairs.nd rfl (Or.inl rfl)) (pgs_cons (pg_name (i := 5) sc_pairs.nd rfl (Or.inl rfl)) pgs_nil))) (fun _ _ _ _ _ => pts_nil) (fun _ _ _ _ _ => by exact (pe_tup (pa_cons (pv 4) (pa_cons (pv 5) (pa_cons (pe_cmpR op_eq (pe_call (ok_take T) (hr.mono (by decide)) rfl T.g_take T.k_take T.B_take .nil pass0 (pa_cons (pv 0) (pa_cons pe_int pa_nil))) pe_int (nomark _)) pa_nil))))))))))), ?_⟩
    refine ⟨_, rfl, _, rfl, _, rfl, _, _, rfl, rfl, ?_⟩
    have lm : (m + 1).natAbs.log2 < 9000 := by
      have : m = 0 ∨ m = 1 ∨ m = 2 ∨ m = 3 ∨ m = 4 ∨ m = 5 ∨ m = 6 := by omega
      rcases this with rfl | rfl | rfl | rfl | rfl | rfl | rfl <;> decide
    refine ⟨b, g, l, n, m + 1, rfl, bx, n0, by omega, by omega, lm, fun k H1 k0 k1 bx1 kp1 => ?_⟩
    refine ⟨b, g, l, n + 1, k, rfl, bx1, by omega, by omega, k0, by omega, fun N ns n2 H2 hN hN2 hl2 nm2 nd2 a2 b2 bx2 kp2 => ?_⟩
    refine ⟨_, rfl, _, rfl, N, _, rfl, .inl (SqL.of hN2), ?_⟩
    refine ⟨b, g, l, n2, _, rfl, bx2, by omega, by omega, by omega, by rw [List.length_map]; omega, fun F fs n3 H3 hF hF3 hl3 nm3 nd3 a3 b3 bx3 kp3 => ?_⟩
    rw [List.length_map] at hl3 b3
    have hN3 := kp3 _ _ hN2 (offbox bx1 hN ∘ fun q => q)
    have k03 := (kp1.trans kp2).trans kp3
    have hl32 : fs.length = ns.length := by omega
    have frN : H N = none := by
      rcases kp1.fresh hN with q | q
      · exact absurd q (offbox bx1 hN)
      · exact q
    have frF : H F = none := by
      rcases (kp1.trans kp2).fresh hF with q | q
      · exact absurd q (offbox bx2 hF)
      · exact q
    refine ⟨fun σ H4 => Blk (∃ (F : Addr) (fs : List Str) (n4 : Int), σ = [some (.ref b), some (.int m), some (.ref N), some (.ref F), none, none] ∧ fs.length = ns.length ∧ (∀ s, s ∈ fs → My.nameB s = true) ∧ fs.Nodup ∧ H4 N = some (.lst (ns.map V.str)) ∧ H4 F = some (.lst (fs.map V.str)) ∧ F ∉ [b, g] ∧
      n3 ≤ n4 ∧ n4 ≤ n3 + 1 ∧ BoxAt H4 b g l n4 ∧ Keeps [b, g] H H4), ?_, ?_⟩
    · refine ⟨_, rfl, b, g, l, n3, 3, rfl, bx3, by omega, by omega, by decide, by decide, fun k3 H4 k30 k31 bx4 kp4 => ?_⟩
      have hN4 := kp4 _ _ hN3 (offbox bx1 hN)
      have hF4 := kp4 _ _ hF3 (offbox bx2 hF)
      refine ⟨rfl, _, rfl, ?_⟩
      refine iteB (fun hk => ?_) (fun hk => ?_)
      · refine ⟨_, rfl, _, rfl, N, _, rfl, SqL.of hN4, fun p1 hp1 => ?_⟩
        have np1 : N ≠ p1 := ne_of_none hN4 hp1
        refine ⟨_, rfl, _, rfl, N, _, rfl, SqL.of ((upd_ne np1).trans hN4), fun p2 hp2 => ?_⟩
        have np2 : N ≠ p2 := ne_of_none ((upd_ne np1).trans hN4) hp2
        have n12 : p1 ≠ p2 := ne_of_none upd_same hp2
        have hp20 : H4 p2 = none := (upd_ne n12.symm).symm.trans hp2
        refine ⟨p1, p2, _, _, rfl, rfl, (upd_ne n12).trans upd_same, upd_same, ?_, fun p3 hp3 => ?_⟩
        · rw [cutV_tail, cutV_head, List.length_drop, List.length_take, List.length_map]
          exact Nat.le_of_lt (small (by omega))
        have n23 : p2 ≠ p3 := ne_of_none upd_same hp3
        have hp31 := (upd_ne n23.symm).symm.trans hp3
        have n13 : p1 ≠ p3 := ne_of_none upd_same hp31
        have hp30 : H4 p3 = none := (upd_ne n13.symm).symm.trans hp31
        have nN3 : N ≠ p3 := ne_of_none hN4 hp30
        refine Blk.of ⟨p3, ns.drop 1 ++ ns.take 1, n3 + 1, rfl, My.rot_len ns, ?_, My.rot_nodup nd2, ?_, ?_, ?_, by omega, by omega, ?_, ?_⟩
        · intro s hs
          rcases List.mem_append.mp hs with e | e
          · exact nm2 s (List.mem_of_mem_drop e)
          · exact nm2 s (List.mem_of_mem_take e)
        · rw [upd_ne nN3, upd_ne np2, upd_ne np1]
          exact hN4
        · rw [upd_same, cutV_tail, cutV_head, List.map_append, List.map_drop, List.map_take]
        · exact offbox bx4 hp30
        · exact ((bx4.upd hp1).upd hp2).upd hp3
        · have k04 := k03.trans kp4
          have fr : ∀ {x : Addr}, H4 x = none → x ∈ [b, g] ∨ H x = none := fun hx => k04.fresh hx
          exact ((k04.upd (fr hp1)).upd (fr hp20)).upd (fr hp30)
      · exact Blk.of ⟨F, fs, n3 + 1, rfl, hl32, nm3, nd3, hN4, hF4, offbox bx2 hF, by omega, by omega, bx4, k03.trans kp4⟩
    · rintro σ H4 hB
      obtain ⟨F, fs, n4, rfl, hlf, nmf, ndf, hN4, hF4, oF, a4, b4, bx4, k04⟩ := hB.out
      have frN4 : H4 N = some (.lst (ns.map V.str)) := hN4
      refine ⟨_, rfl, _, rfl, N, F, _, _, rfl, SqL.of hN4, SqL.of hF4, fun D hD => ?_⟩
      have hDo : D ∉ [b, g] := offbox bx4 hD
      have hDo3 : D ∉ [b, g, l] := offbox3 bx4 hD
      have nND : N ≠ D := ne_of_none hN4 hD
      have nFD : F ≠ D := ne_of_none hF4 hD
      have frD : H D = none := by
        rcases k04.fresh hD with q | q
        · exact absurd q hDo
        · exact q
      have oN : N ∉ [b, g] := fun q => by
        obtain ⟨gs, ls, cur, e1, e2, _⟩ := bx
        simp at q
        rcases q with rfl | rfl
        · rw [e1] at frN; cases frN
        · rw [e2] at frN; cases frN
      refine lc_it (walk_zip (K := K) (a := N) (b := F) (xs := ns.map V.str) (ys := fs.map V.str) (n := ns.length) (by rw [List.length_map, List.length_map]; omega))
        (fun i H5 => Blk (∃ (as : List Addr) (ps : List My.Pr), ps.length = i ∧ (∀ (j : Nat) (q : My.Pr), ps[j]? = some q → ns[j]? = some q.1 ∧ fs[j]? = some q.2.1) ∧ H5 D = some (.lst (as.map V.ref)) ∧ Objs H5 as prO ps ∧ (∀ h, h ∈ as → H h = none ∧ h ∉ [b, g] ∧ h ≠ D) ∧ H5 N = some (.lst (ns.map V.str)) ∧ H5 F = some (.lst (fs.map V.str)) ∧ BoxAt H5 b g l (n4 + i) ∧ Keeps [b, g] H H5)) ?_ ?_ ?_ ?_
      · refine Blk.of ⟨[], [], rfl, fun j q e => by simp at e, upd_same, Objs.nil, fun h e => by simp at e, (upd_ne nND).trans hN4, (upd_ne nFD).trans hF4, ?_, k04.upd (.inr frD)⟩
        have e : n4 + ((0 : Nat) : Int) = n4 := by omega
        rw [e]
        exact bx4.upd hD
      · intro i H5 _ hB
        obtain ⟨as, ps, _, _, _, _, _, e1, e2, _⟩ := hB.out
        exact ⟨SqL.of e1, SqL.of e2⟩
      · intro i x H5 H6 hi hB hy
        obtain ⟨as, ps, rfl, hps, h5, ob5, fr5, hN5, hF5, bx5, k05⟩ := hB.out
        obtain ⟨Tp, u, v, rfl, hT, rfl, hu, hv⟩ := hy
        obtain ⟨s1, hs1, rfl⟩ := strs_get hu
        obtain ⟨s2, hs2, rfl⟩ := strs_get hv
        have sT : Same H5 (upd H5 Tp (.tup [.str s1, .str s2])) := (Same.refl H5).upd hT
        refine ⟨Tp, _, rfl, SqT.of upd_same, rfl, _, _, rfl, _, _, rfl, rfl, ?_⟩
        refine ⟨rfl, ?_⟩
        dsimp only [tYes]
        refine iteT ?_
        refine ⟨_, rfl, _, rfl, _, rfl, b, g, l, _, 2, rfl, bx5.same sT, by omega, by omega, by decide, by decide, fun k H7 k0 k1 bx7 kp7 => ?_⟩
        refine ⟨rfl, by show 3 ≤ sizeLine; decide, fun t ht => ?_⟩
        have kT : Keeps [b, g] H5 H7 := (show Keeps [b, g] H5 _ from fun c o e _ => sT c o e).trans kp7
        have h7 := kT _ _ h5 hDo
        have hN7 := kT _ _ hN5 (offbox bx1 hN)
        have nDt : D ≠ t := ne_of_none h7 ht
        have nNt : N ≠ t := ne_of_none hN7 ht
        have hF7 := kT _ _ hF5 oF
        have nFt : F ≠ t := ne_of_none hF7 ht
        have ot := offbox bx7 ht
        have ht5 : H5 t = none := by
          rcases kT.fresh ht with q | q
          · exact absurd q ot
          · exact q
        have ht0 : H t = none := by
          rcases k05.fresh ht5 with q | q
          · exact absurd q ot
          · exact q
        have k58 : ∀ o1 o2, Keeps [b, g, D] H5 (upd (upd H7 t o1) D o2) := fun o1 o2 => ((kT.mono (fun x hx => by simp at hx ⊢; rcases hx with e | e <;> simp [e])).upd (.inr ht5)).upd (.inl (by simp))
        have asl : as.length = ps.length := ob5.len
        refine ⟨_, (upd_ne nDt).trans h7, by rw [List.length_map]; exact small (by omega), Blk.of ⟨as ++ [t], ps ++ [(s1, s2, decide (V.int k = V.int 1))], by rw [List.length_append]; rfl, ?_, ?_, ?_, ?_, ?_, ?_, ?_, ?_⟩⟩
        · intro j q e
          by_cases hj : j < ps.length
          · rw [List.getElem?_append_left hj] at e
            exact hps j q e
          · have hl := get_lt e
            rw [List.length_append, List.length_singleton] at hl
            obtain rfl : j = ps.length := by omega
            simp at e
            subst e
            exact ⟨hs1, hs2⟩
        · rw [upd_same, List.map_append]; rfl
        · refine Objs.snoc (ob5.keep (k58 _ _) fun x hx hm => ?_) ?_
          · have f := fr5 x hm
            simp at hx
            rcases hx with e | e | e
            · exact f.2.1 (by simp [e])
            · exact f.2.1 (by simp [e])
            · exact f.2.2 e
          · rw [upd_ne nDt.symm, upd_same]
            rfl
        · intro h hh
          rcases List.mem_append.mp hh with e | e
          · exact fr5 h e
          · simp at e
            subst e
            exact ⟨ht0, ot, nDt.symm⟩
        · rw [upd_ne nND, upd_ne nNt]; exact hN7
        · rw [upd_ne nFD, upd_ne nFt]; exact hF7
        · have e : n4 + ((ps.length + 1 : Nat) : Int) = n4 + (ps.length : Int) + 1 := by omega
          rw [e]
          exact box_put (bx7.upd ht) hDo3
        · exact ((k05.trans kT).upd (.inr ht0)).upd (.inr frD)
      · intro H5 hB
        obtain ⟨as, ps, hpl, hps, h5, ob5, fr5, hN5, hF5, bx5, k05⟩ := hB.out
        have e1 : ps.map (·.1) = ns := List.ext_getElem? fun j => by
          rw [List.getElem?_map]
          cases e : ps[j]? with
          | none =>
            have := List.getElem?_eq_none_iff.mp e
            rw [List.getElem?_eq_none (by omega)]
            rfl
          | some q => rw [(hps j q e).1]; rfl
        have e2 : ps.map (·.2.1) = fs := List.ext_getElem? fun j => by
          rw [List.getElem?_map]
          cases e : ps[j]? with
          | none =>
            have := List.getElem?_eq_none_iff.mp e
            rw [List.getElem?_eq_none (by omega)]
            rfl
          | some q => rw [(hps j q e).2]; rfl
        have hnl : ns.length ≤ 6 := by omega
        refine kk D as ps (n4 + (ns.length : Int)) H5 frD h5 ob5 (fun h hh => (fr5 h hh).1) ⟨by omega, fun q hq => ⟨nm2 _ ?_, nmf _ ?_⟩, by rw [e1]; exact nd2, by rw [e2]; exact ndf⟩ (by omega) (by omega) bx5 k05
        · rw [← e1]; exact List.mem_map.mpr ⟨q, hq, rfl⟩
        · rw [← e2]; exact List.mem_map.mpr ⟨q, hq, rfl⟩

/-! ### Pacts: made of pairs that fit -/
def sp_is_pair : Sp := fun vs H Q _ => ∃ (h : Addr) (q : My.Pr), vs = [.ref h] ∧ H h = some (prO q) ∧ q.1.length ≤ sizeLine ∧ q.2.1.length ≤ sizeLine ∧ ∀ H', Same H H' → Q (.bl (My.nameB q.1 && My.nameB q.2.1)) H'
theorem ok_p_is_pair (T : Txt K mg a) : FnOk P w K mg base CX0 2 a.f_p_is_pair a.d_p_is_pair ["pair"] sp_is_pair := by
  refine T.F_p_is_pair.ok sc_p_is_pair (fun vs H Q E h => ?_) (fun cdv A outer s H vs Q E hr h => ?_)
  · obtain ⟨h, q, rfl, _⟩ := h
    rfl
  · obtain ⟨h, ⟨q1, q2, q3⟩, rfl, e, z1, z2, kk⟩ := h
    refine ⟨_, (pss_cons (ps_if (PW.pt (pw_or (pt_not (pt_val (pe_callB call_isi (by rfl) T.z_isinstance (by decide +kernel) (pa_cons (pv 0) (pa_cons (pe_bltn (v := .ty "tuple") (by rfl) T.z_tuple (by decide +kernel) rfl) pa_nil))))) (pw_or1 (pt_cmpR op_ne (pe_callB call_len_seq (by rfl) T.z_len (by decide +kernel) (pa_cons (pv 0) pa_nil)) pe_int (nomark _))))) (pss_one (ps_ret pe_bl)) pss_nil)
      (pss_cons (ps_asg (pv 0) (pg_tup (by rfl) (pgs_cons (pg_name (i := 1) sc_p_is_pair.nd rfl (Or.inl rfl)) (pgs_cons (pg_name (i := 2) sc_p_is_pair.nd rfl (Or.inl rfl)) (pgs_cons (pg_name (i := 3) sc_p_is_pair.nd rfl (Or.inl rfl)) pgs_nil)))))
      (pss_one (ps_ret (pe_and (pe_call (ok_is_name T) (hr.mono (by decide)) rfl T.g_is_name T.k_is_name T.B_is_name .nil pass0 (pa_cons (pv 1) pa_nil)) (pe_and (pe_call (ok_is_name T) (hr.mono (by decide)) rfl T.g_is_name T.k_is_name T.B_is_name .nil pass0 (pa_cons (pv 2) pa_nil)) (pe_one (pe_callB call_isi (by rfl) T.z_isinstance (by decide +kernel) (pa_cons (pv 3) (pa_cons (pe_bltn (v := .ty "bool") (by rfl) T.z_bool (by decide +kernel) rfl) pa_nil)))))))))), ?_⟩
    have e' : H h = some (.tup [.str q1, .str q2, .bl q3]) := e
    refine ⟨_, rfl, _, _, _, _, true, rfl, .ty "tuple", .base (.tup e'), kit_ty (by decide +kernel), true, rfl, ?_⟩
    refine iteF ?_
    refine ⟨_, rfl, _, _, rfl, .inr (SqT.of e'), rfl, _, rfl, ?_⟩
    refine iteNS rfl ?_
    refine ⟨_, rfl, h, _, rfl, SqT.of e', rfl, ?_⟩
    refine ⟨_, _, rfl, _, _, rfl, _, _, rfl, rfl, ?_⟩
    refine ⟨_, rfl, q1, rfl, z1, fun H1 s1 => ⟨_, rfl, ?_⟩⟩
    refine iteB (fun h1 => ?_) (fun h1 => ?_)
    · refine ⟨_, rfl, q2, rfl, z2, fun H2 s2 => ⟨_, rfl, ?_⟩⟩
      refine iteB (fun h2 => ?_) (fun h2 => ?_)
      · refine ⟨_, rfl, _, _, _, _, true, rfl, .ty "bool", .base (.bl q3), kit_ty (by decide +kernel), ?_⟩
        have e3 : (My.nameB q1 && My.nameB q2) = true := by rw [h1, h2]; rfl
        exact e3 ▸ kk H2 (s1.trans s2)
      · have e3 : (My.nameB q1 && My.nameB q2) = false := by rw [h1, h2]; rfl
        exact e3 ▸ kk H2 (s1.trans s2)
    · have e3 : (My.nameB q1 && My.nameB q2) = false := by rw [h1]; rfl
      exact e3 ▸ kk H1 s1
def fitsB (q : My.Pr) (ps : List My.Pr) : Bool := decide (ps.length < 6) && !decide (q.1 ∈ ps.map (·.1)) && !decide (q.2.1 ∈ ps.map (·.2.1))
def sp_fits_pairs : Sp := fun vs H Q _ => ∃ (h l : Addr) (q : My.Pr) (as : List Addr) (ps : List My.Pr), vs = [.ref h, .ref l] ∧ H h = some (prO q) ∧ H l = some (.lst (as.map V.ref)) ∧ Objs H as prO ps ∧ ps.length ≤ 10000 ∧ ∀ H', Same H H' → Q (.bl (fitsB q ps)) H'
theorem ok_p_fits_pairs (T : Txt K mg a) : FnOk P w K mg base CX0 1 a.f_p_fits_pairs a.d_p_fits_pairs ["pair", "ahead"] sp_fits_pairs := by
  refine T.F_p_fits_pairs.ok sc_p_fits_pairs (fun vs H Q E h => ?_) (fun cdv A outer s H vs Q E hr h => ?_)
  · obtain ⟨h, l, q, as, ps, rfl, _⟩ := h
    rfl
  · obtain ⟨h, l, ⟨q1, q2, q3⟩, as, ps, rfl, e, el, ob, hz, kk⟩ := h
    have e' : H h = some (.tup [.str q1, .str q2, .bl q3]) := e
    have asl := ob.len
    refine ⟨_, (pss_cons (ps_setLc (i := 2) (own := [("one", 4)]) (g := gName 4) (te := tOp (rIxT K) (tVar 4) (tC (.int 0))) (tt := tYes) rfl sc_p_fits_pairs.nd rfl rfl (sw_true rfl rfl rfl (by decide +kernel)) (pi_list (pv 1)) (blkOk_by (own := [("one", 4)]) (N := ["pair", "ahead", "nears", "fars", "one"]) (sc := defScope s_p_fits_pairs) (by decide +kernel)) (fun _ _ _ _ _ => pg_name (i := 4) sc_p_fits_pairs.nd rfl (Or.inl rfl)) (fun _ _ _ _ _ => pts_nil) (fun _ _ _ _ _ => by exact (pe_ix ix_tup (pv 4) pe_int (fun _ _ => rfl))))
      (pss_cons (ps_setLc (i := 3) (own := [("one", 4)]) (g := gName 4) (te := tOp (rIxT K) (tVar 4) (tC (.int 1))) (tt := tYes) rfl sc_p_fits_pairs.nd rfl rfl (sw_true rfl rfl rfl (by decide +kernel)) (pi_list (pv 1)) (blkOk_by (own := [("one", 4)]) (N := ["pair", "ahead", "nears", "fars", "one"]) (sc := defScope s_p_fits_pairs) (by decide +kernel)) (fun _ _ _ _ _ => pg_name (i := 4) sc_p_fits_pairs.nd rfl (Or.inl rfl)) (fun _ _ _ _ _ => pts_nil) (fun _ _ _ _ _ => by exact (pe_ix ix_tup (pv 4) pe_int (fun _ _ => rfl))))
      (pss_one (ps_ret (pe_and (pe_cmpR op_lt (pe_callB call_len_seq (by rfl) T.z_len (by decide +kernel) (pa_cons (pv 1) pa_nil)) (pe_glob (v := .int 6) rfl T.v_MOST_PAIRS ⟨_, rfl⟩) (nomark _)) (pe_and (pe_cmpR op_notIn_seq (pe_ix ix_tup (pv 0) pe_int (fun _ _ => rfl)) (pv 2) (by rfl)) (pe_one (pe_cmpR op_notIn_seq (pe_ix ix_tup (pv 0) pe_int (fun _ _ => rfl)) (pv 3) (by rfl))))))))), ?_⟩
    refine ⟨_, rfl, l, rfl, ⟨_, SqL.of el⟩, fun D hD => ?_⟩
    have nlD : l ≠ D := ne_of_none el hD
    refine lc_list (K := K) (a := l) (xs := as.map V.ref) (fun i H1 => Blk (H1 = upd H D (.lst (((ps.take i).map (·.1)).map V.str)))) (Blk.of rfl) (fun i H1 _ hB => ?_) ?_ ?_
    · obtain rfl := hB.out
      exact SqL.of ((upd_ne nlD).trans el)
    · intro i y H1 hi hB
      obtain rfl := hB.out
      obtain ⟨x, hx, rfl⟩ := refs_get hi
      obtain ⟨r, hr1, hr2⟩ := ob.get hx
      have := get_lt hr1
      refine ⟨rfl, ?_⟩
      dsimp only [tYes]
      refine iteT ?_
      refine ⟨_, rfl, _, _, _, _, rfl, rfl, SqT.of ((upd_ne (ne_of_none hr2 hD)).trans hr2), rfl, ?_⟩
      refine ⟨_, upd_same, by rw [List.length_map, List.length_map, List.length_take]; exact small (by omega), Blk.of ?_⟩
      rw [upd_upd, take_snoc hr1, List.map_append, List.map_append]
      rfl
    · intro H1 hB
      obtain rfl := hB.out
      have e1 : ps.take (as.map V.ref).length = ps := by rw [List.length_map, asl, List.take_length]
      rw [e1]
      refine ⟨_, rfl, l, rfl, ⟨_, SqL.of ((upd_ne nlD).trans el)⟩, fun G hG => ?_⟩
      have nDG : D ≠ G := ne_of_none upd_same hG
      have hG0 : H G = none := (upd_ne nDG.symm).symm.trans hG
      have nlG : l ≠ G := ne_of_none el hG0
      refine lc_list (K := K) (a := l) (xs := as.map V.ref) (fun i H1 => Blk (H1 = upd (upd H D (.lst ((ps.map (·.1)).map V.str))) G (.lst (((ps.take i).map (·.2.1)).map V.str)))) (Blk.of rfl) (fun i H1 _ hB => ?_) ?_ ?_
      · obtain rfl := hB.out
        exact SqL.of ((upd_ne nlG).trans ((upd_ne nlD).trans el))
      · intro i y H1 hi hB
        obtain rfl := hB.out
        obtain ⟨x, hx, rfl⟩ := refs_get hi
        obtain ⟨r, hr1, hr2⟩ := ob.get hx
        have := get_lt hr1
        refine ⟨rfl, ?_⟩
        dsimp only [tYes]
        refine iteT ?_
        refine ⟨_, rfl, _, _, _, _, rfl, rfl, SqT.of ((upd_ne (ne_of_none hr2 hG0)).trans ((upd_ne (ne_of_none hr2 hD)).trans hr2)), rfl, ?_⟩
        refine ⟨_, upd_same, by rw [List.length_map, List.length_map, List.length_take]; exact small (by omega), Blk.of ?_⟩
        rw [upd_upd, take_snoc hr1, List.map_append, List.map_append]
        rfl
      · intro H1 hB
        obtain rfl := hB.out
        rw [e1]
        have sH : Same H (upd (upd H D (.lst ((ps.map (·.1)).map V.str))) G (.lst ((ps.map (·.2.1)).map V.str))) := ((Same.refl H).upd hD).upd hG0
        have hq := sH _ _ e'
        have hDl : (upd (upd H D (.lst ((ps.map (·.1)).map V.str))) G (.lst ((ps.map (·.2.1)).map V.str))) D = some (.lst ((ps.map (·.1)).map V.str)) := (upd_ne nDG).trans upd_same
        have hGl : (upd (upd H D (.lst ((ps.map (·.1)).map V.str))) G (.lst ((ps.map (·.2.1)).map V.str))) G = some (.lst ((ps.map (·.2.1)).map V.str)) := upd_same
        have fin := kk _ sH
        generalize (upd (upd H D (.lst ((ps.map (·.1)).map V.str))) G (.lst ((ps.map (·.2.1)).map V.str))) = H2 at sH hq hDl hGl fin
        have el2 := sH _ _ el
        refine ⟨_, rfl, l, _, rfl, .inl (SqL.of el2), _, _, rfl, rfl, _, rfl, ?_⟩
        have ec : (((as.map V.ref).length : Nat) : Int) = (ps.length : Int) := by rw [List.length_map, asl]
        rw [ec]
        refine iteD (fun c1 => ?_) (fun c1 => ?_)
        · refine ⟨_, rfl, _, _, _, _, rfl, rfl, SqT.of hq, rfl, ?_⟩
          refine ⟨_, rfl, D, _, rfl, .inl (SqL.of hDl), rfl, flat_str _, _, rfl, ?_⟩
          rw [if_pos rfl, inV_str]
          refine iteB (fun c2 => ?_) (fun c2 => ?_)
          · refine ⟨_, rfl, _, _, _, _, rfl, rfl, SqT.of hq, rfl, ?_⟩
            refine ⟨_, rfl, G, _, rfl, .inl (SqL.of hGl), rfl, flat_str _, ?_⟩
            rw [if_pos rfl, inV_str]
            have e3 : fitsB (q1, q2, q3) ps = !decide (q2 ∈ ps.map (·.2.1)) := by
              unfold fitsB
              rw [c2, decide_eq_true (by omega : ps.length < 6)]
              rfl
            exact e3 ▸ fin
          · have e3 : fitsB (q1, q2, q3) ps = false := by
              unfold fitsB
              rw [c2]
              simp
            exact e3 ▸ fin
        · have e3 : fitsB (q1, q2, q3) ps = false := by
            unfold fitsB
            rw [decide_eq_false (by omega : ¬ ps.length < 6)]
            simp
          exact e3 ▸ fin

abbrev pfs (pl hl : Addr) : List (Str × V) := [("_pairs", .ref pl), ("_helpers", .ref hl)]
theorem pfs_p {pl hl : Addr} : (pfs pl hl).lookup ("_pairs" : Str) = some (.ref pl) := by kernel_rfl
theorem pfs_h {pl hl : Addr} : (pfs pl hl).lookup ("_helpers" : Str) = some (.ref hl) := by kernel_rfl
theorem pfs_make {pl hl : Addr} : putF "_helpers" (.ref hl) (putF "_pairs" (.ref pl) []) = pfs pl hl := by kernel_rfl
theorem fits_next {ps : List My.Pr} (ok : My.PairsOk ps) {i : Nat} {q : My.Pr} (h : ps[i]? = some q) : fitsB q (ps.take i) = true := by
  have hl := get_lt h
  have hm := ok.many
  unfold fitsB
  have nin : ∀ {β : Type} [DecidableEq β] (f : My.Pr → β), (ps.map f).Nodup → f q ∉ (ps.take i).map f := by
    intro β _ f nd hc
    rw [← List.take_append_drop i (ps.map f), List.nodup_append] at nd
    have h2 : f q ∈ (ps.map f).drop i := by
      have : (ps.map f)[i]? = some (f q) := by rw [List.getElem?_map, h]; rfl
      exact List.mem_of_getElem? (i := 0) (by rw [List.getElem?_drop]; simpa using this)
    rw [List.map_take] at hc
    exact nd.2.2 _ hc _ h2 rfl
  rw [decide_eq_true (by rw [List.length_take]; omega), decide_eq_false (nin (·.1) ok.nears), decide_eq_false (nin (·.2.1) ok.fars)]
  rfl
/-- the Pacts at p: its lists at pl and hl -/
structure PactsAt (C : Addr) (H : Hp) (p pl hl : Addr) (as : List Addr) (ps : List My.Pr) : Prop where
  ob : ∃ dx, H p = some (.ins C dx (pfs pl hl))
  lp : H pl = some (.lst (as.map V.ref))
  lh : H hl = some (.lst [])
  ps : Objs H as prO ps
theorem PactsAt.same {C : Addr} {H H' : Hp} {p pl hl : Addr} {as : List Addr} {ps : List My.Pr} (h : PactsAt C H p pl hl as ps) (k : Same H H') : PactsAt C H' p pl hl as ps := by
  obtain ⟨⟨dx, e⟩, e1, e2, e3⟩ := h
  exact ⟨⟨dx, k _ _ e⟩, k _ _ e1, k _ _ e2, e3.same k⟩
def sp_Pinit (C : Addr) : Sp := fun vs H Q _ => ∃ (p dx L Lh : Addr) (as : List Addr) (ps : List My.Pr), vs = [.ref p, .ref L, .ref Lh] ∧ H p = some (.ins C dx []) ∧ H L = some (.lst (as.map V.ref)) ∧ H Lh = some (.lst []) ∧ Objs H as prO ps ∧ My.PairsOk ps ∧
  ∀ (pl hl : Addr) (H' : Hp), H pl = none → H hl = none → PactsAt C H' p pl hl as ps → Keeps [p] H H' → Q .non H'
theorem ok_Pacts_init (T : Txt K mg a) : FnOk P w K mg base CX0 3 a.f_Pacts_init a.d_Pacts_init ["self", "pairs", "helpers"] (sp_Pinit a.c_Pacts) := by
  refine T.F_Pacts_init.ok sc_Pacts_init (fun vs H Q E h => ?_) (fun cdv A outer s H vs Q E hr h => ?_)
  · obtain ⟨p, dx, L, Lh, as, ps, rfl, _⟩ := h
    rfl
  · obtain ⟨p, dx, L, Lh, as, ps, rfl, hp, hL, hLh, ob, ok, kk⟩ := h
    refine ⟨_, (pss_cons (ps_fld (pv 0) (pe_lst pa_nil) rfl)
      (pss_cons (ps_fld (pv 0) (pe_lst pa_nil) rfl)
      (pss_cons (ps_for PassesOwn.never rfl (pi_list (pv 1)) (pg_name (i := 3) sc_Pacts_init.nd rfl (Or.inl rfl)) (pss_cons (ps_if (PW.pt (pw_or (pt_not (pt_val (pe_call (ok_p_is_pair T) (hr.mono (by decide)) rfl T.g_p_is_pair T.k_p_is_pair T.B_p_is_pair .nil pass0 (pa_cons (pv 3) pa_nil)))) (pw_or1 (pt_not (pt_val (pe_call (ok_p_fits_pairs T) (hr.mono (by decide)) rfl T.g_p_fits_pairs T.k_p_fits_pairs T.B_p_fits_pairs .nil pass0 (pa_cons (pv 3) (pa_cons (pe_fld (pv 0) rfl) pa_nil)))))))) (pss_one ps_never) pss_nil)
      (pss_one (ps_expr (pe_bm PySem.F.plainAttrs_list PySem.F.slot_list_append PySem.F.type_list_append mt_append (pe_fld (pv 0) rfl) (pa_cons (pv 3) pa_nil))))))
      (pss_one (ps_for PassesOwn.never rfl (pi_list (pv 2)) (pg_name (i := 4) sc_Pacts_init.nd rfl (Or.inl rfl)) (pss_cons ps_never
      (pss_one (ps_expr (pe_bm PySem.F.plainAttrs_list PySem.F.slot_list_append PySem.F.type_list_append mt_append (pe_fld (pv 0) rfl) (pa_cons (pv 4) pa_nil)))))))))), ?_⟩
    have c0 := T.cl_Pacts
    have c1 := T.n_Pacts__pairs
    have c2 := T.n_Pacts__helpers
    have asl := ob.len
    have many := ok.many
    refine ⟨by show 0 ≤ sizeLine; decide, fun pl hpl => ?_⟩
    have n1 : p ≠ pl := ne_of_none hp hpl
    walk_at "rd"
    refine ⟨by show 0 ≤ sizeLine; decide, fun hl hhl => ?_⟩
    have n2 : p ≠ hl := fun e => by subst e; rw [upd_same] at hhl; cases hhl
    have hhl1 := (upd_ne n2.symm).symm.trans hhl
    have n3 : pl ≠ hl := ne_of_none upd_same hhl1
    have hhl0 : H hl = none := (upd_ne n3.symm).symm.trans hhl1
    refine ⟨_, rfl, _, _, _, _, rfl, (by walk_at "hp"), c0, c2, (by show 1 < 1000; decide), ?_⟩
    have nLp : L ≠ p := ne_of hL hp (fun q => by cases q)
    have nLl : L ≠ pl := ne_of_none hL hpl
    have nLh : L ≠ hl := ne_of_none hL hhl0
    have nHp : Lh ≠ p := ne_of hLh hp (fun q => by cases q)
    have nHl : Lh ≠ pl := ne_of_none hLh hpl
    have nHh : Lh ≠ hl := ne_of_none hLh hhl0
    have k0 : Keeps [p] H (upd (upd (upd (upd H pl (.lst [])) p (.ins a.c_Pacts dx (putF "_pairs" (.ref pl) []))) hl (.lst [])) p (.ins a.c_Pacts dx (putF "_helpers" (.ref hl) (putF "_pairs" (.ref pl) [])))) :=
      ((((Keeps.refl [p] H).upd (.inr hpl)).upd (.inl (by simp))).upd (.inr hhl0)).upd (.inl (by simp))
    have e0 : (upd (upd (upd (upd H pl (.lst [])) p (.ins a.c_Pacts dx (putF "_pairs" (.ref pl) []))) hl (.lst [])) p (.ins a.c_Pacts dx (putF "_helpers" (.ref hl) (putF "_pairs" (.ref pl) [])))) p = some (.ins a.c_Pacts dx (pfs pl hl)) := by
      rw [upd_same]
      exact congrArg (fun q => some (HO.ins a.c_Pacts dx q)) pfs_make
    have e1 : (upd (upd (upd (upd H pl (.lst [])) p (.ins a.c_Pacts dx (putF "_pairs" (.ref pl) []))) hl (.lst [])) p (.ins a.c_Pacts dx (putF "_helpers" (.ref hl) (putF "_pairs" (.ref pl) [])))) pl = some (.lst []) := by
      walk_at "hp"
    have e2 : (upd (upd (upd (upd H pl (.lst [])) p (.ins a.c_Pacts dx (putF "_pairs" (.ref pl) []))) hl (.lst [])) p (.ins a.c_Pacts dx (putF "_helpers" (.ref hl) (putF "_pairs" (.ref pl) [])))) hl = some (.lst []) := by
      walk_at "hp"
    generalize (upd (upd (upd (upd H pl (.lst [])) p (.ins a.c_Pacts dx (putF "_pairs" (.ref pl) []))) hl (.lst [])) p (.ins a.c_Pacts dx (putF "_helpers" (.ref hl) (putF "_pairs" (.ref pl) [])))) = H1 at k0 e0 e1 e2
    have apart : ∀ x, x ∈ [p, pl, hl] → x ∉ as := fun x hx hm => by
      obtain ⟨i, hi⟩ := List.getElem?_of_mem hm
      obtain ⟨q, _, hq⟩ := ob.get hi
      simp at hx
      rcases hx with rfl | rfl | rfl
      · rw [hp] at hq; cases hq
      · rw [hpl] at hq; cases hq
      · rw [hhl0] at hq; cases hq
    have ob1 : Objs H1 as prO ps := ob.keep k0 fun x hx => by simp at hx; subst hx; exact apart x (by simp)
    refine ⟨_, rfl, L, rfl, ⟨_, SqL.of (k0 _ _ hL (by simp [nLp]))⟩, ?_⟩
    refine for_list (K := K) (a := L) (xs := as.map V.ref) (fun i σ H2 => Blk (∃ v3, σ = [some (.ref p), some (.ref L), some (.ref Lh), v3, none] ∧ H2 p = some (.ins a.c_Pacts dx (pfs pl hl)) ∧ H2 pl = some (.lst ((as.take i).map V.ref)) ∧ H2 hl = some (.lst []) ∧ Objs H2 as prO ps ∧ Keeps [p] H H2)) ?_ ?_ ?_ ?_
    · exact Blk.of ⟨_, rfl, e0, e1, e2, ob1, k0⟩
    · intro i σ H2 _ hB
      obtain ⟨v3, _, _, _, _, _, k2⟩ := hB.out
      exact SqL.of (k2 _ _ hL (by simp [nLp]))
    · intro i y σ H2 hi hB
      obtain ⟨v3, rfl, f0, f1, f2, ob2, k2⟩ := hB.out
      obtain ⟨h, hh, rfl⟩ := refs_get hi
      obtain ⟨q, hq, hq2⟩ := ob2.get hh
      have hil := get_lt hq
      obtain ⟨nm1, nm2⟩ := ok.nm q (List.mem_of_getElem? hq)
      refine ⟨_, rfl, h, q, rfl, hq2, name_line nm1, name_line nm2, fun H3 s3 => ⟨_, rfl, ?_⟩⟩
      rw [nm1, nm2]
      refine iteF ?_
      have f03 := s3 _ _ f0
      have f13 := s3 _ _ f1
      have k1 := @pfs_p pl hl
      refine ⟨_, rfl, ?_⟩
      refine ⟨_, rfl, _, _, _, _, _, rfl, f03, c0, c1, k1, ?_⟩
      refine ⟨h, pl, q, as.take i, ps.take i, rfl, s3 _ _ hq2, f13, (ob2.same s3).take i, by rw [List.length_take]; omega, fun H4 s4 => ⟨_, rfl, ?_⟩⟩
      rw [fits_next ok hq]
      refine iteF ?_
      have f04 := s4 _ _ f03
      have f14 := s4 _ _ f13
      have f24 := s4 _ _ (s3 _ _ f2)
      refine ⟨_, rfl, _, _, _, _, _, rfl, f04, c0, c1, k1, ?_⟩
      refine ⟨.inl ⟨rfl, _, SqL.of f14⟩, _, rfl, pl, _, _, rfl, rfl, f14, by rw [List.length_map, List.length_take]; exact small (by omega), ?_⟩
      refine Blk.of ⟨_, rfl, (upd_ne n1).trans f04, ?_, (upd_ne n3.symm).trans f24, ?_, ?_⟩
      · rw [upd_same, take_snoc hh, List.map_append]; rfl
      · refine ((ob2.same s3).same s4).keep (R := [pl]) ((Keeps.refl _ H4).upd (.inl (by simp))) fun x hx => ?_
        simp at hx
        subst hx
        exact apart x (by simp)
      · have k4 : Keeps [p] H H4 := (k2.trans (fun c o e _ => s3 c o e)).trans (fun c o e _ => s4 c o e)
        exact k4.upd (.inr hpl)
    · intro σ H2 hB
      obtain ⟨v3, rfl, f0, f1, f2, ob2, k2⟩ := hB.out
      have et : as.take (as.map V.ref).length = as := by rw [List.length_map, List.take_length]
      rw [et] at f1
      refine ⟨_, rfl, Lh, rfl, ⟨_, SqL.of (k2 _ _ hLh (by simp [nHp]))⟩, ?_⟩
      refine for_list (K := K) (a := Lh) (xs := []) (fun i σ H3 => Blk (H3 = H2)) ?_ ?_ ?_ ?_
      · exact Blk.of rfl
      · intro i σ H3 _ hB
        obtain rfl := hB.out
        exact SqL.of (k2 _ _ hLh (by simp [nHp]))
      · intro i y σ H3 hi
        simp at hi
      · intro σ H3 hB
        obtain rfl := hB.out
        exact kk pl hl _ hpl hhl0 ⟨⟨dx, f0⟩, f1, f2, ob2⟩ k2
def sp_Ppairs (C : Addr) : Sp := fun vs H Q _ => ∃ (p pl hl : Addr) (as : List Addr) (ps : List My.Pr), vs = [.ref p] ∧ PactsAt C H p pl hl as ps ∧ ∀ (r : Addr) (H' : Hp), H r = none → H' r = some (.lst (as.map V.ref)) → Same H H' → Q (.ref r) H'
theorem ok_Pacts_pairs (T : Txt K mg a) : FnOk P w K mg base CX0 1 a.f_Pacts_pairs a.d_Pacts_pairs ["self"] (sp_Ppairs a.c_Pacts) := by
  refine T.F_Pacts_pairs.ok sc_Pacts_pairs (fun vs H Q E h => ?_) (fun cdv A outer s H vs Q E hr h => ?_)
  · obtain ⟨p, pl, hl, as, ps, rfl, _⟩ := h
    rfl
  · obtain ⟨p, pl, hl, as, ps, rfl, pa, kk⟩ := h
    refine ⟨_, (pss_one (ps_ret (pe_callTy call_list_of (by rfl) T.z_list (by decide +kernel) (pa_cons (pe_fld (pv 0) rfl) pa_nil)))), ?_⟩
    obtain ⟨dx, e0⟩ := pa.ob
    refine ⟨_, rfl, _, _, _, _, _, rfl, e0, T.cl_Pacts, T.n_Pacts__pairs, pfs_p, ?_⟩
    exact ⟨pl, _, rfl, .inl (SqL.of pa.lp), fun r hr => kk r _ hr upd_same ((Same.refl H).upd hr)⟩
def sp_Plen (C : Addr) : Sp := fun vs H Q _ => ∃ (p pl hl : Addr) (as : List Addr) (ps : List My.Pr), vs = [.ref p] ∧ PactsAt C H p pl hl as ps ∧ Q (.int 0) H
theorem ok_Pacts_len (T : Txt K mg a) : FnOk P w K mg base CX0 1 a.f_Pacts_len a.d_Pacts_len ["self"] (sp_Plen a.c_Pacts) := by
  refine T.F_Pacts_len.ok sc_Pacts_len (fun vs H Q E h => ?_) (fun cdv A outer s H vs Q E hr h => ?_)
  · obtain ⟨p, pl, hl, as, ps, rfl, _⟩ := h
    rfl
  · obtain ⟨p, pl, hl, as, ps, rfl, pa, kk⟩ := h
    refine ⟨_, (pss_one (ps_ret (pe_callB call_len_seq (by rfl) T.z_len (by decide +kernel) (pa_cons (pe_fld (pv 0) rfl) pa_nil)))), ?_⟩
    obtain ⟨dx, e0⟩ := pa.ob
    refine ⟨_, rfl, _, _, _, _, _, rfl, e0, T.cl_Pacts, T.n_Pacts__helpers, pfs_h, ?_⟩
    exact ⟨hl, _, rfl, .inl (SqL.of pa.lh), kk⟩

/-! ### the pair of a word -/
def wd (i : Int) (p : My.Pr) : Str := if i = 0 then p.1 else p.2.1
theorem wd_at {i : Int} (hi : i = 0 ∨ i = 1) (p : My.Pr) : atI [V.str p.1, .str p.2.1, .bl p.2.2] i = some (.str (wd i p)) := by
  rcases hi with rfl | rfl <;> rfl
theorem find_first {α : Type} {P : α → Prop} [DecidablePred P] : ∀ {xs : List α} {k : Nat} {q : α}, (∀ (j : Nat) (z : α), j < k → xs[j]? = some z → ¬ P z) → xs[k]? = some q → P q → xs.find? (fun z => decide (P z)) = some q
  | [], k, q, _, h, _ => by simp at h
  | x :: r, 0, q, _, h, hp => by
    obtain rfl := Option.some.inj (show some x = some q from h)
    rw [List.find?_cons, decide_eq_true hp]
  | x :: r, k + 1, q, hn, h, hp => by
    rw [List.find?_cons, decide_eq_false (hn 0 x (by omega) rfl)]
    exact find_first (k := k) (fun j z hj e => hn (j + 1) z (by omega) e) h hp
theorem find_no {α : Type} {P : α → Prop} [DecidablePred P] {xs : List α} (hn : ∀ (j : Nat) (z : α), j < xs.length → xs[j]? = some z → ¬ P z) : xs.find? (fun z => decide (P z)) = none := by
  rw [List.find?_eq_none]
  intro x hx
  obtain ⟨j, hj⟩ := List.getElem?_of_mem hx
  simpa using hn j x (get_lt hj) hj
def pairOf (i : Int) (w : Str) (ps : List My.Pr) : Option My.Pr := ps.find? fun z => decide (wd i z = w)
def sp_pair (C : Addr) : Sp := fun vs H Q _ => ∃ (p pl hl : Addr) (as : List Addr) (ps : List My.Pr) (w : Str) (i : Int) (q : My.Pr), vs = [.ref p, .str w, .int i] ∧ PactsAt C H p pl hl as ps ∧ (i = 0 ∨ i = 1) ∧ pairOf i w ps = some q ∧
  ∀ (h : Addr) (H' : Hp), Same H H' → H' h = some (prO q) → Q (.ref h) H'
theorem ok_Pacts_p_pair (T : Txt K mg a) : FnOk P w K mg base CX0 3 a.f_Pacts_p_pair a.d_Pacts_p_pair ["self", "word", "side"] (sp_pair a.c_Pacts) := by
  refine T.F_Pacts_p_pair.ok sc_Pacts_p_pair (fun vs H Q E h => ?_) (fun cdv A outer s H vs Q E hr h => ?_)
  · obtain ⟨p, pl, hl, as, ps, w, i, q, rfl, _⟩ := h
    rfl
  · obtain ⟨p, pl, hl, as, ps, w, i, q, rfl, pa, hi, hq, kk⟩ := h
    refine ⟨_, (C8.pss_cut (ps_if (pt_val (pe_call (ok_is_side T) (hr.mono (by decide)) rfl T.g_is_side T.k_is_side T.B_is_side .nil pass0 (pa_cons (pv 2) pa_nil))) (pss_one (ps_for PassesOwn.never rfl (pi_list (pe_fld (pv 0) rfl)) (pg_name (i := 3) sc_Pacts_p_pair.nd rfl (Or.inl rfl)) (pss_one (ps_if (pt_cmpR op_eq (pe_ix ix_tup (pv 3) (pv 2) (fun _ _ => rfl)) (pv 1) (nomark _)) (pss_one (ps_ret (pv 3))) pss_nil)))) pss_nil)
      (pss_one ps_never)), ?_⟩
    refine ⟨fun σ H2 => False, ?_, fun σ H2 hB => hB.elim⟩
    refine ⟨_, rfl, i, rfl, fun H1 s1 => ⟨_, rfl, ?_⟩⟩
    have pa1 := pa.same s1
    obtain ⟨dx, e0⟩ := pa1.ob
    rw [decide_eq_true hi]
    refine iteT ?_
    refine ⟨_, rfl, _, _, _, _, _, rfl, e0, T.cl_Pacts, T.n_Pacts__pairs, pfs_p, pl, rfl, ⟨_, SqL.of pa1.lp⟩, ?_⟩
    refine for_list (K := K) (a := pl) (xs := as.map V.ref) (fun k σ H2 => Blk (∃ v3, σ = [some (.ref p), some (.str w), some (.int i), v3] ∧ H2 = H1 ∧ ∀ (j : Nat) (z : My.Pr), j < k → ps[j]? = some z → ¬ wd i z = w)) ?_ ?_ ?_ ?_
    · exact Blk.of ⟨_, rfl, rfl, fun j z h => absurd h (by omega)⟩
    · intro k σ H2 _ hB
      obtain ⟨v3, _, rfl, _⟩ := hB.out
      exact SqL.of pa1.lp
    · intro k y σ H2 hy hB
      obtain ⟨v3, rfl, rfl, no⟩ := hB.out
      obtain ⟨h, hh, rfl⟩ := refs_get hy
      obtain ⟨z, hz, hz2⟩ := pa1.ps.get hh
      refine ⟨_, rfl, _, rfl, _, _, _, _, rfl, rfl, SqT.of hz2, wd_at hi z, ?_⟩
      refine ⟨_, rfl, rfl, _, rfl, ?_⟩
      refine iteD (fun c => ?_) (fun c => ?_)
      · have c' : wd i z = w := V.str.inj c
        have := find_first (P := fun z => wd i z = w) no hz c'
        have e : some z = some q := this.symm.trans hq
        obtain rfl := Option.some.inj e
        exact ⟨_, rfl, kk h _ s1 hz2⟩
      · refine Blk.of ⟨_, rfl, rfl, fun j z' hj e => ?_⟩
        by_cases e2 : j = k
        · subst e2
          rw [hz] at e
          obtain rfl := Option.some.inj e
          exact fun c2 => c (congrArg V.str c2)
        · exact no j z' (by omega) e
    · intro σ H2 hB
      obtain ⟨v3, rfl, rfl, no⟩ := hB.out
      rw [List.length_map, pa1.ps.len] at no
      have : pairOf i w ps = none := find_no no
      rw [hq] at this
      cases this
def sp_laden (C : Addr) : Sp := fun vs H Q _ => ∃ (p pl hl : Addr) (as : List Addr) (ps : List My.Pr) (w : Str) (i : Int) (q : My.Pr), vs = [.ref p, .str w, .int i] ∧ PactsAt C H p pl hl as ps ∧ (i = 0 ∨ i = 1) ∧ pairOf i w ps = some q ∧
  ∀ (H' : Hp), Same H H' → Q (.bl q.2.2) H'
theorem pfs_no1 {pl hl : Addr} : (pfs pl hl).lookup ("_pair" : Str) = none := by kernel_rfl
theorem ok_Pacts_laden (T : Txt K mg a) : FnOk P w K mg base CX0 4 a.f_Pacts_laden a.d_Pacts_laden ["self", "word", "side"] (sp_laden a.c_Pacts) := by
  refine T.F_Pacts_laden.ok sc_Pacts_laden (fun vs H Q E h => ?_) (fun cdv A outer s H vs Q E hr h => ?_)
  · obtain ⟨p, pl, hl, as, ps, w, i, q, rfl, _⟩ := h
    rfl
  · obtain ⟨p, pl, hl, as, ps, w, i, q, rfl, pa, hi, hq, kk⟩ := h
    refine ⟨_, (pss_one (ps_ret (pe_ix ix_tup (pe_meth (pv 0) T.cl_Pacts T.m_Pacts_p_pair (ok_Pacts_p_pair T) (hr.mono (by decide)) T.B_Pacts_p_pair .nil pass0 (pa_cons (pv 1) (pa_cons (pv 2) pa_nil))) pe_int (fun _ _ => rfl)))), ?_⟩
    obtain ⟨dx, e0⟩ := pa.ob
    refine ⟨_, rfl, p, dx, _, rfl, e0, pfs_no1, _, rfl, _, rfl, p, pl, hl, as, ps, w, i, q, rfl, pa, hi, hq, fun h H1 s1 h1 => ?_⟩
    exact ⟨_, _, _, _, rfl, rfl, SqT.of h1, rfl, kk H1 s1⟩
def sp_over (C : Addr) : Sp := fun vs H Q _ => ∃ (p pl hl : Addr) (as : List Addr) (ps : List My.Pr) (w : Str) (i : Int) (q : My.Pr), vs = [.ref p, .str w, .int i] ∧ PactsAt C H p pl hl as ps ∧ (i = 0 ∨ i = 1) ∧ pairOf i w ps = some q ∧
  ∀ (H' : Hp), Same H H' → Q (.str (wd (1 - i) q)) H'
theorem ok_Pacts_over (T : Txt K mg a) : FnOk P w K mg base CX0 4 a.f_Pacts_over a.d_Pacts_over ["self", "word", "side"] (sp_over a.c_Pacts) := by
  refine T.F_Pacts_over.ok sc_Pacts_over (fun vs H Q E h => ?_) (fun cdv A outer s H vs Q E hr h => ?_)
  · obtain ⟨p, pl, hl, as, ps, w, i, q, rfl, _⟩ := h
    rfl
  · obtain ⟨p, pl, hl, as, ps, w, i, q, rfl, pa, hi, hq, kk⟩ := h
    refine ⟨_, (pss_one (ps_ret (pe_ix ix_tup (pe_meth (pv 0) T.cl_Pacts T.m_Pacts_p_pair (ok_Pacts_p_pair T) (hr.mono (by decide)) T.B_Pacts_p_pair .nil pass0 (pa_cons (pv 1) (pa_cons (pv 2) pa_nil))) (pe_op op_sub pe_int (pv 2)) (fun _ _ => rfl)))), ?_⟩
    obtain ⟨dx, e0⟩ := pa.ob
    refine ⟨_, rfl, p, dx, _, rfl, e0, pfs_no1, _, rfl, _, rfl, p, pl, hl, as, ps, w, i, q, rfl, pa, hi, hq, fun h H1 s1 h1 => ?_⟩
    refine ⟨_, rfl, _, _, rfl, rfl, ?_⟩
    exact ⟨_, _, _, _, rfl, rfl, SqT.of h1, wd_at (by omega) q, kk H1 s1⟩
/-! ### words that a side has not -/
/-- a refusal that bears a word is being made -/
def sp_word (C : Addr) : Sp := fun vs H Q _ => ∃ (e : Addr) (w : Str), vs = [.ref e, .str w] ∧ H e = some (exo e C none) ∧ w.length ≤ 40000 ∧
  ∀ (d : Addr) (H' : Hp), H d = none → d ≠ e → H' e = some (exo e C (some d)) → H' d = some (exd d [("word", .str w)]) → Keeps [e] H H' → Q .non H'
theorem str_small {m k : Str} {n : Nat} (h : m.length ≤ 40000) (hk : k.length = n) (hn : n ≤ 1000) : (k ++ m).length ≤ sizeLine := by
  rw [strLen_append, hk, sizeLine_eq]
  omega
theorem ok_NoWord_init (T : Txt K mg a) : FnOk P w K mg base CX0 1 a.f_NoWord_init a.d_NoWord_init ["self", "word"] (sp_word a.c_NoWord) := by
  refine T.F_NoWord_init.ok sc_NoWord_init (fun vs H Q E h => ?_) (fun cdv A outer s H vs Q E hr h => ?_)
  · obtain ⟨e, w, rfl, _⟩ := h
    rfl
  · obtain ⟨e, w, rfl, he, hw, kk⟩ := h
    refine ⟨_, (pss_cons (ps_expr (pe_midInit T.md_PactError (by rfl) T.g_PactError (pa_cons (pv 0) (pa_cons (pe_joined (.cons pe_str (.cons (pe_fmt (pv 1)) .nil))) pa_nil))))
      (pss_one (ps_ost (pv 0) (pv 1) rfl))), ?_⟩
    refine ⟨_, rfl, _, rfl, by rw [sizeLine_eq]; decide +kernel, ?_⟩
    refine ⟨_, rfl, .inl ⟨w, rfl, by rw [sizeLine_eq]; omega, ?_⟩⟩
    refine ⟨_, rfl, str_small hw (by decide +kernel : _ = 27) (by decide), ?_⟩
    refine ⟨e, a.c_NoWord, _, rfl, by show 1 ≤ 1000; decide, T.x_NoWord, he, ?_⟩
    refine ⟨_, rfl, _, rfl, e, a.c_NoWord, rfl, T.x_NoWord, T.n_NoWord_word, .inl ⟨he, fun d hd nd => ?_⟩⟩
    refine kk d _ hd nd upd_same ?_ ?_
    · rw [upd_ne nd, upd_same]
    · exact ((Keeps.refl [e] H).upd (.inr hd)).upd (.inl (by simp))

def OutW (CN : Addr) (w : Str) (H : Hp) (E : XK) : Prop := ∀ (d : Addr) (H' : Hp), Same H H' → H d = none → H' d = some (.xd [("word", .str w)]) → E (.ref CN) (some d) H'
theorem mk_word {C : Addr} {H H1 : Hp} {w : Str} {E : XK} {σ : L2.St} (s1 : Same H H1) (hw : w.length ≤ 40000) (hσ : σ[1]? = some (some (.str w))) (kk : OutW C w H E) :
    tMkO C (sp_word C) [] (tCons (tVar 1) tNil) σ H1 (fun cls d H' => E cls d H') := by
  refine ⟨_, hσ, by show 1 ≤ 1000; decide, fun e he => ?_⟩
  refine ⟨e, w, rfl, upd_same, hw, fun d H2 hd nde h1 h2 kp => ⟨rfl, d, _, h1, h2, ?_, ?_⟩⟩
  · exact (upd_ne nde).symm.trans hd
  · have hd1 : H1 d = none := (upd_ne nde).symm.trans hd
    refine kk d _ (fun c o ec => ?_) (s1.free hd1) upd_same
    have e1 := s1 _ _ ec
    have n1 : c ≠ e := ne_of_none e1 he
    have n2 : c ≠ d := ne_of_none e1 hd1
    rw [upd_ne n2, del_ne n1]
    exact kp c o ((upd_ne n1).trans e1) (by simp [n1])
def sp_pairX (CN C : Addr) : Sp := fun vs H _ E => ∃ (p pl hl : Addr) (as : List Addr) (ps : List My.Pr) (w : Str) (i : Int), vs = [.ref p, .str w, .int i] ∧ PactsAt C H p pl hl as ps ∧ (i = 0 ∨ i = 1) ∧ pairOf i w ps = none ∧ w.length ≤ 40000 ∧ OutW CN w H E
theorem ok_Pacts_p_pairX (T : Txt K mg a) : FnOk P w K mg base (L2.CX P w) 3 a.f_Pacts_p_pair a.d_Pacts_p_pair ["self", "word", "side"] (sp_pairX a.c_NoWord a.c_Pacts) := by
  refine T.F_Pacts_p_pair.okX sc_Pacts_p_pair (fun vs H Q E h => ?_) (fun cdv A outer s H vs Q E hr h => ?_)
  · obtain ⟨p, pl, hl, as, ps, w, i, rfl, _⟩ := h
    rfl
  · obtain ⟨p, pl, hl, as, ps, w, i, rfl, pa, hi, hq, hw, kk⟩ := h
    refine ⟨_, (C8.pss_cut (ps_if (pt_val (pe_call (ok_is_side T) (hr.mono (by decide)) rfl T.g_is_side T.k_is_side T.B_is_side .nil pass0 (pa_cons (pv 2) pa_nil))) (pss_one (ps_for (passes_of rfl) rfl (pi_list (pe_fld (pv 0) rfl)) (pg_name (i := 3) sc_Pacts_p_pair.nd rfl (Or.inl rfl)) (pss_one (ps_if (pt_cmpR op_eq (pe_ix ix_tup (pv 3) (pv 2) (fun _ _ => rfl)) (pv 1) (nomark _)) (pss_one (ps_ret (pv 3))) pss_nil)))) pss_nil)
      (pss_one (ps_raise rfl (W := fun cls d _ H => E cls d H) (takes_of rfl rfl rfl rfl) (pmk_oex T.x_NoWord T.xi_NoWord T.xt_NoWord (ok_NoWord_init T) (hr.mono (by decide)) T.B_NoWord_init .nil pass0 (by rfl) T.g_NoWord (pa_cons (pv 1) pa_nil))))), ?_⟩
    refine ⟨fun σ H2 => Blk (∃ v3, σ = [some (.ref p), some (.str w), some (.int i), v3] ∧ Same H H2), ?_, ?_⟩
    · refine ⟨_, rfl, i, rfl, fun H1 s1 => ⟨_, rfl, ?_⟩⟩
      have pa1 := pa.same s1
      obtain ⟨dx, e0⟩ := pa1.ob
      rw [decide_eq_true hi]
      refine iteT ?_
      refine ⟨_, rfl, _, _, _, _, _, rfl, e0, T.cl_Pacts, T.n_Pacts__pairs, pfs_p, pl, rfl, ⟨_, SqL.of pa1.lp⟩, ?_⟩
      refine for_list (K := K) (a := pl) (xs := as.map V.ref) (fun k σ H2 => Blk (∃ v3, σ = [some (.ref p), some (.str w), some (.int i), v3] ∧ H2 = H1)) ?_ ?_ ?_ ?_
      · exact Blk.of ⟨_, rfl, rfl⟩
      · intro k σ H2 _ hB
        obtain ⟨v3, _, rfl⟩ := hB.out
        exact SqL.of pa1.lp
      · intro k y σ H2 hy hB
        obtain ⟨v3, rfl, rfl⟩ := hB.out
        obtain ⟨h, hh, rfl⟩ := refs_get hy
        obtain ⟨z, hz, hz2⟩ := pa1.ps.get hh
        refine ⟨_, rfl, _, rfl, _, _, _, _, rfl, rfl, SqT.of hz2, wd_at hi z, ?_⟩
        refine ⟨_, rfl, rfl, _, rfl, ?_⟩
        refine iteD (fun c => ?_) (fun c => ?_)
        · exfalso
          have := List.find?_eq_none.mp hq z (List.mem_of_getElem? hz)
          exact this (decide_eq_true (V.str.inj c))
        · exact Blk.of ⟨_, rfl, rfl⟩
      · intro σ H2 hB
        obtain ⟨v3, rfl, rfl⟩ := hB.out
        exact Blk.of ⟨_, rfl, s1⟩
    · rintro σ H2 hB
      obtain ⟨v3, rfl, s2⟩ := hB.out
      exact mk_word s2 hw rfl kk
def sp_askX (CN C : Addr) : Sp := fun vs H _ E => ∃ (p pl hl : Addr) (as : List Addr) (ps : List My.Pr) (w : Str) (i : Int), vs = [.ref p, .str w, .int i] ∧ PactsAt C H p pl hl as ps ∧ (i = 0 ∨ i = 1) ∧ pairOf i w ps = none ∧ w.length ≤ 40000 ∧ OutW CN w H E
theorem ok_Pacts_ladenX (T : Txt K mg a) : FnOk P w K mg base (L2.CX P w) 4 a.f_Pacts_laden a.d_Pacts_laden ["self", "word", "side"] (sp_askX a.c_NoWord a.c_Pacts) := by
  refine T.F_Pacts_laden.okX sc_Pacts_laden (fun vs H Q E h => ?_) (fun cdv A outer s H vs Q E hr h => ?_)
  · obtain ⟨p, pl, hl, as, ps, w, i, rfl, _⟩ := h
    rfl
  · obtain ⟨p, pl, hl, as, ps, w, i, rfl, pa, hi, hq, hw, kk⟩ := h
    refine ⟨_, (pss_one (ps_ret (pe_ix ix_tup (pe_meth (pv 0) T.cl_Pacts T.m_Pacts_p_pair (ok_Pacts_p_pairX T) (hr.mono (by decide)) T.B_Pacts_p_pair .nil (passes_call (W := fun cls d _ H => E cls d H) (takes_of rfl rfl rfl rfl) (fun _ _ _ _ z => z)) (pa_cons (pv 1) (pa_cons (pv 2) pa_nil))) pe_int (fun _ _ => rfl)))), ?_⟩
    obtain ⟨dx, e0⟩ := pa.ob
    exact ⟨_, rfl, p, dx, _, rfl, e0, pfs_no1, _, rfl, _, rfl, p, pl, hl, as, ps, w, i, rfl, pa, hi, hq, hw, kk⟩
theorem ok_Pacts_overX (T : Txt K mg a) : FnOk P w K mg base (L2.CX P w) 4 a.f_Pacts_over a.d_Pacts_over ["self", "word", "side"] (sp_askX a.c_NoWord a.c_Pacts) := by
  refine T.F_Pacts_over.okX sc_Pacts_over (fun vs H Q E h => ?_) (fun cdv A outer s H vs Q E hr h => ?_)
  · obtain ⟨p, pl, hl, as, ps, w, i, rfl, _⟩ := h
    rfl
  · obtain ⟨p, pl, hl, as, ps, w, i, rfl, pa, hi, hq, hw, kk⟩ := h
    refine ⟨_, (pss_one (ps_ret (pe_ix ix_tup (pe_meth (pv 0) T.cl_Pacts T.m_Pacts_p_pair (ok_Pacts_p_pairX T) (hr.mono (by decide)) T.B_Pacts_p_pair .nil (passes_call (W := fun cls d _ H => E cls d H) (takes_of rfl rfl rfl rfl) (fun _ _ _ _ z => z)) (pa_cons (pv 1) (pa_cons (pv 2) pa_nil))) (pe_op op_sub pe_int (pv 2)) (fun _ _ => rfl)))), ?_⟩
    obtain ⟨dx, e0⟩ := pa.ob
    exact ⟨_, rfl, p, dx, _, rfl, e0, pfs_no1, _, rfl, _, rfl, p, pl, hl, as, ps, w, i, rfl, pa, hi, hq, hw, kk⟩
/-! ### _law_refused -/
def tIsE (K : PySem.W.Frag) (z : Addr) (cls : Value) (d : Option Addr) (c : V) : TE := tCB (rIsD K z cls d) (tCons (tVar 4) (tCons (tC c) tNil))
def tb_ref0 (CN C : Addr) (W : WX) : TS := tDrop (tMethNAt C "laden" 2 (sp_askX CN C) (WE W) (tVar 0) (tCons (tVar 1) tNil) (tCons (tVar 2) tNil))
def tb_ref1 (CN C : Addr) (W : WX) : TS := tDrop (tMethNAt C "over" 2 (sp_askX CN C) (WE W) (tVar 0) (tCons (tVar 1) tNil) (tCons (tVar 2) tNil))
def tApp (K : PySem.W.Frag) (te : TE) : TS := tDrop (tBM K "list" rAppend (tVar 3) (tCons te tNil))
def tWordIs (z : Addr) (cls : Value) (d : Option Addr) (CN : Addr) : TE := tOp rEq (tXf z cls d CN "word" (tVar 4)) (tVar 1)
def ts_ref0 (K : PySem.W.Frag) (CN CH : Addr) : Addr → Value → Option Addr → TS := fun z cls d =>
  tSeq (tAsg (tAndV (tIsE K z cls d (.ref CN)) (tAndV (tIsE K z cls d (.ty "ValueError")) (tNotV (tIsE K z cls d (.ref CH))))) (gName 5))
    (tApp K (tAndV (tVar 5) (tWordIs z cls d CN)))
def ts_ref1 (K : PySem.W.Frag) (CN : Addr) : Addr → Value → Option Addr → TS := fun z cls d => tApp K (tAndV (tIsE K z cls d (.ref CN)) (tWordIs z cls d CN))
theorem excC_NoWord (T : Txt K mg a) : ExcC K a.c_NoWord := ⟨T.xf_NoWord.ga, T.xf_NoWord.gg, T.xf_NoWord.exC, T.xf_NoWord.hdC, T.fa_NoWord, T.fg, T.ft, T.fm_NoWord⟩
def sp_refused (C : Addr) : Sp := fun vs H Q _ => ∃ (p pl hl : Addr) (as : List Addr) (ps : List My.Pr) (w : Str) (i : Int), vs = [.ref p, .str w, .int i] ∧ PactsAt C H p pl hl as ps ∧ (i = 0 ∨ i = 1) ∧ pairOf i w ps = none ∧ w.length ≤ 40000 ∧ ∀ H', Same H H' → Q (.bl true) H'
theorem pfs_no2 {pl hl : Addr} : (pfs pl hl).lookup ("laden" : Str) = none := by kernel_rfl
theorem pfs_no3 {pl hl : Addr} : (pfs pl hl).lookup ("over" : Str) = none := by kernel_rfl
theorem ok_refused (T : Txt K mg a) : FnOk P w K mg base CX0 6 a.f_refused a.d_refused ["_law_pacts", "_law_term", "_law_team"] (sp_refused a.c_Pacts) := by
  refine T.F_refused.ok sc_refused (fun vs H Q E h => ?_) (fun cdv A outer s H vs Q E hr h => ?_)
  · obtain ⟨p, pl, hl, as, ps, w, i, rfl, _⟩ := h
    rfl
  · obtain ⟨p, pl, hl, as, ps, w, i, rfl, pa, hi, hq, hw, kk⟩ := h
    refine ⟨_, (pss_cons (ps_set (i := 3) sc_refused.nd rfl (Or.inl rfl) (pe_lst pa_nil))
      (pss_cons (ps_try_named (tb := tb_ref0 a.c_NoWord a.c_Pacts) (l := [(.ref a.c_PactError, 4, ts_ref0 K a.c_NoWord a.c_NoHelper)]) (Wout := fun _ _ _ _ => False) rfl rfl sc_refused.nd takes0 (fun W pn xe tk _ => (pss_one (ps_expr (pe_methNAt (ks := ["side"]) (pv 0) T.cl_Pacts T.m_Pacts_laden (ok_Pacts_ladenX T) (hr.mono (by decide)) T.KN_Pacts_laden_2 (fun σ => passAt tk σ) (pa_cons (pv 1) pa_nil) (pk_cons (pv 2) pk_nil))))) (HdN.cons ⟨rfl, by decide, Or.inl T.g_PactError⟩ rfl rfl (fun z oz cls d pn hz hf => (pss_cons (ps_set (i := 5) sc_refused.nd rfl (Or.inl rfl) (pe_and (pe_callB (call_isD hz hf) (by rfl) T.z_isinstance (by decide +kernel) (pa_cons (pv 4) (pa_cons (pe_glob (v := .ref a.c_NoWord) rfl T.g_NoWord rfl) pa_nil))) (pe_and (pe_callB (call_isD hz hf) (by rfl) T.z_isinstance (by decide +kernel) (pa_cons (pv 4) (pa_cons (pe_bltn (v := .ty "ValueError") (by rfl) T.z_ValueError (by decide +kernel) rfl) pa_nil))) (pe_one (pe_not (pe_callB (call_isD hz hf) (by rfl) T.z_isinstance (by decide +kernel) (pa_cons (pv 4) (pa_cons (pe_glob (v := .ref a.c_NoHelper) rfl T.g_NoHelper rfl) pa_nil))))))))
      (pss_one (ps_expr (pe_bm PySem.F.plainAttrs_list PySem.F.slot_list_append PySem.F.type_list_append mt_append (pv 3) (pa_cons (pe_and (pv 5) (pe_one (pe_cmpR op_eq (pe_xf T.xf_NoWord T.n_NoWord_word hz hf (pv 4)) (pv 1) (nomark _)))) pa_nil)))))) HdN.nil))
      (pss_cons (ps_try_named (tb := tb_ref1 a.c_NoWord a.c_Pacts) (l := [(.ref a.c_PactError, 4, ts_ref1 K a.c_NoWord)]) (Wout := fun _ _ _ _ => False) rfl rfl sc_refused.nd takes0 (fun W pn xe tk _ => (pss_one (ps_expr (pe_methNAt (ks := ["side"]) (pv 0) T.cl_Pacts T.m_Pacts_over (ok_Pacts_overX T) (hr.mono (by decide)) T.KN_Pacts_over_2 (fun σ => passAt tk σ) (pa_cons (pv 1) pa_nil) (pk_cons (pv 2) pk_nil))))) (HdN.cons ⟨rfl, by decide, Or.inl T.g_PactError⟩ rfl rfl (fun z oz cls d pn hz hf => (pss_one (ps_expr (pe_bm PySem.F.plainAttrs_list PySem.F.slot_list_append PySem.F.type_list_append mt_append (pv 3) (pa_cons (pe_and (pe_callB (call_isD hz hf) (by rfl) T.z_isinstance (by decide +kernel) (pa_cons (pv 4) (pa_cons (pe_glob (v := .ref a.c_NoWord) rfl T.g_NoWord rfl) pa_nil))) (pe_one (pe_cmpR op_eq (pe_xf T.xf_NoWord T.n_NoWord_word hz hf (pv 4)) (pv 1) (nomark _)))) pa_nil))))) HdN.nil))
      (pss_one (ps_ret (pe_cmpR (op_eqD hr.units) (pv 3) (pe_lst (pa_cons pe_bl (pa_cons pe_bl pa_nil))) (nomark _))))))), ?_⟩
    refine ⟨by show 0 ≤ sizeLine; decide, fun L hL => ?_⟩
    have s0 : Same H (upd H L (.lst [])) := (Same.refl H).upd hL
    have pa0 := pa.same s0
    obtain ⟨dx, e0⟩ := pa0.ob
    refine ⟨_, rfl, p, dx, _, rfl, e0, pfs_no2, _, rfl, _, rfl, rfl, p, pl, hl, as, ps, w, i, rfl, pa0, hi, hq, hw, fun d H1 s1 hd h1 => ?_⟩
    have hL1 := s1 _ _ (upd_same (H := H) (a := L))
    refine ⟨true, T.fe_NoWord, fun _ z hz => ?_, fun q => Bool.noConfusion q⟩
    refine ⟨_, rfl, a.c_NoWord, d, _, .ref a.c_NoWord, .ref a.c_NoWord, true, rfl, rfl, h1, excC_NoWord T, rfl, fun u hu => hu, T.fs_NoWord, _, rfl, ?_⟩
    refine iteT ?_
    refine ⟨_, rfl, a.c_NoWord, d, _, .ty "ValueError", .type "ValueError", true, rfl, rfl, h1, excC_NoWord T, rfl, fun u hu => hu, T.fv_NoWord, _, rfl, ?_⟩
    refine iteT ?_
    refine ⟨_, rfl, a.c_NoWord, d, _, .ref a.c_NoHelper, .ref a.c_NoHelper, false, rfl, rfl, h1, excC_NoWord T, rfl, fun u hu => hu, T.fx_NoWord, _, rfl, ?_⟩
    refine ⟨_, rfl, .inl ⟨rfl, _, SqL.of hL1⟩, _, rfl, _, rfl, ?_⟩
    refine iteT ?_
    refine ⟨_, rfl, rfl, rfl, d, _, _, rfl, h1, rfl, _, rfl, rfl, ?_⟩
    refine ⟨L, _, _, rfl, rfl, hL1, by show 0 < sizeLine; decide, ?_⟩
    have et : decide (V.str w = V.str w) = true := decide_eq_true rfl
    rw [et]
    have s2 : Same H (upd H1 L (.lst ([] ++ [.bl true]))) := (s0.trans s1).upd hL
    have pa2 := pa.same s2
    have hL2 : (upd H1 L (.lst ([] ++ [.bl true]))) L = some (.lst [.bl true]) := upd_same
    show _
    generalize (upd H1 L (.lst ([] ++ [.bl true]))) = H2 at s2 pa2 hL2
    obtain ⟨dx2, e2⟩ := pa2.ob
    refine ⟨_, rfl, p, dx2, _, rfl, e2, pfs_no3, _, rfl, _, rfl, rfl, p, pl, hl, as, ps, w, i, rfl, pa2, hi, hq, hw, fun d3 H3 s3 hd3 h3 => ?_⟩
    have hL3 := s3 _ _ hL2
    refine ⟨true, T.fe_NoWord, fun _ z3 hz3 => ?_, fun q => Bool.noConfusion q⟩
    refine ⟨_, rfl, .inl ⟨rfl, _, SqL.of hL3⟩, ?_⟩
    refine ⟨_, rfl, a.c_NoWord, d3, _, .ref a.c_NoWord, .ref a.c_NoWord, true, rfl, rfl, h3, excC_NoWord T, rfl, fun u hu => hu, T.fs_NoWord, _, rfl, ?_⟩
    refine iteT ?_
    refine ⟨_, rfl, rfl, rfl, d3, _, _, rfl, h3, rfl, _, rfl, rfl, ?_⟩
    refine ⟨L, _, _, rfl, rfl, hL3, by show 1 < sizeLine; decide, ?_⟩
    rw [et]
    have s4 : Same H (upd H3 L (.lst ([.bl true] ++ [.bl true]))) := (s2.trans s3).upd hL
    have hL4 : (upd H3 L (.lst ([.bl true] ++ [.bl true]))) L = some (.lst [.bl true, .bl true]) := upd_same
    generalize (upd H3 L (.lst ([.bl true] ++ [.bl true]))) = H4 at s4 hL4
    refine ⟨_, rfl, by show 2 ≤ sizeLine; decide, fun M hM => ?_⟩
    have nLM : L ≠ M := ne_of_none hL4 hM
    refine ⟨.list [.bool true, .bool true], .list [.bool true, .bool true], .lst (SqL.of ((upd_ne nLM).trans hL4)) (.cons (.bl _) (.cons (.bl _) .nil)), .lst (SqL.of upd_same) (.cons (.bl _) (.cons (.bl _) .nil)), by decide +kernel, by decide +kernel, ?_⟩
    have eq : PyData.eqv (.list [.bool true, .bool true]) (.list [.bool true, .bool true]) = true := by decide +kernel
    rw [eq]
    exact kk _ (s4.trans ((Same.refl H4).upd hM))

/-! ### _law_told -/
theorem pairOf_at {i : Int} (hi : i = 0 ∨ i = 1) {ps : List My.Pr} (ok : My.PairsOk ps) {k : Nat} {q : My.Pr} (h : ps[k]? = some q) : pairOf i (wd i q) ps = some q := by
  refine find_first (P := fun z => wd i z = wd i q) (k := k) (fun j z hj e => ?_) h rfl
  intro c
  have nd : ∀ {β : Type} (f : My.Pr → β), (ps.map f).Nodup → f z = f q → False := by
    intro β f nd e2
    have h1 : (ps.map f)[j]? = some (f z) := by rw [List.getElem?_map, e]; rfl
    have h2 : (ps.map f)[k]? = some (f q) := by rw [List.getElem?_map, h]; rfl
    rw [e2] at h1
    have := (List.getElem?_inj (get_lt h1) nd).mp (h1.trans h2.symm)
    omega
  rcases hi with rfl | rfl
  · exact nd (·.1) ok.nears c
  · exact nd (·.2.1) ok.fars c
def sp_told (C : Addr) : Sp := fun vs H Q _ => ∃ (p pl hl L : Addr) (as as2 : List Addr) (ps : List My.Pr), vs = [.ref p, .ref L] ∧ PactsAt C H p pl hl as ps ∧ My.PairsOk ps ∧ H L = some (.lst (as2.map V.ref)) ∧ Objs H as2 prO ps ∧ ∀ H', Same H H' → Q (.bl true) H'
theorem ne_self (x : V) : (!decide (x = x)) = false := by rw [decide_eq_true rfl]; rfl
theorem ok_told (T : Txt K mg a) : FnOk P w K mg base CX0 5 a.f_told a.d_told ["_law_pacts", "_law_pairs_here"] (sp_told a.c_Pacts) := by
  refine T.F_told.ok sc_told (fun vs H Q E h => ?_) (fun cdv A outer s H vs Q E hr h => ?_)
  · obtain ⟨p, pl, hl, L, as, as2, ps, rfl, _⟩ := h
    rfl
  · obtain ⟨p, pl, hl, L, as, as2, ps, rfl, pa, ok, hL, ob, kk⟩ := h
    refine ⟨_, (pss_cons (ps_for PassesOwn.never rfl (pi_list (pv 1)) (pg_tup rfl (pgs_cons (pg_name (i := 2) sc_told.nd rfl (Or.inl rfl)) (pgs_cons (pg_name (i := 3) sc_told.nd rfl (Or.inl rfl)) (pgs_cons (pg_name (i := 4) sc_told.nd rfl (Or.inl rfl)) pgs_nil)))) (pss_cons (ps_if (PW.pt (pw_or (pt_cmpR op_ne (pe_methN (ks := ["side"]) (pv 0) T.cl_Pacts T.m_Pacts_over (ok_Pacts_over T) (hr.mono (by decide)) T.KN_Pacts_over_2 (pass0) (pa_cons (pv 2) pa_nil) (pk_cons pe_int pk_nil)) (pv 3) (nomark _)) (pw_or1 (pt_cmpR op_ne (pe_methN (ks := ["side"]) (pv 0) T.cl_Pacts T.m_Pacts_over (ok_Pacts_over T) (hr.mono (by decide)) T.KN_Pacts_over_2 (pass0) (pa_cons (pv 3) pa_nil) (pk_cons pe_int pk_nil)) (pv 2) (nomark _))))) (pss_one (ps_ret pe_bl)) pss_nil)
      (pss_cons (ps_set (i := 5) sc_told.nd rfl (Or.inl rfl) (pe_lst (pa_cons (pe_methN (ks := ["side"]) (pv 0) T.cl_Pacts T.m_Pacts_laden (ok_Pacts_laden T) (hr.mono (by decide)) T.KN_Pacts_laden_2 (pass0) (pa_cons (pv 2) pa_nil) (pk_cons pe_int pk_nil)) (pa_cons (pe_methN (ks := ["side"]) (pv 0) T.cl_Pacts T.m_Pacts_laden (ok_Pacts_laden T) (hr.mono (by decide)) T.KN_Pacts_laden_2 (pass0) (pa_cons (pv 3) pa_nil) (pk_cons pe_int pk_nil)) pa_nil))))
      (pss_cons (ps_if (PW.pt (pw_or (pt_cmpR (op_neD hr.units) (pv 5) (pe_lst (pa_cons (pv 4) (pa_cons (pv 4) pa_nil))) (nomark _)) (pw_or1 (pt_not (pt_val (pe_callB (cr_all rfl) (by rfl) T.z_all (by decide +kernel) (pa_cons (pe_lc (own := [("_law_truth", 6)]) (g := gName 6) (te := tCB (rIsi K) (tCons (tVar 6) (tCons (tC (.ty "bool")) tNil))) (tt := tYes) rfl sc_told.nd (pi_list (pv 5)) (blkOk_by (own := [("_law_truth", 6)]) (N := ["_law_pacts", "_law_pairs_here", "_law_near", "_law_far", "_law_laden", "_law_truths", "_law_truth"]) (sc := defScope s_told) (by decide +kernel)) (fun _ _ _ _ _ => pg_name (i := 6) sc_told.nd rfl (Or.inl rfl)) (fun _ _ _ _ _ => pts_nil) (fun _ _ _ _ _ => by exact (pe_callB call_isi (by rfl) T.z_isinstance (by decide +kernel) (pa_cons (pv 6) (pa_cons (pe_bltn (v := .ty "bool") (by rfl) T.z_bool (by decide +kernel) rfl) pa_nil))))) pa_nil))))))) (pss_one (ps_ret pe_bl)) pss_nil)
      (pss_one (ps_if (PW.pt (pw_or (pt_cmpR op_ne (pe_methN (ks := ["side"]) (pv 0) T.cl_Pacts T.m_Pacts_over (ok_Pacts_over T) (hr.mono (by decide)) T.KN_Pacts_over_2 (pass0) (pa_cons (pe_methN (ks := ["side"]) (pv 0) T.cl_Pacts T.m_Pacts_over (ok_Pacts_over T) (hr.mono (by decide)) T.KN_Pacts_over_2 (pass0) (pa_cons (pv 2) pa_nil) (pk_cons pe_int pk_nil)) pa_nil) (pk_cons pe_int pk_nil)) (pv 2) (nomark _)) (pw_or1 (pt_cmpR op_ne (pe_methKw (ks := ["word", "side"]) (pv 0) T.cl_Pacts T.m_Pacts_over (ok_Pacts_over T) (hr.mono (by decide)) T.KB_Pacts_over pass0 (pk_cons (pv 3) (pk_cons pe_int pk_nil))) (pv 2) (nomark _))))) (pss_one (ps_ret pe_bl)) pss_nil))))))
      (pss_one (ps_ret pe_bl))), ?_⟩
    refine ⟨_, rfl, L, rfl, ⟨_, SqL.of hL⟩, ?_⟩
    refine for_list (K := K) (a := L) (xs := as2.map V.ref) (fun i σ H1 => Blk (∃ v2 v3 v4 v5, σ = [some (.ref p), some (.ref L), v2, v3, v4, v5, none] ∧ Same H H1)) ?_ ?_ ?_ ?_
    · exact Blk.of ⟨_, _, _, _, rfl, Same.refl H⟩
    · intro i σ H1 _ hB
      obtain ⟨v2, v3, v4, v5, _, s1⟩ := hB.out
      exact SqL.of (s1 _ _ hL)
    · intro i y σ H1 hy hB
      obtain ⟨v2, v3, v4, v5, rfl, s1⟩ := hB.out
      obtain ⟨h, hh, rfl⟩ := refs_get hy
      have ob1 := ob.same s1
      obtain ⟨⟨near, far, lad⟩, hq, hq2⟩ := ob1.get hh
      have f0 := pairOf_at (.inl rfl) ok hq
      have f1 := pairOf_at (.inr rfl) ok hq
      have hq2' : H1 h = some (.tup [.str near, .str far, .bl lad]) := hq2
      refine ⟨h, _, rfl, SqT.of hq2', rfl, _, _, rfl, _, _, rfl, _, _, rfl, rfl, ?_⟩
      have pa1 := pa.same s1
      obtain ⟨dx, e1⟩ := pa1.ob
      refine ⟨_, rfl, p, dx, _, rfl, e1, pfs_no3, _, rfl, rfl, p, pl, hl, as, ps, near, 0, (near, far, lad), rfl, pa1, .inl rfl, f0, fun H2 s2 => ?_⟩
      have pa2 := pa1.same s2
      obtain ⟨dx2, e2⟩ := pa2.ob
      refine ⟨_, rfl, rfl, _, rfl, ?_⟩
      refine iteNS rfl ?_
      refine ⟨_, rfl, p, dx2, _, rfl, e2, pfs_no3, _, rfl, rfl, p, pl, hl, as, ps, far, 1, (near, far, lad), rfl, pa2, .inr rfl, f1, fun H3 s3 => ?_⟩
      have pa3 := pa2.same s3
      obtain ⟨dx3, e3⟩ := pa3.ob
      refine ⟨_, rfl, rfl, _, rfl, ?_⟩
      refine iteNS rfl ?_
      refine ⟨_, rfl, p, dx3, _, rfl, e3, pfs_no2, _, rfl, rfl, p, pl, hl, as, ps, near, 0, (near, far, lad), rfl, pa3, .inl rfl, f0, fun H4 s4 => ?_⟩
      have pa4 := pa3.same s4
      obtain ⟨dx4, e4⟩ := pa4.ob
      refine ⟨_, rfl, p, dx4, _, rfl, e4, pfs_no2, _, rfl, rfl, p, pl, hl, as, ps, far, 1, (near, far, lad), rfl, pa4, .inr rfl, f1, fun H5 s5 => ?_⟩
      refine ⟨by show 2 ≤ sizeLine; decide, fun M hM => ?_⟩
      have hM6 : (upd H5 M (.lst [.bl lad, .bl lad])) M = some (.lst [.bl lad, .bl lad]) := upd_same
      have s6 : Same H (upd H5 M (.lst [.bl lad, .bl lad])) := ((((s1.trans s2).trans s3).trans s4).trans s5).trans ((Same.refl H5).upd hM)
      show _
      generalize (upd H5 M (.lst [.bl lad, .bl lad])) = H6 at hM6 s6
      refine ⟨_, rfl, _, rfl, _, rfl, by show 2 ≤ sizeLine; decide, fun M2 hM2 => ?_⟩
      have n12 : M ≠ M2 := ne_of_none hM6 hM2
      refine ⟨.list [.bool lad, .bool lad], .list [.bool lad, .bool lad], .lst (SqL.of ((upd_ne n12).trans hM6)) (.cons (.bl _) (.cons (.bl _) .nil)), .lst (SqL.of upd_same) (.cons (.bl _) (.cons (.bl _) .nil)), by cases lad <;> decide +kernel, by cases lad <;> decide +kernel, ?_⟩
      have eq : PyData.eqv (.list [.bool lad, .bool lad]) (.list [.bool lad, .bool lad]) = true := by cases lad <;> decide +kernel
      rw [eq]
      refine ⟨_, rfl, ?_⟩
      refine iteF ?_
      have hM7 : (upd H6 M2 (.lst [.bl lad, .bl lad])) M = some (.lst [.bl lad, .bl lad]) := (upd_ne n12).trans hM6
      have s7 : Same H (upd H6 M2 (.lst [.bl lad, .bl lad])) := s6.trans ((Same.refl H6).upd hM2)
      show _
      generalize (upd H6 M2 (.lst [.bl lad, .bl lad])) = H7 at hM7 s7
      refine ⟨_, rfl, M, rfl, ⟨_, SqL.of hM7⟩, fun D hD => ?_⟩
      have nMD : M ≠ D := ne_of_none hM7 hD
      refine lc_list (K := K) (a := M) (xs := [.bl lad, .bl lad]) (fun i H8 => Blk (H8 = upd H7 D (.lst ((List.replicate i true).map V.bl)) ∧ i ≤ 2)) (Blk.of ⟨rfl, by omega⟩) (fun i H8 _ hB => ?_) ?_ ?_
      · obtain ⟨rfl, _⟩ := hB.out
        exact SqL.of ((upd_ne nMD).trans hM7)
      · intro i y H8 hi hB
        obtain ⟨rfl, _⟩ := hB.out
        obtain rfl : y = .bl lad := by
          match i, hi with
          | 0, hi => exact (Option.some.inj hi).symm
          | 1, hi => exact (Option.some.inj hi).symm
        have hl2 := get_lt hi
        simp at hl2
        refine ⟨rfl, ?_⟩
        dsimp only [tYes]
        refine iteT ?_
        refine ⟨_, rfl, _, _, _, _, true, rfl, .ty "bool", .base (.bl lad), kit_ty (by decide +kernel), _, upd_same, by rw [List.length_map, List.length_replicate]; exact small (by omega), Blk.of ⟨?_, by omega⟩⟩
        rw [upd_upd, List.replicate_succ', List.map_append]
        rfl
      · intro H8 hB
        obtain ⟨rfl, _⟩ := hB.out
        refine ⟨D, List.replicate 2 true, rfl, SqL.of upd_same, _, rfl, ?_⟩
        refine iteF ?_
        have s8 : Same H (upd H7 D (.lst ((List.replicate 2 true).map V.bl))) := s7.trans ((Same.refl H7).upd hD)
        show _
        generalize (upd H7 D (.lst ((List.replicate 2 true).map V.bl))) = H8 at s8
        have pa8 := pa.same s8
        obtain ⟨dx8, e8⟩ := pa8.ob
        refine ⟨_, rfl, p, dx8, _, rfl, e8, pfs_no3, ?_⟩
        refine ⟨_, rfl, p, dx8, _, rfl, e8, pfs_no3, _, rfl, rfl, p, pl, hl, as, ps, near, 0, (near, far, lad), rfl, pa8, .inl rfl, f0, fun H9 s9 => ?_⟩
        have pa9 := pa8.same s9
        refine ⟨rfl, p, pl, hl, as, ps, far, 1, (near, far, lad), rfl, pa9, .inr rfl, f1, fun H10 s10 => ?_⟩
        have pa10 := pa9.same s10
        obtain ⟨dx10, e10⟩ := pa10.ob
        refine ⟨_, rfl, rfl, _, rfl, ?_⟩
        refine iteNS rfl ?_
        refine ⟨_, rfl, p, dx10, _, rfl, e10, pfs_no3, _, rfl, p, pl, hl, as, ps, far, 1, (near, far, lad), rfl, pa10, .inr rfl, f1, fun H11 s11 => ?_⟩
        refine ⟨_, rfl, rfl, _, rfl, ?_⟩
        refine iteNS rfl ?_
        exact Blk.of ⟨_, _, _, _, rfl, ((s8.trans s9).trans s10).trans s11⟩
    · intro σ H1 hB
      obtain ⟨v2, v3, v4, v5, rfl, s1⟩ := hB.out
      exact kk H1 s1

/-! ### the law -/
def prD (z : My.Pr) : PyData := .tuple [.str z.1, .str z.2.1, .bool z.2.2]
def WordsOk (zs : List My.Pr) : Prop := ∀ z, z ∈ zs → My.nameB z.1 = true ∧ My.nameB z.2.1 = true
theorem name_ok {s : Str} (h : My.nameB s = true) : PyData.strOk s = true := by
  obtain ⟨_, _, h3⟩ := nameB_out h
  unfold PyData.strOk
  rw [← Array.all_toList]
  refine List.all_eq_true.mpr fun c hc => ?_
  have h4 := (List.all_eq_true.mp h3) c hc
  unfold My.letter at h4
  simp only [Bool.and_eq_true, decide_eq_true_eq] at h4
  exact decide_eq_true (by omega)
theorem prD_lay {z : My.Pr} (h : My.nameB z.1 = true ∧ My.nameB z.2.1 = true) : (prD z).canLay0 = true := by simp [prD, PyData.canLay0, PyData.canLayAll0, name_ok h.1, name_ok h.2]
theorem prD_deep (z : My.Pr) : (prD z).depth = 1 := by simp [prD, PyData.depth, PyData.depthAll]
theorem prDs_lay : ∀ zs : List My.Pr, WordsOk zs → PyData.canLayAll0 (zs.map prD) = true
  | [], _ => rfl
  | z :: r, h => by rw [List.map_cons, PyData.canLayAll0, prD_lay (h z List.mem_cons_self), prDs_lay r fun q hq => h q (List.mem_cons_of_mem _ hq)]; rfl
theorem prDs_deep : ∀ zs : List My.Pr, PyData.depthAll (zs.map prD) ≤ 1
  | [] => by simp [PyData.depthAll]
  | z :: r => by
    rw [List.map_cons, PyData.depthAll, prD_deep]
    have := prDs_deep r
    omega
theorem lPr_lay {zs : List My.Pr} (h : WordsOk zs) : (PyData.list (zs.map prD)).canLay0 = true := by rw [PyData.canLay0]; exact prDs_lay zs h
theorem lPr_shaped {zs : List My.Pr} (h : WordsOk zs) : SeqAt.shaped (.list (zs.map prD)) = true := by
  unfold SeqAt.shaped
  rw [lPr_lay h, PyData.depth]
  have := prDs_deep zs
  exact decide_eq_true (by omega)
theorem lPr_same {zs : List My.Pr} (h : WordsOk zs) : PyData.eqv (.list (zs.map prD)) (.list (zs.map prD)) = true := SeqAt.eqv_refl _ (lPr_lay h)
theorem dp_prs {K : PySem.W.Frag} {H : Hp} : ∀ {as : List Addr} {ps : List My.Pr}, Objs H as prO ps → DpAll K H (as.map V.ref) (ps.map prD)
  | [], [], _ => .nil
  | h :: hs, z :: zs, o => .cons (.tup (SqT.of (o.at_ 0 h z rfl rfl)) (.cons (.str _) (.cons (.str _) (.cons (.bl _) .nil)))) (dp_prs ⟨by have := o.len; simpa using this, fun i h' z' a b => o.at_ (i + 1) h' z' (by simpa using a) (by simpa using b)⟩)
  | [], _ :: _, o => by have := o.len; simp at this
  | _ :: _, [], o => by have := o.len; simp at this
theorem dp_prl {K : PySem.W.Frag} {H : Hp} {l : Addr} {as : List Addr} {ps : List My.Pr} (e : H l = some (.lst (as.map V.ref))) (o : Objs H as prO ps) : Dp K H (.ref l) (.list (ps.map prD)) := .lst (SqL.of e) (dp_prs o)
/-- the words of a side, as they are read off the pairs -/
theorem words_comp {K : PySem.W.Frag} {L : Addr} {as : List Addr} {ps : List My.Pr} {H H1 : Hp} {i : Int} {te : TE} {σ : L2.St} {D : Addr} {Qd : Hp → Prop} (ob : Objs H as prO ps) (hL : H L = some (.lst (as.map V.ref))) (s1 : Same H H1) (hD : H1 D = none) (hz : ps.length ≤ 1000)
    (ht : ∀ (h : Addr) (q : My.Pr) (H2 : Hp) (R : VK), H2 h = some (prO q) → R (.str (wd i q)) H2 → te ((wipe σ [10]).set 10 (some (.ref h))) H2 R)
    (hd : ∀ H2 : Hp, Same H1 H2 → H2 D = some (.lst ((ps.map (wd i)).map V.str)) → Qd H2) :
    ∃ W : Nat → Nat → Hp → Prop, (∃ m, W 0 m (upd H1 D (.lst []))) ∧ ∀ i m H, W i m H →
      ((Itl K L).stop i H ∧ Qd H) ∨ ((Itl K L).go i H ∧ ∃ Nx : Hp → Prop, (∀ H', Nx H' → ∃ m', m' < m ∧ W (i + 1) m' H') ∧ ∀ x H', (Itl K L).yld i H x H' → gName 10 x (wipe σ [10]) H' fun σ2 H2 => wipe σ2 [10] = wipe σ [10] ∧ tYes σ2 H2 fun b H3 =>
        if b = true then te σ2 H3 fun y H4 => ∃ acc, H4 D = some (.lst acc) ∧ acc.length < sizeLine ∧ Nx (upd H4 D (.lst (acc ++ [y]))) else Nx H3) := by
  have nLD : L ≠ D := ne_of_none (s1 _ _ hL) hD
  have asl := ob.len
  refine lc_list (K := K) (a := L) (xs := as.map V.ref) (fun k H2 => Blk (H2 = upd H1 D (.lst (((ps.take k).map (wd i)).map V.str)))) (Blk.of rfl) (fun k H2 _ hB => ?_) ?_ ?_
  · obtain rfl := hB.out
    exact SqL.of ((upd_ne nLD).trans (s1 _ _ hL))
  · intro k y H2 hy hB
    obtain rfl := hB.out
    obtain ⟨h, hh, rfl⟩ := refs_get hy
    obtain ⟨q, hq, hq2⟩ := ob.get hh
    have hq3 := s1 _ _ hq2
    have hk := get_lt hq
    refine ⟨by simp [wipe], ?_⟩
    dsimp only [tYes]
    refine iteT ?_
    refine ht h q _ _ ((upd_ne (ne_of_none hq3 hD)).trans hq3) ⟨_, upd_same, by rw [List.length_map, List.length_map, List.length_take]; exact small (by omega), Blk.of ?_⟩
    rw [upd_upd, take_snoc hq, List.map_append, List.map_append]
    rfl
  · intro H2 hB
    obtain rfl := hB.out
    have e : ps.take (as.map V.ref).length = ps := by rw [List.length_map, asl, List.take_length]
    rw [e]
    exact hd _ ((Same.refl H1).upd hD) upd_same
def spLaw (K : PySem.W.Frag) : Sp := fun vs H Q _ => ∃ (s : Addr) (ns : List Int), vs = [.ref s] ∧ SqL K H s (ns.map V.int) ∧ ns.length ≤ 63 ∧ ∀ H', Q (.bl true) H'
def tailW : List Str := ["", "A", "abcdefghi"]
theorem ok_law (T : Txt K mg a) : FnOk P w K mg base CX0 7 a.f_law a.d_law ["_law_script"] (spLaw K) := by
  refine T.F_law.ok sc_law (fun vs H Q E h => ?_) (fun cdv A outer s H vs Q E hr h => ?_)
  · obtain ⟨s, ns, rfl, _⟩ := h
    rfl
  · obtain ⟨sc, ns, rfl, hS, hl, kk⟩ := h
    refine ⟨_, (pss_cons (ps_set (i := 1) sc_law.nd rfl (Or.inl rfl) (pe_call (ok_box T) (hr.mono (by decide)) rfl T.g_box T.k_box T.B_box .nil pass0 (pa_cons (pv 0) pa_nil)))
      (pss_cons (ps_set (i := 2) sc_law.nd rfl (Or.inl rfl) (pe_call (ok_pairs T) (hr.mono (by decide)) rfl T.g_pairs T.k_pairs T.B_pairs .nil pass0 (pa_cons (pv 1) (pa_cons pe_int pa_nil))))
      (pss_cons (ps_set (i := 3) sc_law.nd rfl (Or.inl rfl) (pe_op op_cat (pe_call (ok_names T) (hr.mono (by decide)) rfl T.g_names T.k_names T.B_names .nil pass0 (pa_cons (pv 1) (pa_cons pe_int pa_nil))) (pe_lst (pa_cons pe_str (pa_cons pe_str (pa_cons pe_str pa_nil))))))
      (pss_cons (ps_set (i := 4) sc_law.nd rfl (Or.inl rfl) (pe_callTy call_list_of (by rfl) T.z_list (by decide +kernel) (pa_cons (pv 2) pa_nil)))
      (pss_cons (ps_set (i := 5) sc_law.nd rfl (Or.inl rfl) (pe_make T.mk_Pacts (ok_Pacts_init T) (hr.mono (by decide)) rfl T.g_Pacts T.B_Pacts_init .nil pass0 (pa_cons (pv 4) (pa_cons (pe_lst pa_nil) pa_nil))))
      (pss_cons (ps_expr (pe_bm0 PySem.F.plainAttrs_list PySem.F.slot_list_clear PySem.F.type_list_clear mt_clear (pv 4)))
      (pss_cons (ps_set (i := 6) sc_law.nd rfl (Or.inl rfl) (pe_meth0 (pv 5) T.cl_Pacts T.m_Pacts_pairs (ok_Pacts_pairs T) (hr.mono (by decide)) T.B_Pacts_pairs .nil pass0))
      (pss_cons (ps_if (PW.pt (pw_or (pt_cmpR (op_neD hr.units) (pv 6) (pv 2) (nomark _)) (pw_or (pt_not (pt_val (pe_call (ok_told T) (hr.mono (by decide)) rfl T.g_told T.k_told T.B_told .nil pass0 (pa_cons (pv 5) (pa_cons (pv 2) pa_nil))))) (pw_or1 (pt_cmpR op_ne (pe_callB (call_lenOwn T.m_Pacts_len (ok_Pacts_len T) (hr.mono (by decide)) T.B_Pacts_len pass0) (by rfl) T.z_len (by decide +kernel) (pa_cons (pv 5) pa_nil)) pe_int (nomark _)))))) (pss_one (ps_ret pe_bl)) pss_nil)
      (pss_cons (ps_expr (pe_bm PySem.F.plainAttrs_list PySem.F.slot_list_append PySem.F.type_list_append mt_append (pv 6) (pa_cons (pe_tup (pa_cons pe_str (pa_cons pe_str (pa_cons pe_bl pa_nil)))) pa_nil)))
      (pss_cons (ps_for PassesOwn.never rfl (pi_range1 (by rfl) T.z_range (pa_cons pe_int pa_nil)) (pg_name (i := 7) sc_law.nd rfl (Or.inr rfl)) (pss_cons (ps_setLc (i := 8) (own := [("_law_pair", 10)]) (g := gName 10) (te := tOp (rIxT K) (tVar 10) (tVar 7)) (tt := tYes) rfl sc_law.nd rfl rfl (sw_true rfl rfl rfl (by decide +kernel)) (pi_list (pv 2)) (blkOk_by (own := [("_law_pair", 10)]) (N := ["_law_script", "_law_box_here", "_law_pairs_here", "_law_others", "_law_mine", "_law_pacts", "_law_told_here", "_law_team", "_law_words", "_law_term", "_law_pair"]) (sc := defScope s_law) (by decide +kernel)) (fun _ _ _ _ _ => pg_name (i := 10) sc_law.nd rfl (Or.inl rfl)) (fun _ _ _ _ _ => pts_nil) (fun _ _ _ _ _ => by exact (pe_ix ix_tup (pv 10) (pv 7) (fun _ _ => rfl))))
      (pss_one (ps_for PassesOwn.never rfl (pi_list (pe_op op_cat (pv 3) (pe_lc (own := [("_law_pair", 10)]) (g := gName 10) (te := tOp (rIxT K) (tVar 10) (tOp (rI0 fun i j => .int (i - j)) (tC (.int 1)) (tVar 7))) (tt := tYes) rfl sc_law.nd (pi_list (pv 2)) (blkOk_by (own := [("_law_pair", 10)]) (N := ["_law_script", "_law_box_here", "_law_pairs_here", "_law_others", "_law_mine", "_law_pacts", "_law_told_here", "_law_team", "_law_words", "_law_term", "_law_pair"]) (sc := defScope s_law) (by decide +kernel)) (fun _ _ _ _ _ => pg_name (i := 10) sc_law.nd rfl (Or.inl rfl)) (fun _ _ _ _ _ => pts_nil) (fun _ _ _ _ _ => by exact (pe_ix ix_tup (pv 10) (pe_op op_sub pe_int (pv 7)) (fun _ _ => rfl)))))) (pg_name (i := 9) sc_law.nd rfl (Or.inl rfl)) (pss_one (ps_if (PW.pt (pw_and (pt_cmpR op_notIn_seq (pv 9) (pv 8) (by rfl)) (pw_and1 (pt_not (pt_val (pe_call (ok_refused T) (hr.mono (by decide)) rfl T.g_refused T.k_refused T.B_refused .nil pass0 (pa_cons (pv 5) (pa_cons (pv 9) (pa_cons (pv 7) pa_nil))))))))) (pss_one (ps_ret pe_bl)) pss_nil))))))
      (pss_one (ps_ret (pe_and (pe_cmpR (op_eqD hr.units) (pe_meth0 (pv 5) T.cl_Pacts T.m_Pacts_pairs (ok_Pacts_pairs T) (hr.mono (by decide)) T.B_Pacts_pairs .nil pass0) (pv 2) (nomark _)) (pe_one (pe_call (ok_told T) (hr.mono (by decide)) rfl T.g_told T.k_told T.B_told .nil pass0 (pa_cons (pv 5) (pa_cons (pv 2) pa_nil))))))))))))))))), ?_⟩
    refine ⟨_, rfl, sc, ns, rfl, hS, hl, fun b g l H1 hb hg hl bx s1 => ?_⟩
    refine ⟨_, rfl, b, g, l, 0, 6, rfl, bx, by omega, by omega, by omega, by omega, fun L as ps n2 H2 hL hL2 ob2 fr2 ok a2 b2 bx2 kp2 => ?_⟩
    have wok : WordsOk ps := fun z hz => ok.nm z hz
    have hz : ps.length ≤ 6 := ok.many
    have offas : ∀ {x : Addr}, x ∈ [b, g] → x ∉ as := fun {x} hx hm => by
      have := fr2 x hm
      obtain ⟨gs, ls, cur, e1, e2, _⟩ := bx
      simp at hx
      rcases hx with rfl | rfl
      · rw [e1] at this; cases this
      · rw [e2] at this; cases this
    have hLo : L ∉ [b, g] := offbox bx hL
    refine ⟨_, rfl, b, g, l, n2, 3, rfl, bx2, by omega, by omega, by omega, by omega, fun N1 ns3 n3 H3 hN hN3 hl3 nm3 nd3 a3 b3 bx3 kp3 => ?_⟩
    have hL3 := kp3 _ _ hL2 hLo
    have ob3 := ob2.keep kp3 fun x hx => offas hx
    clear bx bx2 bx3 kp2 kp3 a2 b2 a3 b3
    refine ⟨by show 3 ≤ sizeLine; decide, fun N2 hN2 => ?_⟩
    have n12 : N1 ≠ N2 := ne_of_none hN3 hN2
    refine ⟨N1, N2, _, _, rfl, rfl, (upd_ne n12).trans hN3, upd_same, ?_, fun N hN0 => ?_⟩
    · rw [List.length_map]
      exact Nat.le_of_lt (small (by simp; omega))
    have n2N : N2 ≠ N := ne_of_none upd_same hN0
    have hN03 : H3 N = none := (upd_ne n2N.symm).symm.trans hN0
    have s34 : Same H3 (upd (upd H3 N2 (.lst [.str "", .str "A", .str "abcdefghi"])) N (.lst (ns3.map V.str ++ [.str "", .str "A", .str "abcdefghi"]))) := ((Same.refl H3).upd hN2).upd hN03
    have hN4 : (upd (upd H3 N2 (.lst [.str "", .str "A", .str "abcdefghi"])) N (.lst (ns3.map V.str ++ [.str "", .str "A", .str "abcdefghi"]))) N = some (.lst ((ns3 ++ tailW).map V.str)) := by
      rw [upd_same, List.map_append]
      rfl
    show _
    generalize (upd (upd H3 N2 (.lst [.str "", .str "A", .str "abcdefghi"])) N (.lst (ns3.map V.str ++ [.str "", .str "A", .str "abcdefghi"]))) = H4 at s34 hN4
    have others : ∀ x, x ∈ (ns3 ++ tailW) → x.length ≤ 40000 := fun x hx => by
      rcases List.mem_append.mp hx with e | e
      · have := name_len (nm3 x e)
        omega
      · have : ∀ y, y ∈ tailW → y.length ≤ 40000 := by decide +kernel
        exact this x e
    have ol : (ns3 ++ tailW).length ≤ 10 := by
      rw [List.length_append]
      show ns3.length + 3 ≤ 10
      omega
    generalize (ns3 ++ tailW) = oth at hN4 others ol
    have hL4 := s34 _ _ hL3
    have ob4 := ob3.same s34
    -- mine = list(pairs)
    refine ⟨_, rfl, L, _, rfl, .inl (SqL.of hL4), fun M hM => ?_⟩
    have nLM : L ≠ M := ne_of_none hL4 hM
    have nNM : N ≠ M := ne_of_none hN4 hM
    have s45 : Same H4 (upd H4 M (.lst (as.map V.ref))) := (Same.refl H4).upd hM
    have hM5 : (upd H4 M (.lst (as.map V.ref))) M = some (.lst (as.map V.ref)) := upd_same
    show _
    generalize (upd H4 M (.lst (as.map V.ref))) = H5 at s45 hM5
    have hL5 := s45 _ _ hL4
    have hN5 := s45 _ _ hN4
    have ob5 := ob4.same s45
    -- Pacts(mine, [])
    refine ⟨_, rfl, by show 0 ≤ sizeLine; decide, fun Lh hLh => ?_⟩
    have nMLh : M ≠ Lh := ne_of_none hM5 hLh
    have s56 : Same H5 (upd H5 Lh (.lst [])) := (Same.refl H5).upd hLh
    have hLh6 : (upd H5 Lh (.lst [])) Lh = some (.lst []) := upd_same
    show _
    generalize (upd H5 Lh (.lst [])) = H6 at s56 hLh6
    have hM6 := s56 _ _ hM5
    have hL6 := s56 _ _ hL5
    have hN6 := s56 _ _ hN5
    have ob6 := ob5.same s56
    intro p dx np ndx nex
    have s67 : Same H6 (upd (upd H6 dx (.own p)) p (.ins a.c_Pacts dx [])) := ((Same.refl H6).upd ndx).upd np
    have hp7 : (upd (upd H6 dx (.own p)) p (.ins a.c_Pacts dx [])) p = some (.ins a.c_Pacts dx []) := upd_same
    show _
    generalize (upd (upd H6 dx (.own p)) p (.ins a.c_Pacts dx [])) = H7 at s67 hp7
    have hM7 := s67 _ _ hM6
    have hL7 := s67 _ _ hL6
    have hN7 := s67 _ _ hN6
    have ob7 := ob6.same s67
    refine ⟨p, dx, M, Lh, as, ps, rfl, hp7, hM7, s67 _ _ hLh6, ob7, ok, fun pl hl H8 hpl hhl pa8 kp8 => ⟨rfl, ?_⟩⟩
    have nMp : M ≠ p := ne_of hM7 hp7 (fun q => by cases q)
    have nLp : L ≠ p := ne_of hL7 hp7 (fun q => by cases q)
    have nNp : N ≠ p := ne_of hN7 hp7 (fun q => by cases q)
    have nMpl : M ≠ pl := ne_of_none hM7 hpl
    have nMhl : M ≠ hl := ne_of_none hM7 hhl
    have hM8 := kp8 _ _ hM7 (by simp [nMp])
    have hL8 := kp8 _ _ hL7 (by simp [nLp])
    have hN8 := kp8 _ _ hN7 (by simp [nNp])
    have ob8 := pa8.ps
    have nMas : M ∉ as := fun hm => by
      obtain ⟨i, hi⟩ := List.getElem?_of_mem hm
      obtain ⟨q, _, hq⟩ := ob8.get hi
      rw [hM8] at hq
      cases hq
    -- mine.clear()
    refine ⟨_, rfl, .inl ⟨rfl, _, SqL.of hM8⟩, M, _, rfl, rfl, hM8, ?_⟩
    have pa9 : PactsAt a.c_Pacts (upd H8 M (.lst [])) p pl hl as ps := by
      obtain ⟨⟨dy, e⟩, e1, e2, e3⟩ := pa8
      refine ⟨⟨dy, (upd_ne nMp.symm).trans e⟩, (upd_ne nMpl.symm).trans e1, (upd_ne nMhl.symm).trans e2, ?_⟩
      exact e3.keep (R := [M]) ((Keeps.refl _ H8).upd (.inl (by simp))) fun x hx => by simp at hx; subst hx; exact nMas
    have hL9 : (upd H8 M (.lst [])) L = some (.lst (as.map V.ref)) := (upd_ne nLM).trans hL8
    have hN9 : (upd H8 M (.lst [])) N = some (.lst (oth.map V.str)) := (upd_ne nNM).trans hN8
    show _
    generalize (upd H8 M (.lst [])) = B at pa9 hL9 hN9
    clear s34 s45 s56 s67 hM8 hL8 hN8 ob8 hM7 hL7 hN7 ob7 hM6 hL6 hN6 ob6 hM5 hL5 hN5 ob5 hL4 hN4 ob4 hL3 ob3 pa8 kp8
    have obB := pa9.ps
    -- told = pacts.pairs()
    obtain ⟨dx9, e9⟩ := pa9.ob
    refine ⟨_, rfl, p, dx9, _, rfl, e9, (by kernel_rfl), p, pl, hl, as, ps, rfl, pa9, fun r HA hr hrA sA => ?_⟩
    have paA := pa9.same sA
    have hLA := sA _ _ hL9
    have obA := obB.same sA
    obtain ⟨dxA, eA⟩ := paA.ob
    refine ⟨_, rfl, _, rfl, _, _, dp_prl hrA obA, dp_prl hLA obA, lPr_shaped wok, lPr_shaped wok, ?_⟩
    rw [lPr_same wok]
    refine ⟨_, rfl, ?_⟩
    refine iteF ?_
    refine ⟨_, rfl, _, rfl, p, pl, hl, L, as, as, ps, rfl, paA, ok, hLA, obA, fun HB sB => ⟨_, rfl, ?_⟩⟩
    refine iteF ?_
    have paB := paA.same sB
    obtain ⟨dxB, eB⟩ := paB.ob
    refine ⟨_, rfl, p, dxB, _, rfl, eB, p, pl, hl, as, ps, rfl, paB, 0, rfl, by decide, by decide, rfl, _, rfl, ?_⟩
    refine iteNS rfl ?_
    have hrB := sB _ _ hrA
    refine ⟨_, rfl, .inl ⟨rfl, _, SqL.of hrB⟩, by show 3 ≤ sizeLine; decide, fun t ht => ?_⟩
    have nrt : r ≠ t := ne_of_none hrB ht
    refine ⟨r, _, _, rfl, rfl, (upd_ne nrt).trans hrB, ?_, ?_⟩
    · rw [List.length_map, obA.len]
      exact small (by omega)
    have sC : Same B (upd (upd HB t (.tup [.str "x", .str "y", .bl true])) r (.lst (as.map V.ref ++ [.ref t]))) := ((sA.trans sB).trans ((Same.refl HB).upd ht)).upd hr
    show _
    generalize (upd (upd HB t (.tup [.str "x", .str "y", .bl true])) r (.lst (as.map V.ref ++ [.ref t]))) = HC at sC
    refine ⟨2, rfl, by decide, by decide, ?_⟩
    refine for_range (lo := 0) (n := 2) (fun k σ H' => Blk (∃ v7 v8 v9, σ = [some (.ref sc), some (.ref b), some (.ref L), some (.ref N), some (.ref M), some (.ref p), some (.ref r), v7, v8, v9, none] ∧ Same B H')) ?_ ?_ ?_
    · exact Blk.of ⟨_, _, _, rfl, sC⟩
    · intro k σ H' hk hB
      obtain ⟨v7, v8, v9, rfl, s'⟩ := hB.out
      have hi : (0 : Int) + (k : Nat) = 0 ∨ (0 : Int) + (k : Nat) = 1 := by omega
      generalize (0 : Int) + (k : Nat) = i at hi
      have i1 : 1 - i = 0 ∨ 1 - i = 1 := by omega
      refine ⟨_, rfl, L, rfl, ⟨_, SqL.of (s' _ _ hL9)⟩, fun D hD => ?_⟩
      refine words_comp (i := i) obB hL9 s' hD (by omega) (fun h q H2 R hq hR => ?_) fun H2 s2 hD2 => ?_
      · exact ⟨_, rfl, _, rfl, _, _, _, _, rfl, rfl, SqT.of hq, wd_at hi q, hR⟩
      have s'2 := s'.trans s2
      refine ⟨_, rfl, _, rfl, L, rfl, ⟨_, SqL.of (s'2 _ _ hL9)⟩, fun G hG => ?_⟩
      refine words_comp (i := 1 - i) obB hL9 s'2 hG (by omega) (fun h q H2 R hq hR => ?_) fun H3 s3 hG3 => ?_
      · exact ⟨_, rfl, _, rfl, _, _, rfl, rfl, _, _, _, _, rfl, rfl, SqT.of hq, wd_at i1 q, hR⟩
      have s'3 := s'2.trans s3
      refine ⟨N, G, _, _, rfl, rfl, s'3 _ _ hN9, hG3, ?_, fun J hJ => ?_⟩
      · rw [List.length_map, List.length_map, List.length_map]
        exact Nat.le_of_lt (small (by omega))
      have hJ4 : (upd H3 J (.lst (oth.map V.str ++ (ps.map (wd (1 - i))).map V.str))) J = some (.lst ((oth ++ ps.map (wd (1 - i))).map V.str)) := by rw [upd_same, List.map_append]
      have s'4 : Same B (upd H3 J (.lst (oth.map V.str ++ (ps.map (wd (1 - i))).map V.str))) := s'3.trans ((Same.refl H3).upd hJ)
      have hD4 : (upd H3 J (.lst (oth.map V.str ++ (ps.map (wd (1 - i))).map V.str))) D = some (.lst ((ps.map (wd i)).map V.str)) := (upd_ne (ne_of_none (s3 _ _ hD2) hJ)).trans (s3 _ _ hD2)
      show _
      generalize (upd H3 J (.lst (oth.map V.str ++ (ps.map (wd (1 - i))).map V.str))) = H4 at hJ4 s'4 hD4
      refine ⟨J, rfl, ⟨_, SqL.of hJ4⟩, ?_⟩
      have short : ∀ x, x ∈ oth ++ ps.map (wd (1 - i)) → x.length ≤ 40000 := fun x hx => by
        rcases List.mem_append.mp hx with e | e
        · exact others x e
        · obtain ⟨q, hq, rfl⟩ := List.mem_map.mp e
          obtain ⟨m1, m2⟩ := ok.nm q hq
          have := name_len m1
          have := name_len m2
          unfold wd
          split <;> omega
      refine for_list (K := K) (a := J) (xs := (oth ++ ps.map (wd (1 - i))).map V.str) (fun j σ H5 => Blk (∃ v9, σ = [some (.ref sc), some (.ref b), some (.ref L), some (.ref N), some (.ref M), some (.ref p), some (.ref r), some (.int i), some (.ref D), v9, none] ∧ Same H4 H5)) ?_ ?_ ?_ ?_
      · exact Blk.of ⟨_, rfl, Same.refl H4⟩
      · intro j σ H5 _ hB
        obtain ⟨v9, _, s5⟩ := hB.out
        exact SqL.of (s5 _ _ hJ4)
      · intro j y σ H5 hy hB
        obtain ⟨v9, rfl, s5⟩ := hB.out
        obtain ⟨x, hx, rfl⟩ := strs_get hy
        refine ⟨_, rfl, _, rfl, D, _, rfl, .inl (SqL.of (s5 _ _ hD4)), rfl, flat_str _, _, rfl, ?_⟩
        rw [if_pos rfl, inV_str]
        refine iteB (fun c => ?_) (fun c => ?_)
        · have nin : x ∉ ps.map (wd i) := by simpa using c
          have none_ : pairOf i x ps = none := by
            unfold pairOf
            rw [List.find?_eq_none]
            intro z hz2 c2
            exact nin (List.mem_map.mpr ⟨z, hz2, of_decide_eq_true c2⟩)
          refine ⟨_, rfl, _, rfl, _, rfl, p, pl, hl, as, ps, x, i, rfl, (pa9.same s'4).same s5, hi, none_, short x (List.mem_of_getElem? hx), fun H6 s6 => ⟨_, rfl, ?_⟩⟩
          refine iteF ?_
          exact Blk.of ⟨_, rfl, s5.trans s6⟩
        · exact Blk.of ⟨_, rfl, s5⟩
      · intro σ H5 hB
        obtain ⟨v9, rfl, s5⟩ := hB.out
        exact Blk.of ⟨_, _, _, rfl, s'4.trans s5⟩
    · intro σ H' hB
      obtain ⟨v7, v8, v9, rfl, s'⟩ := hB.out
      have paE := pa9.same s'
      obtain ⟨dxE, eE⟩ := paE.ob
      refine ⟨_, rfl, p, dxE, _, rfl, eE, (by kernel_rfl), p, pl, hl, as, ps, rfl, paE, fun r2 HF hr2 hrF sF => ?_⟩
      have sBF := s'.trans sF
      have obF := obB.same sBF
      refine ⟨_, rfl, _, _, dp_prl hrF obF, dp_prl (sBF _ _ hL9) obF, lPr_shaped wok, lPr_shaped wok, ?_⟩
      rw [lPr_same wok]
      refine ⟨_, rfl, ?_⟩
      refine iteT ?_
      exact ⟨_, rfl, _, rfl, p, pl, hl, L, as, as, ps, rfl, pa9.same sBF, ok, sBF _ _ hL9, obF, fun HG _ => kk HG⟩
end
theorem all_mk {l : PySem.W.OpenLaw} {w : World} {K : PySem.W.Frag} {h : Heap} {mg : Str → Option Value} {fa c_Pacts c_NoWord c_PactError c_NoHelper f_NoWord_init f_is_whole f_is_side f_is_name f_Pacts_init f_Pacts_pairs f_Pacts_laden f_Pacts_over f_Pacts_p_pair f_Pacts_len f_p_is_pair f_p_fits_pairs f_box f_mixed f_take f_name f_names f_pairs f_refused f_told f_law : Addr} (X : K.In h) (G : h.Ns mainGlobals mg) (hfa : mg "law" = some (.ref fa))
    {od_NoWord_init an_NoWord_init od_is_whole an_is_whole od_is_side an_is_side od_is_name an_is_name od_Pacts_init an_Pacts_init od_Pacts_pairs an_Pacts_pairs od_Pacts_laden an_Pacts_laden od_Pacts_over an_Pacts_over od_Pacts_p_pair an_Pacts_p_pair od_Pacts_len an_Pacts_len od_p_is_pair an_p_is_pair od_p_fits_pairs an_p_fits_pairs od_box an_box od_mixed an_mixed od_take an_take od_name an_name od_names an_names od_pairs an_pairs od_refused an_refused od_told an_told od_law an_law : Option Addr} {sl_NoWord_init sl_is_whole sl_is_side sl_is_name sl_Pacts_init sl_Pacts_pairs sl_Pacts_laden sl_Pacts_over sl_Pacts_p_pair sl_Pacts_len sl_p_is_pair sl_p_fits_pairs sl_box sl_mixed sl_take sl_name sl_names sl_pairs sl_refused sl_told sl_law : Array (Option Value)}
    {oc_NoWord_init kV_NoWord_init dc_NoWord_init pm_NoWord_init cd_NoWord_init ct_NoWord_init oc_is_whole kV_is_whole dc_is_whole pm_is_whole cd_is_whole ct_is_whole oc_is_side kV_is_side dc_is_side pm_is_side cd_is_side ct_is_side oc_is_name kV_is_name dc_is_name pm_is_name cd_is_name ct_is_name oc_Pacts_init kV_Pacts_init dc_Pacts_init pm_Pacts_init cd_Pacts_init ct_Pacts_init oc_Pacts_pairs kV_Pacts_pairs dc_Pacts_pairs pm_Pacts_pairs cd_Pacts_pairs ct_Pacts_pairs oc_Pacts_laden kV_Pacts_laden dc_Pacts_laden pm_Pacts_laden cd_Pacts_laden ct_Pacts_laden oc_Pacts_over kV_Pacts_over dc_Pacts_over pm_Pacts_over cd_Pacts_over ct_Pacts_over oc_Pacts_p_pair kV_Pacts_p_pair dc_Pacts_p_pair pm_Pacts_p_pair cd_Pacts_p_pair ct_Pacts_p_pair oc_Pacts_len kV_Pacts_len dc_Pacts_len pm_Pacts_len cd_Pacts_len ct_Pacts_len oc_p_is_pair kV_p_is_pair dc_p_is_pair pm_p_is_pair cd_p_is_pair ct_p_is_pair oc_p_fits_pairs kV_p_fits_pairs dc_p_fits_pairs pm_p_fits_pairs cd_p_fits_pairs ct_p_fits_pairs oc_box kV_box dc_box pm_box cd_box ct_box oc_mixed kV_mixed dc_mixed pm_mixed cd_mixed ct_mixed oc_take kV_take dc_take pm_take cd_take ct_take oc_name kV_name dc_name pm_name cd_name ct_name oc_names kV_names dc_names pm_names cd_names ct_names oc_pairs kV_pairs dc_pairs pm_pairs cd_pairs ct_pairs oc_refused kV_refused dc_refused pm_refused cd_refused ct_refused oc_told kV_told dc_told pm_told cd_told ct_told oc_law kV_law dc_law pm_law cd_law ct_law : Value}
    {nm_NoWord qn_NoWord : Str} {N_NoWord : Addr} {bs_NoWord bm_NoWord sub_NoWord : List Value} {sn_NoWord : List Str} {ab_NoWord : Bool} {col_NoWord : Option Bool} {dd_NoWord : Option Addr} {e0_NoWord e1_NoWord e2_NoWord e3_NoWord e5_NoWord : Option Value}
    {t_LONGEST_NAME : Tok}
    {t_MOST_PAIRS : Tok}
    (a_Pacts : PySem.W.nsIn K mainGlobals "Pacts" = some (some (.ref c_Pacts)))
    (pg_Pacts : PySem.W.plainGet K c_Pacts Str.empty = true)
    (hd_Pacts : PySem.W.hasDictIn K c_Pacts = true)
    (po_Pacts : PySem.W.plainOver K c_Pacts = true)
    (sa_Pacts : PySem.W.findIn K (.ref c_Pacts) "__setattr__" = some (some (.builtin "object.__setattr__")))
    (mk_Pacts : PySem.W.makesIn K c_Pacts = true)
    (kc_Pacts : PySem.W.keepIn K (.ref c_Pacts) = true)
    (n_Pacts__pairs : PySem.W.findIn K (.ref c_Pacts) "_pairs" = some none)
    (n_Pacts__helpers : PySem.W.findIn K (.ref c_Pacts) "_helpers" = some none)
    (a_NoWord : PySem.W.nsIn K mainGlobals "NoWord" = some (some (.ref c_NoWord)))
    (xl_NoWord : K.lookup c_NoWord = some (excClassObj nm_NoWord qn_NoWord c_NoWord N_NoWord bs_NoWord bm_NoWord true sn_NoWord sub_NoWord ab_NoWord col_NoWord dd_NoWord e0_NoWord e1_NoWord e2_NoWord e3_NoWord e5_NoWord "ValueError.__new__"))
    (xm_NoWord : PySem.HandSPX.refsVE bm_NoWord = true)
    (xs_NoWord : PySem.W.findIn K (.ref c_NoWord) "__setattr__" = some (some (.builtin "object.__setattr__")))
    (xe_NoWord : PySem.W.subIn K (.ref c_NoWord) (.type "BaseException") = some true)
    (xy_NoWord : PySem.W.typeIn K (.ref c_NoWord) = some (.type "type"))
    (xk_NoWord : PySem.W.keepIn K (.ref c_NoWord) = true)
    (xg_NoWord : PySem.W.findIn K (.ref c_NoWord) "__getattribute__" = some (some (.builtin "BaseException.__getattribute__")))
    (xo_NoWord : PySem.W.findIn K (.ref c_NoWord) "__getattr__" = some none)
    (xd_NoWord : PySem.W.hasDictIn K c_NoWord = true)
    (n_NoWord_word : PySem.W.findIn K (.ref c_NoWord) "word" = some none)
    (a_PactError : PySem.W.nsIn K mainGlobals "PactError" = some (some (.ref c_PactError)))
    (da_PactError : PySem.W.specialIn K (.ref c_PactError) "__getattribute__" = some (some (.builtin "type.__getattribute__")))
    (dr_PactError : PySem.W.readsIn K c_PactError (.type "type") = true)
    (df_PactError : PySem.W.findCls K (.ref c_PactError) (.type "type") "__init__" = some (.val (.builtin "ValueError.__init__")))
    (a_NoHelper : PySem.W.nsIn K mainGlobals "NoHelper" = some (some (.ref c_NoHelper)))
    (v_LONGEST_NAME : PySem.W.nsIn K mainGlobals "LONGEST_NAME" = some (some (.int 8 t_LONGEST_NAME)))
    (v_MOST_PAIRS : PySem.W.nsIn K mainGlobals "MOST_PAIRS" = some (some (.int 6 t_MOST_PAIRS)))
    (fa_NoWord : PySem.W.findIn K (.ref c_NoWord) "__class__" = some (some (.builtin "object.__class__")))
    (fm_NoWord : PySem.W.mroIn K c_NoWord (.type "object") = some true)
    (fs_NoWord : PySem.W.kitOne K (.ref c_NoWord) (.ref c_NoWord) = some true)
    (fv_NoWord : PySem.W.kitOne K (.ref c_NoWord) (.type "ValueError") = some true)
    (fx_NoWord : PySem.W.kitOne K (.ref c_NoWord) (.ref c_NoHelper) = some false)
    (fe_NoWord : PySem.W.exmOne K (.ref c_NoWord) (.ref c_PactError) = some true)
    (fg : PySem.W.specialIn K (.builtin "object.__class__") "__get__" = some (some (.builtin "getset_descriptor.__get__")))
    (ft : PySem.W.takesIn K (.builtin "object.__class__") = some true)
    (a_NoWord_init : PySem.W.findIn K (.ref c_NoWord) "__init__" = some (some (.ref f_NoWord_init)))
    (i_NoWord_init : PySem.W.isFn K (.ref f_NoWord_init) = true)
    (l_NoWord_init : K.lookup f_NoWord_init = some ⟨oc_NoWord_init, od_NoWord_init, .func (PySem.W.fnOf "__init__" "NoWord.__init__" (defArgs s_NoWord_init) (defBody s_NoWord_init) (defScope s_NoWord_init) .none kV_NoWord_init dc_NoWord_init pm_NoWord_init an_NoWord_init cd_NoWord_init ct_NoWord_init), sl_NoWord_init⟩)
    (q_NoWord_init : PySem.W.codeIn K cd_NoWord_init "NoWord.__init__" = true)
    (k_NoWord_init : PySem.W.keepIn K (.ref f_NoWord_init) = true)
    (a_is_whole : PySem.W.nsIn K mainGlobals "is_whole" = some (some (.ref f_is_whole)))
    (l_is_whole : K.lookup f_is_whole = some ⟨oc_is_whole, od_is_whole, .func (PySem.W.fnOf "is_whole" "is_whole" (defArgs s_is_whole) (defBody s_is_whole) (defScope s_is_whole) .none kV_is_whole dc_is_whole pm_is_whole an_is_whole cd_is_whole ct_is_whole), sl_is_whole⟩)
    (q_is_whole : PySem.W.codeIn K cd_is_whole "is_whole" = true)
    (k_is_whole : PySem.W.keepIn K (.ref f_is_whole) = true)
    (a_is_side : PySem.W.nsIn K mainGlobals "is_side" = some (some (.ref f_is_side)))
    (l_is_side : K.lookup f_is_side = some ⟨oc_is_side, od_is_side, .func (PySem.W.fnOf "is_side" "is_side" (defArgs s_is_side) (defBody s_is_side) (defScope s_is_side) .none kV_is_side dc_is_side pm_is_side an_is_side cd_is_side ct_is_side), sl_is_side⟩)
    (q_is_side : PySem.W.codeIn K cd_is_side "is_side" = true)
    (k_is_side : PySem.W.keepIn K (.ref f_is_side) = true)
    (a_is_name : PySem.W.nsIn K mainGlobals "is_name" = some (some (.ref f_is_name)))
    (l_is_name : K.lookup f_is_name = some ⟨oc_is_name, od_is_name, .func (PySem.W.fnOf "is_name" "is_name" (defArgs s_is_name) (defBody s_is_name) (defScope s_is_name) .none kV_is_name dc_is_name pm_is_name an_is_name cd_is_name ct_is_name), sl_is_name⟩)
    (q_is_name : PySem.W.codeIn K cd_is_name "is_name" = true)
    (k_is_name : PySem.W.keepIn K (.ref f_is_name) = true)
    (a_Pacts_init : PySem.W.findIn K (.ref c_Pacts) "__init__" = some (some (.ref f_Pacts_init)))
    (i_Pacts_init : PySem.W.isFn K (.ref f_Pacts_init) = true)
    (l_Pacts_init : K.lookup f_Pacts_init = some ⟨oc_Pacts_init, od_Pacts_init, .func (PySem.W.fnOf "__init__" "Pacts.__init__" (defArgs s_Pacts_init) (defBody s_Pacts_init) (defScope s_Pacts_init) .none kV_Pacts_init dc_Pacts_init pm_Pacts_init an_Pacts_init cd_Pacts_init ct_Pacts_init), sl_Pacts_init⟩)
    (q_Pacts_init : PySem.W.codeIn K cd_Pacts_init "Pacts.__init__" = true)
    (k_Pacts_init : PySem.W.keepIn K (.ref f_Pacts_init) = true)
    (a_Pacts_pairs : PySem.W.findIn K (.ref c_Pacts) "pairs" = some (some (.ref f_Pacts_pairs)))
    (i_Pacts_pairs : PySem.W.isFn K (.ref f_Pacts_pairs) = true)
    (l_Pacts_pairs : K.lookup f_Pacts_pairs = some ⟨oc_Pacts_pairs, od_Pacts_pairs, .func (PySem.W.fnOf "pairs" "Pacts.pairs" (defArgs s_Pacts_pairs) (defBody s_Pacts_pairs) (defScope s_Pacts_pairs) .none kV_Pacts_pairs dc_Pacts_pairs pm_Pacts_pairs an_Pacts_pairs cd_Pacts_pairs ct_Pacts_pairs), sl_Pacts_pairs⟩)
    (q_Pacts_pairs : PySem.W.codeIn K cd_Pacts_pairs "Pacts.pairs" = true)
    (k_Pacts_pairs : PySem.W.keepIn K (.ref f_Pacts_pairs) = true)
    (a_Pacts_laden : PySem.W.findIn K (.ref c_Pacts) "laden" = some (some (.ref f_Pacts_laden)))
    (i_Pacts_laden : PySem.W.isFn K (.ref f_Pacts_laden) = true)
    (l_Pacts_laden : K.lookup f_Pacts_laden = some ⟨oc_Pacts_laden, od_Pacts_laden, .func (PySem.W.fnOf "laden" "Pacts.laden" (defArgs s_Pacts_laden) (defBody s_Pacts_laden) (defScope s_Pacts_laden) .none kV_Pacts_laden dc_Pacts_laden pm_Pacts_laden an_Pacts_laden cd_Pacts_laden ct_Pacts_laden), sl_Pacts_laden⟩)
    (q_Pacts_laden : PySem.W.codeIn K cd_Pacts_laden "Pacts.laden" = true)
    (k_Pacts_laden : PySem.W.keepIn K (.ref f_Pacts_laden) = true)
    (a_Pacts_over : PySem.W.findIn K (.ref c_Pacts) "over" = some (some (.ref f_Pacts_over)))
    (i_Pacts_over : PySem.W.isFn K (.ref f_Pacts_over) = true)
    (l_Pacts_over : K.lookup f_Pacts_over = some ⟨oc_Pacts_over, od_Pacts_over, .func (PySem.W.fnOf "over" "Pacts.over" (defArgs s_Pacts_over) (defBody s_Pacts_over) (defScope s_Pacts_over) .none kV_Pacts_over dc_Pacts_over pm_Pacts_over an_Pacts_over cd_Pacts_over ct_Pacts_over), sl_Pacts_over⟩)
    (q_Pacts_over : PySem.W.codeIn K cd_Pacts_over "Pacts.over" = true)
    (k_Pacts_over : PySem.W.keepIn K (.ref f_Pacts_over) = true)
    (a_Pacts_p_pair : PySem.W.findIn K (.ref c_Pacts) "_pair" = some (some (.ref f_Pacts_p_pair)))
    (i_Pacts_p_pair : PySem.W.isFn K (.ref f_Pacts_p_pair) = true)
    (l_Pacts_p_pair : K.lookup f_Pacts_p_pair = some ⟨oc_Pacts_p_pair, od_Pacts_p_pair, .func (PySem.W.fnOf "_pair" "Pacts._pair" (defArgs s_Pacts_p_pair) (defBody s_Pacts_p_pair) (defScope s_Pacts_p_pair) .none kV_Pacts_p_pair dc_Pacts_p_pair pm_Pacts_p_pair an_Pacts_p_pair cd_Pacts_p_pair ct_Pacts_p_pair), sl_Pacts_p_pair⟩)
    (q_Pacts_p_pair : PySem.W.codeIn K cd_Pacts_p_pair "Pacts._pair" = true)
    (k_Pacts_p_pair : PySem.W.keepIn K (.ref f_Pacts_p_pair) = true)
    (a_Pacts_len : PySem.W.findIn K (.ref c_Pacts) "__len__" = some (some (.ref f_Pacts_len)))
    (i_Pacts_len : PySem.W.isFn K (.ref f_Pacts_len) = true)
    (l_Pacts_len : K.lookup f_Pacts_len = some ⟨oc_Pacts_len, od_Pacts_len, .func (PySem.W.fnOf "__len__" "Pacts.__len__" (defArgs s_Pacts_len) (defBody s_Pacts_len) (defScope s_Pacts_len) .none kV_Pacts_len dc_Pacts_len pm_Pacts_len an_Pacts_len cd_Pacts_len ct_Pacts_len), sl_Pacts_len⟩)
    (q_Pacts_len : PySem.W.codeIn K cd_Pacts_len "Pacts.__len__" = true)
    (k_Pacts_len : PySem.W.keepIn K (.ref f_Pacts_len) = true)
    (a_p_is_pair : PySem.W.nsIn K mainGlobals "_is_pair" = some (some (.ref f_p_is_pair)))
    (l_p_is_pair : K.lookup f_p_is_pair = some ⟨oc_p_is_pair, od_p_is_pair, .func (PySem.W.fnOf "_is_pair" "_is_pair" (defArgs s_p_is_pair) (defBody s_p_is_pair) (defScope s_p_is_pair) .none kV_p_is_pair dc_p_is_pair pm_p_is_pair an_p_is_pair cd_p_is_pair ct_p_is_pair), sl_p_is_pair⟩)
    (q_p_is_pair : PySem.W.codeIn K cd_p_is_pair "_is_pair" = true)
    (k_p_is_pair : PySem.W.keepIn K (.ref f_p_is_pair) = true)
    (a_p_fits_pairs : PySem.W.nsIn K mainGlobals "_fits_pairs" = some (some (.ref f_p_fits_pairs)))
    (l_p_fits_pairs : K.lookup f_p_fits_pairs = some ⟨oc_p_fits_pairs, od_p_fits_pairs, .func (PySem.W.fnOf "_fits_pairs" "_fits_pairs" (defArgs s_p_fits_pairs) (defBody s_p_fits_pairs) (defScope s_p_fits_pairs) .none kV_p_fits_pairs dc_p_fits_pairs pm_p_fits_pairs an_p_fits_pairs cd_p_fits_pairs ct_p_fits_pairs), sl_p_fits_pairs⟩)
    (q_p_fits_pairs : PySem.W.codeIn K cd_p_fits_pairs "_fits_pairs" = true)
    (k_p_fits_pairs : PySem.W.keepIn K (.ref f_p_fits_pairs) = true)
    (a_box : PySem.W.nsIn K mainGlobals "_law_box" = some (some (.ref f_box)))
    (l_box : K.lookup f_box = some ⟨oc_box, od_box, .func (PySem.W.fnOf "_law_box" "_law_box" (defArgs s_box) (defBody s_box) (defScope s_box) .none kV_box dc_box pm_box an_box cd_box ct_box), sl_box⟩)
    (q_box : PySem.W.codeIn K cd_box "_law_box" = true)
    (k_box : PySem.W.keepIn K (.ref f_box) = true)
    (a_mixed : PySem.W.nsIn K mainGlobals "_law_mixed" = some (some (.ref f_mixed)))
    (l_mixed : K.lookup f_mixed = some ⟨oc_mixed, od_mixed, .func (PySem.W.fnOf "_law_mixed" "_law_mixed" (defArgs s_mixed) (defBody s_mixed) (defScope s_mixed) .none kV_mixed dc_mixed pm_mixed an_mixed cd_mixed ct_mixed), sl_mixed⟩)
    (q_mixed : PySem.W.codeIn K cd_mixed "_law_mixed" = true)
    (k_mixed : PySem.W.keepIn K (.ref f_mixed) = true)
    (a_take : PySem.W.nsIn K mainGlobals "_law_take" = some (some (.ref f_take)))
    (l_take : K.lookup f_take = some ⟨oc_take, od_take, .func (PySem.W.fnOf "_law_take" "_law_take" (defArgs s_take) (defBody s_take) (defScope s_take) .none kV_take dc_take pm_take an_take cd_take ct_take), sl_take⟩)
    (q_take : PySem.W.codeIn K cd_take "_law_take" = true)
    (k_take : PySem.W.keepIn K (.ref f_take) = true)
    (a_name : PySem.W.nsIn K mainGlobals "_law_name" = some (some (.ref f_name)))
    (l_name : K.lookup f_name = some ⟨oc_name, od_name, .func (PySem.W.fnOf "_law_name" "_law_name" (defArgs s_name) (defBody s_name) (defScope s_name) .none kV_name dc_name pm_name an_name cd_name ct_name), sl_name⟩)
    (q_name : PySem.W.codeIn K cd_name "_law_name" = true)
    (k_name : PySem.W.keepIn K (.ref f_name) = true)
    (a_names : PySem.W.nsIn K mainGlobals "_law_names" = some (some (.ref f_names)))
    (l_names : K.lookup f_names = some ⟨oc_names, od_names, .func (PySem.W.fnOf "_law_names" "_law_names" (defArgs s_names) (defBody s_names) (defScope s_names) .none kV_names dc_names pm_names an_names cd_names ct_names), sl_names⟩)
    (q_names : PySem.W.codeIn K cd_names "_law_names" = true)
    (k_names : PySem.W.keepIn K (.ref f_names) = true)
    (a_pairs : PySem.W.nsIn K mainGlobals "_law_pairs" = some (some (.ref f_pairs)))
    (l_pairs : K.lookup f_pairs = some ⟨oc_pairs, od_pairs, .func (PySem.W.fnOf "_law_pairs" "_law_pairs" (defArgs s_pairs) (defBody s_pairs) (defScope s_pairs) .none kV_pairs dc_pairs pm_pairs an_pairs cd_pairs ct_pairs), sl_pairs⟩)
    (q_pairs : PySem.W.codeIn K cd_pairs "_law_pairs" = true)
    (k_pairs : PySem.W.keepIn K (.ref f_pairs) = true)
    (a_refused : PySem.W.nsIn K mainGlobals "_law_refused" = some (some (.ref f_refused)))
    (l_refused : K.lookup f_refused = some ⟨oc_refused, od_refused, .func (PySem.W.fnOf "_law_refused" "_law_refused" (defArgs s_refused) (defBody s_refused) (defScope s_refused) .none kV_refused dc_refused pm_refused an_refused cd_refused ct_refused), sl_refused⟩)
    (q_refused : PySem.W.codeIn K cd_refused "_law_refused" = true)
    (k_refused : PySem.W.keepIn K (.ref f_refused) = true)
    (a_told : PySem.W.nsIn K mainGlobals "_law_told" = some (some (.ref f_told)))
    (l_told : K.lookup f_told = some ⟨oc_told, od_told, .func (PySem.W.fnOf "_law_told" "_law_told" (defArgs s_told) (defBody s_told) (defScope s_told) .none kV_told dc_told pm_told an_told cd_told ct_told), sl_told⟩)
    (q_told : PySem.W.codeIn K cd_told "_law_told" = true)
    (k_told : PySem.W.keepIn K (.ref f_told) = true)
    (a_law : PySem.W.nsIn K mainGlobals "law" = some (some (.ref f_law)))
    (l_law : K.lookup f_law = some ⟨oc_law, od_law, .func (PySem.W.fnOf "law" "law" (defArgs s_law) (defBody s_law) (defScope s_law) .none kV_law dc_law pm_law an_law cd_law ct_law), sl_law⟩)
    (q_law : PySem.W.codeIn K cd_law "law" = true)
    (k_law : PySem.W.keepIn K (.ref f_law) = true)
    (z_ValueError : PySem.W.nsIn K mainGlobals "ValueError" = some none)
    (z_isinstance : PySem.W.nsIn K mainGlobals "isinstance" = some none)
    (z_int : PySem.W.nsIn K mainGlobals "int" = some none)
    (z_bool : PySem.W.nsIn K mainGlobals "bool" = some none)
    (z_tuple : PySem.W.nsIn K mainGlobals "tuple" = some none)
    (z_list : PySem.W.nsIn K mainGlobals "list" = some none)
    (z_str : PySem.W.nsIn K mainGlobals "str" = some none)
    (z_len : PySem.W.nsIn K mainGlobals "len" = some none)
    (z_all : PySem.W.nsIn K mainGlobals "all" = some none)
    (z_range : PySem.W.nsIn K mainGlobals "range" = some none)
    (z_zip : PySem.W.nsIn K mainGlobals "zip" = some none)
    : ∃ fd : FuncData, (∀ (s : Shared) (v : Value), BindsTo s fd ⟨[v], []⟩ [("_law_script", v)]) ∧ ∀ base : Heap, K.In base → base.Ns mainGlobals mg → FnOk l.prog w K mg base CX0 20 fa fd ["_law_script"] (spLaw K) := by
  have e : f_law = fa := (Value.ref.inj (Option.some.inj (hfa.symm.trans (PySem.W.mg_of X G a_law)))).symm
  subst e
  have F_NoWord_init := fun_mk (st := s_NoWord_init) l_NoWord_init q_NoWord_init k_NoWord_init
  have B_NoWord_init := F_NoWord_init.binds (ps := ["self", "word"]) fun _ _ _ _ _ _ us hl => match us, hl with | [_, _], _ => rfl
  have F_is_whole := fun_mk (st := s_is_whole) l_is_whole q_is_whole k_is_whole
  have B_is_whole := F_is_whole.binds (ps := ["thing"]) fun _ _ _ _ _ _ us hl => match us, hl with | [_], _ => rfl
  have F_is_side := fun_mk (st := s_is_side) l_is_side q_is_side k_is_side
  have B_is_side := F_is_side.binds (ps := ["thing"]) fun _ _ _ _ _ _ us hl => match us, hl with | [_], _ => rfl
  have F_is_name := fun_mk (st := s_is_name) l_is_name q_is_name k_is_name
  have B_is_name := F_is_name.binds (ps := ["thing"]) fun _ _ _ _ _ _ us hl => match us, hl with | [_], _ => rfl
  have F_Pacts_init := fun_mk (st := s_Pacts_init) l_Pacts_init q_Pacts_init k_Pacts_init
  have B_Pacts_init := F_Pacts_init.binds (ps := ["self", "pairs", "helpers"]) fun _ _ _ _ _ _ us hl => match us, hl with | [_, _, _], _ => rfl
  have F_Pacts_pairs := fun_mk (st := s_Pacts_pairs) l_Pacts_pairs q_Pacts_pairs k_Pacts_pairs
  have B_Pacts_pairs := F_Pacts_pairs.binds (ps := ["self"]) fun _ _ _ _ _ _ us hl => match us, hl with | [_], _ => rfl
  have F_Pacts_laden := fun_mk (st := s_Pacts_laden) l_Pacts_laden q_Pacts_laden k_Pacts_laden
  have F_Pacts_over := fun_mk (st := s_Pacts_over) l_Pacts_over q_Pacts_over k_Pacts_over
  have F_Pacts_p_pair := fun_mk (st := s_Pacts_p_pair) l_Pacts_p_pair q_Pacts_p_pair k_Pacts_p_pair
  have B_Pacts_p_pair := F_Pacts_p_pair.binds (ps := ["self", "word", "side"]) fun _ _ _ _ _ _ us hl => match us, hl with | [_, _, _], _ => rfl
  have F_Pacts_len := fun_mk (st := s_Pacts_len) l_Pacts_len q_Pacts_len k_Pacts_len
  have B_Pacts_len := F_Pacts_len.binds (ps := ["self"]) fun _ _ _ _ _ _ us hl => match us, hl with | [_], _ => rfl
  have F_p_is_pair := fun_mk (st := s_p_is_pair) l_p_is_pair q_p_is_pair k_p_is_pair
  have B_p_is_pair := F_p_is_pair.binds (ps := ["pair"]) fun _ _ _ _ _ _ us hl => match us, hl with | [_], _ => rfl
  have F_p_fits_pairs := fun_mk (st := s_p_fits_pairs) l_p_fits_pairs q_p_fits_pairs k_p_fits_pairs
  have B_p_fits_pairs := F_p_fits_pairs.binds (ps := ["pair", "ahead"]) fun _ _ _ _ _ _ us hl => match us, hl with | [_, _], _ => rfl
  have F_box := fun_mk (st := s_box) l_box q_box k_box
  have B_box := F_box.binds (ps := ["_law_script"]) fun _ _ _ _ _ _ us hl => match us, hl with | [_], _ => rfl
  have F_mixed := fun_mk (st := s_mixed) l_mixed q_mixed k_mixed
  have B_mixed := F_mixed.binds (ps := ["_law_cell", "_law_k"]) fun _ _ _ _ _ _ us hl => match us, hl with | [_, _], _ => rfl
  have F_take := fun_mk (st := s_take) l_take q_take k_take
  have B_take := F_take.binds (ps := ["_law_box_here", "_law_size"]) fun _ _ _ _ _ _ us hl => match us, hl with | [_, _], _ => rfl
  have F_name := fun_mk (st := s_name) l_name q_name k_name
  have B_name := F_name.binds (ps := ["_law_box_here"]) fun _ _ _ _ _ _ us hl => match us, hl with | [_], _ => rfl
  have F_names := fun_mk (st := s_names) l_names q_names k_names
  have B_names := F_names.binds (ps := ["_law_box_here", "_law_many"]) fun _ _ _ _ _ _ us hl => match us, hl with | [_, _], _ => rfl
  have F_pairs := fun_mk (st := s_pairs) l_pairs q_pairs k_pairs
  have B_pairs := F_pairs.binds (ps := ["_law_box_here", "_law_most"]) fun _ _ _ _ _ _ us hl => match us, hl with | [_, _], _ => rfl
  have F_refused := fun_mk (st := s_refused) l_refused q_refused k_refused
  have B_refused := F_refused.binds (ps := ["_law_pacts", "_law_term", "_law_team"]) fun _ _ _ _ _ _ us hl => match us, hl with | [_, _, _], _ => rfl
  have F_told := fun_mk (st := s_told) l_told q_told k_told
  have B_told := F_told.binds (ps := ["_law_pacts", "_law_pairs_here"]) fun _ _ _ _ _ _ us hl => match us, hl with | [_, _], _ => rfl
  have F_law := fun_mk (st := s_law) l_law q_law k_law
  have B_law := F_law.binds (ps := ["_law_script"]) fun _ _ _ _ _ _ us hl => match us, hl with | [_], _ => rfl
  have KB_Pacts_over := kwb_mk F_Pacts_over (ps := ["self", "word", "side"]) (ks := ["word", "side"]) rfl (fun _ _ _ _ _ _ u ws hl => match ws, hl with | [_, _], _ => rfl)
  have KN_Pacts_laden_2 := kwn_mk F_Pacts_laden (ps := ["self", "word", "side"]) (n := 2) (ks := ["side"]) rfl (fun _ _ _ _ _ _ us ws hu hw => match us, ws, hu, hw with | [_, _], [_], _, _ => rfl)
  have KN_Pacts_over_2 := kwn_mk F_Pacts_over (ps := ["self", "word", "side"]) (n := 2) (ks := ["side"]) rfl (fun _ _ _ _ _ _ us ws hu hw => match us, ws, hu, hw with | [_, _], [_], _, _ => rfl)
  have T : Txt K mg { c_Pacts := c_Pacts, c_NoWord := c_NoWord, c_PactError := c_PactError, c_NoHelper := c_NoHelper, t_LONGEST_NAME := t_LONGEST_NAME, t_MOST_PAIRS := t_MOST_PAIRS, f_NoWord_init := f_NoWord_init, d_NoWord_init := PySem.W.fnOf "__init__" "NoWord.__init__" (defArgs s_NoWord_init) (defBody s_NoWord_init) (defScope s_NoWord_init) .none kV_NoWord_init dc_NoWord_init pm_NoWord_init an_NoWord_init cd_NoWord_init ct_NoWord_init, f_is_whole := f_is_whole, d_is_whole := PySem.W.fnOf "is_whole" "is_whole" (defArgs s_is_whole) (defBody s_is_whole) (defScope s_is_whole) .none kV_is_whole dc_is_whole pm_is_whole an_is_whole cd_is_whole ct_is_whole, f_is_side := f_is_side, d_is_side := PySem.W.fnOf "is_side" "is_side" (defArgs s_is_side) (defBody s_is_side) (defScope s_is_side) .none kV_is_side dc_is_side pm_is_side an_is_side cd_is_side ct_is_side, f_is_name := f_is_name, d_is_name := PySem.W.fnOf "is_name" "is_name" (defArgs s_is_name) (defBody s_is_name) (defScope s_is_name) .none kV_is_name dc_is_name pm_is_name an_is_name cd_is_name ct_is_name, f_Pacts_init := f_Pacts_init, d_Pacts_init := PySem.W.fnOf "__init__" "Pacts.__init__" (defArgs s_Pacts_init) (defBody s_Pacts_init) (defScope s_Pacts_init) .none kV_Pacts_init dc_Pacts_init pm_Pacts_init an_Pacts_init cd_Pacts_init ct_Pacts_init, f_Pacts_pairs := f_Pacts_pairs, d_Pacts_pairs := PySem.W.fnOf "pairs" "Pacts.pairs" (defArgs s_Pacts_pairs) (defBody s_Pacts_pairs) (defScope s_Pacts_pairs) .none kV_Pacts_pairs dc_Pacts_pairs pm_Pacts_pairs an_Pacts_pairs cd_Pacts_pairs ct_Pacts_pairs, f_Pacts_laden := f_Pacts_laden, d_Pacts_laden := PySem.W.fnOf "laden" "Pacts.laden" (defArgs s_Pacts_laden) (defBody s_Pacts_laden) (defScope s_Pacts_laden) .none kV_Pacts_laden dc_Pacts_laden pm_Pacts_laden an_Pacts_laden cd_Pacts_laden ct_Pacts_laden, f_Pacts_over := f_Pacts_over, d_Pacts_over := PySem.W.fnOf "over" "Pacts.over" (defArgs s_Pacts_over) (defBody s_Pacts_over) (defScope s_Pacts_over) .none kV_Pacts_over dc_Pacts_over pm_Pacts_over an_Pacts_over cd_Pacts_over ct_Pacts_over, f_Pacts_p_pair := f_Pacts_p_pair, d_Pacts_p_pair := PySem.W.fnOf "_pair" "Pacts._pair" (defArgs s_Pacts_p_pair) (defBody s_Pacts_p_pair) (defScope s_Pacts_p_pair) .none kV_Pacts_p_pair dc_Pacts_p_pair pm_Pacts_p_pair an_Pacts_p_pair cd_Pacts_p_pair ct_Pacts_p_pair, f_Pacts_len := f_Pacts_len, d_Pacts_len := PySem.W.fnOf "__len__" "Pacts.__len__" (defArgs s_Pacts_len) (defBody s_Pacts_len) (defScope s_Pacts_len) .none kV_Pacts_len dc_Pacts_len pm_Pacts_len an_Pacts_len cd_Pacts_len ct_Pacts_len, f_p_is_pair := f_p_is_pair, d_p_is_pair := PySem.W.fnOf "_is_pair" "_is_pair" (defArgs s_p_is_pair) (defBody s_p_is_pair) (defScope s_p_is_pair) .none kV_p_is_pair dc_p_is_pair pm_p_is_pair an_p_is_pair cd_p_is_pair ct_p_is_pair, f_p_fits_pairs := f_p_fits_pairs, d_p_fits_pairs := PySem.W.fnOf "_fits_pairs" "_fits_pairs" (defArgs s_p_fits_pairs) (defBody s_p_fits_pairs) (defScope s_p_fits_pairs) .none kV_p_fits_pairs dc_p_fits_pairs pm_p_fits_pairs an_p_fits_pairs cd_p_fits_pairs ct_p_fits_pairs, f_box := f_box, d_box := PySem.W.fnOf "_law_box" "_law_box" (defArgs s_box) (defBody s_box) (defScope s_box) .none kV_box dc_box pm_box an_box cd_box ct_box, f_mixed := f_mixed, d_mixed := PySem.W.fnOf "_law_mixed" "_law_mixed" (defArgs s_mixed) (defBody s_mixed) (defScope s_mixed) .none kV_mixed dc_mixed pm_mixed an_mixed cd_mixed ct_mixed, f_take := f_take, d_take := PySem.W.fnOf "_law_take" "_law_take" (defArgs s_take) (defBody s_take) (defScope s_take) .none kV_take dc_take pm_take an_take cd_take ct_take, f_name := f_name, d_name := PySem.W.fnOf "_law_name" "_law_name" (defArgs s_name) (defBody s_name) (defScope s_name) .none kV_name dc_name pm_name an_name cd_name ct_name, f_names := f_names, d_names := PySem.W.fnOf "_law_names" "_law_names" (defArgs s_names) (defBody s_names) (defScope s_names) .none kV_names dc_names pm_names an_names cd_names ct_names, f_pairs := f_pairs, d_pairs := PySem.W.fnOf "_law_pairs" "_law_pairs" (defArgs s_pairs) (defBody s_pairs) (defScope s_pairs) .none kV_pairs dc_pairs pm_pairs an_pairs cd_pairs ct_pairs, f_refused := f_refused, d_refused := PySem.W.fnOf "_law_refused" "_law_refused" (defArgs s_refused) (defBody s_refused) (defScope s_refused) .none kV_refused dc_refused pm_refused an_refused cd_refused ct_refused, f_told := f_told, d_told := PySem.W.fnOf "_law_told" "_law_told" (defArgs s_told) (defBody s_told) (defScope s_told) .none kV_told dc_told pm_told an_told cd_told ct_told, f_law := f_law, d_law := PySem.W.fnOf "law" "law" (defArgs s_law) (defBody s_law) (defScope s_law) .none kV_law dc_law pm_law an_law cd_law ct_law } := { cl_Pacts := ⟨pg_Pacts, hd_Pacts, po_Pacts, sa_Pacts⟩, mk_Pacts := ⟨mk_Pacts, a_Pacts_init, i_Pacts_init, kc_Pacts⟩, g_Pacts := PySem.W.mg_of X G a_Pacts, n_Pacts__pairs := n_Pacts__pairs, n_Pacts__helpers := n_Pacts__helpers, x_NoWord := ⟨⟨_, _, _, _, _, _, _, _, _, _, _, _, _, _, _, xl_NoWord, xm_NoWord⟩, xs_NoWord, xe_NoWord, xy_NoWord, xk_NoWord⟩, xi_NoWord := a_NoWord_init, xt_NoWord := beq_iff_eq.mp i_NoWord_init, xf_NoWord := ⟨xg_NoWord, xo_NoWord, xe_NoWord, xd_NoWord⟩, g_NoWord := PySem.W.mg_of X G a_NoWord, n_NoWord_word := n_NoWord_word, md_PactError := ⟨da_PactError, dr_PactError, df_PactError⟩, g_PactError := PySem.W.mg_of X G a_PactError, fa_NoWord := fa_NoWord, fm_NoWord := fm_NoWord, fs_NoWord := fs_NoWord, fv_NoWord := fv_NoWord, fx_NoWord := fx_NoWord, fe_NoWord := fe_NoWord, fg := fg, ft := ft, F_NoWord_init := F_NoWord_init, B_NoWord_init := B_NoWord_init, F_is_whole := F_is_whole, B_is_whole := B_is_whole, g_is_whole := PySem.W.mg_of X G a_is_whole, k_is_whole := k_is_whole, F_is_side := F_is_side, B_is_side := B_is_side, g_is_side := PySem.W.mg_of X G a_is_side, k_is_side := k_is_side, F_is_name := F_is_name, B_is_name := B_is_name, g_is_name := PySem.W.mg_of X G a_is_name, k_is_name := k_is_name, F_Pacts_init := F_Pacts_init, B_Pacts_init := B_Pacts_init, F_Pacts_pairs := F_Pacts_pairs, B_Pacts_pairs := B_Pacts_pairs, m_Pacts_pairs := ⟨a_Pacts_pairs, i_Pacts_pairs, k_Pacts_pairs⟩, F_Pacts_laden := F_Pacts_laden, m_Pacts_laden := ⟨a_Pacts_laden, i_Pacts_laden, k_Pacts_laden⟩, F_Pacts_over := F_Pacts_over, m_Pacts_over := ⟨a_Pacts_over, i_Pacts_over, k_Pacts_over⟩, F_Pacts_p_pair := F_Pacts_p_pair, B_Pacts_p_pair := B_Pacts_p_pair, m_Pacts_p_pair := ⟨a_Pacts_p_pair, i_Pacts_p_pair, k_Pacts_p_pair⟩, F_Pacts_len := F_Pacts_len, B_Pacts_len := B_Pacts_len, m_Pacts_len := ⟨a_Pacts_len, i_Pacts_len, k_Pacts_len⟩, F_p_is_pair := F_p_is_pair, B_p_is_pair := B_p_is_pair, g_p_is_pair := PySem.W.mg_of X G a_p_is_pair, k_p_is_pair := k_p_is_pair, F_p_fits_pairs := F_p_fits_pairs, B_p_fits_pairs := B_p_fits_pairs, g_p_fits_pairs := PySem.W.mg_of X G a_p_fits_pairs, k_p_fits_pairs := k_p_fits_pairs, F_box := F_box, B_box := B_box, g_box := PySem.W.mg_of X G a_box, k_box := k_box, F_mixed := F_mixed, B_mixed := B_mixed, g_mixed := PySem.W.mg_of X G a_mixed, k_mixed := k_mixed, F_take := F_take, B_take := B_take, g_take := PySem.W.mg_of X G a_take, k_take := k_take, F_name := F_name, B_name := B_name, g_name := PySem.W.mg_of X G a_name, k_name := k_name, F_names := F_names, B_names := B_names, g_names := PySem.W.mg_of X G a_names, k_names := k_names, F_pairs := F_pairs, B_pairs := B_pairs, g_pairs := PySem.W.mg_of X G a_pairs, k_pairs := k_pairs, F_refused := F_refused, B_refused := B_refused, g_refused := PySem.W.mg_of X G a_refused, k_refused := k_refused, F_told := F_told, B_told := B_told, g_told := PySem.W.mg_of X G a_told, k_told := k_told, F_law := F_law, B_law := B_law, g_law := PySem.W.mg_of X G a_law, k_law := k_law, KB_Pacts_over := KB_Pacts_over, g_NoHelper := PySem.W.mg_of X G a_NoHelper, KN_Pacts_laden_2 := KN_Pacts_laden_2, KN_Pacts_over_2 := KN_Pacts_over_2, v_LONGEST_NAME := PySem.W.mg_of X G v_LONGEST_NAME, v_MOST_PAIRS := PySem.W.mg_of X G v_MOST_PAIRS, z_ValueError := PySem.W.mg_none_of X G z_ValueError, z_isinstance := PySem.W.mg_none_of X G z_isinstance, z_int := PySem.W.mg_none_of X G z_int, z_bool := PySem.W.mg_none_of X G z_bool, z_tuple := PySem.W.mg_none_of X G z_tuple, z_list := PySem.W.mg_none_of X G z_list, z_str := PySem.W.mg_none_of X G z_str, z_len := PySem.W.mg_none_of X G z_len, z_all := PySem.W.mg_none_of X G z_all, z_range := PySem.W.mg_none_of X G z_range, z_zip := PySem.W.mg_none_of X G z_zip }
  exact ⟨_, fun s v => .of_eq rfl, fun base _ _ => (ok_law T).mono (by decide)⟩
theorem walk {l : PySem.W.OpenLaw} {q : Program} {loose : List Str} {XP : (Str → Option Value) → Heap → Prop} {YP : World → Heap → Prop} {d : DefRec} {K : Params → PySem.W.Frag} (hn : l.most = some 63) (hdf : d.params.defaults = [])
    (hY : ∀ (w : World) (h : Heap), YP w h → (K w.params).In h)
    (F : ∀ (w : World) (mg : Str → Option Value) (fa : Addr) (h : Heap), (K w.params).In h → h.Ns mainGlobals mg → mg d.name = some (.ref fa) →
      ∃ fd : FuncData, (∀ (s : Shared) (u : Value), BindsTo s fd ⟨[u], []⟩ [("_law_script", u)]) ∧ ∀ base : Heap, (K w.params).In base → base.Ns mainGlobals mg → FnOk l.prog w (K w.params) mg base CX0 20 fa fd ["_law_script"] (spLaw (K w.params))) :
    PySem.W.WalkO q loose XP YP l.row.toRowW d [] (fun f vs => PySem.call f vs) := L2.walk_of (n := 63) (k := 20) (x := "_law_script") (CX := fun _ => CX0) (sp := fun w => spLaw (K w.params)) hn (by decide) hdf ⟨rfl, by decide, by decide⟩ hY F (fun _ _ a ns hl _ hS => ⟨a, ns, rfl, hS, hl, fun _ => rfl⟩) fun _ _ _ _ _ z => z
end Lw
open PySem PySem.W PyProof.Rows
set_option maxRecDepth 100000 in
set_option maxHeartbeats 0 in
theorem PySem.Challenge.cw_pactford_k01_words_cross_holds : PySem.Challenge.rw_pactford_k01_words_cross.Holds := by
  w_on; o_law; k_head; (case hw => w_witness2)
  k_fill
  refine Lw.walk (l := PySem.Challenge.rw_pactford_k01_words_cross) rfl rfl (fun w h Y => PySem.W.kIn_of Y) ?F
  case F =>
    intro w mg fa h KX G hmg
    refine' Lw.all_mk KX G hmg ?a_Pacts ?pg_Pacts ?hd_Pacts ?po_Pacts ?sa_Pacts ?mk_Pacts ?kc_Pacts ?n_Pacts__pairs ?n_Pacts__helpers ?a_NoWord ?xl_NoWord ?xm_NoWord ?xs_NoWord ?xe_NoWord ?xy_NoWord ?xk_NoWord ?xg_NoWord ?xo_NoWord ?xd_NoWord ?n_NoWord_word ?a_PactError ?da_PactError ?dr_PactError ?df_PactError ?a_NoHelper ?v_LONGEST_NAME ?v_MOST_PAIRS ?fa_NoWord ?fm_NoWord ?fs_NoWord ?fv_NoWord ?fx_NoWord ?fe_NoWord ?fg ?ft ?a_NoWord_init ?i_NoWord_init ?l_NoWord_init ?q_NoWord_init ?k_NoWord_init ?a_is_whole ?l_is_whole ?q_is_whole ?k_is_whole ?a_is_side ?l_is_side ?q_is_side ?k_is_side ?a_is_name ?l_is_name ?q_is_name ?k_is_name ?a_Pacts_init ?i_Pacts_init ?l_Pacts_init ?q_Pacts_init ?k_Pacts_init ?a_Pacts_pairs ?i_Pacts_pairs ?l_Pacts_pairs ?q_Pacts_pairs ?k_Pacts_pairs ?a_Pacts_laden ?i_Pacts_laden ?l_Pacts_laden ?q_Pacts_laden ?k_Pacts_laden ?a_Pacts_over ?i_Pacts_over ?l_Pacts_over ?q_Pacts_over ?k_Pacts_over ?a_Pacts_p_pair ?i_Pacts_p_pair ?l_Pacts_p_pair ?q_Pacts_p_pair ?k_Pacts_p_pair ?a_Pacts_len ?i_Pacts_len ?l_Pacts_len ?q_Pacts_len ?k_Pacts_len ?a_p_is_pair ?l_p_is_pair ?q_p_is_pair ?k_p_is_pair ?a_p_fits_pairs ?l_p_fits_pairs ?q_p_fits_pairs ?k_p_fits_pairs ?a_box ?l_box ?q_box ?k_box ?a_mixed ?l_mixed ?q_mixed ?k_mixed ?a_take ?l_take ?q_take ?k_take ?a_name ?l_name ?q_name ?k_name ?a_names ?l_names ?q_names ?k_names ?a_pairs ?l_pairs ?q_pairs ?k_pairs ?a_refused ?l_refused ?q_refused ?k_refused ?a_told ?l_told ?q_told ?k_told ?a_law ?l_law ?q_law ?k_law ?z_ValueError ?z_isinstance ?z_int ?z_bool ?z_tuple ?z_list ?z_str ?z_len ?z_all ?z_range ?z_zip
    (case a_Pacts => first | k_is | kit_is | rfl | decide +kernel)
    (case pg_Pacts => first | k_is | kit_is | rfl | decide +kernel)
    (case hd_Pacts => first | k_is | kit_is | rfl | decide +kernel)
    (case po_Pacts => first | k_is | kit_is | rfl | decide +kernel)
    (case sa_Pacts => first | k_is | kit_is | rfl | decide +kernel)
    (case mk_Pacts => first | k_is | kit_is | rfl | decide +kernel)
    (case kc_Pacts => first | k_is | kit_is | rfl | decide +kernel)
    (case n_Pacts__pairs => first | k_is | kit_is | rfl | decide +kernel)
    (case n_Pacts__helpers => first | k_is | kit_is | rfl | decide +kernel)
    (case a_NoWord => first | k_is | kit_is | rfl | decide +kernel)
    (case xl_NoWord => first | k_is | kit_is | rfl | decide +kernel)
    (case xm_NoWord => first | k_is | kit_is | rfl | decide +kernel)
    (case xs_NoWord => first | k_is | kit_is | rfl | decide +kernel)
    (case xe_NoWord => first | k_is | kit_is | rfl | decide +kernel)
    (case xy_NoWord => first | k_is | kit_is | rfl | decide +kernel)
    (case xk_NoWord => first | k_is | kit_is | rfl | decide +kernel)
    (case xg_NoWord => first | k_is | kit_is | rfl | decide +kernel)
    (case xo_NoWord => first | k_is | kit_is | rfl | decide +kernel)
    (case xd_NoWord => first | k_is | kit_is | rfl | decide +kernel)
    (case n_NoWord_word => first | k_is | kit_is | rfl | decide +kernel)
    (case a_PactError => first | k_is | kit_is | rfl | decide +kernel)
    (case da_PactError => first | k_is | kit_is | rfl | decide +kernel)
    (case dr_PactError => first | k_is | kit_is | rfl | decide +kernel)
    (case df_PactError => first | k_is | kit_is | rfl | decide +kernel)
    (case a_NoHelper => first | k_is | kit_is | rfl | decide +kernel)
    (case v_LONGEST_NAME => first | k_is | kit_is | rfl | decide +kernel)
    (case v_MOST_PAIRS => first | k_is | kit_is | rfl | decide +kernel)
    (case fa_NoWord => first | k_is | kit_is | rfl | decide +kernel)
    (case fm_NoWord => first | k_is | kit_is | rfl | decide +kernel)
    (case fs_NoWord => first | k_is | kit_is | rfl | decide +kernel)
    (case fv_NoWord => first | k_is | kit_is | rfl | decide +kernel)
    (case fx_NoWord => first | k_is | kit_is | rfl | decide +kernel)
    (case fe_NoWord => first | k_is | kit_is | rfl | decide +kernel)
    (case fg => first | k_is | kit_is | rfl | decide +kernel)
    (case ft => first | k_is | kit_is | rfl | decide +kernel)
    (case a_NoWord_init => first | k_is | kit_is | rfl | decide +kernel)
    (case i_NoWord_init => first | k_is | kit_is | rfl | decide +kernel)
    (case l_NoWord_init => first | k_is | kit_is | rfl | decide +kernel)
    (case q_NoWord_init => first | k_is | kit_is | rfl | decide +kernel)
    (case k_NoWord_init => first | k_is | kit_is | rfl | decide +kernel)
    (case a_is_whole => first | k_is | kit_is | rfl | decide +kernel)
    (case l_is_whole => first | k_is | kit_is | rfl | decide +kernel)
    (case q_is_whole => first | k_is | kit_is | rfl | decide +kernel)
    (case k_is_whole => first | k_is | kit_is | rfl | decide +kernel)
    (case a_is_side => first | k_is | kit_is | rfl | decide +kernel)
    (case l_is_side => first | k_is | kit_is | rfl | decide +kernel)
    (case q_is_side => first | k_is | kit_is | rfl | decide +kernel)
    (case k_is_side => first | k_is | kit_is | rfl | decide +kernel)
    (case a_is_name => first | k_is | kit_is | rfl | decide +kernel)
    (case l_is_name => first | k_is | kit_is | rfl | decide +kernel)
    (case q_is_name => first | k_is | kit_is | rfl | decide +kernel)
    (case k_is_name => first | k_is | kit_is | rfl | decide +kernel)
    (case a_Pacts_init => first | k_is | kit_is | rfl | decide +kernel)
    (case i_Pacts_init => first | k_is | kit_is | rfl | decide +kernel)
    (case l_Pacts_init => first | k_is | kit_is | rfl | decide +kernel)
    (case q_Pacts_init => first | k_is | kit_is | rfl | decide +kernel)
    (case k_Pacts_init => first | k_is | kit_is | rfl | decide +kernel)
    (case a_Pacts_pairs => first | k_is | kit_is | rfl | decide +kernel)
    (case i_Pacts_pairs => first | k_is | kit_is | rfl | decide +kernel)
    (case l_Pacts_pairs => first | k_is | kit_is | rfl | decide +kernel)
    (case q_Pacts_pairs => first | k_is | kit_is | rfl | decide +kernel)
    (case k_Pacts_pairs => first | k_is | kit_is | rfl | decide +kernel)
    (case a_Pacts_laden => first | k_is | kit_is | rfl | decide +kernel)
    (case i_Pacts_laden => first | k_is | kit_is | rfl | decide +kernel)
    (case l_Pacts_laden => first | k_is | kit_is | rfl | decide +kernel)
    (case q_Pacts_laden => first | k_is | kit_is | rfl | decide +kernel)
    (case k_Pacts_laden => first | k_is | kit_is | rfl | decide +kernel)
    (case a_Pacts_over => first | k_is | kit_is | rfl | decide +kernel)
    (case i_Pacts_over => first | k_is | kit_is | rfl | decide +kernel)
    (case l_Pacts_over => first | k_is | kit_is | rfl | decide +kernel)
    (case q_Pacts_over => first | k_is | kit_is | rfl | decide +kernel)
    (case k_Pacts_over => first | k_is | kit_is | rfl | decide +kernel)
    (case a_Pacts_p_pair => first | k_is | kit_is | rfl | decide +kernel)
    (case i_Pacts_p_pair => first | k_is | kit_is | rfl | decide +kernel)
    (case l_Pacts_p_pair => first | k_is | kit_is | rfl | decide +kernel)
    (case q_Pacts_p_pair => first | k_is | kit_is | rfl | decide +kernel)
    (case k_Pacts_p_pair => first | k_is | kit_is | rfl | decide +kernel)
    (case a_Pacts_len => first | k_is | kit_is | rfl | decide +kernel)
    (case i_Pacts_len => first | k_is | kit_is | rfl | decide +kernel)
    (case l_Pacts_len => first | k_is | kit_is | rfl | decide +kernel)
    (case q_Pacts_len => first | k_is | kit_is | rfl | decide +kernel)
    (case k_Pacts_len => first | k_is | kit_is | rfl | decide +kernel)
    (case a_p_is_pair => first | k_is | kit_is | rfl | decide +kernel)
    (case l_p_is_pair => first | k_is | kit_is | rfl | decide +kernel)
    (case q_p_is_pair => first | k_is | kit_is | rfl | decide +kernel)
    (case k_p_is_pair => first | k_is | kit_is | rfl | decide +kernel)
    (case a_p_fits_pairs => first | k_is | kit_is | rfl | decide +kernel)
    (case l_p_fits_pairs => first | k_is | kit_is | rfl | decide +kernel)
    (case q_p_fits_pairs => first | k_is | kit_is | rfl | decide +kernel)
    (case k_p_fits_pairs => first | k_is | kit_is | rfl | decide +kernel)
    (case a_box => first | k_is | kit_is | rfl | decide +kernel)
    (case l_box => first | k_is | kit_is | rfl | decide +kernel)
    (case q_box => first | k_is | kit_is | rfl | decide +kernel)
    (case k_box => first | k_is | kit_is | rfl | decide +kernel)
    (case a_mixed => first | k_is | kit_is | rfl | decide +kernel)
    (case l_mixed => first | k_is | kit_is | rfl | decide +kernel)
    (case q_mixed => first | k_is | kit_is | rfl | decide +kernel)
    (case k_mixed => first | k_is | kit_is | rfl | decide +kernel)
    (case a_take => first | k_is | kit_is | rfl | decide +kernel)
    (case l_take => first | k_is | kit_is | rfl | decide +kernel)
    (case q_take => first | k_is | kit_is | rfl | decide +kernel)
    (case k_take => first | k_is | kit_is | rfl | decide +kernel)
    (case a_name => first | k_is | kit_is | rfl | decide +kernel)
    (case l_name => first | k_is | kit_is | rfl | decide +kernel)
    (case q_name => first | k_is | kit_is | rfl | decide +kernel)
    (case k_name => first | k_is | kit_is | rfl | decide +kernel)
    (case a_names => first | k_is | kit_is | rfl | decide +kernel)
    (case l_names => first | k_is | kit_is | rfl | decide +kernel)
    (case q_names => first | k_is | kit_is | rfl | decide +kernel)
    (case k_names => first | k_is | kit_is | rfl | decide +kernel)
    (case a_pairs => first | k_is | kit_is | rfl | decide +kernel)
    (case l_pairs => first | k_is | kit_is | rfl | decide +kernel)
    (case q_pairs => first | k_is | kit_is | rfl | decide +kernel)
    (case k_pairs => first | k_is | kit_is | rfl | decide +kernel)
    (case a_refused => first | k_is | kit_is | rfl | decide +kernel)
    (case l_refused => first | k_is | kit_is | rfl | decide +kernel)
    (case q_refused => first | k_is | kit_is | rfl | decide +kernel)
    (case k_refused => first | k_is | kit_is | rfl | decide +kernel)
    (case a_told => first | k_is | kit_is | rfl | decide +kernel)
    (case l_told => first | k_is | kit_is | rfl | decide +kernel)
    (case q_told => first | k_is | kit_is | rfl | decide +kernel)
    (case k_told => first | k_is | kit_is | rfl | decide +kernel)
    (case a_law => first | k_is | kit_is | rfl | decide +kernel)
    (case l_law => first | k_is | kit_is | rfl | decide +kernel)
    (case q_law => first | k_is | kit_is | rfl | decide +kernel)
    (case k_law => first | k_is | kit_is | rfl | decide +kernel)
    (case z_ValueError => first | k_is | kit_is | rfl | decide +kernel)
    (case z_isinstance => first | k_is | kit_is | rfl | decide +kernel)
    (case z_int => first | k_is | kit_is | rfl | decide +kernel)
    (case z_bool => first | k_is | kit_is | rfl | decide +kernel)
    (case z_tuple => first | k_is | kit_is | rfl | decide +kernel)
    (case z_list => first | k_is | kit_is | rfl | decide +kernel)
    (case z_str => first | k_is | kit_is | rfl | decide +kernel)
    (case z_len => first | k_is | kit_is | rfl | decide +kernel)
    (case z_all => first | k_is | kit_is | rfl | decide +kernel)
    (case z_range => first | k_is | kit_is | rfl | decide +kernel)
    (case z_zip => first | k_is | kit_is | rfl | decide +kernel)
