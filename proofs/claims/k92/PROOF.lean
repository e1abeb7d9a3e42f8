import PyProof.Rows.All
import Wide.All
import OpenK.AllK
import Wide.FinOn
import HandS.ForMost
import HandS.Gcd
import HandS.Wide
import HandS.EndBits
import HandS.IsInst
import HandS.SortInts
import HandS.NoneIn
import HandS.More
import HandS.Codes
import HandS.Zip
import HandS.ClsMeth
import HandS.ExcInit
import HandS.ExcIs
import HandS.ExcField
import HandS.ExcOwn
import HandS.WordsExc
import HandS.TryOnly
import HandS.TryMany
import HandS.FStrTup
import HandS.FStr
import KE.KExcIs
import KE.RegKIsAll
import PySem.Str
import HandS.Walk
import HandS.ExcValue
import HandS.MakeKwOnly
import HandS.Star
import HandS.MakeKw
import KE.KCallOwn
import PySem.Challenge.RW_pactford_k92_refusals_made
namespace My
def g (ns : List Int) (i : Nat) : Int := ns.getD i 0
def swp (ns : List Int) (i j : Nat) : List Int := (ns.set i (g ns j)).set j (g ns i)
theorem swp_len (ns : List Int) (i j : Nat) : (swp ns i j).length = ns.length := by unfold swp; rw [List.length_set, List.length_set]
theorem g_lt {ns : List Int} {i : Nat} (h : i < ns.length) : ns[i]? = some (g ns i) := by
  unfold g
  rw [List.getD_eq_getElem?_getD, List.getElem?_eq_getElem h]
  rfl
theorem g_swp {ns : List Int} {i j : Nat} (hi : i < ns.length) (hj : j < ns.length) (k : Nat) : g (swp ns i j) k = if k = j then g ns i else if k = i then g ns j else g ns k := by
  show (swp ns i j).getD k 0 = _
  unfold swp
  rw [List.getD_eq_getElem?_getD, List.getElem?_set, List.length_set, List.getElem?_set]
  by_cases h1 : j = k
  · subst h1
    simp only [if_true, if_pos hj]
    rfl
  · have h1' : ¬ k = j := fun q => h1 q.symm
    simp only [if_neg h1, if_neg h1']
    by_cases h2 : i = k
    · subst h2
      simp only [if_true, if_pos hi]
      rfl
    · have h2' : ¬ k = i := fun q => h2 q.symm
      simp only [if_neg h2, if_neg h2']
      unfold g
      rw [List.getD_eq_getElem?_getD]
theorem swp_perm {ns : List Int} {i j : Nat} (hi : i < ns.length) (hj : j < ns.length) : (swp ns i j).Perm ns := by
  have e1 : g ns j = ns[j] := by
    have := g_lt hj
    rw [List.getElem?_eq_getElem hj] at this
    exact (Option.some.inj this).symm
  have e2 : g ns i = ns[i] := by
    have := g_lt hi
    rw [List.getElem?_eq_getElem hi] at this
    exact (Option.some.inj this).symm
  unfold swp
  rw [e1, e2]
  exact List.set_set_perm hi hj
def IsHeap (ns : List Int) : Prop := ∀ i, 0 < i → i < ns.length → g ns ((i - 1) / 2) ≤ g ns i
def UpI (ns : List Int) (pos : Nat) : Prop := (∀ i, 0 < i → i < ns.length → i ≠ pos → g ns ((i - 1) / 2) ≤ g ns i) ∧
  ∀ c, 0 < c → c < ns.length → (c - 1) / 2 = pos → 0 < pos → g ns ((pos - 1) / 2) ≤ g ns c
def DnI (ns : List Int) (pos : Nat) : Prop := (∀ i, 0 < i → i < ns.length → i ≠ pos → (i - 1) / 2 ≠ pos → g ns ((i - 1) / 2) ≤ g ns i) ∧
  ∀ c, 0 < c → c < ns.length → (c - 1) / 2 = pos → 0 < pos → g ns ((pos - 1) / 2) ≤ g ns c
theorem UpI.done {ns : List Int} {pos : Nat} (h : UpI ns pos) (hp : pos = 0 ∨ g ns ((pos - 1) / 2) ≤ g ns pos) : IsHeap ns := by
  intro i h0 hl
  by_cases e : i = pos
  · subst e
    rcases hp with e | e
    · omega
    · exact e
  · exact h.1 i h0 hl e
theorem UpI.step {ns : List Int} {pos : Nat} (h : UpI ns pos) (h0 : 0 < pos) (hl : pos < ns.length) (hlt : g ns pos < g ns ((pos - 1) / 2)) : UpI (swp ns ((pos - 1) / 2) pos) ((pos - 1) / 2) := by
  have hq : (pos - 1) / 2 < ns.length := by omega
  have G := g_swp hq hl
  refine ⟨fun i i0 il ne => ?_, fun c c0 cl e q0 => ?_⟩
  · rw [swp_len] at il
    rw [G, G]
    by_cases e1 : i = pos
    · subst e1
      rw [if_pos rfl, if_neg (by omega), if_pos rfl]
      omega
    · rw [if_neg e1, if_neg ne]
      by_cases e2 : (i - 1) / 2 = pos
      · rw [if_pos e2]
        exact h.2 i i0 il e2 h0
      · rw [if_neg e2]
        by_cases e3 : (i - 1) / 2 = (pos - 1) / 2
        · rw [if_pos e3]
          have := h.1 i i0 il e1
          rw [e3] at this
          omega
        · rw [if_neg e3]
          exact h.1 i i0 il e1
  · rw [swp_len] at cl
    rw [G, G]
    have k1 := h.1 ((pos - 1) / 2) q0 hq (by omega)
    rw [if_neg (by omega), if_neg (by omega)]
    by_cases e1 : c = pos
    · rw [if_pos e1]
      exact k1
    · rw [if_neg e1, if_neg (by omega)]
      have k2 := h.1 c c0 cl e1
      rw [e] at k2
      omega
theorem DnI.leaf {ns : List Int} {pos : Nat} (h : DnI ns pos) (hl : ¬ pos < ns.length / 2) : UpI ns pos :=
  ⟨fun i i0 il ne => h.1 i i0 il ne (by omega), h.2⟩
theorem DnI.step {ns : List Int} {pos m : Nat} (h : DnI ns pos) (hm : m < ns.length) (m0 : 0 < m) (e : (m - 1) / 2 = pos) (hmin : ∀ c, 0 < c → c < ns.length → (c - 1) / 2 = pos → g ns m ≤ g ns c) : DnI (swp ns m pos) m := by
  have hp : pos < ns.length := by omega
  have G := g_swp hm hp
  refine ⟨fun i i0 il n1 n2 => ?_, fun c c0 cl ec _ => ?_⟩
  · rw [swp_len] at il
    rw [G, G]
    by_cases e1 : i = pos
    · rw [if_pos e1, if_neg (by omega), if_neg n2]
      subst e1
      exact h.2 m m0 hm e i0
    · rw [if_neg e1, if_neg n1]
      by_cases e2 : (i - 1) / 2 = pos
      · rw [if_pos e2]
        exact hmin i i0 il e2
      · rw [if_neg e2, if_neg n2]
        exact h.1 i i0 il e1 e2
  · rw [swp_len] at cl
    rw [G, G]
    rw [e, if_pos rfl, if_neg (by omega), if_neg (by omega)]
    have := h.1 c c0 cl (by omega) (by omega)
    rw [ec] at this
    exact this
theorem IsHeap.least {ns : List Int} (h : IsHeap ns) : ∀ i, i < ns.length → g ns 0 ≤ g ns i := by
  intro i
  induction i using Nat.strongRecOn with
  | _ i ih =>
    intro hl
    by_cases h0 : i = 0
    · subst h0; exact Int.le_refl _
    · exact Int.le_trans (ih ((i - 1) / 2) (by omega) (by omega)) (h i (by omega) hl)
theorem IsHeap.least_mem {ns : List Int} (h : IsHeap ns) {x : Int} (hx : x ∈ ns) : g ns 0 ≤ x := by
  obtain ⟨i, hi, e⟩ := List.mem_iff_getElem.mp hx
  have := h.least i hi
  have q := g_lt hi
  rw [List.getElem?_eq_getElem hi, e] at q
  rw [← Option.some.inj q] at this
  exact this
/-- one more at the end -/
theorem IsHeap.push {ns : List Int} (h : IsHeap ns) (x : Int) : UpI (ns ++ [x]) ns.length := by
  have ga : ∀ i, i < ns.length → g (ns ++ [x]) i = g ns i := fun i hi => by
    unfold g
    rw [List.getD_eq_getElem?_getD, List.getElem?_append_left hi, List.getD_eq_getElem?_getD]
  refine ⟨fun i i0 il ne => ?_, fun c c0 cl e _ => ?_⟩
  · rw [List.length_append, List.length_singleton] at il
    rw [ga i (by omega), ga _ (by omega)]
    exact h i i0 (by omega)
  · rw [List.length_append, List.length_singleton] at cl
    omega
/-- the last one put in the first one's place -/
theorem IsHeap.pop {ns : List Int} (h : IsHeap ns) (x : Int) : DnI (ns.dropLast.set 0 x) 0 := by
  have hlen : (ns.dropLast.set 0 x).length = ns.length - 1 := by rw [List.length_set, List.length_dropLast]
  have ga : ∀ i, 0 < i → i < ns.length - 1 → g (ns.dropLast.set 0 x) i = g ns i := fun i i0 hi => by
    unfold g
    rw [List.getD_eq_getElem?_getD, List.getElem?_set, if_neg (by omega), List.getD_eq_getElem?_getD, List.getElem?_dropLast, if_pos hi]
  refine ⟨fun i i0 il n1 n2 => ?_, fun c c0 cl e q => absurd q (by omega)⟩
  rw [hlen] at il
  rw [ga i i0 il, ga _ (by omega) (by omega)]
  exact h i i0 (by omega)
theorem pop_perm {ns : List Int} (h2 : 2 ≤ ns.length) : (g ns 0 :: (ns.dropLast.set 0 (g ns (ns.length - 1)))).Perm ns := by
  match ns, h2 with
  | a :: b :: r, _ =>
    have e1 : g (a :: b :: r) 0 = a := rfl
    have e2 : g (a :: b :: r) ((a :: b :: r).length - 1) = (b :: r).getLast (by simp) := by
      unfold g
      rw [List.getD_eq_getElem?_getD, ← List.getLast?_eq_getElem?, List.getLast?_cons_cons, List.getLast?_eq_some_getLast (by simp)]
      rfl
    rw [e1, e2, List.dropLast_cons_cons, List.set_cons_zero]
    refine List.Perm.cons _ ?_
    have e3 : (b :: r).dropLast ++ [(b :: r).getLast (by simp)] = b :: r := List.dropLast_concat_getLast _
    exact (List.perm_append_comm (l₁ := [(b :: r).getLast (by simp)]) (l₂ := (b :: r).dropLast)).trans (by rw [e3])
end My

set_option Elab.async false
set_option linter.all false
set_option maxRecDepth 100000
set_option maxHeartbeats 4000000
namespace L2
open PySem PySem.Spec PyProof.Rows
theorem iteD {p A B : Prop} [Decidable p] (h1 : p → A) (h2 : ¬ p → B) : if decide p = true then A else B := by
  by_cases h : p
  · rw [decide_eq_true h, if_pos rfl]; exact h1 h
  · rw [decide_eq_false h, if_neg Bool.false_ne_true]; exact h2 h
theorem iteB {b : Bool} {A B : Prop} (h1 : b = true → A) (h2 : b = false → B) : if b = true then A else B := by
  cases b with
  | true => rw [if_pos rfl]; exact h1 rfl
  | false => rw [if_neg Bool.false_ne_true]; exact h2 rfl
/-- a word that no step opens -/
@[irreducible] def Blk (p : Prop) : Prop := p
theorem Blk.of {p : Prop} (h : p) : Blk p := by unfold Blk; exact h
theorem Blk.out {p : Prop} (h : Blk p) : p := by unfold Blk at h; exact h
/-- all but the addresses of S stays -/
def Keeps (S : List Addr) (H H' : Hp) : Prop := ∀ b o, H b = some o → b ∉ S → H' b = some o
theorem Keeps.refl (S : List Addr) (H : Hp) : Keeps S H H := fun _ _ h _ => h
theorem Keeps.trans {S : List Addr} {H H1 H2 : Hp} (a : Keeps S H H1) (b : Keeps S H1 H2) : Keeps S H H2 := fun c o h n => b c o (a c o h n) n
theorem Keeps.mono {S S' : List Addr} {H H1 : Hp} (a : Keeps S H H1) (h : ∀ x ∈ S, x ∈ S') : Keeps S' H H1 := fun c o e n => a c o e fun q => n (h c q)
theorem Keeps.upd {S : List Addr} {H H1 : Hp} {x : Addr} {o : HO} (a : Keeps S H H1) (hx : x ∈ S ∨ H x = none) : Keeps S H (upd H1 x o) := fun c u e n => by
  have ne : c ≠ x := fun q => by
    subst q
    rcases hx with h | h
    · exact n h
    · rw [h] at e; cases e
  rw [upd_ne ne]
  exact a c u e n
/-- fresh at H1, so fresh at H (or in S) -/
theorem Keeps.fresh {S : List Addr} {H H1 : Hp} {x : Addr} (a : Keeps S H H1) (h : H1 x = none) : x ∈ S ∨ H x = none := by
  cases e : H x with
  | none => exact .inr rfl
  | some o =>
    by_cases hm : x ∈ S
    · exact .inl hm
    · rw [a x o e hm] at h; cases h
section
variable {X : Cx}
/-- xs[i], by values -/
def rGetL (K : PySem.W.Frag) : V → V → Hp → VK → Prop := fun x y H Q => ∃ p xs i v, x = .ref p ∧ y = .int i ∧ SqL K H p xs ∧ 0 ≤ i ∧ xs[i.toNat]? = some v ∧ Q v H
theorem pget_list : PGet X (rGetL X.K) := by
  intro pins s σ H o i ov iv Q I ro ri h
  obtain ⟨p, xs, j, v, rfl, rfl, hq, h0, hv, q⟩ := h
  cases ro
  obtain ⟨t, rfl⟩ := ri
  obtain ⟨its, r, pl, hz⟩ := I.list hq
  obtain ⟨w, ew, rw'⟩ := r.get hv
  have hl := r.length
  have hlt : j.toNat < xs.length := (List.getElem?_eq_some_iff.mp hv).1
  have hn := line63
  exact wpAny_getItem_list pl.isList h0 (by omega) (by simpa using ew) ⟨v, H, I, rw', q⟩
/-- the keywords alone: each parameter but the first by its name, in their order -/
structure KwB (K : PySem.W.Frag) (fd : FuncData) (ps ks : List Str) : Prop where
  to : ∀ (s : Shared) (u : Value) (ws : List Value), K.In s.heap → ws.length = ks.length → BindsTo s fd ⟨[u], ks.zip ws⟩ (ps.zip (u :: ws))
  len : ps.length = ks.length + 1
def tMethKw (C : Addr) (m : Str) (sp : Sp) (E : XK) (ta : TE) (tk : TA) : TE := fun σ H Q => ta σ H fun x H1 => ∃ a dx fs, x = .ref a ∧ H1 a = some (.ins C dx fs) ∧ fs.lookup m = none ∧
  tk σ H1 fun vs H2 => sp (x :: vs) H2 Q E
variable {CX : CXT} {k : Nat} {f C : Addr} {fd : FuncData} {ps ks : List Str} {sp : Sp} {E : XK} {m : Str} {pos apos : Pos} {o : Expr} {kws : List Keyword} {ta : TE} {tk : TA}
theorem run_kwm {pins : List (Addr × Obj)} {σ : St} {H : Hp} {s : Shared} {Q : VK} {u : Value} {v : V} {ws : List Value} {zs : List V} (F : FnOk X.prog X.w X.K X.mg X.base CX k f fd ps sp) (hr : Room k X.A) (hb : KwB X.K fd ps ks) (hx : Passes CX X E)
    (I : Inv X pins σ H s) (r : RelV v u) (rz : Vals zs ws) (h : sp (v :: zs) H Q E) : wpAny (model X.prog X.w) X.A (call (.ref f) [u] (ks.zip ws)) (EP X pins σ Q) X.xe s := by
  have r2 : Vals (v :: zs) (u :: ws) := .cons r rz
  have hl : (u :: ws).length = ps.length := by rw [← r2.length]; exact F.len _ _ _ _ h
  have hl2 : ws.length = ks.length := by have := hb.len; rw [List.length_cons] at hl; omega
  refine wpAny_call (codeAny_mono (F.run X.A X.stack s H ⟨[u], ks.zip ws⟩ (u :: ws) (v :: zs) Q E hr I.env0 (hb.to s u ws I.kIn hl2) r2 h) fun r s' hq => ?_)
  cases r with
  | error e => exact hx pins σ H s e s' I hq
  | ok fl =>
    cases fl with
    | ret u => exact I.after hq
    | next => exact False.elim hq
    | brk => exact False.elim hq
    | cont => exact False.elim hq
/-- o.m(k = v, ..) -/
theorem pe_methKw {pl : Sem Bool} (he : PE X o ta) (c : Cls X.K C) (hm : Meth X.K C m f) (F : FnOk X.prog X.w X.K X.mg X.base CX k f fd ps sp) (hr : Room k X.A) (hb : KwB X.K fd ps ks) (hx : Passes CX X E) (hkw : PK X kws tk)
    (hall : (backToKw pos (keywordEach kws X.env)).all (·.1.isSome) = true := by rfl) (hks : (backToKw pos (keywordEach kws X.env)).filterMap (·.1) = ks := by rfl)
    (hpl : ((backTo pos (starEach [] X.env)).any (·.1) || (backToKw pos (keywordEach kws X.env)).any (·.1.isNone)) = false := by rfl)
    (ht : eval (.Call (.Attribute o m apos) [] kws pos) X.env = (do
      let v0 ← eval o X.env
      standAt apos.atName
      let (g, frst) ← holding [v0] (getMethod v0 m pl)
      callWith pos g frst (backTo pos (starEach [] X.env)) (backToKw pos (keywordEach kws X.env))) := by rfl) :
    PE X (.Call (.Attribute o m apos) [] kws pos) (tMethKw C m sp E ta tk) := by
  constructor
  intro pins s σ H Q I h
  refine PySem.W.methodCall_KW (pl := pl) (thn (he.run pins s σ H _ I h) fun w s1 ⟨y, H1, I1, ry, a, dx, fs, ey, ea, l, q⟩ => ?_) ht
  subst ey
  obtain rfl : w = Value.ref a := ry
  refine getmeth_ok I1 ea c hm l (PySem.W.callWith_KW0 (h₀ := X.base) I.ok.mod.kin hm.kp hall (thn (hkw.run pos pins s1 σ H1 _ I1 q) fun ws s2 ⟨zs, H2, I2, rz, q2⟩ => ⟨I2.kIn, ?_⟩) hpl)
  rw [hks]
  exact run_kwm (v := .ref a) F hr hb hx I2 rfl rz q2
end
theorem kwb_mk {K : PySem.W.Frag} {x qual : Str} {st : Stmt} {f : Addr} {fd : FuncData} {ps ks : List Str} (F : Fun K x qual st f fd) (hl : ps.length = ks.length + 1)
    (h : ∀ (kV doc pm : Value) (an : Option Addr) (cdv ct : Value) (u : Value) (ws : List Value), ws.length = ks.length → bindArgs (PySem.W.fnOf x qual (defArgs st) (defBody st) (defScope st) .none kV doc pm an cdv ct) ⟨[u], ks.zip ws⟩ = pure (ps.zip (u :: ws))) : KwB K fd ps ks := by
  obtain ⟨_, _, kV, doc, pm, an, cdv, ct, _, rfl, _, _⟩ := F.ex
  exact ⟨fun s u ws _ hw => .of_eq (h kV doc pm an cdv ct u ws hw), hl⟩
/-! ### the box of draws -/
/-- a box at b: its great cells at g, the rest of the one that is drawn from, the lesser cells at l, how many draws -/
def BoxAt (H : Hp) (b g l : Addr) (n : Int) : Prop := ∃ (gs ls : List Int) (cur : Int), H b = some (.lst [.ref g, .int cur, .ref l, .int n]) ∧ H g = some (.lst (gs.map V.int)) ∧ H l = some (.lst (ls.map V.int)) ∧ b ≠ g ∧ b ≠ l ∧ g ≠ l ∧ gs.length ≤ 63 ∧ ls.length ≤ 63
theorem ints_get {ns : List Int} {i : Nat} {y : V} (h : (ns.map V.int)[i]? = some y) : ∃ z, ns[i]? = some z ∧ y = V.int z := by
  rw [List.getElem?_map] at h
  cases e : ns[i]? with
  | none => rw [e] at h; cases h
  | some z => rw [e] at h; exact ⟨z, rfl, (Option.some.inj h).symm⟩
theorem get_lt {α : Type} {xs : List α} {i : Nat} {y : α} (h : xs[i]? = some y) : i < xs.length := (List.getElem?_eq_some_iff.mp h).1
theorem Same.upd {H H1 : Hp} {x : Addr} {o : HO} (a : Same H H1) (h : H x = none) : Same H (upd H1 x o) := fun c u e => by
  rw [upd_ne (ne_of_none e h)]
  exact a c u e
theorem small {n : Nat} (h : n ≤ 100000) : n < sizeLine := Nat.lt_of_le_of_lt h (by decide)
theorem ixN_at {n j : Nat} (h : j < n) : ixN n ((j : Nat) : Int) = some j := by
  have h2 : ((j : Nat) : Int) < ((n : Nat) : Int) := Int.ofNat_lt.mpr h
  simp [ixN, h2]
theorem BoxAt.upd {H : Hp} {b g l x : Addr} {n : Int} {o : HO} (h : BoxAt H b g l n) (hx : H x = none) : BoxAt (upd H x o) b g l n := by
  obtain ⟨gs, ls, cur, e1, e2, e3, r⟩ := h
  exact ⟨gs, ls, cur, by rw [upd_ne (ne_of_none e1 hx)]; exact e1, by rw [upd_ne (ne_of_none e2 hx)]; exact e2, by rw [upd_ne (ne_of_none e3 hx)]; exact e3, r⟩
theorem BoxAt.keep {H H' : Hp} {b g l : Addr} {n : Int} {S : List Addr} (h : BoxAt H b g l n) (k : Keeps S H H') (a : b ∉ S) (c : g ∉ S) (d : l ∉ S) : BoxAt H' b g l n := by
  obtain ⟨gs, ls, cur, e1, e2, e3, r⟩ := h
  exact ⟨gs, ls, cur, k _ _ e1 a, k _ _ e2 c, k _ _ e3 d, r⟩
theorem BoxAt.same {H H' : Hp} {b g l : Addr} {n : Int} (h : BoxAt H b g l n) (k : Same H H') : BoxAt H' b g l n := by
  obtain ⟨gs, ls, cur, e1, e2, e3, r⟩ := h
  exact ⟨gs, ls, cur, k _ _ e1, k _ _ e2, k _ _ e3, r⟩
theorem BoxAt.off {H : Hp} {b g l q : Addr} {n : Int} (h : BoxAt H b g l n) (hq : H q = none) : q ∉ [b, g] := by
  obtain ⟨gs, ls, cur, e1, e2, _⟩ := h
  intro c
  simp at c
  rcases c with rfl | rfl
  · rw [e1] at hq; cases hq
  · rw [e2] at hq; cases hq
end L2

set_option linter.all false
set_option maxRecDepth 100000
namespace L2
open PySem PySem.Spec PyProof.Rows
/-- pairs of ints as data -/
def pD (z : Int × Int) : PyData := .tuple [.int z.1, .int z.2]
theorem pD_lay (z : Int × Int) : (pD z).canLay0 = true := by simp [pD, PyData.canLay0, PyData.canLayAll0]
theorem pD_deep (z : Int × Int) : (pD z).depth = 1 := by simp [pD, PyData.depth, PyData.depthAll]
theorem pDs_lay : ∀ zs : List (Int × Int), PyData.canLayAll0 (zs.map pD) = true
  | [] => rfl
  | z :: r => by rw [List.map_cons, PyData.canLayAll0, pD_lay, pDs_lay r]; rfl
theorem pDs_deep : ∀ zs : List (Int × Int), PyData.depthAll (zs.map pD) ≤ 1
  | [] => by simp [PyData.depthAll]
  | z :: r => by
    rw [List.map_cons, PyData.depthAll, pD_deep]
    have := pDs_deep r
    omega
theorem pD_shaped (z : Int × Int) : SeqAt.shaped (pD z) = true := by
  unfold SeqAt.shaped
  rw [pD_lay, pD_deep]
  rfl
theorem lD_lay (zs : List (Int × Int)) : (PyData.list (zs.map pD)).canLay0 = true := by rw [PyData.canLay0]; exact pDs_lay zs
theorem lD_shaped (zs : List (Int × Int)) : SeqAt.shaped (.list (zs.map pD)) = true := by
  unfold SeqAt.shaped
  rw [lD_lay, PyData.depth]
  have := pDs_deep zs
  exact decide_eq_true (by omega)
theorem pD_same (z : Int × Int) : PyData.eqv (pD z) (pD z) = true := SeqAt.eqv_refl _ (pD_lay z)
theorem lD_same (zs : List (Int × Int)) : PyData.eqv (.list (zs.map pD)) (.list (zs.map pD)) = true := SeqAt.eqv_refl _ (lD_lay zs)
theorem dp_pair {K : PySem.W.Frag} {H : Hp} {h : Addr} {z : Int × Int} (e : H h = some (.tup [.int z.1, .int z.2])) : Dp K H (.ref h) (pD z) := .tup (SqT.of e) (.cons (.int _) (.cons (.int _) .nil))
theorem dp_pairs {K : PySem.W.Frag} {H : Hp} : ∀ {hs : List Addr} {zs : List (Int × Int)}, hs.length = zs.length → (∀ (i : Nat) (h : Addr) (z : Int × Int), hs[i]? = some h → zs[i]? = some z → H h = some (.tup [.int z.1, .int z.2])) → DpAll K H (hs.map V.ref) (zs.map pD)
  | [], [], _, _ => .nil
  | h :: hs, z :: zs, hl, e => .cons (dp_pair (e 0 h z rfl rfl)) (dp_pairs (by simpa using hl) fun i h' z' a b => e (i + 1) h' z' (by simpa using a) (by simpa using b))
  | [], _ :: _, hl, _ => by simp at hl
  | _ :: _, [], hl, _ => by simp at hl
theorem dp_list {K : PySem.W.Frag} {H : Hp} {l : Addr} {hs : List Addr} {zs : List (Int × Int)} (e0 : H l = some (.lst (hs.map V.ref))) (hl : hs.length = zs.length)
    (e : ∀ (i : Nat) (h : Addr) (z : Int × Int), hs[i]? = some h → zs[i]? = some z → H h = some (.tup [.int z.1, .int z.2])) : Dp K H (.ref l) (.list (zs.map pD)) := .lst (SqL.of e0) (dp_pairs hl e)
end L2

set_option linter.all false
set_option maxRecDepth 100000
set_option maxHeartbeats 4000000
namespace L2
open PySem PySem.Spec PyProof.Rows
section
variable {X : Cx} {CX : CXT} {k : Nat} {g C : Addr} {fd : FuncData} {sp : Sp} {E : XK}
/-- len(o), o an instance whose class has its own __len__ -/
def rLenOwn (C : Addr) (sp : Sp) (E : XK) : List V → Hp → VK → Prop := fun xs H Q => ∃ a dx fs, xs = [V.ref a] ∧ H a = some (.ins C dx fs) ∧ sp [.ref a] H (fun v H' => ∃ n : Int, v = .int n ∧ 0 ≤ n ∧ n < 2 ^ 63 ∧ Q (.int n) H') E
theorem call_lenOwn (hm : Meth X.K C "__len__" g) (F : FnOk X.prog X.w X.K X.mg X.base CX k g fd ["self"] sp) (hr : Room (k + 1) X.A) (hb : Binds X.K fd ["self"] []) (hx : Passes CX X E) : CallR X (.builtin "len") (rLenOwn C sp E) := by
  intro pins s σ H xs us Q I r h
  obtain ⟨a, dx, fs, rfl, ha, q⟩ := h
  obtain ⟨u, rfl, ru⟩ := r.one
  cases (show u = Value.ref a from ru)
  obtain ⟨_, _, _, e, mA, ⟨od, es, ep, e2, _⟩, _⟩ := I.hok a _ ha
  have J : PySem.W.InstAt s.heap a (PySem.W.instObj C dx) C (some od) := ⟨e, rfl, rfl, e2⟩
  obtain ⟨m, hF⟩ := I.fr
  have r2 : Vals [V.ref a] [Value.ref a] := .cons (show RelV (.ref a) (.ref a) from rfl) .nil
  have key : codeAny (model X.prog X.w) X.A.in1 (.call (.ref g) ⟨[.ref a], []⟩) (fun r s' => match r with
    | .ok (.ret v) => EP X pins σ (fun v H' => ∃ n : Int, v = .int n ∧ 0 ≤ n ∧ n < 2 ^ 63 ∧ Q (.int n) H') v s'
    | .ok _ => False
    | .error e => X.xe e s') s := by
    refine codeAny_mono (F.run X.A.in1 X.stack s H ⟨[.ref a], []⟩ [.ref a] [.ref a] _ E hr.in1 I.env0.in1 (hb s [.ref a] I.kIn rfl) r2 q) fun r s' hq => ?_
    cases r with
    | error e => exact hx pins σ H s e s' I hq
    | ok fl =>
      cases fl with
      | ret u => exact I.after hq
      | next => exact False.elim hq
      | brk => exact False.elim hq
      | cont => exact False.elim hq
  refine PySem.W.len_K hF I.ok.mod.kin J hm.at_ hm.fn (wpAny_mono (wpAny_call key) (fun v s' hv => ?_) fun _ _ x => x)
  obtain ⟨z, H', I', rz, n, rfl, n0, n1, qz⟩ := hv
  obtain ⟨t, rfl⟩ := (show ∃ t, v = Value.int n t from rz)
  exact ⟨⟨n0, n1⟩, .int n, H', I'.tok _, ⟨_, rfl⟩, qz⟩
end
/-- a loop over a locked dict's keys, by an invariant -/
theorem for_keys {d : Addr} {o : Obj} {kvs : List (Key × V)} {g : TG} {tb : TS} {D : Ends} {σ : St} {H : Hp} (Pv : Nat → St → Hp → Prop) (h0 : Pv 0 σ H) (hl : ∀ i σ H, Pv i σ H → H d = some (.frz o (.dK kvs)))
    (hs : ∀ i k v σ H, kvs[i]? = some (k, v) → Pv i σ H → g (kV k) σ H fun σ2 H2 => tb { D with nx := Pv (i + 1), ct := Pv (i + 1), bk := D.nx } σ2 H2) (hd : ∀ σ H, Pv kvs.length σ H → D.nx σ H) :
    ∃ W : Nat → Nat → St → Hp → Prop, (∃ m, W 0 m σ H) ∧ ∀ i m σ H, W i m σ H → ((Itk d o kvs).stop i H ∧ D.nx σ H) ∨
      ((Itk d o kvs).go i H ∧ ∃ N : St → Hp → Prop, (∀ σ' H', N σ' H' → ∃ m', m' < m ∧ W (i + 1) m' σ' H') ∧ ∀ x H', (Itk d o kvs).yld i H x H' → g x σ H' fun σ2 H2 => tb { D with nx := N, ct := N, bk := D.nx } σ2 H2) := by
  refine ⟨fun i m σ H => m + i = kvs.length ∧ Pv i σ H, ⟨kvs.length, rfl, h0⟩, fun i m σ H ⟨hm, p⟩ => ?_⟩
  have q := hl i σ H p
  by_cases hlt : i < kvs.length
  · refine .inr ⟨⟨q, hlt⟩, Pv (i + 1), fun σ' H' p' => ⟨m - 1, by omega, by omega, p'⟩, fun x H' y => ?_⟩
    obtain ⟨rfl, k, v, hk, rfl⟩ := y
    exact hs i k v σ _ hk p
  · obtain rfl : i = kvs.length := by omega
    exact .inl ⟨⟨q, Nat.le_refl _⟩, hd σ H p⟩
end L2

set_option linter.all false
set_option maxRecDepth 100000
set_option maxHeartbeats 4000000
namespace L2
open PySem PySem.Spec PyProof.Rows
/-- what the top says of a class over ValueError without an own __init__ -/
structure MidC (K : PySem.W.Frag) (D : Addr) : Prop where
  ga : PySem.W.specialIn K (.ref D) "__getattribute__" = some (some (.builtin "type.__getattribute__"))
  rd : PySem.W.readsIn K D (.type "type") = true
  fi : PySem.W.findCls K (.ref D) (.type "type") "__init__" = some (.val (.builtin "ValueError.__init__"))
section
variable {X : Cx} {e : Expr} {es : List Expr} {ta : TA} {n : Str} {D : Addr} {p1 p2 pos : Pos}
/-- D.__init__(self, ..), D an own class over ValueError that has no __init__ of its own -/
theorem pe_midInit {pl : Sem Bool} (T : MidC X.K D) (hg : Gl X n) (hm : X.mg n = some (.ref D)) (ha : PA X (e :: es) ta)
    (hc : eval (.Call (.Attribute (.Name n p1) "__init__" p2) (e :: es) [] pos) X.env = (do
      let ov ← eval (.Name n p1) X.env
      standAt p2.atName
      let (g, frst) ← holding [ov] (getMethod ov "__init__" pl)
      callWith pos g frst (backTo pos (starEach (e :: es) X.env)) (backToKw pos (keywordEach [] X.env))) := by rfl)
    (hdb : (n == ("__debug__" : Str)) = false := by decide)
    (st1 : starEach (e :: es) X.env = (false, eval e X.env) :: starEach es X.env := by rfl) (st2 : (backTo pos (starEach es X.env)).any (·.1) = false := by rfl) :
    PE X (.Call (.Attribute (.Name n p1) "__init__" p2) (e :: es) [] pos) (tVeI X.K ta) := by
  refine ⟨fun pins s σ H Q I h => ?_⟩
  refine PySem.W.methodCall_KW (ld_glob I hg hm ?_ hdb) hc
  refine PySem.W.method_cls I.kIn T.ga (PySem.W.cls_value I.kIn T.rd T.fi (by decide +kernel) ?_)
  refine PyProof.Rows.callWith_method1 (id := "ValueError.__init__") (thn (ha.run pos pins _ σ H _ (I.tok _) h) fun us s1 ⟨vs, H1, I1, r1, a, C, ws, ev, hl, T2, ea, q⟩ => ?_) st1 st2
  subst ev
  cases r1 with
  | @cons _ u0 _ ur ra rw' =>
    obtain rfl : u0 = Value.ref a := ra
    have hlen : ur.length ≤ sizeLine := by
      rw [← Paired.length rw', sizeLine_eq]
      omega
    exact oinit_ok T2 I1 ea hlen fun s' J => ⟨.non, H1, J, rfl, q⟩
end
/-- two promises of one def: one that lets nothing out, one that may -/
theorem FnOk.orX {P : Program} {w : World} {K : PySem.W.Frag} {mg : Str → Option Value} {base : Heap} {CX : CXT} {k : Nat} {f : Addr} {fd : FuncData} {ps : List Str} {sp1 sp2 : Sp} (F1 : FnOk P w K mg base CX0 k f fd ps sp1) (F2 : FnOk P w K mg base CX k f fd ps sp2) :
    FnOk P w K mg base CX k f fd ps (fun vs H Q E => sp1 vs H Q E ∨ sp2 vs H Q E) := by
  constructor
  · intro vs H Q E h
    rcases h with h | h
    · exact F1.len _ _ _ _ h
    · exact F2.len _ _ _ _ h
  · intro A outer s H args us vs Q E hr he hb hv h
    rcases h with h | h
    · refine codeAny_mono (F1.run A outer s H args us vs Q E hr he hb hv h) fun r s' z => ?_
      cases r with
      | error e => exact False.elim z
      | ok fl =>
        cases fl with
        | ret u => exact z
        | next => exact z
        | brk => exact z
        | cont => exact z
    · exact F2.run A outer s H args us vs Q E hr he hb hv h
/-! ### a method whose errors are taken by the body around -/
def tMethAt (C : Addr) (m : Str) (sp : Sp) (E : St → XK) (ta : TE) (t : TA) : TE := fun σ H Q => ta σ H fun x H1 => ∃ a dx fs, x = .ref a ∧ H1 a = some (.ins C dx fs) ∧ fs.lookup m = none ∧ t σ H1 fun vs H2 => sp (x :: vs) H2 Q (E σ)
section
variable {X : Cx} {CX : CXT} {k : Nat} {f C : Addr} {fd : FuncData} {ps : List Str} {sp : Sp} {E : St → XK} {m : Str} {pos apos : Pos} {e o : Expr} {es : List Expr} {ta : TE} {t : TA}
theorem pe_methAt {pl : Sem Bool} (ho : PE X o ta) (c : Cls X.K C) (hm : Meth X.K C m f) (F : FnOk X.prog X.w X.K X.mg X.base CX k f fd ps sp) (hr : Room k X.A) (hb : Binds X.K fd ps []) (hx : ∀ σ, PassesAt CX X σ (E σ)) (ha : PA X (e :: es) t)
    (h1 : starEach (e :: es) X.env = (false, eval e X.env) :: starEach es X.env := by rfl) (h2 : (backTo pos (starEach es X.env)).any (·.1) = false := by rfl)
    (h3 : eval (.Call (.Attribute o m apos) (e :: es) [] pos) X.env = (do
      let v0 ← eval o X.env
      standAt apos.atName
      let (g, first) ← holding [v0] (getMethod v0 m pl)
      callWith pos g first (backTo pos (starEach (e :: es) X.env)) (backToKw pos (keywordEach [] X.env))) := by rfl) :
    PE X (.Call (.Attribute o m apos) (e :: es) [] pos) (tMethAt C m sp E ta t) := by
  constructor
  intro pins s σ H Q I h
  refine PySem.W.methodCall_KW (pl := pl) (thn (ho.run pins s σ H _ I h) fun u s1 ⟨x, H1, I1, rx, a, dx, fs, ex, ea, l, q⟩ => ?_) h3
  subst ex
  obtain rfl : u = Value.ref a := rx
  refine getmeth_ok I1 ea c hm l (PySem.W.callWith_K (h₀ := X.base) (first := [.ref a]) I.ok.mod.kin hm.kp (thn (ha.run pos pins s1 σ H1 _ I1 q) fun us s2 ⟨vs, H2, I2, r, q2⟩ => ⟨I2.kIn, ?_⟩) h1 h2)
  exact run_fnS (vs := .ref a :: vs) (us := .ref a :: us) F hr hb (hx σ) I2 (.cons rfl r) q2
end
/-! ### a tuple of numbers in an f-string -/
theorem reprs_int {prog : Program} {w : World} : ∀ {l : List Int} {its : List Value}, Vals (l.map V.int) its → (∀ y ∈ l, y.natAbs.log2 < 1920) → ReprAll prog w its (l.map fun i => Str.ofString (toString i))
  | [], _, r, _ => by
    cases r
    exact .nil
  | y :: l, _, r, h => by
    cases r with
    | cons r1 r2 =>
      obtain ⟨t, rfl⟩ := r1
      exact .cons (ReprIs.int t (h y List.mem_cons_self)) (reprs_int r2 fun z hz => h z (List.mem_cons_of_mem _ hz))
theorem piled_int : ∀ l : List Int, (∀ y ∈ l, y.natAbs.log2 < 1920) → piled (l.map fun i => Str.ofString (toString i)) ≤ 1923 * l.length
  | [], _ => Nat.zero_le _
  | y :: l, h => by
    have h1 := int_text_len_1921 (h y List.mem_cons_self)
    have h2 := piled_int l fun z hz => h z (List.mem_cons_of_mem _ hz)
    rw [List.map_cons, piled_cons, List.length_cons]
    omega
/-- {t}, t a tuple of numbers: some text -/
def tFmtI (K : PySem.W.Frag) (te : TE) : TE := fun σ H Q => te σ H fun x H1 => ∃ (a : Addr) (l : List Int), x = .ref a ∧ SqT K H1 a (l.map V.int) ∧ (∀ y ∈ l, y.natAbs.log2 < 1920) ∧ l.length ≤ 20 ∧ ∀ m : Str, m.length ≤ 40000 → Q (.str m) H1
theorem pe_fmtI {X : Cx} {e : Expr} {te : TE} {pos : Pos} {k : Nat} (hr : Room k X.A) (he : PE X e te) : PE X (.FormattedValue e (-1) none pos) (tFmtI X.K te) := by
  refine ⟨fun pins s σ H Q I h => ?_⟩
  refine wpAny_FormattedValue_plain (thn (he.run pins s σ H _ I h) fun v s1 got => ?_)
  obtain ⟨x, H1, I1, r1, a, l, rfl, ht, hc, hz, q⟩ := got
  cases r1
  obtain ⟨its, rv, ⟨ox, ho, hcl, nx, hd⟩, _⟩ := I1.tuple ht
  have hp := piled_int l hc
  have htx := fmt_text (l.map fun i => Str.ofString (toString i))
  have hu := hr.units
  have hb : 40000 ≤ sizeLine := by rw [sizeLine_eq]; decide
  exact fmt_tuple (by omega) ho hcl hd (reprs_int rv hc) (by omega) fun m u tk hm => ⟨.str m, H1, I1.tok _, ⟨u, rfl⟩, q m (by omega)⟩
end L2

set_option linter.all false
set_option maxRecDepth 100000
set_option maxHeartbeats 4000000
/-! several clauses `except C as n` -/
namespace L2
open PySem PySem.Spec PyProof.Rows
/-- the ends of a suite whose name, in slot i, is let go of -/
def unb (i : Nat) (D : Ends) : Ends where
  nx := fun σ' H' => D.nx (σ'.set i none) H'
  rt := D.rt
  bk := fun σ' H' => D.bk (σ'.set i none) H'
  ct := fun σ' H' => D.ct (σ'.set i none) H'
abbrev Clause := Value × Nat × (Addr → Value → Option Addr → TS)
def wNamed (K : PySem.W.Frag) (Wout : WX) (D : Ends) : List Clause → WX
  | [] => Wout
  | c :: r => fun cls d σ H => ∃ b : Bool, PySem.W.exmOne K cls c.1 = some b ∧ (b = true → ∀ z, H z = none → c.2.2 z cls d (unb c.2.1 D) (σ.set c.2.1 (some (.ref z))) H) ∧ (b = false → wNamed K Wout D r cls d σ H)
inductive HdN (X : Cx) : List ExceptHandler → List Clause → Prop
  | nil : HdN X [] []
  | cons {x n : Str} {c : Value} {i : Nat} {ts : Addr → Value → Option Addr → TS} {q0 : Stmt} {qs : List Stmt} {p1 p2 : Pos} {hds : List ExceptHandler} {l : List Clause} (hc : Names X x c) (hi : X.N[i]? = some n) (hk : X.env.kindOf n = some .local)
      (hq : ∀ (z : Addr) (oz : Obj) (cls : Value) (d : Option Addr) (pn : List (Addr × Obj)), Zc cls d oz → (∃ fv, oz.data = .fields fv) → PSs (X.suite z ((z, oz) :: pn)) (q0 :: qs) (ts z cls d)) (rest : HdN X hds l) :
      HdN X (.ExceptHandler (some (.Name x p1)) (some n) (q0 :: qs) p2 :: hds) ((c, i, ts) :: l)
/-- an exception at a on its way through the body of X, the state around as told -/
structure Fly (X : Cx) (pins : List (Addr × Obj)) (a : Addr) (cls : Value) (d : Option Addr) (σ : St) (H : Hp) (B : Heap) (sI s3 : Shared) : Prop where
  inv : Inv X pins σ H sI
  nb : ∀ b o, sI.heap.get? b = some o → b ∉ frs X.stack → B.get? b = some o
  up : sI.heap.UpToSlots s3.heap
  fly : HandSPX.FlyingZ B (X.env :: X.outer) a (Zc cls d) s3.heap
  na : H a = none
  os : s3.os = sI.os
  ag : AllBare s3.gens
section
variable {X : Cx} {pins : List (Addr × Obj)} {a : Addr} {cls : Value} {d : Option Addr} {σ : St} {H : Hp} {B : Heap} {sI s3 : Shared}
theorem Fly.stands (F : Fly X pins a cls d σ H B sI s3) : Inv X pins σ H s3 := F.inv.landed F.nb F.fly.1 F.up F.os F.ag
theorem Fly.held (F : Fly X pins a cls d σ H B sI s3) (hf : X.env.frame = some X.env.locals) :
    ∃ (oz : Obj) (fv : Array Value), s3.heap.get? a = some oz ∧ Zc cls d oz ∧ oz.data = .fields fv ∧ Inv (X.suite a ((a, oz) :: (X.pn ++ pins))) [] σ H s3 := by
  obtain ⟨oz, fv, e, z, hd⟩ := F.fly.there
  have off : a ∉ frs (X.env :: X.outer) := by
    intro m
    obtain ⟨_, o2, e2, nf⟩ := F.fly.2.2.1.mem m
    obtain rfl := Option.some.inj (e.symm.trans e2)
    exact nf _ hd
  refine ⟨oz, fv, e, z, hd, F.stands.suite e hd F.na (fun q => off ?_) (fun q => off ?_)⟩
  · rw [q]
    exact List.mem_filterMap.mpr ⟨X.env, List.mem_cons_self, hf⟩
  · obtain ⟨v, hv, hv2⟩ := List.mem_filterMap.mp q
    exact List.mem_filterMap.mpr ⟨v, List.mem_cons_of_mem _ hv, hv2⟩
/-- the clauses, one after the other -/
theorem Fly.clauses {l : List Clause} {hds : List ExceptHandler} {Wout : WX} {D : Ends} (hs : X.stack = X.env :: X.outer) (hf : X.env.frame = some X.env.locals) (hN : X.N.Nodup) (tk : Takes X Wout) (h : HdN X hds l) (F : Fly X pins a cls d σ H B sI s3)
    (w : wNamed X.K Wout D l cls d σ H) : wpAny (model X.prog X.w) X.A (handleBy (.ref a) X.env hds) (SP X pins D) X.xe s3 := by
  induction h with
  | nil =>
    refine wpAny_handleBy_nil ?_
    obtain ⟨_, _, _, oz, fv, tb0, oT, tn, e, z, hd, h1, hr⟩ := id F.fly
    unfold PySem.passOn
    refine wpAny_bind (wpAny_field e hd h1 ?_)
    rw [if_neg (by simp : ¬ ((Value.ref tb0 == Value.none) = true))]
    have out : wpAny (model X.prog X.w) X.A (setFlight (.ref a) X.env.frame) (fun _ s4 => wpAny (model X.prog X.w) X.A (throw (.ref a) : Sem Flow) (SP X pins D) X.xe s4) X.xe s3 := by
      rw [hf]
      refine HandSPX.setFlight_upZ F.fly fun h4 held up4 => wpAny_throw (tk _ _ ?_)
      refine ⟨a, B, sI, pins, σ, H, cls, d, rfl, F.inv, F.nb, F.up.trans up4, ?_, F.na, F.os, F.ag, w⟩
      rw [hs]
      exact .inr (.inr held)
    first
      | exact wpAny_bind (wpAny_pure (wpAny_bind out))
      | exact wpAny_bind out
  | @cons x n c i ts q0 qs p1 p2 hds l hc hi hk hq rest ih =>
    obtain ⟨b, hb, yes, no⟩ := w
    obtain ⟨oz, fv, e, z, hd, S3⟩ := F.held hf
    refine wpAny_handleBy_cons (codeAny_handlers_test ?_) (fun w => by cases w)
    have LC : PySem.W.Looks (model X.prog X.w) s3.heap (typeOf (.ref a)) cls := fun _ _ _ _ k q => wpAny_typeOf_ref (k _ _ e) (by rw [z.1]; exact q)
    have LM := PySem.W.exm_one (M := model X.prog X.w) F.stands.kIn LC hb
    have named : ∀ {Q E : Value → Shared → Prop}, Q c s3 → wpAny (model X.prog X.w) (X.A.mark (some (.ref a))) (eval (.Name x p1) X.env) Q E s3 := by
      intro Q E q
      obtain ⟨hg, hdb, hm | ⟨hm, hv, hn⟩⟩ := hc
      · exact ld_glob S3 hg hm q hdb
      · exact ld_blt S3 hg hm hv q hn hdb
    refine named (LM.here ?_)
    cases b with
    | false => exact ih (no rfl)
    | true =>
      refine codeAny_handlers_suite_as (HandSPX.lands_againZ F.fly fun h4 fl4 up4 => ?_)
      have F4 : Fly X pins a cls d σ H B sI { s3 with heap := h4 } := ⟨F.inv, F.nb, F.up.trans up4, fl4, F.na, F.os, F.ag⟩
      obtain ⟨oy, fy, ey, zy, dy, S4⟩ := F4.held hf
      refine store_ok (X := X.suite a ((a, oy) :: (X.pn ++ pins))) (v := .ref a) S4 hN hi (.inl hk) rfl (fun s5 S5 => ?_) (.inr hk)
      refine wpAny_mono ((hq a oy cls d (X.pn ++ pins) zy ⟨_, dy⟩).run [] s5 _ H _ S5 (yes rfl a F.na)) (fun f s6 hsp => ?_) (fun _ _ q => q.elim)
      have ok := F.inv.ok
      have fin : ∀ {τ : St} {H6 : Hp} {P : Shared → Prop}, Inv (X.suite a ((a, oy) :: (X.pn ++ pins))) [] τ H6 s6 → (∀ s7, Inv X pins (τ.set i none) H6 s7 → P s7) →
          wpAny (model X.prog X.w) X.A (do bindName X.env n .none; unbindBehindTheSuite X.env n p2) (fun _ s7 => P s7) X.xe s6 := fun I6 q => gone_ok (I6.unsuite ok) hN hi hk q
      cases f with
      | next =>
        obtain ⟨τ, H6, I6, q6⟩ := hsp
        exact fin I6 fun _ I7 => ⟨_, _, I7, q6⟩
      | brk =>
        obtain ⟨τ, H6, I6, q6⟩ := hsp
        exact fin I6 fun _ I7 => ⟨_, _, I7, q6⟩
      | cont =>
        obtain ⟨τ, H6, I6, q6⟩ := hsp
        exact fin I6 fun _ I7 => ⟨_, _, I7, q6⟩
      | ret u =>
        obtain ⟨v, τ, H6, I6, r6, q6⟩ := hsp
        exact fin I6 fun _ I7 => ⟨_, _, _, I7, r6, q6⟩
theorem ps_try_named {body : List Stmt} {h0 : ExceptHandler} {hds : List ExceptHandler} {l : List Clause} {pos : Pos} {tb : WX → TS} {Wout : WX} (hs : X.stack = X.env :: X.outer) (hf : X.env.frame = some X.env.locals) (hN : X.N.Nodup) (tk : Takes X Wout)
    (hb : ∀ (W : WX) (qs : List (Addr × Obj)) (xe : Value → Shared → Prop), Takes (X.tr qs xe) W → PassesOwn (model X.prog X.w) X.A X.env xe → PSs (X.tr qs xe) body (tb W))
    (hh : HdN X (h0 :: hds) l) : PS X (.Try body (h0 :: hds) [] [] pos) (fun D σ H => tb (wNamed X.K Wout D l) D σ H) := by
  constructor
  intro pins s σ H D I h
  have ok := I.ok
  have hfr : X.A.frames = some (X.env :: X.outer) := ok.frames.trans (by rw [hs])
  refine wpAny_Try_except (wpAny_mono ((hb (wNamed X.K Wout D l) (X.pn ++ pins) (fun e t1 => wpAny (model X.prog X.w) X.A (noteFrame e X.env) (fun _ t2 => wpAny (model X.prog X.w) X.A (setFlight e none)
    (fun _ t3 => wpAny (model X.prog X.w) X.A (handleBy e X.env (h0 :: hds)) (SP X pins D) X.xe t3) X.xe t2) X.xe t1) (fun u s' hx => ?_) PassesOwn.looking).run [] s σ H D (I.toTry _) h) (fun f s1 hsp => ?_) (fun _ _ q => q))
  · obtain ⟨a, B, sI, pn', τ, H', cls, d, rfl, J, nb, up, sky, na, os, ag, w⟩ := hx
    have sky2 : Sky B (X.env :: X.outer) a (Zc cls d) X.env.locals s'.heap := hs ▸ sky
    refine Sky.land (a := a) Zc.steady hfr hf sky2 fun h3 fl up3 => ?_
    exact Fly.clauses (s3 := { s' with heap := h3 }) hs hf hN tk hh ⟨J.ofTry ok, nb, up.trans up3, fl, na, os, ag⟩ w
  · cases f with
    | next =>
      obtain ⟨τ, H', J, q⟩ := hsp
      exact wpAny_execs_nil ⟨τ, H', J.ofTry ok, q⟩
    | brk =>
      obtain ⟨τ, H', J, q⟩ := hsp
      exact ⟨τ, H', J.ofTry ok, q⟩
    | cont =>
      obtain ⟨τ, H', J, q⟩ := hsp
      exact ⟨τ, H', J.ofTry ok, q⟩
    | ret u =>
      obtain ⟨v, τ, H', J, r, q⟩ := hsp
      exact ⟨v, τ, H', J.ofTry ok, r, q⟩
end
/-- isinstance(e, c), e the caught exception, which has its dict -/
def rIsD (K : PySem.W.Frag) (z : Addr) (cls : Value) (d : Option Addr) : List V → Hp → VK → Prop := fun xs H Q => ∃ (D dd : Addr) (fs : List (Str × V)) (c : V) (cv : Value) (b : Bool),
  cls = .ref D ∧ d = some dd ∧ H dd = some (.xd fs) ∧ ExcC K D ∧ xs = [.ref z, c] ∧ (∀ u, RelV c u → u = cv) ∧ PySem.W.kitOne K (.ref D) cv = some b ∧ Q (.bl b) H
theorem call_isD {X : Cx} {z : Addr} {cls : Value} {d : Option Addr} {oz : Obj} {pn : List (Addr × Obj)} (hz : Zc cls d oz) (hf : ∃ fv, oz.data = .fields fv) : CallR (X.suite z ((z, oz) :: pn)) (.builtin "isinstance") (rIsD X.K z cls d) := by
  intro pins s σ H xs us Q I r h
  obtain ⟨D, dd, fs, c, cv, b, rfl, rfl, ed, T, rfl, hcv, e, q⟩ := h
  obtain ⟨u1, u2, rfl, r1, r2⟩ : ∃ u1 u2, us = [u1, u2] ∧ RelV (.ref z) u1 ∧ RelV c u2 := by
    cases r with
    | cons r1 r =>
      cases r with
      | cons r2 r =>
        cases r
        exact ⟨_, _, rfl, r1, r2⟩
  obtain rfl : u1 = Value.ref z := r1
  obtain rfl := hcv _ r2
  obtain ⟨at1, _⟩ := I.pin (z, oz) (List.mem_append_left _ List.mem_cons_self)
  obtain ⟨fv, hd⟩ := hf
  have hx : ObjOk X.prog X.w H s.heap dd (.xd fs) := I.hok dd _ ed
  obtain ⟨mA, hns, hr⟩ := hx
  obtain ⟨od, ho, _⟩ := lookIn_ns hns
  have J : PySem.W.InstAt s.heap z oz D (some od) := ⟨at1, hz.1, by unfold PySem.W.notCls; rw [hd] <;> rfl, by rw [hz.2]; exact ho⟩
  have hcl : (PySem.W.clsIn X.K D).isSome = true := by
    obtain ⟨cd, hc, _⟩ := PySem.W.any_some T.hd
    rw [hc]
    rfl
  exact PySem.W.kia_one (PySem.W.kitx_exc hcl T.hg T.hk T.hs T.ha T.hn T.ht T.hm) I.kIn J e (fun w => nomatch w) fun tk => ⟨.bl b, H, I.kept (t' := tk) fun _ _ w => w, rfl, q⟩
end L2

set_option linter.all false
set_option maxRecDepth 100000
namespace My
open PySem
/-- small letters, names -/
def letter (c : Nat) : Bool := decide (97 ≤ c) && decide (c ≤ 122)
def nameB (s : Str) : Bool := decide (1 ≤ s.cps.size) && decide (s.cps.size ≤ 8) && s.cps.toList.all letter
/-- the pigeonhole -/
theorem len_le {α : Type} [DecidableEq α] : ∀ {l m : List α}, l.Nodup → (∀ x, x ∈ l → x ∈ m) → l.length ≤ m.length
  | [], m, _, _ => Nat.zero_le _
  | a :: l, m, nd, h => by
    rw [List.nodup_cons] at nd
    have h2 : ∀ x, x ∈ l → x ∈ m.erase a := fun x hx => (List.mem_erase_of_ne (fun (e : x = a) => nd.1 (e ▸ hx))).mpr (h x (List.mem_cons_of_mem _ hx))
    have := len_le nd.2 h2
    have hm := h a List.mem_cons_self
    have := List.length_erase_of_mem hm
    have := List.length_pos_of_mem hm
    rw [List.length_cons]
    omega
def spares : List Str := ["q", "qa", "qb", "qc", "qd", "qe", "qf", "qg", "qh", "qi", "qj", "qk", "ql", "qm", "qn", "qo"]
theorem spares_nodup : spares.Nodup := by decide +kernel
theorem spares_name : ∀ s, s ∈ spares → nameB s = true := by decide +kernel
/-- how far the search for a spare name has come: i spares were looked at -/
def Seek (found : List Str) (i : Nat) (x : Str) : Prop := nameB x = true ∧ (x ∉ found ∨ ((∀ j, j + 1 < i → ∀ s, spares[j]? = some s → s ∈ found) ∧ (∀ s, 0 < i → spares[i - 1]? = some s → x = s)))
theorem Seek.first {found : List Str} {x : Str} (h : nameB x = true) : Seek found 0 x := ⟨h, .inr ⟨fun j h => absurd h (by omega), fun s h => absurd h (by omega)⟩⟩
theorem Seek.keep {found : List Str} {i : Nat} {x : Str} (h : Seek found i x) (n : x ∉ found) : Seek found (i + 1) x := ⟨h.1, .inl n⟩
theorem Seek.next {found : List Str} {i : Nat} {x s : Str} (h : Seek found i x) (n : x ∈ found) (hs : spares[i]? = some s) : Seek found (i + 1) s := by
  refine ⟨spares_name s (List.mem_of_getElem? hs), .inr ⟨fun j hj t ht => ?_, fun t _ ht => ?_⟩⟩
  · rcases h.2 with h2 | ⟨h2, h3⟩
    · exact absurd n h2
    · by_cases e : j + 1 < i
      · exact h2 j e t ht
      · obtain rfl : i = j + 1 := by omega
        have := h3 t (by omega) (by simpa using ht)
        exact this ▸ n
  · have : i + 1 - 1 = i := by omega
    rw [this, hs] at ht
    exact Option.some.inj ht
theorem Seek.done {found : List Str} {x : Str} (h : Seek found 16 x) (hl : found.length < 15) : nameB x = true ∧ x ∉ found := by
  refine ⟨h.1, ?_⟩
  rcases h.2 with h2 | ⟨h2, _⟩
  · exact h2
  · exfalso
    have nd : (spares.take 15).Nodup := by decide +kernel
    have hle : (spares.take 15).length ≤ found.length := len_le nd fun s hs => by
      obtain ⟨j, hj⟩ := List.getElem?_of_mem hs
      have hj2 : j < 15 := by
        have := (List.getElem?_eq_some_iff.mp hj).1
        have e : (spares.take 15).length = 15 := by decide +kernel
        omega
      rw [List.getElem?_take, if_pos hj2] at hj
      exact h2 j (by omega) s hj
    have e : (spares.take 15).length = 15 := by decide +kernel
    omega
/-- pairs of words: near, far, laden -/
abbrev Pr := Str × Str × Bool
structure PairsOk (ps : List Pr) : Prop where
  many : ps.length ≤ 6
  nm : ∀ p, p ∈ ps → nameB p.1 = true ∧ nameB p.2.1 = true
  nears : (ps.map (·.1)).Nodup
  fars : (ps.map (·.2.1)).Nodup
theorem PairsOk.take {ps : List Pr} (h : PairsOk ps) (n : Nat) : PairsOk (ps.take n) := by
  refine ⟨by have := h.many; rw [List.length_take]; omega, fun p hp => h.nm p (List.mem_of_mem_take hp), ?_, ?_⟩
  · rw [List.map_take]; exact h.nears.sublist (List.take_sublist _ _)
  · rw [List.map_take]; exact h.fars.sublist (List.take_sublist _ _)
theorem rot_nodup {α : Type} {l : List α} (h : l.Nodup) : (l.drop 1 ++ l.take 1).Nodup := by
  have e : (l.drop 1 ++ l.take 1).Perm (l.take 1 ++ l.drop 1) := List.perm_append_comm
  rw [List.take_append_drop] at e
  exact e.nodup_iff.mpr h
theorem rot_len {α : Type} (l : List α) : (l.drop 1 ++ l.take 1).length = l.length := by
  rw [List.length_append, List.length_drop, List.length_take]
  omega
end My

set_option linter.all false
set_option maxRecDepth 100000
set_option maxHeartbeats 4000000
/-! a method called with values by place and by name -/
namespace L2
open PySem PySem.Spec PyProof.Rows
structure KwN (K : PySem.W.Frag) (fd : FuncData) (ps : List Str) (n : Nat) (ks : List Str) : Prop where
  to : ∀ (s : Shared) (us ws : List Value), K.In s.heap → us.length = n → ws.length = ks.length → BindsTo s fd ⟨us, ks.zip ws⟩ (ps.zip (us ++ ws))
  len : ps.length = n + ks.length
theorem kwn_mk {K : PySem.W.Frag} {x qual : Str} {st : Stmt} {f : Addr} {fd : FuncData} {ps ks : List Str} {n : Nat} (F : Fun K x qual st f fd) (hl : ps.length = n + ks.length)
    (h : ∀ (kV doc pm : Value) (an : Option Addr) (cdv ct : Value) (us ws : List Value), us.length = n → ws.length = ks.length → bindArgs (PySem.W.fnOf x qual (defArgs st) (defBody st) (defScope st) .none kV doc pm an cdv ct) ⟨us, ks.zip ws⟩ = pure (ps.zip (us ++ ws))) : KwN K fd ps n ks := by
  obtain ⟨_, _, kV, doc, pm, an, cdv, ct, _, rfl, _, _⟩ := F.ex
  exact ⟨fun s us ws _ hu hw => .of_eq (h kV doc pm an cdv ct us ws hu hw), hl⟩
section
variable {X : Cx} {CX : CXT} {k n : Nat} {f C : Addr} {fd : FuncData} {ps ks : List Str} {sp : Sp} {m : Str} {pos apos : Pos} {o e : Expr} {es : List Expr} {kws : List Keyword} {ta : TE} {t tk : TA}
theorem run_fnN2 {E : XK} {pins : List (Addr × Obj)} {σ : St} {H : Hp} {s : Shared} {Q : VK} {us ws : List Value} {vs zs : List V} (F : FnOk X.prog X.w X.K X.mg X.base CX k f fd ps sp) (hr : Room k X.A) (hb : KwN X.K fd ps n ks) (hx : PassesAt CX X σ E)
    (I : Inv X pins σ H s) (r : Vals vs us) (rz : Vals zs ws) (hn : vs.length = n) (h : sp (vs ++ zs) H Q E) : wpAny (model X.prog X.w) X.A (call (.ref f) us (ks.zip ws)) (EP X pins σ Q) X.xe s := by
  have r2 := r.append rz
  have hl : (vs ++ zs).length = ps.length := F.len _ _ _ _ h
  have l1 : us.length = n := by rw [← r.length]; exact hn
  have l2 : ws.length = ks.length := by
    have := hb.len
    rw [← rz.length]
    rw [List.length_append] at hl
    omega
  refine wpAny_call (codeAny_mono (F.run X.A X.stack s H ⟨us, ks.zip ws⟩ (us ++ ws) (vs ++ zs) Q E hr I.env0 (hb.to s us ws I.kIn l1 l2) r2 h) fun r s' hq => ?_)
  cases r with
  | error e => exact hx pins H s e s' I hq
  | ok fl =>
    cases fl with
    | ret u => exact I.after hq
    | next => exact False.elim hq
    | brk => exact False.elim hq
    | cont => exact False.elim hq
def tMethNAt (C : Addr) (m : Str) (n : Nat) (sp : Sp) (E : St → XK) (ta : TE) (t tk : TA) : TE := fun σ H Q => ta σ H fun x H1 => ∃ a dx fs, x = .ref a ∧ H1 a = some (.ins C dx fs) ∧ fs.lookup m = none ∧
  t σ H1 fun vs H2 => tk σ H2 fun zs H3 => vs.length + 1 = n ∧ sp (x :: (vs ++ zs)) H3 Q (E σ)
theorem pe_methNAt {E : St → XK} {pl : Sem Bool} (ho : PE X o ta) (c : Cls X.K C) (hm : Meth X.K C m f) (F : FnOk X.prog X.w X.K X.mg X.base CX k f fd ps sp) (hr : Room k X.A) (hb : KwN X.K fd ps n ks) (hx : ∀ σ, PassesAt CX X σ (E σ)) (ha : PA X (e :: es) t) (hkw : PK X kws tk)
    (hall : (backToKw pos (keywordEach kws X.env)).all (·.1.isSome) = true := by rfl) (hks : (backToKw pos (keywordEach kws X.env)).filterMap (·.1) = ks := by rfl)
    (h1 : starEach (e :: es) X.env = (false, eval e X.env) :: starEach es X.env := by rfl)
    (hpl : ((backTo pos (starEach (e :: es) X.env)).any (·.1) || (backToKw pos (keywordEach kws X.env)).any (·.1.isNone)) = false := by rfl)
    (h3 : eval (.Call (.Attribute o m apos) (e :: es) kws pos) X.env = (do
      let v0 ← eval o X.env
      standAt apos.atName
      let (g, first) ← holding [v0] (getMethod v0 m pl)
      callWith pos g first (backTo pos (starEach (e :: es) X.env)) (backToKw pos (keywordEach kws X.env))) := by rfl) :
    PE X (.Call (.Attribute o m apos) (e :: es) kws pos) (tMethNAt C m n sp E ta t tk) := by
  constructor
  intro pins s σ H Q I h
  refine PySem.W.methodCall_KW (pl := pl) (thn (ho.run pins s σ H _ I h) fun u s1 ⟨x, H1, I1, rx, a, dx, fs, ex, ea, l, q⟩ => ?_) h3
  subst ex
  obtain rfl : u = Value.ref a := rx
  refine getmeth_ok I1 ea c hm l (PySem.W.callWith_KW (h₀ := X.base) (first := [.ref a]) I.ok.mod.kin hm.kp hall (thn (ha.run pos pins s1 σ H1 _ I1 q) fun us s2 ⟨vs, H2, I2, r, q2⟩ => ?_) hpl h1)
  refine thn (hkw.run pos pins s2 σ H2 _ I2 q2) fun ws s3 ⟨zs, H3, I3, rz, hn, q3⟩ => ⟨I3.kIn, ?_⟩
  rw [hks]
  exact run_fnN2 (vs := .ref a :: vs) (us := .ref a :: us) F hr hb (hx σ) I3 (.cons rfl r) rz hn q3
def tMethN (C : Addr) (m : Str) (n : Nat) (sp : Sp) (E : XK) (ta : TE) (t tk : TA) : TE := tMethNAt C m n sp (fun _ => E) ta t tk
theorem pe_methN {E : XK} {pl : Sem Bool} (ho : PE X o ta) (c : Cls X.K C) (hm : Meth X.K C m f) (F : FnOk X.prog X.w X.K X.mg X.base CX k f fd ps sp) (hr : Room k X.A) (hb : KwN X.K fd ps n ks) (hx : Passes CX X E) (ha : PA X (e :: es) t) (hkw : PK X kws tk)
    (hall : (backToKw pos (keywordEach kws X.env)).all (·.1.isSome) = true := by rfl) (hks : (backToKw pos (keywordEach kws X.env)).filterMap (·.1) = ks := by rfl)
    (h1 : starEach (e :: es) X.env = (false, eval e X.env) :: starEach es X.env := by rfl)
    (hpl : ((backTo pos (starEach (e :: es) X.env)).any (·.1) || (backToKw pos (keywordEach kws X.env)).any (·.1.isNone)) = false := by rfl)
    (h3 : eval (.Call (.Attribute o m apos) (e :: es) kws pos) X.env = (do
      let v0 ← eval o X.env
      standAt apos.atName
      let (g, first) ← holding [v0] (getMethod v0 m pl)
      callWith pos g first (backTo pos (starEach (e :: es) X.env)) (backToKw pos (keywordEach kws X.env))) := by rfl) :
    PE X (.Call (.Attribute o m apos) (e :: es) kws pos) (tMethN C m n sp E ta t tk) :=
  pe_methNAt (pl := pl) ho c hm F hr hb (fun σ pins H s e s' I q => hx pins σ H s e s' I q) ha hkw hall hks h1 hpl h3
end
end L2

set_option linter.all false
set_option maxRecDepth 100000
set_option maxHeartbeats 4000000
/-! exceptions of own classes held as values: made by places, asked of which class they are, their fields read -/
namespace L2
open PySem PySem.Spec PyProof.Rows
/-- C(e, ..), kept -/
def tMkV (C : Addr) (sp : Sp) (ta : TA) : TE := fun σ H Q => ta σ H fun vs H1 => vs.length ≤ 1000 ∧ ∀ z, H1 z = none → sp (.ref z :: vs) (upd H1 z (exo z C none)) (fun v H2 => v = .non ∧ Q (.ref z) H2) (fun _ _ _ => False)
section
variable {X : Cx} {o e : Expr} {es : List Expr} {to te : TE} {ta : TA} {f : Str} {p p' p1 p2 pos : Pos}
theorem pe_oexV {CX : CXT} {x : Str} {C fI : Addr} {k : Nat} {fd : FuncData} {ps : List Str} {sp : Sp} (T : OexC X.K C) (iC : PySem.W.findIn X.K (.ref C) "__init__" = some (some (.ref fI))) (tI : PySem.W.typeIn X.K (.ref fI) = some (.type "function"))
    (F1 : FnOk X.prog X.w X.K X.mg X.base CX k fI fd ps sp) (hr : Room (k + 1) X.A) (hb : Binds X.K fd ps []) (hx : Passes CX X (fun _ _ _ => False)) (hg : Gl X x) (hm : X.mg x = some (.ref C)) (ha : PA X (e :: es) ta)
    (dbg : (x == ("__debug__" : Str)) = false := by decide) (he : starEach (e :: es) X.env = (false, eval e X.env) :: starEach es X.env := by rfl) (hpl : (backTo pos (starEach es X.env)).any (·.1) = false := by rfl) :
    PE X (.Call (.Name x p) (e :: es) [] pos) (tMkV C sp ta) := by
  refine ⟨fun pins s σ H Q I h => ?_⟩
  obtain ⟨nm, q, N, bs, bm, sn, sub, ab, col, dd, k0, k1, k2, k3, k5, hC, hbm⟩ := T.cls
  refine wpAny_Call_Name_kw (ld_glob I hg hm ?_ dbg)
  refine PySem.W.callWith_K (h₀ := X.base) I.ok.mod.kin T.kC (thn (ha.run pos pins s σ H _ I h) fun us s1 ⟨vs, H1, I1, r1, vl, q1⟩ => ⟨I1.kIn, ?_⟩) he hpl
  show wpAny _ _ (call (.ref C) us) _ _ _
  obtain ⟨hp, g, dr, tk, os⟩ := s1
  have up1 : hp.objs.size ≤ hp.objs.size + 1 := Nat.le_succ _
  have gone : H1 (hp.objs.size + 1) = none := I1.hok.fresh up1
  have want := q1 (hp.objs.size + 1) gone
  have old : ∀ b o, hp.get? b = some o → ((hp.push (PySem.W.kdv_tup us)).push (PySem.HandSPX.excO C hp.objs.size)).get? b = some o := fun b o z => Heap.get?_push_of_some _ (Heap.get?_push_of_some _ z)
  have itself : ((hp.push (PySem.W.kdv_tup us)).push (PySem.HandSPX.excO C hp.objs.size)).get? (hp.objs.size + 1) = some (PySem.HandSPX.excO C hp.objs.size) := by heap_get
  have J : Inv X pins σ (upd H1 (hp.objs.size + 1) (exo (hp.objs.size + 1) C none)) ⟨(hp.push (PySem.W.kdv_tup us)).push (PySem.HandSPX.excO C hp.objs.size), g, dr, tk, os⟩ :=
    I1.laid (t' := tk) (o := exo (hp.objs.size + 1) C none) old up1 (exo_ok itself)
  have rv : Vals (V.ref (hp.objs.size + 1) :: vs) (Value.ref (hp.objs.size + 1) :: us) := .cons rfl r1
  have ln : (Value.ref (hp.objs.size + 1) :: us).length = ps.length := by
    rw [← rv.length]
    exact F1.len _ _ _ _ want
  have few : us.length ≤ sizeLine := by
    rw [← Paired.length r1, sizeLine_eq]
    omega
  have bd := hb _ (Value.ref (hp.objs.size + 1) :: us) J.kIn (by rw [List.append_nil]; exact ln)
  rw [List.append_nil] at bd
  refine wpAny_call (PySem.HandSPX.call_own F.excBase_ValueError (fun Y => PySem.HandSPX.refsVE_contains Y bm hbm) (I1.kIn _ _ hC) (PySem.W.looks_findIn I1.kIn iC) (fun self => PySem.W.bind_fn I1.kIn self tI) few
    (codeAny_mono (F1.run _ X.stack _ _ ⟨Value.ref (hp.objs.size + 1) :: us, []⟩ _ _ _ (fun _ _ _ => False) (hr.make C us []) (J.env0.make C us []) bd rv want) fun r s' got => ?_))
  cases r with
  | error er => exact hx pins σ _ _ er s' J got
  | ok fl =>
    cases fl with
    | ret u =>
      obtain ⟨v, H', J2, ru, ev, q3⟩ := J.after got
      subst ev
      exact ⟨ru, .ref (hp.objs.size + 1), H', J2, rfl, q3⟩
    | next => exact False.elim got
    | brk => exact False.elim got
    | cont => exact False.elim got
/-- an exception of the class at C at z, with fields or without a dict -/
inductive EvAt (H : Hp) (C z : Addr) : Prop where
  | with (dx : Addr) (fs : List (Str × V)) (e : H z = some (exo z C (some dx))) (d : H dx = some (exd dx fs)) : EvAt H C z
  | bare (e : H z = some (ExO (.ref C) z)) : EvAt H C z
def rIsV (K : PySem.W.Frag) : List V → Hp → VK → Prop := fun xs H Q => ∃ (C z : Addr) (c : V) (cv : Value) (b : Bool), xs = [.ref z, c] ∧ EvAt H C z ∧ ExcC K C ∧ (∀ u, RelV c u → u = cv) ∧ PySem.W.kitOne K (.ref C) cv = some b ∧ Q (.bl b) H
theorem call_isV : CallR X (.builtin "isinstance") (rIsV X.K) := by
  intro pins s σ H xs us Q I r h
  obtain ⟨C, z, c, cv, b, rfl, ev, T, hcv, e, q⟩ := h
  obtain ⟨u1, u2, rfl, r1, r2⟩ := vals2 r
  obtain rfl : u1 = Value.ref z := r1
  obtain rfl := hcv _ r2
  have hcl : (PySem.W.clsIn X.K C).isSome = true := by
    obtain ⟨cd, hc, _⟩ := PySem.W.any_some T.hd
    rw [hc]
    rfl
  have J : ∃ (ox : Obj) (od : Option Obj), PySem.W.InstAt s.heap z ox C od := by
    cases ev with
    | «with» dx fs e1 e2 =>
      obtain ⟨t1, ho⟩ := exo_at I.hok e1
      obtain ⟨mA, hns, _⟩ := exd_at I.hok e2
      obtain ⟨od, hod, _⟩ := lookIn_ns hns
      exact ⟨_, some od, ho, rfl, rfl, hod⟩
    | bare e1 =>
      have hx : ObjOk X.prog X.w H s.heap z (ExO (.ref C) z) := I.hok z _ e1
      obtain ⟨⟨oe, vs, ho, zc, hd, _⟩, _⟩ := hx
      obtain ⟨oc, od, oda, osl⟩ := oe
      obtain ⟨h1, h2⟩ := zc
      dsimp only at h1 h2 hd
      subst h1 h2 hd
      exact ⟨_, none, ho, rfl, rfl, trivial⟩
  obtain ⟨ox, od, J⟩ := J
  exact PySem.W.kia_one (PySem.W.kitx_exc hcl T.hg T.hk T.hs T.ha T.hn T.ht T.hm) I.kIn J e (fun w => nomatch w) fun tk => ⟨.bl b, H, I.kept (t' := tk) fun _ _ w => w, rfl, q⟩
/-- e.f of such a one -/
def tXfV (K : PySem.W.Frag) (f : Str) (te : TE) : TE := fun σ H Q => te σ H fun x H1 => ∃ (C z dx : Addr) (fs : List (Str × V)) (v : V), XfC K C ∧ PySem.W.findIn K (.ref C) f = some none ∧ x = .ref z ∧ H1 z = some (exo z C (some dx)) ∧ H1 dx = some (exd dx fs) ∧ fs.lookup f = some v ∧ Q v H1
theorem pe_xfV {n : Str} (he : PE X e te) (hb : attributeBase e n X.env (eval e X.env) = eval e X.env := by rfl) : PE X (.Attribute e n pos) (tXfV X.K n te) := by
  refine ⟨fun pins s σ H Q I h => ?_⟩
  refine attr_of hb (thn (he.run pins s σ H _ I h) fun u s1 got => ?_)
  obtain ⟨x, H1, I1, rx, C, z, dx, fs, v, T, hno, rfl, e1, e2, l, q⟩ := got
  obtain rfl : u = Value.ref z := rx
  obtain ⟨t1, ho⟩ := exo_at I1.hok e1
  obtain ⟨mA, hns, hr⟩ := exd_at I1.hok e2
  obtain ⟨od, hod, look⟩ := lookIn_ns hns
  obtain ⟨u, hu, ru⟩ := RelO.some_of (v := v) (o := mA n) (by rw [← l]; exact hr n)
  have J : PySem.W.InstAt s1.heap z _ C (some od) := ⟨ho, rfl, rfl, hod⟩
  exact HandSPX.exc_get I1.kIn J T.ga T.gg T.exC (PySem.W.findObj_own T.hdC hno rfl (by rw [look, hu])) (handed_of ru) ⟨v, H1, I1.tok _, ru, q⟩
end
end L2
namespace L2
open PySem PySem.Spec PyProof.Rows
/-! ### a tuple of numbers and texts in an f-string -/
inductive PlV : V → Prop where
  | int {i : Int} (h : i.natAbs.log2 < 1920) : PlV (.int i)
  | str {t : Str} (h : t.length ≤ 100) (c : ∀ n ∈ t.cps.toList, n < 16 ^ 8) : PlV (.str t)
theorem reprs_mix {prog : Program} {w : World} : ∀ {xs : List V} {its : List Value}, Vals xs its → (∀ x ∈ xs, PlV x) → ∃ ts, ReprAll prog w its ts ∧ piled ts ≤ 1923 * xs.length
  | [], _, r, _ => by
    cases r
    exact ⟨[], .nil, Nat.zero_le _⟩
  | x :: xs, _, r, h => by
    cases r with
    | cons r1 r2 =>
      obtain ⟨ts, h1, h2⟩ := reprs_mix (prog := prog) (w := w) r2 fun z hz => h z (List.mem_cons_of_mem _ hz)
      cases h x List.mem_cons_self with
      | @int i hi =>
        obtain ⟨t, rfl⟩ := r1
        have := int_text_len_1921 hi
        refine ⟨_, .cons (ReprIs.int t hi) h1, ?_⟩
        rw [piled_cons, List.length_cons]
        omega
      | @str y hl hc =>
        obtain ⟨t, rfl⟩ := r1
        have := StrLaws.reprText_len y hc
        have hb : 40000 ≤ sizeLine := by rw [sizeLine_eq]; decide
        refine ⟨_, .cons (ReprIs.str y t (by omega)) h1, ?_⟩
        rw [piled_cons, List.length_cons]
        omega
def tFmtM (K : PySem.W.Frag) (te : TE) : TE := fun σ H Q => te σ H fun x H1 => ∃ (a : Addr) (xs : List V), x = .ref a ∧ SqT K H1 a xs ∧ (∀ y ∈ xs, PlV y) ∧ xs.length ≤ 20 ∧ ∀ m : Str, m.length ≤ 40000 → Q (.str m) H1
theorem pe_fmtM {X : Cx} {e : Expr} {te : TE} {pos : Pos} {k : Nat} (hr : Room k X.A) (he : PE X e te) : PE X (.FormattedValue e (-1) none pos) (tFmtM X.K te) := by
  refine ⟨fun pins s σ H Q I h => ?_⟩
  refine wpAny_FormattedValue_plain (thn (he.run pins s σ H _ I h) fun v s1 got => ?_)
  obtain ⟨x, H1, I1, r1, a, xs, rfl, ht, hc, hz, q⟩ := got
  cases r1
  obtain ⟨its, rv, ⟨ox, ho, hcl, nx, hd⟩, _⟩ := I1.tuple ht
  obtain ⟨ts, hT, hp⟩ := reprs_mix (prog := X.prog) (w := X.w) rv hc
  have tl := fmt_text ts
  have hu := hr.units
  have hb : 40000 ≤ sizeLine := by rw [sizeLine_eq]; decide
  exact fmt_tuple (by omega) ho hcl hd hT (by omega) fun m u tk hm => ⟨.str m, H1, I1.tok _, ⟨u, rfl⟩, q m (by omega)⟩
end L2

set_option linter.all false
set_option maxRecDepth 100000
set_option maxHeartbeats 4000000
set_option pp.maxSteps 300
namespace XK
open PySem PySem.HandSPX PySem.W PySem.Calls
section
variable {M : Model} {A : Around} {E : Value → Shared → Prop}
variable {h : Heap} {g : Array GenState} {d : Drawn} {t : Nat} {os : OsState}
variable {name qual : Str} {C N : Addr} {bs bm bmB : List Value} {own ab : Bool} {sn : List Str} {below : List Value} {col : Option Bool} {dd : Option Addr} {k0 k1 k2 k3 k5 : Option Value} {B newId initId : String}
theorem new_check (F : ExcBaseFacts B newId initId bmB) (same : ∀ Y : String, bm.contains (.type Y) = bmB.contains (.type Y)) {kw : List (Str × Value)} {Q : Unit → Shared → Prop}
    (atC : h.get? C = some (excClassObj name qual C N bs bm own sn below ab col dd k0 k1 k2 k3 k5 newId)) (fin : Q () ⟨h, g, d, t, os⟩) : wpAny M A (checkBuiltinCall newId ⟨[.ref C], kw⟩) Q E ⟨h, g, d, t, os⟩ := by
  have inB : (Value.ref C :: bm).contains (.type B) = true := by rw [List.contains_cons, same, F.hasB, Bool.or_true]
  have hs := F.noStar
  simp only [checkBuiltinCall, F.newRow, F.newSplit, F.newKind]
  repeat (first | wp_step | refine wpAny_loadPart_at atC ?_ | (refine wpAny_isSubtype_exc atC ?_; rw [inB]) | refine wpAny_staticBase_exc atC ?_ | refine wpAny_madeBy_exc atC ?_ | simp only [bne_self_eq_false, Bool.false_eq_true, if_false])
  exact fin
theorem call_check {kw : List (Str × Value)} {Q : Unit → Shared → Prop} (atC : h.get? C = some (excClassObj name qual C N bs bm own sn below ab col dd k0 k1 k2 k3 k5 newId)) (fin : Q () ⟨h, g, d, t, os⟩) :
    wpAny M A (checkBuiltinCall "type.__call__" ⟨[.ref C], kw⟩) Q E ⟨h, g, d, t, os⟩ := by
  have s1 := tc_sub
  have ty : (⟨h, g, d, t, os⟩ : Shared).TypeIs (.ref C) "type" := ⟨_, atC, rfl⟩
  simp only [checkBuiltinCall, tc_split, tc_kind]
  repeat (any_goals (first | with_reducible refine wpAny_map ?_ | with_reducible refine wpAny_onRaise ?_ | with_reducible refine wpAny_loadPart_at atC ?_ | assumption | wp_step))
end
section
variable {prog : Program} {w : World} {A : Around} {R : Result → Shared → Prop} {E : Value → Shared → Prop}
variable {h : Heap} {g : Array GenState} {d : Drawn} {t : Nat} {os : OsState}
variable {name qual : Str} {C N : Addr} {bs bm bmB : List Value} {own ab : Bool} {sn : List Str} {below : List Value} {col : Option Bool} {dd : Option Addr} {k0 k1 k2 k3 k5 : Option Value} {B newId initId : String}
theorem new_obj (F : ExcBaseFacts B newId initId bmB) (same : ∀ Y : String, bm.contains (.type Y) = bmB.contains (.type Y)) {kw : List (Str × Value)}
    (atC : h.get? C = some (excClassObj name qual C N bs bm own sn below ab col dd k0 k1 k2 k3 k5 newId))
    (fin : R (.ok (.ret (.ref (h.objs.size + 1)))) ⟨(h.push (W.kdv_tup [])).push (excO C h.objs.size), g, d, t, os⟩) : codeAny (model prog w) A (.builtin newId ⟨[.ref C], kw⟩) R ⟨h, g, d, t, os⟩ := by
  have ends := F.ends
  have inB : (Value.ref C :: bm).contains (.type B) = true := by rw [List.contains_cons, same, F.hasB, Bool.or_true]
  have inA : (Value.ref C :: bm).contains (.type "AttributeError") = false := by rw [List.contains_cons, same, F.noAttr] <;> rfl
  have inN : (Value.ref C :: bm).contains (.type "NameError") = false := by rw [List.contains_cons, same, F.noName] <;> rfl
  refine codeAny_builtinAt F.entry ?_
  unfold Builtin.«BaseException.__new__»
  refine wpAt_bind ?_
  show wpAt _ _ _ (stack >>= _) _ _ _
  refine wpAt_bind (wpAt_stack fun p below => wpAt_of_wpAny ?_)
  wp_walk
  refine wpAt_of_wpAny ?_
  rw [F.owner]
  repeat (first | with_reducible refine wpAny_madeHere_exc F.canon atC ?_ | with_reducible refine wpAny_loadPart_at atC ?_ | (with_reducible refine wpAny_isSubtype_exc atC ?_; first | rw [inB] | rw [inA] | rw [inN]) | wp_step)
  show R _ _
  rw [Heap.size_push]
  exact fin
theorem by_type (F : ExcBaseFacts B newId initId bmB) (same : ∀ Y : String, bm.contains (.type Y) = bmB.contains (.type Y)) {kw : List (Str × Value)} {fI : Addr} {Q : Fin → Shared → Prop}
    (atC : h.get? C = some (excClassObj name qual C N bs bm own sn below ab col dd k0 k1 k2 k3 k5 newId))
    (ini : W.Looks (model prog w) h (typeLookup (.ref C) "__init__") (some (.ref fI))) (bin : ∀ self, W.Looks (model prog w) h (bindSpecial (.ref fI) self) (.ref fI, [self]))
    (fin : codeAny (model prog w) A (.call (.ref fI) ⟨[.ref (h.objs.size + 1)], kw⟩)
      (fun r s' => match r with | .ok (.ret v) => v = .none ∧ Q (.done (.ret (.ref (h.objs.size + 1)))) s' | .ok _ => False | .error e => E e s') ⟨(h.push (W.kdv_tup [])).push (excO C h.objs.size), g, d, t, os⟩) :
    wpAny (model prog w) A (Builtin.«type.__call__» ⟨[.ref C], kw⟩) Q E ⟨h, g, d, t, os⟩ := by
  repeat (first | with_reducible refine wpAny_madeBy_exc atC ?_ | with_reducible refine wpAny_loadPart_at atC ?_ | wp_step)
  refine codeAny_call_builtin_code (Code.quiet_builtin _ F.quiet) (new_check F same atC ?_)
  refine new_obj F same atC ?_
  show wpAny _ _ _ _ _ _
  have old : ∀ b o, h.get? b = some o → ((h.push (W.kdv_tup [])).push (excO C h.objs.size)).get? b = some o := fun b o z => Heap.get?_push_of_some _ (Heap.get?_push_of_some _ z)
  have atC1 := old _ _ atC
  have itself : ((h.push (W.kdv_tup [])).push (excO C h.objs.size)).get? (h.objs.size + 1) = some (excO C h.objs.size) := by heap_get
  have inC : (Value.ref C :: bm).contains (.ref C) = true := by simp
  have i1 := ini.keeps old
  have b1 := (bin (.ref (h.objs.size + 1))).keeps old
  unfold isInstance
  repeat (first | with_reducible refine wpAny_loadPart_at itself ?_ | (with_reducible refine wpAny_isSubtype_exc atC1 ?_; rw [inC]) | wp_step)
  show wpAny _ _ (typeLookup (.ref C) _) _ _ _
  refine i1.at ?_
  refine wpAny_holding (wpAny_bind (b1.at ?_))
  refine wpAny_bind (wpAny_call (codeAny_mono fin fun r s' z => ?_))
  rcases r with e | (v | _ | _ | _) <;> first | exact z | exact z.elim | skip
  obtain ⟨rfl, z⟩ := z
  first | exact wpAny_pure (wpAny_pure z) | (wp_walk; exact z)
theorem by_call (F : ExcBaseFacts B newId initId bmB) (same : ∀ Y : String, bm.contains (.type Y) = bmB.contains (.type Y)) {kw : List (Str × Value)} {fI : Addr}
    (atC : h.get? C = some (excClassObj name qual C N bs bm own sn below ab col dd k0 k1 k2 k3 k5 newId))
    (ini : W.Looks (model prog w) h (typeLookup (.ref C) "__init__") (some (.ref fI))) (bin : ∀ self, W.Looks (model prog w) h (bindSpecial (.ref fI) self) (.ref fI, [self]))
    (fin : codeAny (model prog w) (A.under (.builtin "type.__call__" ⟨[.ref C], kw⟩)) (.call (.ref fI) ⟨[.ref (h.objs.size + 1)], kw⟩) (W.InitBack (h.objs.size + 1) R) ⟨(h.push (W.kdv_tup [])).push (excO C h.objs.size), g, d, t, os⟩) :
    codeAny (model prog w) A (.call (.ref C) ⟨[], kw⟩) R ⟨h, g, d, t, os⟩ := by
  have f1 := tc_lookup
  have f2 := tc_bind (.ref C)
  have ty : (⟨h, g, d, t, os⟩ : Shared).TypeIs (.ref C) "type" := ⟨_, atC, rfl⟩
  refine codeAny_of_tree ?_
  show wpAny _ _ (callAny (.ref C) _) _ _ _
  repeat (any_goals (first | with_reducible refine wpAny_loadPart_at atC ?_ | assumption | wp_step))
  refine ⟨rfl, ?_⟩
  refine codeAny_call_builtin_at (Code.quiet_builtin _ (by decide +kernel)) entry_typeCall (call_check atC (by_type F same atC ini bin ?_))
  refine codeAny_mono fin fun r s' z => ?_
  rcases r with e | (v | _ | _ | _) <;> exact z
end
end XK
namespace L2
open PySem PySem.Spec PyProof.Rows
/-- C(k = v, ..), kept -/
def tMkVK (C : Addr) (sp : Sp) (m : Nat) (gV : List V → List V → List V) (tk : TA) : TE := fun σ H Q => tk σ H fun zs H1 => zs.length = m ∧ ∀ z, H1 z = none → sp (gV [.ref z] zs) (upd H1 z (exo z C none)) (fun v H2 => v = .non ∧ Q (.ref z) H2) (fun _ _ _ => False)
section
variable {X : Cx} {kws : List Keyword} {tk : TA} {p pos : Pos}
theorem pe_oexVK {CX : CXT} {x : Str} {C fI : Addr} {k : Nat} {fd : FuncData} {ps ks : List Str} {sp : Sp} {gr : List Value → List Value → List Value} {gV : List V → List V → List V} (T : OexC X.K C) (iC : PySem.W.findIn X.K (.ref C) "__init__" = some (some (.ref fI))) (tI : PySem.W.typeIn X.K (.ref fI) = some (.type "function"))
    (F1 : FnOk X.prog X.w X.K X.mg X.base CX k fI fd ps sp) (hr : Room (k + 1) X.A) (hb : KBn X.K fd ps 1 ks gr gV) (hx : Passes CX X (fun _ _ _ => False)) (hg : Gl X x) (hm : X.mg x = some (.ref C)) (hkw : PK X kws tk)
    (hall : (backToKw pos (keywordEach kws X.env)).all (·.1.isSome) = true := by rfl) (hks : (backToKw pos (keywordEach kws X.env)).filterMap (·.1) = ks := by rfl) (dbg : (x == ("__debug__" : Str)) = false := by decide)
    (hpl : ((backTo pos (starEach [] X.env)).any (·.1) || (backToKw pos (keywordEach kws X.env)).any (·.1.isNone)) = false := by rfl) :
    PE X (.Call (.Name x p) [] kws pos) (tMkVK C sp ks.length gV tk) := by
  refine ⟨fun pins s σ H Q I h => ?_⟩
  obtain ⟨nm, q, N, bs, bm, sn, sub, ab, col, dd, k0, k1, k2, k3, k5, hC, hbm⟩ := T.cls
  refine wpAny_Call_Name_kw (ld_glob I hg hm ?_ dbg)
  refine PySem.W.callWith_KW0 (h₀ := X.base) I.ok.mod.kin T.kC hall ?_ hpl
  refine thn (hkw.run pos pins s σ H _ I h) fun ws s1 ⟨zs, H1, I1, rz, zl, q1⟩ => ⟨I1.kIn, ?_⟩
  rw [hks]
  show wpAny _ _ (call (.ref C) [] (ks.zip ws)) _ _ _
  obtain ⟨hp, g, dr, tk', os⟩ := s1
  have up1 : hp.objs.size ≤ hp.objs.size + 1 := Nat.le_succ _
  have gone : H1 (hp.objs.size + 1) = none := I1.hok.fresh up1
  have want := q1 (hp.objs.size + 1) gone
  have old : ∀ b o, hp.get? b = some o → ((hp.push (PySem.W.kdv_tup [])).push (PySem.HandSPX.excO C hp.objs.size)).get? b = some o := fun b o z => Heap.get?_push_of_some _ (Heap.get?_push_of_some _ z)
  have itself : ((hp.push (PySem.W.kdv_tup [])).push (PySem.HandSPX.excO C hp.objs.size)).get? (hp.objs.size + 1) = some (PySem.HandSPX.excO C hp.objs.size) := by heap_get
  have J : Inv X pins σ (upd H1 (hp.objs.size + 1) (exo (hp.objs.size + 1) C none)) ⟨(hp.push (PySem.W.kdv_tup [])).push (PySem.HandSPX.excO C hp.objs.size), g, dr, tk', os⟩ :=
    I1.laid (t' := tk') (o := exo (hp.objs.size + 1) C none) old up1 (exo_ok itself)
  have rv : Vals [V.ref (hp.objs.size + 1)] [Value.ref (hp.objs.size + 1)] := .cons rfl .nil
  have r2 := hb.rel rv rz
  have l2 : ws.length = ks.length := rz.length.symm.trans zl
  refine wpAny_call (XK.by_call F.excBase_ValueError (fun Y => PySem.HandSPX.refsVE_contains Y bm hbm) (I1.kIn _ _ hC) (PySem.W.looks_findIn I1.kIn iC) (fun self => PySem.W.bind_fn I1.kIn self tI)
    (codeAny_mono (F1.run _ X.stack _ _ ⟨[Value.ref (hp.objs.size + 1)], ks.zip ws⟩ _ _ _ (fun _ _ _ => False) (hr.make C [] (ks.zip ws)) (J.env0.make C [] (ks.zip ws)) (hb.to _ [Value.ref (hp.objs.size + 1)] ws J.kIn rfl l2) r2 want) fun r s' got => ?_))
  cases r with
  | error er => exact hx pins σ _ _ er s' J got
  | ok fl =>
    cases fl with
    | ret u =>
      obtain ⟨v, H', J2, ru, ev, q3⟩ := J.after got
      subst ev
      exact ⟨ru, .ref (hp.objs.size + 1), H', J2, rfl, q3⟩
    | next => exact False.elim got
    | brk => exact False.elim got
    | cont => exact False.elim got
end
/-- keywords in the other order -/
theorem kwr_mk {K : PySem.W.Frag} {x qual : Str} {st : Stmt} {f : Addr} {fd : FuncData} {ps ks : List Str} {n : Nat} (F : Fun K x qual st f fd)
    (h : ∀ (kV doc pm : Value) (an : Option Addr) (cdv ct : Value) (us ws : List Value), us.length = n → ws.length = ks.length → bindArgs (PySem.W.fnOf x qual (defArgs st) (defBody st) (defScope st) .none kV doc pm an cdv ct) ⟨us, ks.zip ws⟩ = pure (ps.zip (us ++ ws.reverse))) :
    KBn K fd ps n ks (fun us ws => us ++ ws.reverse) (fun vs zs => vs ++ zs.reverse) := by
  obtain ⟨_, _, kV, doc, pm, an, cdv, ct, _, rfl, _, _⟩ := F.ex
  exact ⟨fun s us ws _ hu hw => .of_eq (h kV doc pm an cdv ct us ws hu hw), fun r1 r2 => r1.append r2.reverse⟩
end L2

set_option linter.all false
set_option maxRecDepth 100000
set_option maxHeartbeats 4000000
namespace L2
open PySem PySem.Spec PyProof.Rows
theorem KwN.kbn {K : PySem.W.Frag} {fd : FuncData} {ps ks : List Str} {n : Nat} (h : KwN K fd ps n ks) : KBn K fd ps n ks (fun us ws => us ++ ws) (fun vs zs => vs ++ zs) := ⟨h.to, fun r1 r2 => r1.append r2⟩
open PySem PySem.Spec PyProof.Rows
section
variable {X : Cx} {CX : CXT} {k : Nat} {g C : Addr} {fd : FuncData} {sp : Sp} {E : XK}
/-- str(o), o an instance whose class has its own __str__ -/
def rStrOwn (C : Addr) (sp : Sp) (E : XK) : List V → Hp → VK → Prop := fun xs H Q => ∃ a dx fs, xs = [V.ref a] ∧ H a = some (.ins C dx fs) ∧ sp [.ref a] H (fun v H' => ∃ t : Str, v = .str t ∧ Q (.str t) H') E
theorem call_strOwn (hm : Meth X.K C "__str__" g) (F : FnOk X.prog X.w X.K X.mg X.base CX k g fd ["self"] sp) (hr : Room (k + 2) X.A) (hb : Binds X.K fd ["self"] []) (hx : Passes CX X E) : CallR X (.type "str") (rStrOwn C sp E) := by
  intro pins s σ H xs us Q I r h
  obtain ⟨a, dx, fs, rfl, ha, q⟩ := h
  obtain ⟨u, rfl, ru⟩ := r.one
  cases (show u = Value.ref a from ru)
  obtain ⟨mA, J, _⟩ := ins_get I.hok ha
  obtain ⟨od, J, _⟩ := J.look
  have hr2 : Room k X.A.in1.in1 := hr.in1.in1
  have r2 : Vals [V.ref a] [Value.ref a] := .cons (show RelV (.ref a) (.ref a) from rfl) .nil
  refine PySem.W.kso_call hr2.units0 I.kIn J hm.at_ hm.fn (wpAny_call ?_)
  refine codeAny_mono (F.run X.A.in1.in1 X.stack s H ⟨[.ref a], []⟩ [.ref a] [.ref a] _ E hr2 I.env0.in1.in1 (hb s [.ref a] I.kIn rfl) r2 q) fun r s' hq => ?_
  cases r with
  | error e => exact hx pins σ H s e s' I hq
  | ok fl =>
    cases fl with
    | ret u =>
      obtain ⟨z, H', I', rz, t, rfl, qz⟩ := I.after hq
      obtain ⟨tk, rfl⟩ := rz
      exact ⟨.str t, H', I', ⟨_, rfl⟩, qz⟩
    | next => exact False.elim hq
    | brk => exact False.elim hq
    | cont => exact False.elim hq
end
end L2

set_option Elab.async false
set_option linter.all false
set_option maxRecDepth 100000
set_option maxHeartbeats 4000000
namespace Lw
open PySem L2
local macro_rules | `(tactic| walk_at "hp") => `(tactic| (repeat (first | exact upd_same | assumption | (refine (upd_ne (by first | assumption | exact Ne.symm (by assumption) | exact ne_of_none (by assumption) (by assumption) | exact Ne.symm (ne_of_none (by assumption) (by assumption)))).trans ?_))))
local macro_rules | `(tactic| walk_at "r1") => `(tactic| (first
  | (refine ⟨_, rfl, ?_⟩) | (refine ⟨_, _, rfl, rfl, ?_⟩) | (refine ⟨_, _, _, _, rfl, rfl, SqL.of (by walk_at "hp"), rfl, ?_⟩) | (refine ⟨_, _, _, _, rfl, rfl, (by walk_at "hp"), rfl, ?_⟩) | (refine ⟨rfl, ?_⟩)
  | (refine ⟨_, .inl ⟨_, SqL.of (by walk_at "hp"), rfl⟩, ?_⟩) | (refine ⟨_, _, rfl, .inl (SqL.of (by walk_at "hp")), ?_⟩) | (refine ⟨.inl ⟨rfl, _, SqL.of (by walk_at "hp")⟩, ?_⟩)
  | (refine ⟨_, _, _, _, _, rfl, (by walk_at "hp"), (by assumption), (by assumption), (by assumption), ?_⟩) | (refine ⟨_, _, _, _, rfl, (by walk_at "hp"), (by assumption), (by assumption), (by first | (show 0 < 1000; decide) | (show 1 < 1000; decide) | (show 2 < 1000; decide) | (show 3 < 1000; decide) | (show 4 < 1000; decide)), ?_⟩)
  | (refine ⟨(by show (0 : Int) < _; first | decide | omega), ?_⟩) | (refine ⟨⟨by assumption, by assumption⟩, ?_⟩) | (refine ⟨.inl ⟨by decide, by decide⟩, ?_⟩) | (refine ⟨.inr ⟨by decide, by decide⟩, ?_⟩)))
local macro_rules | `(tactic| walk_at "rd") => `(tactic| (repeat walk_at "r1"))
def top (i : Nat) : Stmt := PySem.Challenge.pw_pactford_k92_refusals_made.main.body.getD i (.Pass ⟨0, 0, 0, 0⟩)
abbrev s_p_copied : Stmt := top 1
theorem sc_p_copied : FnScope ["thing", "part"] ["thing"] (defScope s_p_copied) := ⟨rfl, rfl, rfl, by decide +kernel, rfl, by decide +kernel, by decide +kernel⟩
abbrev s_NoWord_init : Stmt := inClass (top 3) 0
theorem sc_NoWord_init : FnScope ["self", "word"] ["self", "word"] (defScope s_NoWord_init) := ⟨rfl, rfl, rfl, by decide +kernel, rfl, by decide +kernel, by decide +kernel⟩
abbrev s_NoPact_init : Stmt := inClass (top 4) 0
theorem sc_NoPact_init : FnScope ["self", "at"] ["self", "at"] (defScope s_NoPact_init) := ⟨rfl, rfl, rfl, by decide +kernel, rfl, by decide +kernel, by decide +kernel⟩
abbrev s_NoText_init : Stmt := inClass (top 5) 0
theorem sc_NoText_init : FnScope ["self", "at"] ["self", "at"] (defScope s_NoText_init) := ⟨rfl, rfl, rfl, by decide +kernel, rfl, by decide +kernel, by decide +kernel⟩
abbrev s_NoHelper_init : Stmt := inClass (top 6) 0
theorem sc_NoHelper_init : FnScope ["self", "name"] ["self", "name"] (defScope s_NoHelper_init) := ⟨rfl, rfl, rfl, by decide +kernel, rfl, by decide +kernel, by decide +kernel⟩
abbrev s_NoHandle_init : Stmt := inClass (top 7) 0
theorem sc_NoHandle_init : FnScope ["self", "handle"] ["self", "handle"] (defScope s_NoHandle_init) := ⟨rfl, rfl, rfl, by decide +kernel, rfl, by decide +kernel, by decide +kernel⟩
abbrev s_Ended_init : Stmt := inClass (top 8) 0
theorem sc_Ended_init : FnScope ["self", "handle"] ["self", "handle"] (defScope s_Ended_init) := ⟨rfl, rfl, rfl, by decide +kernel, rfl, by decide +kernel, by decide +kernel⟩
abbrev s_NoRow_init : Stmt := inClass (top 10) 0
theorem sc_NoRow_init : FnScope ["self", "at"] ["self", "at"] (defScope s_NoRow_init) := ⟨rfl, rfl, rfl, by decide +kernel, rfl, by decide +kernel, by decide +kernel⟩
abbrev s_NoSide_init : Stmt := inClass (top 11) 0
theorem sc_NoSide_init : FnScope ["self", "at"] ["self", "at"] (defScope s_NoSide_init) := ⟨rfl, rfl, rfl, by decide +kernel, rfl, by decide +kernel, by decide +kernel⟩
abbrev s_NoThing_init : Stmt := inClass (top 12) 0
theorem sc_NoThing_init : FnScope ["self", "at"] ["self", "at"] (defScope s_NoThing_init) := ⟨rfl, rfl, rfl, by decide +kernel, rfl, by decide +kernel, by decide +kernel⟩
abbrev s_NoLetter_init : Stmt := inClass (top 13) 0
theorem sc_NoLetter_init : FnScope ["self", "letter"] ["self", "letter"] (defScope s_NoLetter_init) := ⟨rfl, rfl, rfl, by decide +kernel, rfl, by decide +kernel, by decide +kernel⟩
abbrev s_NoBody_init : Stmt := inClass (top 9) 0
theorem sc_NoBody_init : FnScope ["self", "name", "at"] ["self", "name", "at"] (defScope s_NoBody_init) := ⟨rfl, rfl, rfl, by decide +kernel, rfl, by decide +kernel, by decide +kernel⟩
abbrev s_Unlet_init : Stmt := inClass (top 14) 0
theorem sc_Unlet_init : FnScope ["self", "side", "lines"] ["self", "side", "lines"] (defScope s_Unlet_init) := ⟨rfl, rfl, rfl, by decide +kernel, rfl, by decide +kernel, by decide +kernel⟩
abbrev s_box : Stmt := top 21
theorem sc_box : FnScope ["_law_script", "_law_great", "_law_cell"] ["_law_script"] (defScope s_box) := ⟨rfl, rfl, rfl, by decide +kernel, rfl, by decide +kernel, by decide +kernel⟩
abbrev s_mixed : Stmt := top 22
theorem sc_mixed : FnScope ["_law_cell", "_law_k", "_law_whole"] ["_law_cell", "_law_k"] (defScope s_mixed) := ⟨rfl, rfl, rfl, by decide +kernel, rfl, by decide +kernel, by decide +kernel⟩
abbrev s_take : Stmt := top 23
theorem sc_take : FnScope ["_law_box_here", "_law_size", "_law_found", "_law_cell", "_law_reach"] ["_law_box_here", "_law_size"] (defScope s_take) := ⟨rfl, rfl, rfl, by decide +kernel, rfl, by decide +kernel, by decide +kernel⟩
abbrev s_of_a_text : Stmt := top 24
theorem sc_of_a_text : FnScope ["_law_kind", "_law_one"] ["_law_kind", "_law_one"] (defScope s_of_a_text) := ⟨rfl, rfl, rfl, by decide +kernel, rfl, by decide +kernel, by decide +kernel⟩
abbrev s_made : Stmt := top 25
theorem sc_made : FnScope ["_law_kind", "_law_one", "_law_two"] ["_law_kind", "_law_one", "_law_two"] (defScope s_made) := ⟨rfl, rfl, rfl, by decide +kernel, rfl, by decide +kernel, by decide +kernel⟩
abbrev s_named : Stmt := top 26
theorem sc_named : FnScope ["_law_kind", "_law_one", "_law_two"] ["_law_kind", "_law_one", "_law_two"] (defScope s_named) := ⟨rfl, rfl, rfl, by decide +kernel, rfl, by decide +kernel, by decide +kernel⟩
abbrev s_borne : Stmt := top 27
theorem sc_borne : FnScope ["_law_kind", "_law_made_here"] ["_law_kind", "_law_made_here"] (defScope s_borne) := ⟨rfl, rfl, rfl, by decide +kernel, rfl, by decide +kernel, by decide +kernel⟩
abbrev s_sorts : Stmt := top 28
theorem sc_sorts : FnScope ["_law_e", "_law_found"] ["_law_e"] (defScope s_sorts) := ⟨rfl, rfl, rfl, by decide +kernel, rfl, by decide +kernel, by decide +kernel⟩
abbrev s_value : Stmt := top 29
theorem sc_value : FnScope ["_law_box_here", "_law_kind", "_law_signs", "_law_text", "_law_number", "_law_one", "_law_two", "_law_k"] ["_law_box_here", "_law_kind"] (defScope s_value) := ⟨rfl, rfl, rfl, by decide +kernel, rfl, by decide +kernel, by decide +kernel⟩
abbrev s_law : Stmt := top 30
theorem sc_law : FnScope ["_law_script", "_law_box_here", "_law_kind", "_law_one", "_law_two", "_law_text", "_law_other", "_law_more", "_law_rest", "_law_first", "_law_second", "_law_due", "_law_k"] ["_law_script"] (defScope s_law) := ⟨rfl, rfl, rfl, by decide +kernel, rfl, by decide +kernel, by decide +kernel⟩
/-- the addresses -/
structure Ad where
  c_NoWord : Addr
  c_NoPact : Addr
  c_NoText : Addr
  c_NoHelper : Addr
  c_NoHandle : Addr
  c_Ended : Addr
  c_NoRow : Addr
  c_NoSide : Addr
  c_NoThing : Addr
  c_NoLetter : Addr
  c_NoBody : Addr
  c_Unlet : Addr
  c_PactError : Addr
  c_Closed : Addr
  c_TooLong : Addr
  c_TooDeep : Addr
  c_NothingDone : Addr
  c_NoLines : Addr
  f_p_copied : Addr
  d_p_copied : FuncData
  f_NoWord_init : Addr
  d_NoWord_init : FuncData
  f_NoPact_init : Addr
  d_NoPact_init : FuncData
  f_NoText_init : Addr
  d_NoText_init : FuncData
  f_NoHelper_init : Addr
  d_NoHelper_init : FuncData
  f_NoHandle_init : Addr
  d_NoHandle_init : FuncData
  f_Ended_init : Addr
  d_Ended_init : FuncData
  f_NoRow_init : Addr
  d_NoRow_init : FuncData
  f_NoSide_init : Addr
  d_NoSide_init : FuncData
  f_NoThing_init : Addr
  d_NoThing_init : FuncData
  f_NoLetter_init : Addr
  d_NoLetter_init : FuncData
  f_NoBody_init : Addr
  d_NoBody_init : FuncData
  f_Unlet_init : Addr
  d_Unlet_init : FuncData
  f_box : Addr
  d_box : FuncData
  f_mixed : Addr
  d_mixed : FuncData
  f_take : Addr
  d_take : FuncData
  f_of_a_text : Addr
  d_of_a_text : FuncData
  f_made : Addr
  d_made : FuncData
  f_named : Addr
  d_named : FuncData
  f_borne : Addr
  d_borne : FuncData
  f_sorts : Addr
  d_sorts : FuncData
  f_value : Addr
  d_value : FuncData
  f_law : Addr
  d_law : FuncData
/-- what the top has written -/
structure Txt (K : PySem.W.Frag) (mg : Str → Option Value) (a : Ad) : Prop where
  x_NoWord : OexC K a.c_NoWord
  xi_NoWord : PySem.W.findIn K (.ref a.c_NoWord) "__init__" = some (some (.ref a.f_NoWord_init))
  xt_NoWord : PySem.W.typeIn K (.ref a.f_NoWord_init) = some (.type "function")
  xf_NoWord : XfC K a.c_NoWord
  g_NoWord : mg "NoWord" = some (.ref a.c_NoWord)
  n_NoWord_word : PySem.W.findIn K (.ref a.c_NoWord) "word" = some none
  x_NoPact : OexC K a.c_NoPact
  xi_NoPact : PySem.W.findIn K (.ref a.c_NoPact) "__init__" = some (some (.ref a.f_NoPact_init))
  xt_NoPact : PySem.W.typeIn K (.ref a.f_NoPact_init) = some (.type "function")
  xf_NoPact : XfC K a.c_NoPact
  g_NoPact : mg "NoPact" = some (.ref a.c_NoPact)
  n_NoPact_at : PySem.W.findIn K (.ref a.c_NoPact) "at" = some none
  x_NoText : OexC K a.c_NoText
  xi_NoText : PySem.W.findIn K (.ref a.c_NoText) "__init__" = some (some (.ref a.f_NoText_init))
  xt_NoText : PySem.W.typeIn K (.ref a.f_NoText_init) = some (.type "function")
  xf_NoText : XfC K a.c_NoText
  g_NoText : mg "NoText" = some (.ref a.c_NoText)
  n_NoText_at : PySem.W.findIn K (.ref a.c_NoText) "at" = some none
  x_NoHelper : OexC K a.c_NoHelper
  xi_NoHelper : PySem.W.findIn K (.ref a.c_NoHelper) "__init__" = some (some (.ref a.f_NoHelper_init))
  xt_NoHelper : PySem.W.typeIn K (.ref a.f_NoHelper_init) = some (.type "function")
  xf_NoHelper : XfC K a.c_NoHelper
  g_NoHelper : mg "NoHelper" = some (.ref a.c_NoHelper)
  n_NoHelper_name : PySem.W.findIn K (.ref a.c_NoHelper) "name" = some none
  x_NoHandle : OexC K a.c_NoHandle
  xi_NoHandle : PySem.W.findIn K (.ref a.c_NoHandle) "__init__" = some (some (.ref a.f_NoHandle_init))
  xt_NoHandle : PySem.W.typeIn K (.ref a.f_NoHandle_init) = some (.type "function")
  xf_NoHandle : XfC K a.c_NoHandle
  g_NoHandle : mg "NoHandle" = some (.ref a.c_NoHandle)
  n_NoHandle_handle : PySem.W.findIn K (.ref a.c_NoHandle) "handle" = some none
  x_Ended : OexC K a.c_Ended
  xi_Ended : PySem.W.findIn K (.ref a.c_Ended) "__init__" = some (some (.ref a.f_Ended_init))
  xt_Ended : PySem.W.typeIn K (.ref a.f_Ended_init) = some (.type "function")
  xf_Ended : XfC K a.c_Ended
  g_Ended : mg "Ended" = some (.ref a.c_Ended)
  n_Ended_handle : PySem.W.findIn K (.ref a.c_Ended) "handle" = some none
  x_NoRow : OexC K a.c_NoRow
  xi_NoRow : PySem.W.findIn K (.ref a.c_NoRow) "__init__" = some (some (.ref a.f_NoRow_init))
  xt_NoRow : PySem.W.typeIn K (.ref a.f_NoRow_init) = some (.type "function")
  xf_NoRow : XfC K a.c_NoRow
  g_NoRow : mg "NoRow" = some (.ref a.c_NoRow)
  n_NoRow_at : PySem.W.findIn K (.ref a.c_NoRow) "at" = some none
  x_NoSide : OexC K a.c_NoSide
  xi_NoSide : PySem.W.findIn K (.ref a.c_NoSide) "__init__" = some (some (.ref a.f_NoSide_init))
  xt_NoSide : PySem.W.typeIn K (.ref a.f_NoSide_init) = some (.type "function")
  xf_NoSide : XfC K a.c_NoSide
  g_NoSide : mg "NoSide" = some (.ref a.c_NoSide)
  n_NoSide_at : PySem.W.findIn K (.ref a.c_NoSide) "at" = some none
  x_NoThing : OexC K a.c_NoThing
  xi_NoThing : PySem.W.findIn K (.ref a.c_NoThing) "__init__" = some (some (.ref a.f_NoThing_init))
  xt_NoThing : PySem.W.typeIn K (.ref a.f_NoThing_init) = some (.type "function")
  xf_NoThing : XfC K a.c_NoThing
  g_NoThing : mg "NoThing" = some (.ref a.c_NoThing)
  n_NoThing_at : PySem.W.findIn K (.ref a.c_NoThing) "at" = some none
  x_NoLetter : OexC K a.c_NoLetter
  xi_NoLetter : PySem.W.findIn K (.ref a.c_NoLetter) "__init__" = some (some (.ref a.f_NoLetter_init))
  xt_NoLetter : PySem.W.typeIn K (.ref a.f_NoLetter_init) = some (.type "function")
  xf_NoLetter : XfC K a.c_NoLetter
  g_NoLetter : mg "NoLetter" = some (.ref a.c_NoLetter)
  n_NoLetter_letter : PySem.W.findIn K (.ref a.c_NoLetter) "letter" = some none
  x_NoBody : OexC K a.c_NoBody
  xi_NoBody : PySem.W.findIn K (.ref a.c_NoBody) "__init__" = some (some (.ref a.f_NoBody_init))
  xt_NoBody : PySem.W.typeIn K (.ref a.f_NoBody_init) = some (.type "function")
  xf_NoBody : XfC K a.c_NoBody
  g_NoBody : mg "NoBody" = some (.ref a.c_NoBody)
  n_NoBody_name : PySem.W.findIn K (.ref a.c_NoBody) "name" = some none
  n_NoBody_at : PySem.W.findIn K (.ref a.c_NoBody) "at" = some none
  x_Unlet : OexC K a.c_Unlet
  xi_Unlet : PySem.W.findIn K (.ref a.c_Unlet) "__init__" = some (some (.ref a.f_Unlet_init))
  xt_Unlet : PySem.W.typeIn K (.ref a.f_Unlet_init) = some (.type "function")
  xf_Unlet : XfC K a.c_Unlet
  g_Unlet : mg "Unlet" = some (.ref a.c_Unlet)
  n_Unlet_side : PySem.W.findIn K (.ref a.c_Unlet) "side" = some none
  n_Unlet_lines : PySem.W.findIn K (.ref a.c_Unlet) "lines" = some none
  md_PactError : MidC K a.c_PactError
  g_PactError : mg "PactError" = some (.ref a.c_PactError)
  g_Closed : mg "Closed" = some (.ref a.c_Closed)
  g_TooLong : mg "TooLong" = some (.ref a.c_TooLong)
  g_TooDeep : mg "TooDeep" = some (.ref a.c_TooDeep)
  g_NothingDone : mg "NothingDone" = some (.ref a.c_NothingDone)
  g_NoLines : mg "NoLines" = some (.ref a.c_NoLines)
  cf_NoWord : PySem.W.findIn K (.ref a.c_NoWord) "__class__" = some (some (.builtin "object.__class__")) ∧ PySem.W.mroIn K a.c_NoWord (.type "object") = some true
  kt_NoWord : PySem.W.kitOne K (.ref a.c_NoWord) (.ref a.c_NoWord) = some true ∧ PySem.W.kitOne K (.ref a.c_NoWord) (.ref a.c_NoPact) = some false ∧ PySem.W.kitOne K (.ref a.c_NoWord) (.ref a.c_NoText) = some false ∧ PySem.W.kitOne K (.ref a.c_NoWord) (.ref a.c_NoHelper) = some false ∧ PySem.W.kitOne K (.ref a.c_NoWord) (.ref a.c_NoHandle) = some false ∧ PySem.W.kitOne K (.ref a.c_NoWord) (.ref a.c_Ended) = some false ∧ PySem.W.kitOne K (.ref a.c_NoWord) (.ref a.c_NoRow) = some false ∧ PySem.W.kitOne K (.ref a.c_NoWord) (.ref a.c_NoSide) = some false ∧ PySem.W.kitOne K (.ref a.c_NoWord) (.ref a.c_NoThing) = some false ∧ PySem.W.kitOne K (.ref a.c_NoWord) (.ref a.c_NoLetter) = some false ∧ PySem.W.kitOne K (.ref a.c_NoWord) (.ref a.c_NoBody) = some false ∧ PySem.W.kitOne K (.ref a.c_NoWord) (.ref a.c_Unlet) = some false ∧ PySem.W.kitOne K (.ref a.c_NoWord) (.ref a.c_Closed) = some false ∧ PySem.W.kitOne K (.ref a.c_NoWord) (.ref a.c_TooLong) = some false ∧ PySem.W.kitOne K (.ref a.c_NoWord) (.ref a.c_TooDeep) = some false ∧ PySem.W.kitOne K (.ref a.c_NoWord) (.ref a.c_NothingDone) = some false ∧ PySem.W.kitOne K (.ref a.c_NoWord) (.ref a.c_NoLines) = some false ∧ PySem.W.kitOne K (.ref a.c_NoWord) (.ref a.c_PactError) = some true ∧ PySem.W.kitOne K (.ref a.c_NoWord) (.type "ValueError") = some true
  cf_NoPact : PySem.W.findIn K (.ref a.c_NoPact) "__class__" = some (some (.builtin "object.__class__")) ∧ PySem.W.mroIn K a.c_NoPact (.type "object") = some true
  kt_NoPact : PySem.W.kitOne K (.ref a.c_NoPact) (.ref a.c_NoWord) = some false ∧ PySem.W.kitOne K (.ref a.c_NoPact) (.ref a.c_NoPact) = some true ∧ PySem.W.kitOne K (.ref a.c_NoPact) (.ref a.c_NoText) = some false ∧ PySem.W.kitOne K (.ref a.c_NoPact) (.ref a.c_NoHelper) = some false ∧ PySem.W.kitOne K (.ref a.c_NoPact) (.ref a.c_NoHandle) = some false ∧ PySem.W.kitOne K (.ref a.c_NoPact) (.ref a.c_Ended) = some false ∧ PySem.W.kitOne K (.ref a.c_NoPact) (.ref a.c_NoRow) = some false ∧ PySem.W.kitOne K (.ref a.c_NoPact) (.ref a.c_NoSide) = some false ∧ PySem.W.kitOne K (.ref a.c_NoPact) (.ref a.c_NoThing) = some false ∧ PySem.W.kitOne K (.ref a.c_NoPact) (.ref a.c_NoLetter) = some false ∧ PySem.W.kitOne K (.ref a.c_NoPact) (.ref a.c_NoBody) = some false ∧ PySem.W.kitOne K (.ref a.c_NoPact) (.ref a.c_Unlet) = some false ∧ PySem.W.kitOne K (.ref a.c_NoPact) (.ref a.c_Closed) = some false ∧ PySem.W.kitOne K (.ref a.c_NoPact) (.ref a.c_TooLong) = some false ∧ PySem.W.kitOne K (.ref a.c_NoPact) (.ref a.c_TooDeep) = some false ∧ PySem.W.kitOne K (.ref a.c_NoPact) (.ref a.c_NothingDone) = some false ∧ PySem.W.kitOne K (.ref a.c_NoPact) (.ref a.c_NoLines) = some false ∧ PySem.W.kitOne K (.ref a.c_NoPact) (.ref a.c_PactError) = some true ∧ PySem.W.kitOne K (.ref a.c_NoPact) (.type "ValueError") = some true
  cf_NoText : PySem.W.findIn K (.ref a.c_NoText) "__class__" = some (some (.builtin "object.__class__")) ∧ PySem.W.mroIn K a.c_NoText (.type "object") = some true
  kt_NoText : PySem.W.kitOne K (.ref a.c_NoText) (.ref a.c_NoWord) = some false ∧ PySem.W.kitOne K (.ref a.c_NoText) (.ref a.c_NoPact) = some false ∧ PySem.W.kitOne K (.ref a.c_NoText) (.ref a.c_NoText) = some true ∧ PySem.W.kitOne K (.ref a.c_NoText) (.ref a.c_NoHelper) = some false ∧ PySem.W.kitOne K (.ref a.c_NoText) (.ref a.c_NoHandle) = some false ∧ PySem.W.kitOne K (.ref a.c_NoText) (.ref a.c_Ended) = some false ∧ PySem.W.kitOne K (.ref a.c_NoText) (.ref a.c_NoRow) = some false ∧ PySem.W.kitOne K (.ref a.c_NoText) (.ref a.c_NoSide) = some false ∧ PySem.W.kitOne K (.ref a.c_NoText) (.ref a.c_NoThing) = some false ∧ PySem.W.kitOne K (.ref a.c_NoText) (.ref a.c_NoLetter) = some false ∧ PySem.W.kitOne K (.ref a.c_NoText) (.ref a.c_NoBody) = some false ∧ PySem.W.kitOne K (.ref a.c_NoText) (.ref a.c_Unlet) = some false ∧ PySem.W.kitOne K (.ref a.c_NoText) (.ref a.c_Closed) = some false ∧ PySem.W.kitOne K (.ref a.c_NoText) (.ref a.c_TooLong) = some false ∧ PySem.W.kitOne K (.ref a.c_NoText) (.ref a.c_TooDeep) = some false ∧ PySem.W.kitOne K (.ref a.c_NoText) (.ref a.c_NothingDone) = some false ∧ PySem.W.kitOne K (.ref a.c_NoText) (.ref a.c_NoLines) = some false ∧ PySem.W.kitOne K (.ref a.c_NoText) (.ref a.c_PactError) = some true ∧ PySem.W.kitOne K (.ref a.c_NoText) (.type "ValueError") = some true
  cf_NoHelper : PySem.W.findIn K (.ref a.c_NoHelper) "__class__" = some (some (.builtin "object.__class__")) ∧ PySem.W.mroIn K a.c_NoHelper (.type "object") = some true
  kt_NoHelper : PySem.W.kitOne K (.ref a.c_NoHelper) (.ref a.c_NoWord) = some false ∧ PySem.W.kitOne K (.ref a.c_NoHelper) (.ref a.c_NoPact) = some false ∧ PySem.W.kitOne K (.ref a.c_NoHelper) (.ref a.c_NoText) = some false ∧ PySem.W.kitOne K (.ref a.c_NoHelper) (.ref a.c_NoHelper) = some true ∧ PySem.W.kitOne K (.ref a.c_NoHelper) (.ref a.c_NoHandle) = some false ∧ PySem.W.kitOne K (.ref a.c_NoHelper) (.ref a.c_Ended) = some false ∧ PySem.W.kitOne K (.ref a.c_NoHelper) (.ref a.c_NoRow) = some false ∧ PySem.W.kitOne K (.ref a.c_NoHelper) (.ref a.c_NoSide) = some false ∧ PySem.W.kitOne K (.ref a.c_NoHelper) (.ref a.c_NoThing) = some false ∧ PySem.W.kitOne K (.ref a.c_NoHelper) (.ref a.c_NoLetter) = some false ∧ PySem.W.kitOne K (.ref a.c_NoHelper) (.ref a.c_NoBody) = some false ∧ PySem.W.kitOne K (.ref a.c_NoHelper) (.ref a.c_Unlet) = some false ∧ PySem.W.kitOne K (.ref a.c_NoHelper) (.ref a.c_Closed) = some false ∧ PySem.W.kitOne K (.ref a.c_NoHelper) (.ref a.c_TooLong) = some false ∧ PySem.W.kitOne K (.ref a.c_NoHelper) (.ref a.c_TooDeep) = some false ∧ PySem.W.kitOne K (.ref a.c_NoHelper) (.ref a.c_NothingDone) = some false ∧ PySem.W.kitOne K (.ref a.c_NoHelper) (.ref a.c_NoLines) = some false ∧ PySem.W.kitOne K (.ref a.c_NoHelper) (.ref a.c_PactError) = some true ∧ PySem.W.kitOne K (.ref a.c_NoHelper) (.type "ValueError") = some true
  cf_NoHandle : PySem.W.findIn K (.ref a.c_NoHandle) "__class__" = some (some (.builtin "object.__class__")) ∧ PySem.W.mroIn K a.c_NoHandle (.type "object") = some true
  kt_NoHandle : PySem.W.kitOne K (.ref a.c_NoHandle) (.ref a.c_NoWord) = some false ∧ PySem.W.kitOne K (.ref a.c_NoHandle) (.ref a.c_NoPact) = some false ∧ PySem.W.kitOne K (.ref a.c_NoHandle) (.ref a.c_NoText) = some false ∧ PySem.W.kitOne K (.ref a.c_NoHandle) (.ref a.c_NoHelper) = some false ∧ PySem.W.kitOne K (.ref a.c_NoHandle) (.ref a.c_NoHandle) = some true ∧ PySem.W.kitOne K (.ref a.c_NoHandle) (.ref a.c_Ended) = some false ∧ PySem.W.kitOne K (.ref a.c_NoHandle) (.ref a.c_NoRow) = some false ∧ PySem.W.kitOne K (.ref a.c_NoHandle) (.ref a.c_NoSide) = some false ∧ PySem.W.kitOne K (.ref a.c_NoHandle) (.ref a.c_NoThing) = some false ∧ PySem.W.kitOne K (.ref a.c_NoHandle) (.ref a.c_NoLetter) = some false ∧ PySem.W.kitOne K (.ref a.c_NoHandle) (.ref a.c_NoBody) = some false ∧ PySem.W.kitOne K (.ref a.c_NoHandle) (.ref a.c_Unlet) = some false ∧ PySem.W.kitOne K (.ref a.c_NoHandle) (.ref a.c_Closed) = some false ∧ PySem.W.kitOne K (.ref a.c_NoHandle) (.ref a.c_TooLong) = some false ∧ PySem.W.kitOne K (.ref a.c_NoHandle) (.ref a.c_TooDeep) = some false ∧ PySem.W.kitOne K (.ref a.c_NoHandle) (.ref a.c_NothingDone) = some false ∧ PySem.W.kitOne K (.ref a.c_NoHandle) (.ref a.c_NoLines) = some false ∧ PySem.W.kitOne K (.ref a.c_NoHandle) (.ref a.c_PactError) = some true ∧ PySem.W.kitOne K (.ref a.c_NoHandle) (.type "ValueError") = some true
  cf_Ended : PySem.W.findIn K (.ref a.c_Ended) "__class__" = some (some (.builtin "object.__class__")) ∧ PySem.W.mroIn K a.c_Ended (.type "object") = some true
  kt_Ended : PySem.W.kitOne K (.ref a.c_Ended) (.ref a.c_NoWord) = some false ∧ PySem.W.kitOne K (.ref a.c_Ended) (.ref a.c_NoPact) = some false ∧ PySem.W.kitOne K (.ref a.c_Ended) (.ref a.c_NoText) = some false ∧ PySem.W.kitOne K (.ref a.c_Ended) (.ref a.c_NoHelper) = some false ∧ PySem.W.kitOne K (.ref a.c_Ended) (.ref a.c_NoHandle) = some false ∧ PySem.W.kitOne K (.ref a.c_Ended) (.ref a.c_Ended) = some true ∧ PySem.W.kitOne K (.ref a.c_Ended) (.ref a.c_NoRow) = some false ∧ PySem.W.kitOne K (.ref a.c_Ended) (.ref a.c_NoSide) = some false ∧ PySem.W.kitOne K (.ref a.c_Ended) (.ref a.c_NoThing) = some false ∧ PySem.W.kitOne K (.ref a.c_Ended) (.ref a.c_NoLetter) = some false ∧ PySem.W.kitOne K (.ref a.c_Ended) (.ref a.c_NoBody) = some false ∧ PySem.W.kitOne K (.ref a.c_Ended) (.ref a.c_Unlet) = some false ∧ PySem.W.kitOne K (.ref a.c_Ended) (.ref a.c_Closed) = some false ∧ PySem.W.kitOne K (.ref a.c_Ended) (.ref a.c_TooLong) = some false ∧ PySem.W.kitOne K (.ref a.c_Ended) (.ref a.c_TooDeep) = some false ∧ PySem.W.kitOne K (.ref a.c_Ended) (.ref a.c_NothingDone) = some false ∧ PySem.W.kitOne K (.ref a.c_Ended) (.ref a.c_NoLines) = some false ∧ PySem.W.kitOne K (.ref a.c_Ended) (.ref a.c_PactError) = some true ∧ PySem.W.kitOne K (.ref a.c_Ended) (.type "ValueError") = some true
  cf_NoRow : PySem.W.findIn K (.ref a.c_NoRow) "__class__" = some (some (.builtin "object.__class__")) ∧ PySem.W.mroIn K a.c_NoRow (.type "object") = some true
  kt_NoRow : PySem.W.kitOne K (.ref a.c_NoRow) (.ref a.c_NoWord) = some false ∧ PySem.W.kitOne K (.ref a.c_NoRow) (.ref a.c_NoPact) = some false ∧ PySem.W.kitOne K (.ref a.c_NoRow) (.ref a.c_NoText) = some false ∧ PySem.W.kitOne K (.ref a.c_NoRow) (.ref a.c_NoHelper) = some false ∧ PySem.W.kitOne K (.ref a.c_NoRow) (.ref a.c_NoHandle) = some false ∧ PySem.W.kitOne K (.ref a.c_NoRow) (.ref a.c_Ended) = some false ∧ PySem.W.kitOne K (.ref a.c_NoRow) (.ref a.c_NoRow) = some true ∧ PySem.W.kitOne K (.ref a.c_NoRow) (.ref a.c_NoSide) = some false ∧ PySem.W.kitOne K (.ref a.c_NoRow) (.ref a.c_NoThing) = some false ∧ PySem.W.kitOne K (.ref a.c_NoRow) (.ref a.c_NoLetter) = some false ∧ PySem.W.kitOne K (.ref a.c_NoRow) (.ref a.c_NoBody) = some false ∧ PySem.W.kitOne K (.ref a.c_NoRow) (.ref a.c_Unlet) = some false ∧ PySem.W.kitOne K (.ref a.c_NoRow) (.ref a.c_Closed) = some false ∧ PySem.W.kitOne K (.ref a.c_NoRow) (.ref a.c_TooLong) = some false ∧ PySem.W.kitOne K (.ref a.c_NoRow) (.ref a.c_TooDeep) = some false ∧ PySem.W.kitOne K (.ref a.c_NoRow) (.ref a.c_NothingDone) = some false ∧ PySem.W.kitOne K (.ref a.c_NoRow) (.ref a.c_NoLines) = some false ∧ PySem.W.kitOne K (.ref a.c_NoRow) (.ref a.c_PactError) = some true ∧ PySem.W.kitOne K (.ref a.c_NoRow) (.type "ValueError") = some true
  cf_NoSide : PySem.W.findIn K (.ref a.c_NoSide) "__class__" = some (some (.builtin "object.__class__")) ∧ PySem.W.mroIn K a.c_NoSide (.type "object") = some true
  kt_NoSide : PySem.W.kitOne K (.ref a.c_NoSide) (.ref a.c_NoWord) = some false ∧ PySem.W.kitOne K (.ref a.c_NoSide) (.ref a.c_NoPact) = some false ∧ PySem.W.kitOne K (.ref a.c_NoSide) (.ref a.c_NoText) = some false ∧ PySem.W.kitOne K (.ref a.c_NoSide) (.ref a.c_NoHelper) = some false ∧ PySem.W.kitOne K (.ref a.c_NoSide) (.ref a.c_NoHandle) = some false ∧ PySem.W.kitOne K (.ref a.c_NoSide) (.ref a.c_Ended) = some false ∧ PySem.W.kitOne K (.ref a.c_NoSide) (.ref a.c_NoRow) = some false ∧ PySem.W.kitOne K (.ref a.c_NoSide) (.ref a.c_NoSide) = some true ∧ PySem.W.kitOne K (.ref a.c_NoSide) (.ref a.c_NoThing) = some false ∧ PySem.W.kitOne K (.ref a.c_NoSide) (.ref a.c_NoLetter) = some false ∧ PySem.W.kitOne K (.ref a.c_NoSide) (.ref a.c_NoBody) = some false ∧ PySem.W.kitOne K (.ref a.c_NoSide) (.ref a.c_Unlet) = some false ∧ PySem.W.kitOne K (.ref a.c_NoSide) (.ref a.c_Closed) = some false ∧ PySem.W.kitOne K (.ref a.c_NoSide) (.ref a.c_TooLong) = some false ∧ PySem.W.kitOne K (.ref a.c_NoSide) (.ref a.c_TooDeep) = some false ∧ PySem.W.kitOne K (.ref a.c_NoSide) (.ref a.c_NothingDone) = some false ∧ PySem.W.kitOne K (.ref a.c_NoSide) (.ref a.c_NoLines) = some false ∧ PySem.W.kitOne K (.ref a.c_NoSide) (.ref a.c_PactError) = some true ∧ PySem.W.kitOne K (.ref a.c_NoSide) (.type "ValueError") = some true
  cf_NoThing : PySem.W.findIn K (.ref a.c_NoThing) "__class__" = some (some (.builtin "object.__class__")) ∧ PySem.W.mroIn K a.c_NoThing (.type "object") = some true
  kt_NoThing : PySem.W.kitOne K (.ref a.c_NoThing) (.ref a.c_NoWord) = some false ∧ PySem.W.kitOne K (.ref a.c_NoThing) (.ref a.c_NoPact) = some false ∧ PySem.W.kitOne K (.ref a.c_NoThing) (.ref a.c_NoText) = some false ∧ PySem.W.kitOne K (.ref a.c_NoThing) (.ref a.c_NoHelper) = some false ∧ PySem.W.kitOne K (.ref a.c_NoThing) (.ref a.c_NoHandle) = some false ∧ PySem.W.kitOne K (.ref a.c_NoThing) (.ref a.c_Ended) = some false ∧ PySem.W.kitOne K (.ref a.c_NoThing) (.ref a.c_NoRow) = some false ∧ PySem.W.kitOne K (.ref a.c_NoThing) (.ref a.c_NoSide) = some false ∧ PySem.W.kitOne K (.ref a.c_NoThing) (.ref a.c_NoThing) = some true ∧ PySem.W.kitOne K (.ref a.c_NoThing) (.ref a.c_NoLetter) = some false ∧ PySem.W.kitOne K (.ref a.c_NoThing) (.ref a.c_NoBody) = some false ∧ PySem.W.kitOne K (.ref a.c_NoThing) (.ref a.c_Unlet) = some false ∧ PySem.W.kitOne K (.ref a.c_NoThing) (.ref a.c_Closed) = some false ∧ PySem.W.kitOne K (.ref a.c_NoThing) (.ref a.c_TooLong) = some false ∧ PySem.W.kitOne K (.ref a.c_NoThing) (.ref a.c_TooDeep) = some false ∧ PySem.W.kitOne K (.ref a.c_NoThing) (.ref a.c_NothingDone) = some false ∧ PySem.W.kitOne K (.ref a.c_NoThing) (.ref a.c_NoLines) = some false ∧ PySem.W.kitOne K (.ref a.c_NoThing) (.ref a.c_PactError) = some true ∧ PySem.W.kitOne K (.ref a.c_NoThing) (.type "ValueError") = some true
  cf_NoLetter : PySem.W.findIn K (.ref a.c_NoLetter) "__class__" = some (some (.builtin "object.__class__")) ∧ PySem.W.mroIn K a.c_NoLetter (.type "object") = some true
  kt_NoLetter : PySem.W.kitOne K (.ref a.c_NoLetter) (.ref a.c_NoWord) = some false ∧ PySem.W.kitOne K (.ref a.c_NoLetter) (.ref a.c_NoPact) = some false ∧ PySem.W.kitOne K (.ref a.c_NoLetter) (.ref a.c_NoText) = some false ∧ PySem.W.kitOne K (.ref a.c_NoLetter) (.ref a.c_NoHelper) = some false ∧ PySem.W.kitOne K (.ref a.c_NoLetter) (.ref a.c_NoHandle) = some false ∧ PySem.W.kitOne K (.ref a.c_NoLetter) (.ref a.c_Ended) = some false ∧ PySem.W.kitOne K (.ref a.c_NoLetter) (.ref a.c_NoRow) = some false ∧ PySem.W.kitOne K (.ref a.c_NoLetter) (.ref a.c_NoSide) = some false ∧ PySem.W.kitOne K (.ref a.c_NoLetter) (.ref a.c_NoThing) = some false ∧ PySem.W.kitOne K (.ref a.c_NoLetter) (.ref a.c_NoLetter) = some true ∧ PySem.W.kitOne K (.ref a.c_NoLetter) (.ref a.c_NoBody) = some false ∧ PySem.W.kitOne K (.ref a.c_NoLetter) (.ref a.c_Unlet) = some false ∧ PySem.W.kitOne K (.ref a.c_NoLetter) (.ref a.c_Closed) = some false ∧ PySem.W.kitOne K (.ref a.c_NoLetter) (.ref a.c_TooLong) = some false ∧ PySem.W.kitOne K (.ref a.c_NoLetter) (.ref a.c_TooDeep) = some false ∧ PySem.W.kitOne K (.ref a.c_NoLetter) (.ref a.c_NothingDone) = some false ∧ PySem.W.kitOne K (.ref a.c_NoLetter) (.ref a.c_NoLines) = some false ∧ PySem.W.kitOne K (.ref a.c_NoLetter) (.ref a.c_PactError) = some true ∧ PySem.W.kitOne K (.ref a.c_NoLetter) (.type "ValueError") = some true
  cf_NoBody : PySem.W.findIn K (.ref a.c_NoBody) "__class__" = some (some (.builtin "object.__class__")) ∧ PySem.W.mroIn K a.c_NoBody (.type "object") = some true
  kt_NoBody : PySem.W.kitOne K (.ref a.c_NoBody) (.ref a.c_NoWord) = some false ∧ PySem.W.kitOne K (.ref a.c_NoBody) (.ref a.c_NoPact) = some false ∧ PySem.W.kitOne K (.ref a.c_NoBody) (.ref a.c_NoText) = some false ∧ PySem.W.kitOne K (.ref a.c_NoBody) (.ref a.c_NoHelper) = some false ∧ PySem.W.kitOne K (.ref a.c_NoBody) (.ref a.c_NoHandle) = some false ∧ PySem.W.kitOne K (.ref a.c_NoBody) (.ref a.c_Ended) = some false ∧ PySem.W.kitOne K (.ref a.c_NoBody) (.ref a.c_NoRow) = some false ∧ PySem.W.kitOne K (.ref a.c_NoBody) (.ref a.c_NoSide) = some false ∧ PySem.W.kitOne K (.ref a.c_NoBody) (.ref a.c_NoThing) = some false ∧ PySem.W.kitOne K (.ref a.c_NoBody) (.ref a.c_NoLetter) = some false ∧ PySem.W.kitOne K (.ref a.c_NoBody) (.ref a.c_NoBody) = some true ∧ PySem.W.kitOne K (.ref a.c_NoBody) (.ref a.c_Unlet) = some false ∧ PySem.W.kitOne K (.ref a.c_NoBody) (.ref a.c_Closed) = some false ∧ PySem.W.kitOne K (.ref a.c_NoBody) (.ref a.c_TooLong) = some false ∧ PySem.W.kitOne K (.ref a.c_NoBody) (.ref a.c_TooDeep) = some false ∧ PySem.W.kitOne K (.ref a.c_NoBody) (.ref a.c_NothingDone) = some false ∧ PySem.W.kitOne K (.ref a.c_NoBody) (.ref a.c_NoLines) = some false ∧ PySem.W.kitOne K (.ref a.c_NoBody) (.ref a.c_PactError) = some true ∧ PySem.W.kitOne K (.ref a.c_NoBody) (.type "ValueError") = some true
  cf_Unlet : PySem.W.findIn K (.ref a.c_Unlet) "__class__" = some (some (.builtin "object.__class__")) ∧ PySem.W.mroIn K a.c_Unlet (.type "object") = some true
  kt_Unlet : PySem.W.kitOne K (.ref a.c_Unlet) (.ref a.c_NoWord) = some false ∧ PySem.W.kitOne K (.ref a.c_Unlet) (.ref a.c_NoPact) = some false ∧ PySem.W.kitOne K (.ref a.c_Unlet) (.ref a.c_NoText) = some false ∧ PySem.W.kitOne K (.ref a.c_Unlet) (.ref a.c_NoHelper) = some false ∧ PySem.W.kitOne K (.ref a.c_Unlet) (.ref a.c_NoHandle) = some false ∧ PySem.W.kitOne K (.ref a.c_Unlet) (.ref a.c_Ended) = some false ∧ PySem.W.kitOne K (.ref a.c_Unlet) (.ref a.c_NoRow) = some false ∧ PySem.W.kitOne K (.ref a.c_Unlet) (.ref a.c_NoSide) = some false ∧ PySem.W.kitOne K (.ref a.c_Unlet) (.ref a.c_NoThing) = some false ∧ PySem.W.kitOne K (.ref a.c_Unlet) (.ref a.c_NoLetter) = some false ∧ PySem.W.kitOne K (.ref a.c_Unlet) (.ref a.c_NoBody) = some false ∧ PySem.W.kitOne K (.ref a.c_Unlet) (.ref a.c_Unlet) = some true ∧ PySem.W.kitOne K (.ref a.c_Unlet) (.ref a.c_Closed) = some false ∧ PySem.W.kitOne K (.ref a.c_Unlet) (.ref a.c_TooLong) = some false ∧ PySem.W.kitOne K (.ref a.c_Unlet) (.ref a.c_TooDeep) = some false ∧ PySem.W.kitOne K (.ref a.c_Unlet) (.ref a.c_NothingDone) = some false ∧ PySem.W.kitOne K (.ref a.c_Unlet) (.ref a.c_NoLines) = some false ∧ PySem.W.kitOne K (.ref a.c_Unlet) (.ref a.c_PactError) = some true ∧ PySem.W.kitOne K (.ref a.c_Unlet) (.type "ValueError") = some true
  ke_Closed : PySem.W.keepIn K (.ref a.c_Closed) = true
  ex_Closed : PySem.W.excIn K a.c_Closed [.type "ValueError", .type "Exception", .type "BaseException", .type "object"] "ValueError.__new__" = true
  cf_Closed : PySem.W.findIn K (.ref a.c_Closed) "__class__" = some (some (.builtin "object.__class__")) ∧ PySem.W.mroIn K a.c_Closed (.type "object") = some true ∧ PySem.W.findIn K (.ref a.c_Closed) "__getattribute__" = some (some (.builtin "BaseException.__getattribute__")) ∧ PySem.W.findIn K (.ref a.c_Closed) "__getattr__" = some none ∧ PySem.W.subIn K (.ref a.c_Closed) (.type "BaseException") = some true ∧ PySem.W.hasDictIn K a.c_Closed = true
  kt_Closed : PySem.W.kitOne K (.ref a.c_Closed) (.ref a.c_NoWord) = some false ∧ PySem.W.kitOne K (.ref a.c_Closed) (.ref a.c_NoPact) = some false ∧ PySem.W.kitOne K (.ref a.c_Closed) (.ref a.c_NoText) = some false ∧ PySem.W.kitOne K (.ref a.c_Closed) (.ref a.c_NoHelper) = some false ∧ PySem.W.kitOne K (.ref a.c_Closed) (.ref a.c_NoHandle) = some false ∧ PySem.W.kitOne K (.ref a.c_Closed) (.ref a.c_Ended) = some false ∧ PySem.W.kitOne K (.ref a.c_Closed) (.ref a.c_NoRow) = some false ∧ PySem.W.kitOne K (.ref a.c_Closed) (.ref a.c_NoSide) = some false ∧ PySem.W.kitOne K (.ref a.c_Closed) (.ref a.c_NoThing) = some false ∧ PySem.W.kitOne K (.ref a.c_Closed) (.ref a.c_NoLetter) = some false ∧ PySem.W.kitOne K (.ref a.c_Closed) (.ref a.c_NoBody) = some false ∧ PySem.W.kitOne K (.ref a.c_Closed) (.ref a.c_Unlet) = some false ∧ PySem.W.kitOne K (.ref a.c_Closed) (.ref a.c_Closed) = some true ∧ PySem.W.kitOne K (.ref a.c_Closed) (.ref a.c_TooLong) = some false ∧ PySem.W.kitOne K (.ref a.c_Closed) (.ref a.c_TooDeep) = some false ∧ PySem.W.kitOne K (.ref a.c_Closed) (.ref a.c_NothingDone) = some false ∧ PySem.W.kitOne K (.ref a.c_Closed) (.ref a.c_NoLines) = some false ∧ PySem.W.kitOne K (.ref a.c_Closed) (.ref a.c_PactError) = some true ∧ PySem.W.kitOne K (.ref a.c_Closed) (.type "ValueError") = some true
  ke_TooLong : PySem.W.keepIn K (.ref a.c_TooLong) = true
  ex_TooLong : PySem.W.excIn K a.c_TooLong [.type "ValueError", .type "Exception", .type "BaseException", .type "object"] "ValueError.__new__" = true
  cf_TooLong : PySem.W.findIn K (.ref a.c_TooLong) "__class__" = some (some (.builtin "object.__class__")) ∧ PySem.W.mroIn K a.c_TooLong (.type "object") = some true ∧ PySem.W.findIn K (.ref a.c_TooLong) "__getattribute__" = some (some (.builtin "BaseException.__getattribute__")) ∧ PySem.W.findIn K (.ref a.c_TooLong) "__getattr__" = some none ∧ PySem.W.subIn K (.ref a.c_TooLong) (.type "BaseException") = some true ∧ PySem.W.hasDictIn K a.c_TooLong = true
  kt_TooLong : PySem.W.kitOne K (.ref a.c_TooLong) (.ref a.c_NoWord) = some false ∧ PySem.W.kitOne K (.ref a.c_TooLong) (.ref a.c_NoPact) = some false ∧ PySem.W.kitOne K (.ref a.c_TooLong) (.ref a.c_NoText) = some false ∧ PySem.W.kitOne K (.ref a.c_TooLong) (.ref a.c_NoHelper) = some false ∧ PySem.W.kitOne K (.ref a.c_TooLong) (.ref a.c_NoHandle) = some false ∧ PySem.W.kitOne K (.ref a.c_TooLong) (.ref a.c_Ended) = some false ∧ PySem.W.kitOne K (.ref a.c_TooLong) (.ref a.c_NoRow) = some false ∧ PySem.W.kitOne K (.ref a.c_TooLong) (.ref a.c_NoSide) = some false ∧ PySem.W.kitOne K (.ref a.c_TooLong) (.ref a.c_NoThing) = some false ∧ PySem.W.kitOne K (.ref a.c_TooLong) (.ref a.c_NoLetter) = some false ∧ PySem.W.kitOne K (.ref a.c_TooLong) (.ref a.c_NoBody) = some false ∧ PySem.W.kitOne K (.ref a.c_TooLong) (.ref a.c_Unlet) = some false ∧ PySem.W.kitOne K (.ref a.c_TooLong) (.ref a.c_Closed) = some false ∧ PySem.W.kitOne K (.ref a.c_TooLong) (.ref a.c_TooLong) = some true ∧ PySem.W.kitOne K (.ref a.c_TooLong) (.ref a.c_TooDeep) = some false ∧ PySem.W.kitOne K (.ref a.c_TooLong) (.ref a.c_NothingDone) = some false ∧ PySem.W.kitOne K (.ref a.c_TooLong) (.ref a.c_NoLines) = some false ∧ PySem.W.kitOne K (.ref a.c_TooLong) (.ref a.c_PactError) = some true ∧ PySem.W.kitOne K (.ref a.c_TooLong) (.type "ValueError") = some true
  ke_TooDeep : PySem.W.keepIn K (.ref a.c_TooDeep) = true
  ex_TooDeep : PySem.W.excIn K a.c_TooDeep [.type "ValueError", .type "Exception", .type "BaseException", .type "object"] "ValueError.__new__" = true
  cf_TooDeep : PySem.W.findIn K (.ref a.c_TooDeep) "__class__" = some (some (.builtin "object.__class__")) ∧ PySem.W.mroIn K a.c_TooDeep (.type "object") = some true ∧ PySem.W.findIn K (.ref a.c_TooDeep) "__getattribute__" = some (some (.builtin "BaseException.__getattribute__")) ∧ PySem.W.findIn K (.ref a.c_TooDeep) "__getattr__" = some none ∧ PySem.W.subIn K (.ref a.c_TooDeep) (.type "BaseException") = some true ∧ PySem.W.hasDictIn K a.c_TooDeep = true
  kt_TooDeep : PySem.W.kitOne K (.ref a.c_TooDeep) (.ref a.c_NoWord) = some false ∧ PySem.W.kitOne K (.ref a.c_TooDeep) (.ref a.c_NoPact) = some false ∧ PySem.W.kitOne K (.ref a.c_TooDeep) (.ref a.c_NoText) = some false ∧ PySem.W.kitOne K (.ref a.c_TooDeep) (.ref a.c_NoHelper) = some false ∧ PySem.W.kitOne K (.ref a.c_TooDeep) (.ref a.c_NoHandle) = some false ∧ PySem.W.kitOne K (.ref a.c_TooDeep) (.ref a.c_Ended) = some false ∧ PySem.W.kitOne K (.ref a.c_TooDeep) (.ref a.c_NoRow) = some false ∧ PySem.W.kitOne K (.ref a.c_TooDeep) (.ref a.c_NoSide) = some false ∧ PySem.W.kitOne K (.ref a.c_TooDeep) (.ref a.c_NoThing) = some false ∧ PySem.W.kitOne K (.ref a.c_TooDeep) (.ref a.c_NoLetter) = some false ∧ PySem.W.kitOne K (.ref a.c_TooDeep) (.ref a.c_NoBody) = some false ∧ PySem.W.kitOne K (.ref a.c_TooDeep) (.ref a.c_Unlet) = some false ∧ PySem.W.kitOne K (.ref a.c_TooDeep) (.ref a.c_Closed) = some false ∧ PySem.W.kitOne K (.ref a.c_TooDeep) (.ref a.c_TooLong) = some false ∧ PySem.W.kitOne K (.ref a.c_TooDeep) (.ref a.c_TooDeep) = some true ∧ PySem.W.kitOne K (.ref a.c_TooDeep) (.ref a.c_NothingDone) = some false ∧ PySem.W.kitOne K (.ref a.c_TooDeep) (.ref a.c_NoLines) = some false ∧ PySem.W.kitOne K (.ref a.c_TooDeep) (.ref a.c_PactError) = some true ∧ PySem.W.kitOne K (.ref a.c_TooDeep) (.type "ValueError") = some true
  ke_NothingDone : PySem.W.keepIn K (.ref a.c_NothingDone) = true
  ex_NothingDone : PySem.W.excIn K a.c_NothingDone [.type "ValueError", .type "Exception", .type "BaseException", .type "object"] "ValueError.__new__" = true
  cf_NothingDone : PySem.W.findIn K (.ref a.c_NothingDone) "__class__" = some (some (.builtin "object.__class__")) ∧ PySem.W.mroIn K a.c_NothingDone (.type "object") = some true ∧ PySem.W.findIn K (.ref a.c_NothingDone) "__getattribute__" = some (some (.builtin "BaseException.__getattribute__")) ∧ PySem.W.findIn K (.ref a.c_NothingDone) "__getattr__" = some none ∧ PySem.W.subIn K (.ref a.c_NothingDone) (.type "BaseException") = some true ∧ PySem.W.hasDictIn K a.c_NothingDone = true
  kt_NothingDone : PySem.W.kitOne K (.ref a.c_NothingDone) (.ref a.c_NoWord) = some false ∧ PySem.W.kitOne K (.ref a.c_NothingDone) (.ref a.c_NoPact) = some false ∧ PySem.W.kitOne K (.ref a.c_NothingDone) (.ref a.c_NoText) = some false ∧ PySem.W.kitOne K (.ref a.c_NothingDone) (.ref a.c_NoHelper) = some false ∧ PySem.W.kitOne K (.ref a.c_NothingDone) (.ref a.c_NoHandle) = some false ∧ PySem.W.kitOne K (.ref a.c_NothingDone) (.ref a.c_Ended) = some false ∧ PySem.W.kitOne K (.ref a.c_NothingDone) (.ref a.c_NoRow) = some false ∧ PySem.W.kitOne K (.ref a.c_NothingDone) (.ref a.c_NoSide) = some false ∧ PySem.W.kitOne K (.ref a.c_NothingDone) (.ref a.c_NoThing) = some false ∧ PySem.W.kitOne K (.ref a.c_NothingDone) (.ref a.c_NoLetter) = some false ∧ PySem.W.kitOne K (.ref a.c_NothingDone) (.ref a.c_NoBody) = some false ∧ PySem.W.kitOne K (.ref a.c_NothingDone) (.ref a.c_Unlet) = some false ∧ PySem.W.kitOne K (.ref a.c_NothingDone) (.ref a.c_Closed) = some false ∧ PySem.W.kitOne K (.ref a.c_NothingDone) (.ref a.c_TooLong) = some false ∧ PySem.W.kitOne K (.ref a.c_NothingDone) (.ref a.c_TooDeep) = some false ∧ PySem.W.kitOne K (.ref a.c_NothingDone) (.ref a.c_NothingDone) = some true ∧ PySem.W.kitOne K (.ref a.c_NothingDone) (.ref a.c_NoLines) = some false ∧ PySem.W.kitOne K (.ref a.c_NothingDone) (.ref a.c_PactError) = some true ∧ PySem.W.kitOne K (.ref a.c_NothingDone) (.type "ValueError") = some true
  ke_NoLines : PySem.W.keepIn K (.ref a.c_NoLines) = true
  ex_NoLines : PySem.W.excIn K a.c_NoLines [.type "ValueError", .type "Exception", .type "BaseException", .type "object"] "ValueError.__new__" = true
  cf_NoLines : PySem.W.findIn K (.ref a.c_NoLines) "__class__" = some (some (.builtin "object.__class__")) ∧ PySem.W.mroIn K a.c_NoLines (.type "object") = some true ∧ PySem.W.findIn K (.ref a.c_NoLines) "__getattribute__" = some (some (.builtin "BaseException.__getattribute__")) ∧ PySem.W.findIn K (.ref a.c_NoLines) "__getattr__" = some none ∧ PySem.W.subIn K (.ref a.c_NoLines) (.type "BaseException") = some true ∧ PySem.W.hasDictIn K a.c_NoLines = true
  kt_NoLines : PySem.W.kitOne K (.ref a.c_NoLines) (.ref a.c_NoWord) = some false ∧ PySem.W.kitOne K (.ref a.c_NoLines) (.ref a.c_NoPact) = some false ∧ PySem.W.kitOne K (.ref a.c_NoLines) (.ref a.c_NoText) = some false ∧ PySem.W.kitOne K (.ref a.c_NoLines) (.ref a.c_NoHelper) = some false ∧ PySem.W.kitOne K (.ref a.c_NoLines) (.ref a.c_NoHandle) = some false ∧ PySem.W.kitOne K (.ref a.c_NoLines) (.ref a.c_Ended) = some false ∧ PySem.W.kitOne K (.ref a.c_NoLines) (.ref a.c_NoRow) = some false ∧ PySem.W.kitOne K (.ref a.c_NoLines) (.ref a.c_NoSide) = some false ∧ PySem.W.kitOne K (.ref a.c_NoLines) (.ref a.c_NoThing) = some false ∧ PySem.W.kitOne K (.ref a.c_NoLines) (.ref a.c_NoLetter) = some false ∧ PySem.W.kitOne K (.ref a.c_NoLines) (.ref a.c_NoBody) = some false ∧ PySem.W.kitOne K (.ref a.c_NoLines) (.ref a.c_Unlet) = some false ∧ PySem.W.kitOne K (.ref a.c_NoLines) (.ref a.c_Closed) = some false ∧ PySem.W.kitOne K (.ref a.c_NoLines) (.ref a.c_TooLong) = some false ∧ PySem.W.kitOne K (.ref a.c_NoLines) (.ref a.c_TooDeep) = some false ∧ PySem.W.kitOne K (.ref a.c_NoLines) (.ref a.c_NothingDone) = some false ∧ PySem.W.kitOne K (.ref a.c_NoLines) (.ref a.c_NoLines) = some true ∧ PySem.W.kitOne K (.ref a.c_NoLines) (.ref a.c_PactError) = some true ∧ PySem.W.kitOne K (.ref a.c_NoLines) (.type "ValueError") = some true
  fg : PySem.W.specialIn K (.builtin "object.__class__") "__get__" = some (some (.builtin "getset_descriptor.__get__"))
  ft : PySem.W.takesIn K (.builtin "object.__class__") = some true
  F_p_copied : Fun K "_copied" "_copied" s_p_copied a.f_p_copied a.d_p_copied
  B_p_copied : Binds K a.d_p_copied ["thing"] []
  g_p_copied : mg "_copied" = some (.ref a.f_p_copied)
  k_p_copied : PySem.W.keepIn K (.ref a.f_p_copied) = true
  F_NoWord_init : Fun K "__init__" "NoWord.__init__" s_NoWord_init a.f_NoWord_init a.d_NoWord_init
  B_NoWord_init : Binds K a.d_NoWord_init ["self", "word"] []
  F_NoPact_init : Fun K "__init__" "NoPact.__init__" s_NoPact_init a.f_NoPact_init a.d_NoPact_init
  B_NoPact_init : Binds K a.d_NoPact_init ["self", "at"] []
  F_NoText_init : Fun K "__init__" "NoText.__init__" s_NoText_init a.f_NoText_init a.d_NoText_init
  B_NoText_init : Binds K a.d_NoText_init ["self", "at"] []
  F_NoHelper_init : Fun K "__init__" "NoHelper.__init__" s_NoHelper_init a.f_NoHelper_init a.d_NoHelper_init
  B_NoHelper_init : Binds K a.d_NoHelper_init ["self", "name"] []
  F_NoHandle_init : Fun K "__init__" "NoHandle.__init__" s_NoHandle_init a.f_NoHandle_init a.d_NoHandle_init
  B_NoHandle_init : Binds K a.d_NoHandle_init ["self", "handle"] []
  F_Ended_init : Fun K "__init__" "Ended.__init__" s_Ended_init a.f_Ended_init a.d_Ended_init
  B_Ended_init : Binds K a.d_Ended_init ["self", "handle"] []
  F_NoRow_init : Fun K "__init__" "NoRow.__init__" s_NoRow_init a.f_NoRow_init a.d_NoRow_init
  B_NoRow_init : Binds K a.d_NoRow_init ["self", "at"] []
  F_NoSide_init : Fun K "__init__" "NoSide.__init__" s_NoSide_init a.f_NoSide_init a.d_NoSide_init
  B_NoSide_init : Binds K a.d_NoSide_init ["self", "at"] []
  F_NoThing_init : Fun K "__init__" "NoThing.__init__" s_NoThing_init a.f_NoThing_init a.d_NoThing_init
  B_NoThing_init : Binds K a.d_NoThing_init ["self", "at"] []
  F_NoLetter_init : Fun K "__init__" "NoLetter.__init__" s_NoLetter_init a.f_NoLetter_init a.d_NoLetter_init
  B_NoLetter_init : Binds K a.d_NoLetter_init ["self", "letter"] []
  F_NoBody_init : Fun K "__init__" "NoBody.__init__" s_NoBody_init a.f_NoBody_init a.d_NoBody_init
  B_NoBody_init : Binds K a.d_NoBody_init ["self", "name", "at"] []
  F_Unlet_init : Fun K "__init__" "Unlet.__init__" s_Unlet_init a.f_Unlet_init a.d_Unlet_init
  B_Unlet_init : Binds K a.d_Unlet_init ["self", "side", "lines"] []
  F_box : Fun K "_law_box" "_law_box" s_box a.f_box a.d_box
  B_box : Binds K a.d_box ["_law_script"] []
  g_box : mg "_law_box" = some (.ref a.f_box)
  k_box : PySem.W.keepIn K (.ref a.f_box) = true
  F_mixed : Fun K "_law_mixed" "_law_mixed" s_mixed a.f_mixed a.d_mixed
  B_mixed : Binds K a.d_mixed ["_law_cell", "_law_k"] []
  g_mixed : mg "_law_mixed" = some (.ref a.f_mixed)
  k_mixed : PySem.W.keepIn K (.ref a.f_mixed) = true
  F_take : Fun K "_law_take" "_law_take" s_take a.f_take a.d_take
  B_take : Binds K a.d_take ["_law_box_here", "_law_size"] []
  g_take : mg "_law_take" = some (.ref a.f_take)
  k_take : PySem.W.keepIn K (.ref a.f_take) = true
  F_of_a_text : Fun K "_law_of_a_text" "_law_of_a_text" s_of_a_text a.f_of_a_text a.d_of_a_text
  B_of_a_text : Binds K a.d_of_a_text ["_law_kind", "_law_one"] []
  g_of_a_text : mg "_law_of_a_text" = some (.ref a.f_of_a_text)
  k_of_a_text : PySem.W.keepIn K (.ref a.f_of_a_text) = true
  F_made : Fun K "_law_made" "_law_made" s_made a.f_made a.d_made
  B_made : Binds K a.d_made ["_law_kind", "_law_one", "_law_two"] []
  g_made : mg "_law_made" = some (.ref a.f_made)
  k_made : PySem.W.keepIn K (.ref a.f_made) = true
  F_named : Fun K "_law_named" "_law_named" s_named a.f_named a.d_named
  B_named : Binds K a.d_named ["_law_kind", "_law_one", "_law_two"] []
  g_named : mg "_law_named" = some (.ref a.f_named)
  k_named : PySem.W.keepIn K (.ref a.f_named) = true
  F_borne : Fun K "_law_borne" "_law_borne" s_borne a.f_borne a.d_borne
  B_borne : Binds K a.d_borne ["_law_kind", "_law_made_here"] []
  g_borne : mg "_law_borne" = some (.ref a.f_borne)
  k_borne : PySem.W.keepIn K (.ref a.f_borne) = true
  F_sorts : Fun K "_law_sorts" "_law_sorts" s_sorts a.f_sorts a.d_sorts
  B_sorts : Binds K a.d_sorts ["_law_e"] []
  g_sorts : mg "_law_sorts" = some (.ref a.f_sorts)
  k_sorts : PySem.W.keepIn K (.ref a.f_sorts) = true
  F_value : Fun K "_law_value" "_law_value" s_value a.f_value a.d_value
  B_value : Binds K a.d_value ["_law_box_here", "_law_kind"] []
  g_value : mg "_law_value" = some (.ref a.f_value)
  k_value : PySem.W.keepIn K (.ref a.f_value) = true
  F_law : Fun K "law" "law" s_law a.f_law a.d_law
  B_law : Binds K a.d_law ["_law_script"] []
  g_law : mg "law" = some (.ref a.f_law)
  k_law : PySem.W.keepIn K (.ref a.f_law) = true
  KN_NoWord_init_1 : KwN K a.d_NoWord_init ["self", "word"] 1 ["word"]
  KN_NoPact_init_1 : KwN K a.d_NoPact_init ["self", "at"] 1 ["at"]
  KN_NoText_init_1 : KwN K a.d_NoText_init ["self", "at"] 1 ["at"]
  KN_NoHelper_init_1 : KwN K a.d_NoHelper_init ["self", "name"] 1 ["name"]
  KN_NoHandle_init_1 : KwN K a.d_NoHandle_init ["self", "handle"] 1 ["handle"]
  KN_Ended_init_1 : KwN K a.d_Ended_init ["self", "handle"] 1 ["handle"]
  KN_NoRow_init_1 : KwN K a.d_NoRow_init ["self", "at"] 1 ["at"]
  KN_NoSide_init_1 : KwN K a.d_NoSide_init ["self", "at"] 1 ["at"]
  KN_NoThing_init_1 : KwN K a.d_NoThing_init ["self", "at"] 1 ["at"]
  KN_NoLetter_init_1 : KwN K a.d_NoLetter_init ["self", "letter"] 1 ["letter"]
  KR_NoBody_init : KBn K a.d_NoBody_init ["self", "name", "at"] 1 ["at", "name"] (fun us ws => us ++ ws.reverse) (fun vs zs => vs ++ zs.reverse)
  KR_Unlet_init : KBn K a.d_Unlet_init ["self", "side", "lines"] 1 ["lines", "side"] (fun us ws => us ++ ws.reverse) (fun vs zs => vs ++ zs.reverse)
  z_ValueError : mg "ValueError" = none
  z_isinstance : mg "isinstance" = none
  z_list : mg "list" = none
  z_tuple : mg "tuple" = none
  z_len : mg "len" = none
  z_range : mg "range" = none
section
variable {P : Program} {w : World} {K : PySem.W.Frag} {mg : Str → Option Value} {base : Heap} {a : Ad}
/-! ### _law_mixed -/
def sp_mixed : Sp := fun vs H Q _ => ∃ (c k : Int), vs = [.int c, .int k] ∧ 0 ≤ k ∧ k < 100000000 ∧ ∀ r : Int, 0 ≤ r → r < 1000000007 → Q (.int r) H
theorem mixed_bound {c k : Int} (h0 : 0 ≤ k) (h1 : k < 100000000) : (c % 2147483647 + 1009 * k * k + 48611 * k + 17).natAbs < 2 ^ 64 := by
  have a0 := Int.emod_nonneg c (by decide : (2147483647 : Int) ≠ 0)
  have a1 := Int.emod_lt_of_pos c (by decide : (0 : Int) < 2147483647)
  have b0 : 0 ≤ 1009 * k * k := Int.mul_nonneg (by omega) h0
  have b1 : 1009 * k * k ≤ 1009 * 100000000 * 100000000 := Int.mul_le_mul (by omega) (by omega) h0 (by omega)
  have e : (2 : Nat) ^ 64 = 18446744073709551616 := by decide
  rw [e]
  omega
theorem ok_mixed (T : Txt K mg a) : FnOk P w K mg base CX0 1 a.f_mixed a.d_mixed ["_law_cell", "_law_k"] sp_mixed := by
  refine T.F_mixed.ok sc_mixed (fun vs H Q E h => ?_) (fun cdv A outer s H vs Q E hr h => ?_)
  · obtain ⟨c, k, rfl, _⟩ := h
    rfl
  · obtain ⟨c, k, rfl, h0, h1, kk⟩ := h
    refine ⟨_, (pss_cons (ps_set (i := 2) sc_mixed.nd rfl (Or.inl rfl) (pe_op op_mod (pe_op op_pow (pe_op op_add (pe_op op_add (pe_op op_add (pe_op op_mod (pv 0) pe_int) (pe_op op_mul (pe_op op_mul pe_int (pv 1)) (pv 1))) (pe_op op_mul pe_int (pv 1))) pe_int) pe_int) pe_int))
      (pss_one (ps_ret (pe_op op_mod (pe_op op_add (pe_op op_mul (pv 2) pe_int) (pe_op op_mul pe_int (pv 1))) pe_int)))), ?_⟩
    have eb := mixed_bound (c := c) h0 h1
    generalize hx : c % 2147483647 + 1009 * k * k + 48611 * k + 17 = x at eb
    refine ⟨_, rfl, _, _, rfl, rfl, (by show (0 : Int) < _; decide), _, rfl, _, _, rfl, rfl, .inl ⟨by decide, by decide⟩, _, rfl, _, _, rfl, rfl, .inl ⟨by omega, by omega⟩, _, _, rfl, rfl, _, rfl, _, _, rfl, rfl, .inl ⟨by decide, by decide⟩,
      _, _, rfl, rfl, _, _, rfl, rfl, _, _, rfl, rfl, ⟨by decide, by decide, by rw [hx]; exact eb⟩, _, _, rfl, rfl, (by show (0 : Int) < _; decide), ?_⟩
    rw [hx]
    generalize x ^ Int.toNat 5 % 2147483647 = y
    refine ⟨_, rfl, _, _, rfl, rfl, .inr ⟨by decide, by decide⟩, _, rfl, _, _, rfl, rfl, .inl ⟨by decide, by decide⟩, _, _, rfl, rfl, _, _, rfl, rfl, (by show (0 : Int) < _; decide), ?_⟩
    exact kk _ (Int.emod_nonneg _ (by decide)) (Int.emod_lt_of_pos _ (by decide))

/-! ### _law_take -/
def sp_take : Sp := fun vs H Q _ => ∃ (b g l : Addr) (n size : Int), vs = [.ref b, .int size] ∧ BoxAt H b g l n ∧ 0 ≤ n ∧ n < 10000000 ∧ 0 < size ∧ size.natAbs.log2 < 9000 ∧
  ∀ (k : Int) (H' : Hp), 0 ≤ k → k < size → BoxAt H' b g l (n + 1) → Keeps [b, g] H H' → Q (.int k) H'
theorem ok_take (T : Txt K mg a) : FnOk P w K mg base CX0 2 a.f_take a.d_take ["_law_box_here", "_law_size"] sp_take := by
  refine T.F_take.ok sc_take (fun vs H Q E h => ?_) (fun cdv A outer s H vs Q E hr h => ?_)
  · obtain ⟨b, g, l, n, size, rfl, _⟩ := h
    rfl
  · obtain ⟨b, g, l, n, size, rfl, ⟨gs, ls, cur, hb, hg, hl, nbg, nbl, ngl, zg, zl⟩, n0, n1, s0, s1, kk⟩ := h
    refine ⟨_, (pss_cons (ps_asg (pe_op op_add (pe_ix ix_list (pv 0) pe_int (fun _ _ => rfl)) pe_int) (pg_sub (pv 0) pe_int set_list))
      (C8.pss_cut (ps_if (PW.pt (pw_and (pt_cmpR op_eq (pe_ix ix_list (pv 0) pe_int (fun _ _ => rfl)) pe_int (nomark _)) (pw_and1 (pt_cmpR op_gt (pe_callB call_len_seq (by rfl) T.z_len (by decide +kernel) (pa_cons (pe_ix ix_list (pv 0) pe_int (fun _ _ => rfl)) pa_nil)) pe_int (nomark _))))) (pss_one (ps_asg (pe_bm PySem.F.plainAttrs_list PySem.F.slot_list_pop PySem.F.type_list_pop mt_popAt (pe_ix ix_list (pv 0) pe_int (fun _ _ => rfl)) (pa_cons pe_int pa_nil)) (pg_sub (pv 0) pe_int set_list))) pss_nil)
      (pss_cons (ps_if (pt_cmpR op_gt (pe_ix ix_list (pv 0) pe_int (fun _ _ => rfl)) pe_int (nomark _)) (pss_cons (ps_set (i := 2) sc_take.nd rfl (Or.inl rfl) (pe_op op_mod (pe_ix ix_list (pv 0) pe_int (fun _ _ => rfl)) (pv 1)))
      (pss_cons (ps_asg (pe_op op_fdivW (pe_ix ix_list (pv 0) pe_int (fun _ _ => rfl)) (pv 1)) (pg_sub (pv 0) pe_int set_list))
      (pss_one (ps_ret (pv 2))))) pss_nil)
      (pss_cons (ps_set (i := 3) sc_take.nd rfl (Or.inl rfl) (pe_op op_mul pe_int (pe_ix ix_list (pv 0) pe_int (fun _ _ => rfl))))
      (C8.pss_cut (ps_if (pt_cmpR op_gt (pe_callB call_len_seq (by rfl) T.z_len (by decide +kernel) (pa_cons (pe_ix ix_list (pv 0) pe_int (fun _ _ => rfl)) pa_nil)) pe_int (nomark _)) (pss_one (ps_set (i := 3) sc_take.nd rfl (Or.inl rfl) (pe_ix ix_list (pe_ix ix_list (pv 0) pe_int (fun _ _ => rfl)) (pe_op op_mod (pe_ix ix_list (pv 0) pe_int (fun _ _ => rfl)) (pe_callB call_len_seq (by rfl) T.z_len (by decide +kernel) (pa_cons (pe_ix ix_list (pv 0) pe_int (fun _ _ => rfl)) pa_nil))) (fun _ _ => rfl)))) pss_nil)
      (pss_cons (ps_set (i := 2) sc_take.nd rfl (Or.inl rfl) pe_int)
      (pss_cons (ps_set (i := 4) sc_take.nd rfl (Or.inl rfl) pe_int)
      (pss_cons (ps_while PassesOwn.never (pt_cmpR op_lt (pv 4) (pv 1) (nomark _)) (pss_cons (ps_set (i := 2) sc_take.nd rfl (Or.inl rfl) (pe_op op_add (pe_op op_mul (pv 2) pe_int) (pe_call (ok_mixed T) (hr.mono (by decide)) rfl T.g_mixed T.k_mixed T.B_mixed .nil pass0 (pa_cons (pv 3) (pa_cons (pe_op op_add (pe_ix ix_list (pv 0) pe_int (fun _ _ => rfl)) (pe_op op_mul pe_int (pe_op op_mod (pv 2) pe_int))) pa_nil)))))
      (pss_one (ps_set (i := 4) sc_take.nd rfl (Or.inl rfl) (pe_op op_mul (pv 4) pe_int)))))
      (pss_one (ps_ret (pe_op op_mod (pv 2) (pv 1)))))))))))), ?_⟩
    -- box[3] = box[3] + 1
    walk_at "rd"
    have kp0 : Keeps [b, g] H (upd H b (.lst [.ref g, .int cur, .ref l, .int (n + 1)])) := (Keeps.refl _ H).upd (.inl (List.mem_cons_self))
    refine ⟨fun σ H1 => Blk (σ = [some (.ref b), some (.int size), none, none, none] ∧ ∃ (gs : List Int) (cur : Int), H1 b = some (.lst [.ref g, .int cur, .ref l, .int (n + 1)]) ∧ H1 g = some (.lst (gs.map V.int)) ∧ gs.length ≤ 63 ∧ H1 l = some (.lst (ls.map V.int)) ∧ Keeps [b, g] H H1), ?_, ?_⟩
    · walk_at "rd"
      refine iteD (fun hc => ?_) (fun hc => ?_)
      · walk_at "rd"
        refine iteD (fun hc => ?_) (fun hc => ?_)
        · rw [List.length_map] at hc
          match gs, hc with
          | x :: gs, _ =>
            walk_at "rd"
            refine ⟨_, _, _, _, _, rfl, rfl, (by walk_at "hp"), by decide, by decide, seqIndex_of (by decide) (by simp), rfl, ?_⟩
            walk_at "rd"
            refine Blk.of ⟨rfl, gs, x, upd_same, (by walk_at "hp"), by rw [List.length_cons] at zg; omega, by walk_at "hp", ?_⟩
            exact (kp0.upd (.inl (by simp))).upd (.inl (by simp))
        · refine Blk.of ⟨rfl, gs, cur, upd_same, by walk_at "hp", zg, by walk_at "hp", kp0⟩
      · refine iteF ?_
        refine Blk.of ⟨rfl, gs, cur, upd_same, by walk_at "hp", zg, by walk_at "hp", kp0⟩
    · rintro σ H1 hB
      obtain ⟨rfl, gs, cur, hb, hg, zg, hl, kp⟩ := hB.out
      walk_at "rd"
      refine iteD (fun hc => ?_) (fun hc => ?_)
      · walk_at "rd"
        refine kk _ _ (Int.emod_nonneg _ (by omega)) (Int.emod_lt_of_pos _ s0) ⟨gs, ls, _, upd_same, by walk_at "hp", by walk_at "hp", nbg, nbl, ngl, zg, zl⟩ (kp.upd (.inl (by simp)))
      · walk_at "rd"
        refine ⟨fun σ H2 => Blk (H2 = H1 ∧ ∃ cell : Int, σ = [some (.ref b), some (.int size), none, some (.int cell), none]), ?_, ?_⟩
        · walk_at "rd"
          refine iteD (fun hc2 => ?_) (fun hc2 => ?_)
          · have hpos : (0 : Int) < ((ls.map V.int).length : Int) := hc2
            walk_at "rd"
            have i0 := Int.emod_nonneg (n + 1) (show (((ls.map V.int).length : Nat) : Int) ≠ 0 by omega)
            have i1 := Int.emod_lt_of_pos (n + 1) hpos
            have hx : (ls.map V.int)[((n + 1) % (((ls.map V.int).length : Nat) : Int)).toNat]? = some (.int (My.g ls ((n + 1) % (((ls.map V.int).length : Nat) : Int)).toNat)) := by
              rw [List.getElem?_map, My.g_lt (by rw [List.length_map] at *; omega)]; rfl
            refine ⟨_, _, _, _, rfl, rfl, SqL.of (by walk_at "hp"), at_of (j := ((n + 1) % (((ls.map V.int).length : Nat) : Int)).toNat) (by omega) hx, ?_⟩
            exact Blk.of ⟨rfl, _, rfl⟩
          · exact Blk.of ⟨rfl, _, rfl⟩
        · rintro σ H2 hB
          obtain ⟨rfl, cell, rfl⟩ := hB.out
          walk_at "rd"
          refine while_by (fun σ H1 => H1 = H2 ∧ ∃ found reach : Int, σ = [some (.ref b), some (.int size), some (.int found), some (.int cell), some (.int reach)] ∧ 0 < reach)
            (fun σ _ => match σ with | [_, _, _, _, some (.int r)] => (size - r).toNat | _ => 0) ⟨rfl, 0, 1, rfl, by decide⟩ ?_ ?_
          · rintro σ H1 ⟨rfl, found, reach, rfl, hr0⟩
            walk_at "rd"
            refine iteD (fun hlt => ?_) (fun hlt => ?_)
            · walk_at "rd"
              have f0 := Int.emod_nonneg found (show (89 : Int) ≠ 0 by decide)
              have f1 := Int.emod_lt_of_pos found (show (0 : Int) < 89 by decide)
              refine ⟨_, _, rfl, (by show 0 ≤ n + 1 + 1000 * (found % 89); omega), (by show n + 1 + 1000 * (found % 89) < 100000000; omega), fun r r0 r1 => ?_⟩
              walk_at "rd"
              refine ⟨⟨rfl, _, _, rfl, by omega⟩, ?_⟩
              show (size - reach * 1000000007).toNat < (size - reach).toNat
              omega
            · walk_at "rd"
              exact kk _ _ (Int.emod_nonneg _ (by omega)) (Int.emod_lt_of_pos _ s0) ⟨gs, ls, _, hb, hg, hl, nbg, nbl, ngl, zg, zl⟩ kp
          · intro σ H Q Q' hq h
            obtain ⟨v, h1, u, h2, i, j, e1, e2, k, e3, q⟩ := h
            exact ⟨v, h1, u, h2, i, j, e1, e2, k, e3, hq _ _ q⟩

/-! ### _law_box -/
def sp_box (K : PySem.W.Frag) : Sp := fun vs H Q _ => ∃ (s : Addr) (ns : List Int), vs = [.ref s] ∧ SqL K H s (ns.map V.int) ∧ ns.length ≤ 63 ∧
  ∀ (b g l : Addr) (H' : Hp), H b = none → H g = none → H l = none → BoxAt H' b g l 0 → Same H H' → Q (.ref b) H'
theorem ok_box (T : Txt K mg a) : FnOk P w K mg base CX0 1 a.f_box a.d_box ["_law_script"] (sp_box K) := by
  refine T.F_box.ok sc_box (fun vs H Q E h => ?_) (fun cdv A outer s H vs Q E hr h => ?_)
  · obtain ⟨s, ns, rfl, _⟩ := h
    rfl
  · obtain ⟨sc, ns, rfl, hS, hz, kk⟩ := h
    refine ⟨_, (pss_cons (ps_setLc (i := 1) (own := [("_law_cell", 2)]) (g := gName 2) rfl sc_box.nd rfl rfl (sw_true rfl rfl rfl (by decide +kernel)) (pi_list (pv 0)) (blkOk_by (own := [("_law_cell", 2)]) (N := ["_law_script", "_law_great", "_law_cell"]) (sc := defScope s_box) (by decide +kernel)) (fun _ _ _ _ _ => pg_name (i := 2) sc_box.nd rfl (Or.inl rfl)) (fun _ _ _ _ _ => pts_one (pt_cmpR op_ge (pv 2) (pe_op op_pow pe_int pe_int) (nomark _))) (fun _ _ _ _ _ => by exact (pv 2)))
      (pss_one (ps_ret (pe_lst (pa_cons (pv 1) (pa_cons pe_int (pa_cons (pe_lc (own := [("_law_cell", 2)]) (g := gName 2) rfl sc_box.nd (pi_list (pv 0)) (blkOk_by (own := [("_law_cell", 2)]) (N := ["_law_script", "_law_great", "_law_cell"]) (sc := defScope s_box) (by decide +kernel)) (fun _ _ _ _ _ => pg_name (i := 2) sc_box.nd rfl (Or.inl rfl)) (fun _ _ _ _ _ => pts_one (pt_cmpR op_lt (pv 2) (pe_op op_pow pe_int pe_int) (nomark _))) (fun _ _ _ _ _ => by exact (pv 2))) (pa_cons pe_int pa_nil)))))))), ?_⟩
    refine ⟨_, rfl, sc, rfl, ⟨_, hS⟩, fun g hg => ?_⟩
    have sG : ∀ o, Same H (upd H g o) := fun o => (Same.refl H).upd hg
    refine lc_list (K := K) (a := sc) (xs := ns.map V.int) (fun i H1 => Blk (∃ gs : List Int, H1 = upd H g (.lst (gs.map V.int)) ∧ gs.length ≤ i)) (Blk.of ⟨[], rfl, Nat.le_refl _⟩) (fun i H1 _ hB => ?_) ?_ ?_
    · obtain ⟨gs, rfl, _⟩ := hB.out
      exact (sG _).seq hS
    · intro i y H1 hi hB
      obtain ⟨gs, rfl, hl⟩ := hB.out
      obtain ⟨z, hz, rfl⟩ := ints_get hi
      have := get_lt hi
      rw [List.length_map] at this
      refine ⟨rfl, _, rfl, _, _, rfl, rfl, ⟨by decide, by decide, by decide⟩, _, _, rfl, rfl, _, rfl, iteD (fun hc => ?_) (fun hc => ?_)⟩
      · refine ⟨_, rfl, _, upd_same, by rw [List.length_map]; exact small (by omega), Blk.of ⟨gs ++ [z], ?_, by rw [List.length_append]; simp; omega⟩⟩
        rw [upd_upd, List.map_append]; rfl
      · exact Blk.of ⟨gs, rfl, by omega⟩
    · intro H1 hB
      obtain ⟨gs, rfl, hgl⟩ := hB.out
      rw [List.length_map] at hgl
      refine ⟨_, rfl, ?_⟩
      refine ⟨_, rfl, sc, rfl, ⟨_, (sG _).seq hS⟩, fun l hl => ?_⟩
      have ngl : g ≠ l := ne_of_none upd_same hl
      have hl0 : H l = none := by rw [upd_ne ngl.symm] at hl; exact hl
      refine lc_list (K := K) (a := sc) (xs := ns.map V.int) (fun i H1 => Blk (∃ ls : List Int, H1 = upd (upd H g (.lst (gs.map V.int))) l (.lst (ls.map V.int)) ∧ ls.length ≤ i)) (Blk.of ⟨[], rfl, Nat.le_refl _⟩) (fun i H1 _ hB => ?_) ?_ ?_
      · obtain ⟨ls, rfl, _⟩ := hB.out
        exact ((sG _).upd hl0).seq hS
      · intro i y H1 hi hB
        obtain ⟨ls, rfl, hl⟩ := hB.out
        obtain ⟨z, hz, rfl⟩ := ints_get hi
        have := get_lt hi
        rw [List.length_map] at this
        refine ⟨rfl, _, rfl, _, _, rfl, rfl, ⟨by decide, by decide, by decide⟩, _, _, rfl, rfl, _, rfl, iteD (fun hc => ?_) (fun hc => ?_)⟩
        · refine ⟨_, rfl, _, upd_same, by rw [List.length_map]; exact small (by omega), Blk.of ⟨ls ++ [z], ?_, by rw [List.length_append]; simp; omega⟩⟩
          rw [upd_upd, List.map_append]; rfl
        · exact Blk.of ⟨ls, rfl, by omega⟩
      · intro H1 hB
        obtain ⟨ls, rfl, hll⟩ := hB.out
        rw [List.length_map] at hll
        refine ⟨by show 4 ≤ sizeLine; decide, fun b hb => ?_⟩
        have nlb : l ≠ b := ne_of_none upd_same hb
        have hb' : upd H g (.lst (gs.map V.int)) b = none := by rw [upd_ne nlb.symm] at hb; exact hb
        have ngb : g ≠ b := ne_of_none upd_same hb'
        have hb0 : H b = none := by rw [upd_ne ngb.symm] at hb'; exact hb'
        exact kk b g l _ hb0 hg hl0 ⟨gs, ls, 0, upd_same, by rw [upd_ne ngb, upd_ne ngl, upd_same], by rw [upd_ne nlb, upd_same], ngb.symm, nlb.symm, ngl, by omega, by omega⟩ (((sG _).upd hl0).upd hb0)

/-! ### data that is handed in, and its copies -/
def Th0 (v : V) (D : PyData) : Prop := (∃ i : Int, v = .int i ∧ D = .int i) ∨ (∃ t : Str, v = .str t ∧ D = .str t ∧ PyData.strOk t = true) ∨ (v = .non ∧ D = .none)
/-- data at most n deep, none of it at the addresses R -/
def Th (H : Hp) (R : List Addr) : Nat → V → PyData → Prop
  | 0, v, D => Th0 v D
  | n + 1, v, D => Th0 v D ∨ ∃ (h : Addr) (xs : List V) (ds : List PyData), v = .ref h ∧ h ∉ R ∧ ((H h = some (.tup xs) ∧ D = .tuple ds) ∨ (H h = some (.lst xs) ∧ D = .list ds)) ∧ xs.length ≤ 20 ∧ xs.length = ds.length ∧ ∀ (i : Nat) (x : V) (d : PyData), xs[i]? = some x → ds[i]? = some d → Th H R n x d
theorem Th.of0 {H : Hp} {R : List Addr} {v : V} {D : PyData} : ∀ n, Th0 v D → Th H R n v D
  | 0, h => h
  | _ + 1, h => .inl h
theorem Th.up {H : Hp} {R : List Addr} : ∀ {n : Nat} {v : V} {D : PyData}, Th H R n v D → Th H R (n + 1) v D
  | 0, _, _, h => .inl h
  | n + 1, _, _, h => by
    rcases h with h | ⟨b, xs, ds, e, nr, f, l, le, g⟩
    · exact .inl h
    · exact .inr ⟨b, xs, ds, e, nr, f, l, le, fun i x d e1 e2 => (g i x d e1 e2).up⟩
theorem Th.map {H H' : Hp} {R R' : List Addr} (s : ∀ h o, h ∉ R → H h = some o → H' h = some o ∧ h ∉ R') : ∀ {n : Nat} {v : V} {D : PyData}, Th H R n v D → Th H' R' n v D
  | 0, _, _, h => h
  | n + 1, _, _, h => by
    rcases h with h | ⟨b, xs, ds, e, nr, f, l, le, g⟩
    · exact .inl h
    · rcases f with ⟨f1, f2⟩ | ⟨f1, f2⟩
      · exact .inr ⟨b, xs, ds, e, (s _ _ nr f1).2, .inl ⟨(s _ _ nr f1).1, f2⟩, l, le, fun i x d e1 e2 => (g i x d e1 e2).map s⟩
      · exact .inr ⟨b, xs, ds, e, (s _ _ nr f1).2, .inr ⟨(s _ _ nr f1).1, f2⟩, l, le, fun i x d e1 e2 => (g i x d e1 e2).map s⟩
theorem Th.same {H H' : Hp} {R : List Addr} (s : Same H H') {n : Nat} {v : V} {D : PyData} (h : Th H R n v D) : Th H' R n v D := h.map fun b o nr e => ⟨s b o e, nr⟩
theorem Th.off {H : Hp} {R : List Addr} {x : Addr} (hx : H x = none) {n : Nat} {v : V} {D : PyData} (h : Th H R n v D) : Th H (x :: R) n v D := h.map fun b o nr e => ⟨e, by
  have := ne_of_none e hx
  simp [this, nr]⟩
theorem Th.on {H : Hp} {R : List Addr} {x : Addr} {n : Nat} {v : V} {D : PyData} (h : Th H (x :: R) n v D) : Th H R n v D := h.map fun b o nr e => ⟨e, fun q => nr (List.mem_cons_of_mem _ q)⟩
theorem Th.put {H : Hp} {R : List Addr} {x : Addr} {o : HO} {n : Nat} {v : V} {D : PyData} (h : Th H (x :: R) n v D) : Th (upd H x o) (x :: R) n v D := h.map fun b u nr e => ⟨by
  have : b ≠ x := fun q => nr (by simp [q])
  rw [upd_ne this]
  exact e, nr⟩
theorem dpAll_of {K : PySem.W.Frag} {H : Hp} : ∀ {xs : List V} {ds : List PyData}, xs.length = ds.length → (∀ (i : Nat) (x : V) (d : PyData), xs[i]? = some x → ds[i]? = some d → Dp K H x d) → DpAll K H xs ds
  | [], [], _, _ => .nil
  | x :: xs, d :: ds, l, h => .cons (h 0 x d rfl rfl) (dpAll_of (by simpa using l) fun i x' d' a b => h (i + 1) x' d' (by simpa using a) (by simpa using b))
  | [], _ :: _, l, _ => by simp at l
  | _ :: _, [], l, _ => by simp at l
theorem Th0.dp {K : PySem.W.Frag} {H : Hp} {v : V} {D : PyData} (h : Th0 v D) : Dp K H v D := by
  rcases h with ⟨i, rfl, rfl⟩ | ⟨t, rfl, rfl, _⟩ | ⟨rfl, rfl⟩
  · exact .int i
  · exact .str t
  · exact .non
theorem Th.dp {K : PySem.W.Frag} {H : Hp} {R : List Addr} : ∀ {n : Nat} {v : V} {D : PyData}, Th H R n v D → Dp K H v D
  | 0, _, _, h => Th0.dp h
  | n + 1, _, _, h => by
    rcases h with h | ⟨b, xs, ds, rfl, nr, f, l, le, g⟩
    · exact Th0.dp h
    · have da := dpAll_of (K := K) (H := H) le fun i x d e1 e2 => (g i x d e1 e2).dp
      rcases f with ⟨f1, rfl⟩ | ⟨f1, rfl⟩
      · exact .tup (SqT.of f1) da
      · exact .lst (SqL.of f1) da
theorem Th0.lay {v : V} {D : PyData} (h : Th0 v D) : D.canLay0 = true ∧ D.depth ≤ 0 := by
  rcases h with ⟨i, rfl, rfl⟩ | ⟨t, rfl, rfl, ok⟩ | ⟨rfl, rfl⟩
  · exact ⟨by simp [PyData.canLay0], by simp [PyData.depth]⟩
  · exact ⟨by simpa [PyData.canLay0] using ok, by simp [PyData.depth]⟩
  · exact ⟨by simp [PyData.canLay0], by simp [PyData.depth]⟩
theorem layAll_of {n : Nat} : ∀ {xs : List V} {ds : List PyData}, xs.length = ds.length → (∀ (i : Nat) (x : V) (d : PyData), xs[i]? = some x → ds[i]? = some d → d.canLay0 = true ∧ d.depth ≤ n) → PyData.canLayAll0 ds = true ∧ PyData.depthAll ds ≤ n
  | [], [], _, _ => ⟨by simp [PyData.canLayAll0], by simp [PyData.depthAll]⟩
  | x :: xs, d :: ds, l, h => by
    have h0 := h 0 x d rfl rfl
    have h1 := layAll_of (xs := xs) (ds := ds) (by simpa using l) fun i x' d' a b => h (i + 1) x' d' (by simpa using a) (by simpa using b)
    refine ⟨by rw [PyData.canLayAll0, h0.1, h1.1]; rfl, ?_⟩
    rw [PyData.depthAll]
    omega
  | [], _ :: _, l, _ => by simp at l
  | _ :: _, [], l, _ => by simp at l
theorem Th.lay {H : Hp} {R : List Addr} : ∀ {n : Nat} {v : V} {D : PyData}, Th H R n v D → D.canLay0 = true ∧ D.depth ≤ n
  | 0, _, _, h => Th0.lay h
  | n + 1, _, _, h => by
    rcases h with h | ⟨b, xs, ds, rfl, nr, f, l, le, g⟩
    · exact ⟨(Th0.lay h).1, Nat.le_trans (Th0.lay h).2 (Nat.zero_le _)⟩
    · have a := layAll_of (n := n) le fun i x d e1 e2 => (g i x d e1 e2).lay
      rcases f with ⟨_, rfl⟩ | ⟨_, rfl⟩
      · exact ⟨by rw [PyData.canLay0]; exact a.1, by rw [PyData.depth]; omega⟩
      · exact ⟨by rw [PyData.canLay0]; exact a.1, by rw [PyData.depth]; omega⟩
def spC (n : Nat) : Sp := fun vs H Q _ => ∃ (v : V) (D : PyData) (R : List Addr), vs = [v] ∧ (∀ x, x ∈ R → H x ≠ none) ∧ Th H R n v D ∧ ∀ (y : V) (H' : Hp), Same H H' → Th H' R n y D → Q y H'
theorem Th0.ty {K : PySem.W.Frag} {H : Hp} {v : V} {D : PyData} (h : Th0 v D) : ∃ t : Value, TyX K H v t ∧ PySem.W.kitOne K t (.type "list") = some false ∧ PySem.W.kitOne K t (.type "tuple") = some false := by
  rcases h with ⟨i, rfl, _⟩ | ⟨t, rfl, _⟩ | ⟨rfl, _⟩
  · exact ⟨_, .base (.int i), kit_ty (by decide +kernel), kit_ty (by decide +kernel)⟩
  · exact ⟨_, .base (.str t), kit_ty (by decide +kernel), kit_ty (by decide +kernel)⟩
  · exact ⟨_, .base .non, kit_ty (by decide +kernel), kit_ty (by decide +kernel)⟩
theorem copied_flat (T : Txt K mg a) : FnOk P w K mg base CX0 1 a.f_p_copied a.d_p_copied ["thing"] (spC 0) := by
  refine T.F_p_copied.ok sc_p_copied (fun vs H Q E h => ?_) (fun cdv A outer s H vs Q E hr h => ?_)
  · obtain ⟨v, D, R, rfl, _⟩ := h
    rfl
  · obtain ⟨v, D, R, rfl, hR, hv, kk⟩ := h
    refine ⟨_, (pss_cons (ps_if (pt_val (pe_callB call_isi (by rfl) T.z_isinstance (by decide +kernel) (pa_cons (pv 0) (pa_cons (pe_bltn (v := .ty "list") (by rfl) T.z_list (by decide +kernel) rfl) pa_nil)))) (pss_one (ps_never)) pss_nil)
      (pss_cons (ps_if (pt_val (pe_callB call_isi (by rfl) T.z_isinstance (by decide +kernel) (pa_cons (pv 0) (pa_cons (pe_bltn (v := .ty "tuple") (by rfl) T.z_tuple (by decide +kernel) rfl) pa_nil)))) (pss_one (ps_never)) pss_nil)
      (pss_one (ps_ret (pv 0))))), ?_⟩
    obtain ⟨t, ty, k1, k2⟩ := Th0.ty (K := K) (H := H) hv
    refine ⟨_, rfl, _, _, _, _, false, rfl, .ty "list", ty, k1, false, rfl, ?_⟩
    refine iteF ?_
    refine ⟨_, rfl, _, _, _, _, false, rfl, .ty "tuple", ty, k2, false, rfl, ?_⟩
    refine iteF ?_
    exact ⟨_, rfl, kk _ _ (Same.refl H) hv⟩
theorem th_snoc {H : Hp} {R : List Addr} {n : Nat} {ys : List V} {ds : List PyData} {y : V} {d : PyData} (o : ∀ (j : Nat) (u : V) (z : PyData), ys[j]? = some u → ds[j]? = some z → Th H R n u z) (hd : ds[ys.length]? = some d) (h : Th H R n y d) :
    ∀ (j : Nat) (u : V) (z : PyData), (ys ++ [y])[j]? = some u → ds[j]? = some z → Th H R n u z := fun j u z e1 e2 => by
  by_cases hj : j < ys.length
  · rw [List.getElem?_append_left hj] at e1
    exact o j u z e1 e2
  · have hl := get_lt e1
    rw [List.length_append, List.length_singleton] at hl
    obtain rfl : j = ys.length := by omega
    simp at e1
    subst e1
    rw [hd] at e2
    cases e2
    exact h
/-- the copies so far -/
def Cop (H0 H : Hp) (R : List Addr) (D2 : Addr) (n : Nat) (ds : List PyData) (i : Nat) : Prop := ∃ ys : List V, ys.length = i ∧ H D2 = some (.lst ys) ∧ Same H0 H ∧ ∀ (j : Nat) (u : V) (z : PyData), ys[j]? = some u → ds[j]? = some z → Th H (D2 :: R) n u z
theorem Cop.next {H0 H H2 : Hp} {R : List Addr} {D2 : Addr} {n : Nat} {ds : List PyData} {ys : List V} {y : V} {d : PyData} (hD0 : H0 D2 = none) (hD2 : H2 D2 = some (.lst ys)) (s : Same H0 H2)
    (o : ∀ (j : Nat) (u : V) (z : PyData), ys[j]? = some u → ds[j]? = some z → Th H2 (D2 :: R) n u z) (hd : ds[ys.length]? = some d) (ty : Th H2 (D2 :: R) n y d) : Cop H0 (upd H2 D2 (.lst (ys ++ [y]))) R D2 n ds (ys.length + 1) :=
  ⟨ys ++ [y], by rw [List.length_append]; rfl, upd_same, s.upd hD0, fun j u z e1 e2 => (th_snoc o hd ty j u z e1 e2).put⟩
theorem copied_step (T : Txt K mg a) {n k : Nat} (ih : FnOk P w K mg base CX0 k a.f_p_copied a.d_p_copied ["thing"] (spC n)) (h1 : 1 ≤ k) : FnOk P w K mg base CX0 (k + 1) a.f_p_copied a.d_p_copied ["thing"] (spC (n + 1)) := by
  refine T.F_p_copied.ok sc_p_copied (fun vs H Q E h => ?_) (fun cdv A outer s H vs Q E hr h => ?_)
  · obtain ⟨v, D, R, rfl, _⟩ := h
    rfl
  · obtain ⟨v, D, R, rfl, hR, hv, kk⟩ := h
    rcases hv with hv | ⟨b, xs, ds, rfl, nr, ⟨f, rfl⟩ | ⟨f, rfl⟩, l, le, g⟩
    · refine ⟨_, (pss_cons (ps_if (pt_val (pe_callB call_isi (by rfl) T.z_isinstance (by decide +kernel) (pa_cons (pv 0) (pa_cons (pe_bltn (v := .ty "list") (by rfl) T.z_list (by decide +kernel) rfl) pa_nil)))) (pss_one (ps_never)) pss_nil)
      (pss_cons (ps_if (pt_val (pe_callB call_isi (by rfl) T.z_isinstance (by decide +kernel) (pa_cons (pv 0) (pa_cons (pe_bltn (v := .ty "tuple") (by rfl) T.z_tuple (by decide +kernel) rfl) pa_nil)))) (pss_one (ps_never)) pss_nil)
      (pss_one (ps_ret (pv 0))))), ?_⟩
      obtain ⟨t, ty, k1, k2⟩ := Th0.ty (K := K) (H := H) hv
      refine ⟨_, rfl, _, _, _, _, false, rfl, .ty "list", ty, k1, false, rfl, ?_⟩
      refine iteF ?_
      refine ⟨_, rfl, _, _, _, _, false, rfl, .ty "tuple", ty, k2, false, rfl, ?_⟩
      refine iteF ?_
      exact ⟨_, rfl, kk _ _ (Same.refl H) (.inl hv)⟩
    · refine ⟨_, (pss_cons (ps_if (pt_val (pe_callB call_isi (by rfl) T.z_isinstance (by decide +kernel) (pa_cons (pv 0) (pa_cons (pe_bltn (v := .ty "list") (by rfl) T.z_list (by decide +kernel) rfl) pa_nil)))) (pss_one (ps_never)) pss_nil)
      (pss_cons (ps_if (pt_val (pe_callB call_isi (by rfl) T.z_isinstance (by decide +kernel) (pa_cons (pv 0) (pa_cons (pe_bltn (v := .ty "tuple") (by rfl) T.z_tuple (by decide +kernel) rfl) pa_nil)))) (pss_one (ps_ret (pe_callTy call_tuple_of (by rfl) T.z_tuple (by decide +kernel) (pa_cons (pe_lc (own := [("part", 1)]) (g := gName 1) (tt := tYes) rfl sc_p_copied.nd (pi_tup (pv 0)) (blkOk_by (own := [("part", 1)]) (N := ["thing", "part"]) (sc := defScope s_p_copied) (by decide +kernel)) (fun _ _ _ _ _ => pg_name (i := 1) sc_p_copied.nd rfl (Or.inl rfl)) (fun _ _ _ _ _ => pts_nil) (fun _ _ _ _ _ => by exact (pe_call ih (hr.mono (by omega)) rfl T.g_p_copied T.k_p_copied T.B_p_copied .nil pass0 (pa_cons (pv 1) pa_nil)))) pa_nil)))) pss_nil)
      (pss_one (ps_ret (pv 0))))), ?_⟩
      refine ⟨_, rfl, _, _, _, _, false, rfl, .ty "list", .base (.tup f), kit_ty (by decide +kernel), false, rfl, ?_⟩
      refine iteF ?_
      refine ⟨_, rfl, _, _, _, _, true, rfl, .ty "tuple", .base (.tup f), kit_ty (by decide +kernel), true, rfl, ?_⟩
      refine iteT ?_
      refine ⟨_, rfl, b, rfl, ⟨_, SqT.of f⟩, fun D2 hD => ?_⟩
      refine lc_tup (K := K) (a := b) (xs := xs) (fun i H1 => Blk (Cop H H1 R D2 n ds i)) (Blk.of ⟨[], rfl, upd_same, (Same.refl H).upd hD, fun j u z e => by simp at e⟩) (fun i H1 _ hB => ?_) ?_ ?_
      · obtain ⟨ys, _, _, s1, _⟩ := hB.out
        exact SqT.of (s1 _ _ f)
      · intro i x H1 hi hB
        obtain ⟨ys, rfl, hD1, s1, o⟩ := hB.out
        have hil := get_lt hi
        obtain ⟨d, hd⟩ : ∃ d, ds[ys.length]? = some d := ⟨_, List.getElem?_eq_getElem (by omega)⟩
        refine ⟨rfl, ?_⟩
        dsimp only [tYes]
        refine iteT ?_
        refine ⟨_, rfl, x, d, D2 :: R, rfl, fun z hz => ?_, ((g _ x d hi hd).off hD).same s1, fun y H2 s2 ty => ?_⟩
        · rcases List.mem_cons.mp hz with rfl | q
          · rw [hD1]; simp
          · cases e : H z with
            | none => exact absurd e (hR z q)
            | some u => rw [s1 _ _ e]; simp
        · exact ⟨_, s2 _ _ hD1, small (by omega), Blk.of (Cop.next (H := H1) hD (s2 _ _ hD1) (s1.trans s2) (fun j u z e1 e2 => (o j u z e1 e2).same s2) hd ty)⟩
      · intro H1 hB
        obtain ⟨ys, hy, hD1, s1, o⟩ := hB.out
        refine ⟨D2, _, rfl, .inl ⟨SqL.of hD1, fun z hz => ?_⟩⟩
        have sz : Same H1 (upd H1 z (.tup ys)) := (Same.refl H1).upd hz
        refine kk _ _ (s1.trans sz) (.inr ⟨z, ys, ds, rfl, fun q => hR z q (s1.free hz), .inl ⟨upd_same, rfl⟩, by omega, by omega, fun j u d e1 e2 => ((o j u d e1 e2).on).same sz⟩)
    · refine ⟨_, (pss_cons (ps_if (pt_val (pe_callB call_isi (by rfl) T.z_isinstance (by decide +kernel) (pa_cons (pv 0) (pa_cons (pe_bltn (v := .ty "list") (by rfl) T.z_list (by decide +kernel) rfl) pa_nil)))) (pss_one (ps_ret (pe_lc (own := [("part", 1)]) (g := gName 1) (tt := tYes) rfl sc_p_copied.nd (pi_list (pv 0)) (blkOk_by (own := [("part", 1)]) (N := ["thing", "part"]) (sc := defScope s_p_copied) (by decide +kernel)) (fun _ _ _ _ _ => pg_name (i := 1) sc_p_copied.nd rfl (Or.inl rfl)) (fun _ _ _ _ _ => pts_nil) (fun _ _ _ _ _ => by exact (pe_call ih (hr.mono (by omega)) rfl T.g_p_copied T.k_p_copied T.B_p_copied .nil pass0 (pa_cons (pv 1) pa_nil)))))) pss_nil)
      (pss_cons (ps_if (pt_val (pe_callB call_isi (by rfl) T.z_isinstance (by decide +kernel) (pa_cons (pv 0) (pa_cons (pe_bltn (v := .ty "tuple") (by rfl) T.z_tuple (by decide +kernel) rfl) pa_nil)))) (pss_one (ps_never)) pss_nil)
      (pss_one (ps_ret (pv 0))))), ?_⟩
      refine ⟨_, rfl, _, _, _, _, true, rfl, .ty "list", .base (.lst f), kit_ty (by decide +kernel), true, rfl, ?_⟩
      refine iteT ?_
      refine ⟨_, rfl, b, rfl, ⟨_, SqL.of f⟩, fun D2 hD => ?_⟩
      refine lc_list (K := K) (a := b) (xs := xs) (fun i H1 => Blk (Cop H H1 R D2 n ds i)) (Blk.of ⟨[], rfl, upd_same, (Same.refl H).upd hD, fun j u z e => by simp at e⟩) (fun i H1 _ hB => ?_) ?_ ?_
      · obtain ⟨ys, _, _, s1, _⟩ := hB.out
        exact SqL.of (s1 _ _ f)
      · intro i x H1 hi hB
        obtain ⟨ys, rfl, hD1, s1, o⟩ := hB.out
        have hil := get_lt hi
        obtain ⟨d, hd⟩ : ∃ d, ds[ys.length]? = some d := ⟨_, List.getElem?_eq_getElem (by omega)⟩
        refine ⟨rfl, ?_⟩
        dsimp only [tYes]
        refine iteT ?_
        refine ⟨_, rfl, x, d, D2 :: R, rfl, fun z hz => ?_, ((g _ x d hi hd).off hD).same s1, fun y H2 s2 ty => ?_⟩
        · rcases List.mem_cons.mp hz with rfl | q
          · rw [hD1]; simp
          · cases e : H z with
            | none => exact absurd e (hR z q)
            | some u => rw [s1 _ _ e]; simp
        · exact ⟨_, s2 _ _ hD1, small (by omega), Blk.of (Cop.next (H := H1) hD (s2 _ _ hD1) (s1.trans s2) (fun j u z e1 e2 => (o j u z e1 e2).same s2) hd ty)⟩
      · intro H1 hB
        obtain ⟨ys, hy, hD1, s1, o⟩ := hB.out
        exact kk _ _ s1 (.inr ⟨D2, ys, ds, rfl, fun q => hR D2 q hD, .inr ⟨hD1, rfl⟩, by omega, by omega, fun j u d e1 e2 => (o j u d e1 e2).on⟩)
theorem ok_p_copied3 (T : Txt K mg a) : FnOk P w K mg base CX0 4 a.f_p_copied a.d_p_copied ["thing"] (spC 3) := copied_step T (copied_step T (copied_step T (copied_flat T) (by decide)) (by decide)) (by decide)

/-! ### the makings -/
theorem fmt_plain {te : TE} {σ : St} {H : Hp} {Q : V → Hp → Prop} {x : V} (p : PlV x) (h : ∀ Q', Q' x H → te σ H Q') (q : ∀ m : Str, m.length ≤ 1930 → Q (.str m) H) : tFmt te σ H Q := by
  refine h _ ?_
  have hb : 40000 ≤ sizeLine := by rw [sizeLine_eq]; decide
  cases p with
  | int hi => exact .inr ⟨_, rfl, hi, q _ (by have := PyProof.Rows.int_text_len_1921 hi; omega)⟩
  | str hl hc => exact .inl ⟨_, rfl, by omega, q _ (by omega)⟩
theorem line_fits {m k : Str} {n : Nat} (h : m.length ≤ 40000) (hk : k.length = n) (hn : n ≤ 100000) : (k ++ m).length ≤ sizeLine := by
  rw [strLen_append, hk, sizeLine_eq]
  omega
theorem Th.offx {H : Hp} {R : List Addr} {x : Addr} (h1 : ∀ xs, H x ≠ some (.tup xs)) (h2 : ∀ xs, H x ≠ some (.lst xs)) : ∀ {n : Nat} {v : V} {D : PyData}, Th H R n v D → Th H (x :: R) n v D
  | 0, _, _, h => h
  | n + 1, _, _, h => by
    rcases h with h | ⟨b, xs, ds, e, nr, f, l, le, g⟩
    · exact .inl h
    · refine .inr ⟨b, xs, ds, e, ?_, f, l, le, fun i x' d e1 e2 => (g i x' d e1 e2).offx h1 h2⟩
      simp only [List.mem_cons, not_or]
      refine ⟨fun q => ?_, nr⟩
      subst q
      rcases f with ⟨f, _⟩ | ⟨f, _⟩
      · exact h1 _ f
      · exact h2 _ f
theorem exo_lst {e C : Addr} {d : Option Addr} {xs : List V} : exo e C d ≠ .lst xs := fun z => by
  have z' : HO.ext _ = HO.lst xs := z
  cases z'
theorem Th.offe {H : Hp} {R : List Addr} {x C : Addr} {d : Option Addr} (h : H x = some (exo x C d)) {n : Nat} {v : V} {D : PyData} (t : Th H R n v D) : Th H (x :: R) n v D :=
  t.offx (fun xs q => by rw [h] at q; exact exo_tup (Option.some.inj q)) (fun xs q => by rw [h] at q; exact exo_lst (Option.some.inj q))
/-- a refusal bears one plain thing -/
def spB1 (C : Addr) (f : Str) : Sp := fun vs H Q _ => ∃ (e : Addr) (x : V), vs = [.ref e, x] ∧ PlV x ∧ H e = some (exo e C none) ∧
  ∀ (d : Addr) (H' : Hp), H d = none → d ≠ e → H' e = some (exo e C (some d)) → H' d = some (exd d [(f, x)]) → Keeps [e] H H' → Q .non H'
/-- it bears a copy of a tuple of plain things -/
def spBH (C : Addr) : Sp := fun vs H Q _ => ∃ (e h : Addr) (xs : List V) (D : PyData) (R : List Addr), vs = [.ref e, .ref h] ∧ H e = some (exo e C none) ∧ H h = some (.tup xs) ∧ (∀ y ∈ xs, PlV y) ∧ xs.length ≤ 20 ∧ (∀ z, z ∈ R → H z ≠ none) ∧ Th H R 3 (.ref h) D ∧
  ∀ (d : Addr) (y : V) (H' : Hp), H d = none → d ≠ e → H' e = some (exo e C (some d)) → H' d = some (exd d [("handle", y)]) → Th H' R 3 y D → Keeps [e] H H' → Q .non H'
def spB2 (C : Addr) : Sp := fun vs H Q _ => ∃ (e : Addr) (x y : V), vs = [.ref e, x, y] ∧ PlV x ∧ PlV y ∧ H e = some (exo e C none) ∧
  ∀ (d : Addr) (H' : Hp), H d = none → d ≠ e → H' e = some (exo e C (some d)) → H' d = some (exd d [("at", y), ("name", x)]) → Keeps [e] H H' → Q .non H'
def spBU (C : Addr) : Sp := fun vs H Q _ => ∃ (e : Addr) (x y : V) (D : PyData) (R : List Addr), vs = [.ref e, x, y] ∧ PlV x ∧ H e = some (exo e C none) ∧ (∀ z, z ∈ R → H z ≠ none) ∧ Th H R 3 y D ∧
  ∀ (d : Addr) (y' : V) (H' : Hp), H d = none → d ≠ e → H' e = some (exo e C (some d)) → H' d = some (exd d [("lines", y'), ("side", x)]) → Th H' R 3 y' D → Keeps [e] H H' → Q .non H'

theorem ok_NoWord_init (T : Txt K mg a) : FnOk P w K mg base CX0 6 a.f_NoWord_init a.d_NoWord_init ["self", "word"] (spB1 a.c_NoWord "word") := by
  refine T.F_NoWord_init.ok sc_NoWord_init (fun vs H Q E h => ?_) (fun cdv A outer s H vs Q E hr h => ?_)
  · obtain ⟨e, x, rfl, _⟩ := h
    rfl
  · obtain ⟨e, x, rfl, px, he, kk⟩ := h
    refine ⟨_, (pss_cons (ps_expr (pe_midInit T.md_PactError (by rfl) T.g_PactError (pa_cons (pv 0) (pa_cons (pe_joined (.cons pe_str (.cons (pe_fmt (pv 1)) .nil))) pa_nil))))
      (pss_one (ps_ost (pv 0) (pv 1) rfl))), ?_⟩
    refine ⟨_, rfl, _, rfl, by rw [sizeLine_eq]; decide +kernel, fmt_plain px (fun _ q => ⟨_, rfl, q⟩) fun m hm => ⟨m, rfl, line_fits (by omega) (by decide +kernel : _ = 27) (by decide), ?_⟩⟩
    refine ⟨e, a.c_NoWord, _, rfl, by show 1 ≤ 1000; decide, T.x_NoWord, he, ?_⟩
    refine ⟨_, rfl, _, rfl, e, a.c_NoWord, rfl, T.x_NoWord, T.n_NoWord_word, .inl ⟨he, fun d hd nd => ?_⟩⟩
    refine kk d _ hd nd upd_same (by rw [upd_ne nd, upd_same]) (((Keeps.refl [e] H).upd (.inr hd)).upd (.inl (by simp)))
theorem ok_NoPact_init (T : Txt K mg a) : FnOk P w K mg base CX0 6 a.f_NoPact_init a.d_NoPact_init ["self", "at"] (spB1 a.c_NoPact "at") := by
  refine T.F_NoPact_init.ok sc_NoPact_init (fun vs H Q E h => ?_) (fun cdv A outer s H vs Q E hr h => ?_)
  · obtain ⟨e, x, rfl, _⟩ := h
    rfl
  · obtain ⟨e, x, rfl, px, he, kk⟩ := h
    refine ⟨_, (pss_cons (ps_expr (pe_midInit T.md_PactError (by rfl) T.g_PactError (pa_cons (pv 0) (pa_cons (pe_joined (.cons pe_str (.cons (pe_fmt (pv 1)) .nil))) pa_nil))))
      (pss_one (ps_ost (pv 0) (pv 1) rfl))), ?_⟩
    refine ⟨_, rfl, _, rfl, by rw [sizeLine_eq]; decide +kernel, fmt_plain px (fun _ q => ⟨_, rfl, q⟩) fun m hm => ⟨m, rfl, line_fits (by omega) (by decide +kernel : _ = 24) (by decide), ?_⟩⟩
    refine ⟨e, a.c_NoPact, _, rfl, by show 1 ≤ 1000; decide, T.x_NoPact, he, ?_⟩
    refine ⟨_, rfl, _, rfl, e, a.c_NoPact, rfl, T.x_NoPact, T.n_NoPact_at, .inl ⟨he, fun d hd nd => ?_⟩⟩
    refine kk d _ hd nd upd_same (by rw [upd_ne nd, upd_same]) (((Keeps.refl [e] H).upd (.inr hd)).upd (.inl (by simp)))
theorem ok_NoText_init (T : Txt K mg a) : FnOk P w K mg base CX0 6 a.f_NoText_init a.d_NoText_init ["self", "at"] (spB1 a.c_NoText "at") := by
  refine T.F_NoText_init.ok sc_NoText_init (fun vs H Q E h => ?_) (fun cdv A outer s H vs Q E hr h => ?_)
  · obtain ⟨e, x, rfl, _⟩ := h
    rfl
  · obtain ⟨e, x, rfl, px, he, kk⟩ := h
    refine ⟨_, (pss_cons (ps_expr (pe_midInit T.md_PactError (by rfl) T.g_PactError (pa_cons (pv 0) (pa_cons (pe_joined (.cons pe_str (.cons (pe_fmt (pv 1)) .nil))) pa_nil))))
      (pss_one (ps_ost (pv 0) (pv 1) rfl))), ?_⟩
    refine ⟨_, rfl, _, rfl, by rw [sizeLine_eq]; decide +kernel, fmt_plain px (fun _ q => ⟨_, rfl, q⟩) fun m hm => ⟨m, rfl, line_fits (by omega) (by decide +kernel : _ = 28) (by decide), ?_⟩⟩
    refine ⟨e, a.c_NoText, _, rfl, by show 1 ≤ 1000; decide, T.x_NoText, he, ?_⟩
    refine ⟨_, rfl, _, rfl, e, a.c_NoText, rfl, T.x_NoText, T.n_NoText_at, .inl ⟨he, fun d hd nd => ?_⟩⟩
    refine kk d _ hd nd upd_same (by rw [upd_ne nd, upd_same]) (((Keeps.refl [e] H).upd (.inr hd)).upd (.inl (by simp)))
theorem ok_NoHelper_init (T : Txt K mg a) : FnOk P w K mg base CX0 6 a.f_NoHelper_init a.d_NoHelper_init ["self", "name"] (spB1 a.c_NoHelper "name") := by
  refine T.F_NoHelper_init.ok sc_NoHelper_init (fun vs H Q E h => ?_) (fun cdv A outer s H vs Q E hr h => ?_)
  · obtain ⟨e, x, rfl, _⟩ := h
    rfl
  · obtain ⟨e, x, rfl, px, he, kk⟩ := h
    refine ⟨_, (pss_cons (ps_expr (pe_midInit T.md_PactError (by rfl) T.g_PactError (pa_cons (pv 0) (pa_cons (pe_joined (.cons pe_str (.cons (pe_fmt (pv 1)) .nil))) pa_nil))))
      (pss_one (ps_ost (pv 0) (pv 1) rfl))), ?_⟩
    refine ⟨_, rfl, _, rfl, by rw [sizeLine_eq]; decide +kernel, fmt_plain px (fun _ q => ⟨_, rfl, q⟩) fun m hm => ⟨m, rfl, line_fits (by omega) (by decide +kernel : _ = 16) (by decide), ?_⟩⟩
    refine ⟨e, a.c_NoHelper, _, rfl, by show 1 ≤ 1000; decide, T.x_NoHelper, he, ?_⟩
    refine ⟨_, rfl, _, rfl, e, a.c_NoHelper, rfl, T.x_NoHelper, T.n_NoHelper_name, .inl ⟨he, fun d hd nd => ?_⟩⟩
    refine kk d _ hd nd upd_same (by rw [upd_ne nd, upd_same]) (((Keeps.refl [e] H).upd (.inr hd)).upd (.inl (by simp)))
theorem ok_NoRow_init (T : Txt K mg a) : FnOk P w K mg base CX0 6 a.f_NoRow_init a.d_NoRow_init ["self", "at"] (spB1 a.c_NoRow "at") := by
  refine T.F_NoRow_init.ok sc_NoRow_init (fun vs H Q E h => ?_) (fun cdv A outer s H vs Q E hr h => ?_)
  · obtain ⟨e, x, rfl, _⟩ := h
    rfl
  · obtain ⟨e, x, rfl, px, he, kk⟩ := h
    refine ⟨_, (pss_cons (ps_expr (pe_midInit T.md_PactError (by rfl) T.g_PactError (pa_cons (pv 0) (pa_cons (pe_joined (.cons pe_str (.cons (pe_fmt (pv 1)) .nil))) pa_nil))))
      (pss_one (ps_ost (pv 0) (pv 1) rfl))), ?_⟩
    refine ⟨_, rfl, _, rfl, by rw [sizeLine_eq]; decide +kernel, fmt_plain px (fun _ q => ⟨_, rfl, q⟩) fun m hm => ⟨m, rfl, line_fits (by omega) (by decide +kernel : _ = 13) (by decide), ?_⟩⟩
    refine ⟨e, a.c_NoRow, _, rfl, by show 1 ≤ 1000; decide, T.x_NoRow, he, ?_⟩
    refine ⟨_, rfl, _, rfl, e, a.c_NoRow, rfl, T.x_NoRow, T.n_NoRow_at, .inl ⟨he, fun d hd nd => ?_⟩⟩
    refine kk d _ hd nd upd_same (by rw [upd_ne nd, upd_same]) (((Keeps.refl [e] H).upd (.inr hd)).upd (.inl (by simp)))
theorem ok_NoSide_init (T : Txt K mg a) : FnOk P w K mg base CX0 6 a.f_NoSide_init a.d_NoSide_init ["self", "at"] (spB1 a.c_NoSide "at") := by
  refine T.F_NoSide_init.ok sc_NoSide_init (fun vs H Q E h => ?_) (fun cdv A outer s H vs Q E hr h => ?_)
  · obtain ⟨e, x, rfl, _⟩ := h
    rfl
  · obtain ⟨e, x, rfl, px, he, kk⟩ := h
    refine ⟨_, (pss_cons (ps_expr (pe_midInit T.md_PactError (by rfl) T.g_PactError (pa_cons (pv 0) (pa_cons (pe_joined (.cons pe_str (.cons (pe_fmt (pv 1)) .nil))) pa_nil))))
      (pss_one (ps_ost (pv 0) (pv 1) rfl))), ?_⟩
    refine ⟨_, rfl, _, rfl, by rw [sizeLine_eq]; decide +kernel, fmt_plain px (fun _ q => ⟨_, rfl, q⟩) fun m hm => ⟨m, rfl, line_fits (by omega) (by decide +kernel : _ = 33) (by decide), ?_⟩⟩
    refine ⟨e, a.c_NoSide, _, rfl, by show 1 ≤ 1000; decide, T.x_NoSide, he, ?_⟩
    refine ⟨_, rfl, _, rfl, e, a.c_NoSide, rfl, T.x_NoSide, T.n_NoSide_at, .inl ⟨he, fun d hd nd => ?_⟩⟩
    refine kk d _ hd nd upd_same (by rw [upd_ne nd, upd_same]) (((Keeps.refl [e] H).upd (.inr hd)).upd (.inl (by simp)))
theorem ok_NoThing_init (T : Txt K mg a) : FnOk P w K mg base CX0 6 a.f_NoThing_init a.d_NoThing_init ["self", "at"] (spB1 a.c_NoThing "at") := by
  refine T.F_NoThing_init.ok sc_NoThing_init (fun vs H Q E h => ?_) (fun cdv A outer s H vs Q E hr h => ?_)
  · obtain ⟨e, x, rfl, _⟩ := h
    rfl
  · obtain ⟨e, x, rfl, px, he, kk⟩ := h
    refine ⟨_, (pss_cons (ps_expr (pe_midInit T.md_PactError (by rfl) T.g_PactError (pa_cons (pv 0) (pa_cons (pe_joined (.cons pe_str (.cons (pe_fmt (pv 1)) .nil))) pa_nil))))
      (pss_one (ps_ost (pv 0) (pv 1) rfl))), ?_⟩
    refine ⟨_, rfl, _, rfl, by rw [sizeLine_eq]; decide +kernel, fmt_plain px (fun _ q => ⟨_, rfl, q⟩) fun m hm => ⟨m, rfl, line_fits (by omega) (by decide +kernel : _ = 15) (by decide), ?_⟩⟩
    refine ⟨e, a.c_NoThing, _, rfl, by show 1 ≤ 1000; decide, T.x_NoThing, he, ?_⟩
    refine ⟨_, rfl, _, rfl, e, a.c_NoThing, rfl, T.x_NoThing, T.n_NoThing_at, .inl ⟨he, fun d hd nd => ?_⟩⟩
    refine kk d _ hd nd upd_same (by rw [upd_ne nd, upd_same]) (((Keeps.refl [e] H).upd (.inr hd)).upd (.inl (by simp)))
theorem ok_NoLetter_init (T : Txt K mg a) : FnOk P w K mg base CX0 6 a.f_NoLetter_init a.d_NoLetter_init ["self", "letter"] (spB1 a.c_NoLetter "letter") := by
  refine T.F_NoLetter_init.ok sc_NoLetter_init (fun vs H Q E h => ?_) (fun cdv A outer s H vs Q E hr h => ?_)
  · obtain ⟨e, x, rfl, _⟩ := h
    rfl
  · obtain ⟨e, x, rfl, px, he, kk⟩ := h
    refine ⟨_, (pss_cons (ps_expr (pe_midInit T.md_PactError (by rfl) T.g_PactError (pa_cons (pv 0) (pa_cons (pe_joined (.cons pe_str (.cons (pe_fmt (pv 1)) .nil))) pa_nil))))
      (pss_one (ps_ost (pv 0) (pv 1) rfl))), ?_⟩
    refine ⟨_, rfl, _, rfl, by rw [sizeLine_eq]; decide +kernel, fmt_plain px (fun _ q => ⟨_, rfl, q⟩) fun m hm => ⟨m, rfl, line_fits (by omega) (by decide +kernel : _ = 23) (by decide), ?_⟩⟩
    refine ⟨e, a.c_NoLetter, _, rfl, by show 1 ≤ 1000; decide, T.x_NoLetter, he, ?_⟩
    refine ⟨_, rfl, _, rfl, e, a.c_NoLetter, rfl, T.x_NoLetter, T.n_NoLetter_letter, .inl ⟨he, fun d hd nd => ?_⟩⟩
    refine kk d _ hd nd upd_same (by rw [upd_ne nd, upd_same]) (((Keeps.refl [e] H).upd (.inr hd)).upd (.inl (by simp)))
theorem ok_NoHandle_init (T : Txt K mg a) : FnOk P w K mg base CX0 6 a.f_NoHandle_init a.d_NoHandle_init ["self", "handle"] (spBH a.c_NoHandle) := by
  refine T.F_NoHandle_init.ok sc_NoHandle_init (fun vs H Q E h => ?_) (fun cdv A outer s H vs Q E hr h => ?_)
  · obtain ⟨e, h, xs, D, R, rfl, _⟩ := h
    rfl
  · obtain ⟨e, h, xs, D, R, rfl, he, eh, hp, hl, hR, th, kk⟩ := h
    refine ⟨_, (pss_cons (ps_expr (pe_midInit T.md_PactError (by rfl) T.g_PactError (pa_cons (pv 0) (pa_cons (pe_joined (.cons pe_str (.cons (pe_fmtM hr (pv 1)) .nil))) pa_nil))))
      (pss_one (ps_ost (pv 0) (pe_call (ok_p_copied3 T) (hr.mono (by decide)) rfl T.g_p_copied T.k_p_copied T.B_p_copied .nil pass0 (pa_cons (pv 1) pa_nil)) rfl))), ?_⟩
    refine ⟨_, rfl, _, rfl, by rw [sizeLine_eq]; decide +kernel, ⟨_, rfl, h, xs, rfl, SqT.of eh, hp, hl, fun m hm => ⟨m, rfl, line_fits hm (by decide +kernel : _ = 16) (by decide), ?_⟩⟩⟩
    refine ⟨e, a.c_NoHandle, _, rfl, by show 1 ≤ 1000; decide, T.x_NoHandle, he, ?_⟩
    refine ⟨_, rfl, _, D, e :: R, rfl, fun z hz => ?_, th.offe he, fun y H1 s1 ty => ?_⟩
    · rcases List.mem_cons.mp hz with rfl | q
      · rw [he]; simp
      · exact hR z q
    refine ⟨_, rfl, e, a.c_NoHandle, rfl, T.x_NoHandle, T.n_NoHandle_handle, .inl ⟨s1 _ _ he, fun d hd nd => ?_⟩⟩
    have k1 : Keeps [e] H H1 := fun c o z _ => s1 c o z
    refine kk d y _ (s1.free hd) nd upd_same (by rw [upd_ne nd, upd_same]) (((ty.same ((Same.refl H1).upd hd)).put).on) ((k1.upd (.inr (s1.free hd))).upd (.inl (by simp)))
theorem ok_Ended_init (T : Txt K mg a) : FnOk P w K mg base CX0 6 a.f_Ended_init a.d_Ended_init ["self", "handle"] (spBH a.c_Ended) := by
  refine T.F_Ended_init.ok sc_Ended_init (fun vs H Q E h => ?_) (fun cdv A outer s H vs Q E hr h => ?_)
  · obtain ⟨e, h, xs, D, R, rfl, _⟩ := h
    rfl
  · obtain ⟨e, h, xs, D, R, rfl, he, eh, hp, hl, hR, th, kk⟩ := h
    refine ⟨_, (pss_cons (ps_expr (pe_midInit T.md_PactError (by rfl) T.g_PactError (pa_cons (pv 0) (pa_cons (pe_joined (.cons pe_str (.cons (pe_fmtM hr (pv 1)) .nil))) pa_nil))))
      (pss_one (ps_ost (pv 0) (pe_call (ok_p_copied3 T) (hr.mono (by decide)) rfl T.g_p_copied T.k_p_copied T.B_p_copied .nil pass0 (pa_cons (pv 1) pa_nil)) rfl))), ?_⟩
    refine ⟨_, rfl, _, rfl, by rw [sizeLine_eq]; decide +kernel, ⟨_, rfl, h, xs, rfl, SqT.of eh, hp, hl, fun m hm => ⟨m, rfl, line_fits hm (by decide +kernel : _ = 22) (by decide), ?_⟩⟩⟩
    refine ⟨e, a.c_Ended, _, rfl, by show 1 ≤ 1000; decide, T.x_Ended, he, ?_⟩
    refine ⟨_, rfl, _, D, e :: R, rfl, fun z hz => ?_, th.offe he, fun y H1 s1 ty => ?_⟩
    · rcases List.mem_cons.mp hz with rfl | q
      · rw [he]; simp
      · exact hR z q
    refine ⟨_, rfl, e, a.c_Ended, rfl, T.x_Ended, T.n_Ended_handle, .inl ⟨s1 _ _ he, fun d hd nd => ?_⟩⟩
    have k1 : Keeps [e] H H1 := fun c o z _ => s1 c o z
    refine kk d y _ (s1.free hd) nd upd_same (by rw [upd_ne nd, upd_same]) (((ty.same ((Same.refl H1).upd hd)).put).on) ((k1.upd (.inr (s1.free hd))).upd (.inl (by simp)))
theorem ok_NoBody_init (T : Txt K mg a) : FnOk P w K mg base CX0 6 a.f_NoBody_init a.d_NoBody_init ["self", "name", "at"] (spB2 a.c_NoBody) := by
  refine T.F_NoBody_init.ok sc_NoBody_init (fun vs H Q E h => ?_) (fun cdv A outer s H vs Q E hr h => ?_)
  · obtain ⟨e, x, y, rfl, _⟩ := h
    rfl
  · obtain ⟨e, x, y, rfl, px, py, he, kk⟩ := h
    refine ⟨_, (pss_cons (ps_expr (pe_midInit T.md_PactError (by rfl) T.g_PactError (pa_cons (pv 0) (pa_cons (pe_joined (.cons pe_str (.cons (pe_fmt (pv 1)) (.cons pe_str (.cons (pe_fmt (pv 2)) .nil))))) pa_nil))))
      (pss_cons (ps_ost (pv 0) (pv 1) rfl)
      (pss_one (ps_ost (pv 0) (pv 2) rfl)))), ?_⟩
    refine ⟨_, rfl, _, rfl, by rw [sizeLine_eq]; decide +kernel, fmt_plain px (fun _ q => ⟨_, rfl, q⟩) fun m hm => ⟨m, rfl, line_fits (by omega) (by decide +kernel : _ = 11) (by decide), ?_⟩⟩
    refine ⟨_, rfl, ?_, fmt_plain py (fun _ q => ⟨_, rfl, q⟩) fun m2 hm2 => ⟨m2, rfl, ?_, ?_⟩⟩
    · rw [strLen_append, strLen_append, strLen_append, show (Str.ofString "no body of ").length = 11 by decide +kernel, show (Str.ofString ": wrong at ").length = 11 by decide +kernel, show Str.empty.length = 0 by decide +kernel, sizeLine_eq]
      omega
    · rw [strLen_append, strLen_append, strLen_append, strLen_append, show (Str.ofString "no body of ").length = 11 by decide +kernel, show (Str.ofString ": wrong at ").length = 11 by decide +kernel, show Str.empty.length = 0 by decide +kernel, sizeLine_eq]
      omega
    refine ⟨e, a.c_NoBody, _, rfl, by show 1 ≤ 1000; decide, T.x_NoBody, he, ?_⟩
    refine ⟨_, rfl, _, rfl, e, a.c_NoBody, rfl, T.x_NoBody, T.n_NoBody_name, .inl ⟨he, fun d hd nd => ?_⟩⟩
    refine ⟨_, rfl, _, rfl, e, a.c_NoBody, rfl, T.x_NoBody, T.n_NoBody_at, .inr ⟨d, _, upd_same, by rw [upd_ne nd, upd_same], by show 1 ≤ 900; decide, ?_⟩⟩
    refine kk d _ hd nd (by rw [upd_ne nd.symm, upd_same]) upd_same ((((Keeps.refl [e] H).upd (.inr hd)).upd (.inl (by simp))).upd (.inr hd))
theorem ok_Unlet_init (T : Txt K mg a) : FnOk P w K mg base CX0 6 a.f_Unlet_init a.d_Unlet_init ["self", "side", "lines"] (spBU a.c_Unlet) := by
  refine T.F_Unlet_init.ok sc_Unlet_init (fun vs H Q E h => ?_) (fun cdv A outer s H vs Q E hr h => ?_)
  · obtain ⟨e, x, y, D, R, rfl, _⟩ := h
    rfl
  · obtain ⟨e, x, y, D, R, rfl, px, he, hR, th, kk⟩ := h
    refine ⟨_, (pss_cons (ps_expr (pe_midInit T.md_PactError (by rfl) T.g_PactError (pa_cons (pv 0) (pa_cons (pe_joined (.cons pe_str (.cons (pe_fmt (pv 1)) .nil))) pa_nil))))
      (pss_cons (ps_ost (pv 0) (pv 1) rfl)
      (pss_one (ps_ost (pv 0) (pe_call (ok_p_copied3 T) (hr.mono (by decide)) rfl T.g_p_copied T.k_p_copied T.B_p_copied .nil pass0 (pa_cons (pv 2) pa_nil)) rfl)))), ?_⟩
    refine ⟨_, rfl, _, rfl, by rw [sizeLine_eq]; decide +kernel, fmt_plain px (fun _ q => ⟨_, rfl, q⟩) fun m hm => ⟨m, rfl, line_fits (by omega) (by decide +kernel : _ = 18) (by decide), ?_⟩⟩
    refine ⟨e, a.c_Unlet, _, rfl, by show 1 ≤ 1000; decide, T.x_Unlet, he, ?_⟩
    refine ⟨_, rfl, _, rfl, e, a.c_Unlet, rfl, T.x_Unlet, T.n_Unlet_side, .inl ⟨he, fun d hd nd => ?_⟩⟩
    have e1 : (upd (upd H d (exd d [("side", x)])) e (exo e a.c_Unlet (some d))) e = some (exo e a.c_Unlet (some d)) := upd_same
    have e2 : (upd (upd H d (exd d [("side", x)])) e (exo e a.c_Unlet (some d))) d = some (exd d [("side", x)]) := by rw [upd_ne nd, upd_same]
    have t1 : Th (upd (upd H d (exd d [("side", x)])) e (exo e a.c_Unlet (some d))) (e :: d :: R) 3 y D := by
      have t0 := (((th.off hd).same ((Same.refl H).upd (o := exd d [("side", x)]) hd)).offe (x := e) (C := a.c_Unlet) (d := none) (by rw [upd_ne nd.symm]; exact he))
      exact t0.put
    have k1 : Keeps [e] H (upd (upd H d (exd d [("side", x)])) e (exo e a.c_Unlet (some d))) := ((Keeps.refl [e] H).upd (.inr hd)).upd (.inl (by simp))
    generalize (upd (upd H d (exd d [("side", x)])) e (exo e a.c_Unlet (some d))) = H1 at e1 e2 t1 k1
    refine ⟨_, rfl, _, D, e :: d :: R, rfl, fun z hz => ?_, t1, fun y' H2 s2 ty => ?_⟩
    · simp only [List.mem_cons] at hz
      rcases hz with rfl | rfl | q
      · rw [e1]; simp
      · rw [e2]; simp
      · by_cases hze : z = e
        · rw [hze, e1]; simp
        · cases ez : H z with
          | none => exact absurd ez (hR z q)
          | some o => rw [k1 z o ez (by simp [hze])]; simp
    refine ⟨_, rfl, e, a.c_Unlet, rfl, T.x_Unlet, T.n_Unlet_lines, .inr ⟨d, _, s2 _ _ e1, s2 _ _ e2, by show 1 ≤ 900; decide, ?_⟩⟩
    have ty1 : Th H2 (d :: R) 3 y' D := ty.on
    have k2 : Keeps [e] H H2 := fun c o z n => s2 _ _ (k1 c o z n)
    refine kk d y' _ hd nd (by rw [upd_ne nd.symm]; exact s2 _ _ e1) upd_same (ty1.put.on) (k2.upd (.inr hd))

/-! ### refusals as values -/
theorem iteK {k : Nat} {n : Int} {A B : Prop} (h1 : (k : Int) = n → A) (h2 : (k : Int) ≠ n → B) : if decide (V.int (k : Int) = V.int n) = true then A else B := iteD (fun h => h1 (by injection h)) (fun h => h2 (fun e => h (by rw [e])))
def clsK (a : Ad) : Nat → Addr
  | 0 => a.c_NoWord
  | 1 => a.c_NoPact
  | 2 => a.c_NoText
  | 3 => a.c_NoHelper
  | 4 => a.c_NoHandle
  | 5 => a.c_Ended
  | 6 => a.c_NoRow
  | 7 => a.c_NoSide
  | 8 => a.c_NoThing
  | 9 => a.c_NoLetter
  | 10 => a.c_NoBody
  | 11 => a.c_Unlet
  | 12 => a.c_Closed
  | 13 => a.c_TooLong
  | 14 => a.c_TooDeep
  | 15 => a.c_NothingDone
  | _ => a.c_NoLines
/-- what a refusal of the kind bears -/
def borne (k : Nat) (D1 D2 : PyData) : List (Str × PyData) :=
  match k with
  | 0 => [("word", D1)]
  | 3 => [("name", D1)]
  | 4 => [("handle", D1)]
  | 5 => [("handle", D1)]
  | 9 => [("letter", D1)]
  | 10 => [("name", D1), ("at", D2)]
  | 11 => [("side", D1), ("lines", D2)]
  | _ => [("at", D1)]
theorem plv_th {H H' : Hp} {R R' : List Addr} {v : V} {D : PyData} {n m : Nat} (p : PlV v) (h : Th H R n v D) : Th H' R' m v D := by
  refine Th.of0 m ?_
  cases n with
  | zero => exact h
  | succ n =>
    rcases h with h | ⟨b, xs, ds, e, _⟩
    · exact h
    · subst e; cases p
/-- what is handed in for the kind -/
structure AD (H : Hp) (R : List Addr) (k : Nat) (one two : V) (D1 D2 : PyData) : Prop where
  han : k = 4 ∨ k = 5 → ∃ (h : Addr) (xs : List V), one = .ref h ∧ H h = some (.tup xs) ∧ (∀ y ∈ xs, PlV y) ∧ xs.length ≤ 20
  pl1 : k ≠ 4 → k ≠ 5 → PlV one
  th1 : Th H R 3 one D1
  pl2 : k ≠ 11 → PlV two
  th2 : Th H R 3 two D2
/-- a refusal of the kind at e, with its fields -/
def EvB (a : Ad) (H : Hp) (R : List Addr) (k : Nat) (e : Addr) (D1 D2 : PyData) : Prop := ∃ (d : Addr) (fs : List (Str × V)), H e = some (exo e (clsK a k) (some d)) ∧ H d = some (exd d fs) ∧
  ∀ (f : Str) (D : PyData), (f, D) ∈ borne k D1 D2 → ∃ v, fs.lookup f = some v ∧ Th H R 3 v D
theorem new_same {H H' : Hp} {x : Addr} {o : HO} (hx : H x = none) (k : Keeps [x] (upd H x o) H') : Same H H' := fun c u e => by
  have n1 : c ≠ x := ne_of_none e hx
  exact k c u (by rw [upd_ne n1]; exact e) (by simp [n1])
def spText (a : Ad) : Sp := fun vs H Q _ => ∃ (k : Nat) (t : Str), vs = [.int k, .str t] ∧ 12 ≤ k ∧ k < 17 ∧ ∀ (z : Addr) (H' : Hp), H z = none → H' z = some (ExO (.ref (clsK a k)) z) → Same H H' → Q (.ref z) H'
theorem ok_of_a_text (T : Txt K mg a) : FnOk P w K mg base CX0 1 a.f_of_a_text a.d_of_a_text ["_law_kind", "_law_one"] (spText a) := by
  refine T.F_of_a_text.ok sc_of_a_text (fun vs H Q E h => ?_) (fun cdv A outer s H vs Q E hr h => ?_)
  · obtain ⟨k, t, rfl, _⟩ := h
    rfl
  · obtain ⟨k, t, rfl, k0, k1, kk⟩ := h
    refine ⟨_, (pss_cons (ps_if (pt_cmpR op_eq (pv 0) pe_int (nomark _)) (pss_one (ps_ret (pe_exc1 PySem.F.excBase_ValueError T.ex_Closed T.g_Closed T.ke_Closed (by rfl) (pv 1)))) pss_nil)
      (pss_cons (ps_if (pt_cmpR op_eq (pv 0) pe_int (nomark _)) (pss_one (ps_ret (pe_exc1 PySem.F.excBase_ValueError T.ex_TooLong T.g_TooLong T.ke_TooLong (by rfl) (pv 1)))) pss_nil)
      (pss_cons (ps_if (pt_cmpR op_eq (pv 0) pe_int (nomark _)) (pss_one (ps_ret (pe_exc1 PySem.F.excBase_ValueError T.ex_TooDeep T.g_TooDeep T.ke_TooDeep (by rfl) (pv 1)))) pss_nil)
      (pss_cons (ps_if (pt_cmpR op_eq (pv 0) pe_int (nomark _)) (pss_one (ps_ret (pe_exc1 PySem.F.excBase_ValueError T.ex_NothingDone T.g_NothingDone T.ke_NothingDone (by rfl) (pv 1)))) pss_nil)
      (pss_one (ps_ret (pe_exc1 PySem.F.excBase_ValueError T.ex_NoLines T.g_NoLines T.ke_NoLines (by rfl) (pv 1)))))))), ?_⟩
    walk_at "rd"
    refine iteK (fun hc => ?_) (fun hc => ?_)
    · obtain rfl : k = 12 := by omega
      exact ⟨_, rfl, fun z hz => kk z _ hz upd_same ((Same.refl H).upd hz)⟩
    walk_at "rd"
    refine iteK (fun hc => ?_) (fun hc => ?_)
    · obtain rfl : k = 13 := by omega
      exact ⟨_, rfl, fun z hz => kk z _ hz upd_same ((Same.refl H).upd hz)⟩
    walk_at "rd"
    refine iteK (fun hc => ?_) (fun hc => ?_)
    · obtain rfl : k = 14 := by omega
      exact ⟨_, rfl, fun z hz => kk z _ hz upd_same ((Same.refl H).upd hz)⟩
    walk_at "rd"
    refine iteK (fun hc => ?_) (fun hc => ?_)
    · obtain rfl : k = 15 := by omega
      exact ⟨_, rfl, fun z hz => kk z _ hz upd_same ((Same.refl H).upd hz)⟩
    obtain rfl : k = 16 := by omega
    exact ⟨_, rfl, fun z hz => kk z _ hz upd_same ((Same.refl H).upd hz)⟩
def spMade (a : Ad) : Sp := fun vs H Q _ => ∃ (k : Nat) (one two : V) (D1 D2 : PyData) (R : List Addr), vs = [.int k, one, two] ∧ k < 12 ∧ (∀ z, z ∈ R → H z ≠ none) ∧ AD H R k one two D1 D2 ∧
  ∀ (e : Addr) (H' : Hp), H e = none → EvB a H' R k e D1 D2 → Same H H' → Q (.ref e) H'
theorem there_put {H : Hp} {R : List Addr} {z : Addr} {o : HO} (h : ∀ x, x ∈ R → H x ≠ none) : ∀ x, x ∈ R → upd H z o x ≠ none := fun x hx => by
  by_cases e : x = z
  · subst e; rw [upd_same]; simp
  · rw [upd_ne e]; exact h x hx
theorem lk_side {x y : V} : List.lookup ("side" : Str) [(("lines" : Str), y), (("side" : Str), x)] = some x := by
  rw [List.lookup_cons, show (("side" : Str) == ("lines" : Str)) = false by decide +kernel]
  rfl
theorem lk_name {x y : V} : List.lookup ("name" : Str) [(("at" : Str), y), (("name" : Str), x)] = some x := by
  rw [List.lookup_cons, show (("name" : Str) == ("at" : Str)) = false by decide +kernel]
  rfl
theorem ok_made (T : Txt K mg a) : FnOk P w K mg base CX0 8 a.f_made a.d_made ["_law_kind", "_law_one", "_law_two"] (spMade a) := by
  refine T.F_made.ok sc_made (fun vs H Q E h => ?_) (fun cdv A outer s H vs Q E hr h => ?_)
  · obtain ⟨k, one, two, D1, D2, R, rfl, _⟩ := h
    rfl
  · obtain ⟨k, one, two, D1, D2, R, rfl, k1, hR, ad, kk⟩ := h
    refine ⟨_, (pss_cons (ps_if (pt_cmpR op_eq (pv 0) pe_int (nomark _)) (pss_one (ps_ret (pe_oexV T.x_NoWord T.xi_NoWord T.xt_NoWord (ok_NoWord_init T) (hr.mono (by decide)) T.B_NoWord_init pass0 (by rfl) T.g_NoWord (pa_cons (pv 1) pa_nil)))) pss_nil)
      (pss_cons (ps_if (pt_cmpR op_eq (pv 0) pe_int (nomark _)) (pss_one (ps_ret (pe_oexV T.x_NoPact T.xi_NoPact T.xt_NoPact (ok_NoPact_init T) (hr.mono (by decide)) T.B_NoPact_init pass0 (by rfl) T.g_NoPact (pa_cons (pv 1) pa_nil)))) pss_nil)
      (pss_cons (ps_if (pt_cmpR op_eq (pv 0) pe_int (nomark _)) (pss_one (ps_ret (pe_oexV T.x_NoText T.xi_NoText T.xt_NoText (ok_NoText_init T) (hr.mono (by decide)) T.B_NoText_init pass0 (by rfl) T.g_NoText (pa_cons (pv 1) pa_nil)))) pss_nil)
      (pss_cons (ps_if (pt_cmpR op_eq (pv 0) pe_int (nomark _)) (pss_one (ps_ret (pe_oexV T.x_NoHelper T.xi_NoHelper T.xt_NoHelper (ok_NoHelper_init T) (hr.mono (by decide)) T.B_NoHelper_init pass0 (by rfl) T.g_NoHelper (pa_cons (pv 1) pa_nil)))) pss_nil)
      (pss_cons (ps_if (pt_cmpR op_eq (pv 0) pe_int (nomark _)) (pss_one (ps_ret (pe_oexV T.x_NoHandle T.xi_NoHandle T.xt_NoHandle (ok_NoHandle_init T) (hr.mono (by decide)) T.B_NoHandle_init pass0 (by rfl) T.g_NoHandle (pa_cons (pv 1) pa_nil)))) pss_nil)
      (pss_cons (ps_if (pt_cmpR op_eq (pv 0) pe_int (nomark _)) (pss_one (ps_ret (pe_oexV T.x_Ended T.xi_Ended T.xt_Ended (ok_Ended_init T) (hr.mono (by decide)) T.B_Ended_init pass0 (by rfl) T.g_Ended (pa_cons (pv 1) pa_nil)))) pss_nil)
      (pss_cons (ps_if (pt_cmpR op_eq (pv 0) pe_int (nomark _)) (pss_one (ps_ret (pe_oexV T.x_NoRow T.xi_NoRow T.xt_NoRow (ok_NoRow_init T) (hr.mono (by decide)) T.B_NoRow_init pass0 (by rfl) T.g_NoRow (pa_cons (pv 1) pa_nil)))) pss_nil)
      (pss_cons (ps_if (pt_cmpR op_eq (pv 0) pe_int (nomark _)) (pss_one (ps_ret (pe_oexV T.x_NoSide T.xi_NoSide T.xt_NoSide (ok_NoSide_init T) (hr.mono (by decide)) T.B_NoSide_init pass0 (by rfl) T.g_NoSide (pa_cons (pv 1) pa_nil)))) pss_nil)
      (pss_cons (ps_if (pt_cmpR op_eq (pv 0) pe_int (nomark _)) (pss_one (ps_ret (pe_oexV T.x_NoThing T.xi_NoThing T.xt_NoThing (ok_NoThing_init T) (hr.mono (by decide)) T.B_NoThing_init pass0 (by rfl) T.g_NoThing (pa_cons (pv 1) pa_nil)))) pss_nil)
      (pss_cons (ps_if (pt_cmpR op_eq (pv 0) pe_int (nomark _)) (pss_one (ps_ret (pe_oexV T.x_NoLetter T.xi_NoLetter T.xt_NoLetter (ok_NoLetter_init T) (hr.mono (by decide)) T.B_NoLetter_init pass0 (by rfl) T.g_NoLetter (pa_cons (pv 1) pa_nil)))) pss_nil)
      (pss_cons (ps_if (pt_cmpR op_eq (pv 0) pe_int (nomark _)) (pss_one (ps_ret (pe_oexV T.x_NoBody T.xi_NoBody T.xt_NoBody (ok_NoBody_init T) (hr.mono (by decide)) T.B_NoBody_init pass0 (by rfl) T.g_NoBody (pa_cons (pv 1) (pa_cons (pv 2) pa_nil))))) pss_nil)
      (pss_one (ps_ret (pe_oexV T.x_Unlet T.xi_Unlet T.xt_Unlet (ok_Unlet_init T) (hr.mono (by decide)) T.B_Unlet_init pass0 (by rfl) T.g_Unlet (pa_cons (pv 1) (pa_cons (pv 2) pa_nil)))))))))))))))), ?_⟩
    walk_at "rd"
    refine iteK (fun hc => ?_) (fun hc => ?_)
    · obtain rfl : k = 0 := by omega
      exact ⟨_, rfl, by show _ ≤ 1000; simp, fun z hz => ⟨z, one, rfl, ad.pl1 (by decide) (by decide), upd_same, fun d H' hd nd e1 e2 kp => ⟨rfl, kk z H' hz ⟨d, _, e1, e2, fun f D m => by
        simp only [borne, List.mem_cons, List.not_mem_nil, or_false, Prod.mk.injEq] at m
        obtain ⟨rfl, rfl⟩ := m
        exact ⟨one, rfl, plv_th (ad.pl1 (by decide) (by decide)) ad.th1⟩⟩ (new_same hz kp)⟩⟩⟩
    walk_at "rd"
    refine iteK (fun hc => ?_) (fun hc => ?_)
    · obtain rfl : k = 1 := by omega
      exact ⟨_, rfl, by show _ ≤ 1000; simp, fun z hz => ⟨z, one, rfl, ad.pl1 (by decide) (by decide), upd_same, fun d H' hd nd e1 e2 kp => ⟨rfl, kk z H' hz ⟨d, _, e1, e2, fun f D m => by
        simp only [borne, List.mem_cons, List.not_mem_nil, or_false, Prod.mk.injEq] at m
        obtain ⟨rfl, rfl⟩ := m
        exact ⟨one, rfl, plv_th (ad.pl1 (by decide) (by decide)) ad.th1⟩⟩ (new_same hz kp)⟩⟩⟩
    walk_at "rd"
    refine iteK (fun hc => ?_) (fun hc => ?_)
    · obtain rfl : k = 2 := by omega
      exact ⟨_, rfl, by show _ ≤ 1000; simp, fun z hz => ⟨z, one, rfl, ad.pl1 (by decide) (by decide), upd_same, fun d H' hd nd e1 e2 kp => ⟨rfl, kk z H' hz ⟨d, _, e1, e2, fun f D m => by
        simp only [borne, List.mem_cons, List.not_mem_nil, or_false, Prod.mk.injEq] at m
        obtain ⟨rfl, rfl⟩ := m
        exact ⟨one, rfl, plv_th (ad.pl1 (by decide) (by decide)) ad.th1⟩⟩ (new_same hz kp)⟩⟩⟩
    walk_at "rd"
    refine iteK (fun hc => ?_) (fun hc => ?_)
    · obtain rfl : k = 3 := by omega
      exact ⟨_, rfl, by show _ ≤ 1000; simp, fun z hz => ⟨z, one, rfl, ad.pl1 (by decide) (by decide), upd_same, fun d H' hd nd e1 e2 kp => ⟨rfl, kk z H' hz ⟨d, _, e1, e2, fun f D m => by
        simp only [borne, List.mem_cons, List.not_mem_nil, or_false, Prod.mk.injEq] at m
        obtain ⟨rfl, rfl⟩ := m
        exact ⟨one, rfl, plv_th (ad.pl1 (by decide) (by decide)) ad.th1⟩⟩ (new_same hz kp)⟩⟩⟩
    walk_at "rd"
    refine iteK (fun hc => ?_) (fun hc => ?_)
    · obtain rfl : k = 4 := by omega
      obtain ⟨h, xs, rfl, eh, hp, hl⟩ := ad.han (by decide)
      exact ⟨_, rfl, by show _ ≤ 1000; simp, fun z hz => ⟨z, h, xs, D1, R, rfl, upd_same, (upd_ne (ne_of_none eh hz)).trans eh, hp, hl, there_put hR, ad.th1.same ((Same.refl H).upd hz), fun d y H' hd nd e1 e2 ty kp => ⟨rfl, kk z H' hz ⟨d, _, e1, e2, fun f D m => by
        simp only [borne, List.mem_cons, List.not_mem_nil, or_false, Prod.mk.injEq] at m
        obtain ⟨rfl, rfl⟩ := m
        exact ⟨y, rfl, ty⟩⟩ (new_same hz kp)⟩⟩⟩
    walk_at "rd"
    refine iteK (fun hc => ?_) (fun hc => ?_)
    · obtain rfl : k = 5 := by omega
      obtain ⟨h, xs, rfl, eh, hp, hl⟩ := ad.han (by decide)
      exact ⟨_, rfl, by show _ ≤ 1000; simp, fun z hz => ⟨z, h, xs, D1, R, rfl, upd_same, (upd_ne (ne_of_none eh hz)).trans eh, hp, hl, there_put hR, ad.th1.same ((Same.refl H).upd hz), fun d y H' hd nd e1 e2 ty kp => ⟨rfl, kk z H' hz ⟨d, _, e1, e2, fun f D m => by
        simp only [borne, List.mem_cons, List.not_mem_nil, or_false, Prod.mk.injEq] at m
        obtain ⟨rfl, rfl⟩ := m
        exact ⟨y, rfl, ty⟩⟩ (new_same hz kp)⟩⟩⟩
    walk_at "rd"
    refine iteK (fun hc => ?_) (fun hc => ?_)
    · obtain rfl : k = 6 := by omega
      exact ⟨_, rfl, by show _ ≤ 1000; simp, fun z hz => ⟨z, one, rfl, ad.pl1 (by decide) (by decide), upd_same, fun d H' hd nd e1 e2 kp => ⟨rfl, kk z H' hz ⟨d, _, e1, e2, fun f D m => by
        simp only [borne, List.mem_cons, List.not_mem_nil, or_false, Prod.mk.injEq] at m
        obtain ⟨rfl, rfl⟩ := m
        exact ⟨one, rfl, plv_th (ad.pl1 (by decide) (by decide)) ad.th1⟩⟩ (new_same hz kp)⟩⟩⟩
    walk_at "rd"
    refine iteK (fun hc => ?_) (fun hc => ?_)
    · obtain rfl : k = 7 := by omega
      exact ⟨_, rfl, by show _ ≤ 1000; simp, fun z hz => ⟨z, one, rfl, ad.pl1 (by decide) (by decide), upd_same, fun d H' hd nd e1 e2 kp => ⟨rfl, kk z H' hz ⟨d, _, e1, e2, fun f D m => by
        simp only [borne, List.mem_cons, List.not_mem_nil, or_false, Prod.mk.injEq] at m
        obtain ⟨rfl, rfl⟩ := m
        exact ⟨one, rfl, plv_th (ad.pl1 (by decide) (by decide)) ad.th1⟩⟩ (new_same hz kp)⟩⟩⟩
    walk_at "rd"
    refine iteK (fun hc => ?_) (fun hc => ?_)
    · obtain rfl : k = 8 := by omega
      exact ⟨_, rfl, by show _ ≤ 1000; simp, fun z hz => ⟨z, one, rfl, ad.pl1 (by decide) (by decide), upd_same, fun d H' hd nd e1 e2 kp => ⟨rfl, kk z H' hz ⟨d, _, e1, e2, fun f D m => by
        simp only [borne, List.mem_cons, List.not_mem_nil, or_false, Prod.mk.injEq] at m
        obtain ⟨rfl, rfl⟩ := m
        exact ⟨one, rfl, plv_th (ad.pl1 (by decide) (by decide)) ad.th1⟩⟩ (new_same hz kp)⟩⟩⟩
    walk_at "rd"
    refine iteK (fun hc => ?_) (fun hc => ?_)
    · obtain rfl : k = 9 := by omega
      exact ⟨_, rfl, by show _ ≤ 1000; simp, fun z hz => ⟨z, one, rfl, ad.pl1 (by decide) (by decide), upd_same, fun d H' hd nd e1 e2 kp => ⟨rfl, kk z H' hz ⟨d, _, e1, e2, fun f D m => by
        simp only [borne, List.mem_cons, List.not_mem_nil, or_false, Prod.mk.injEq] at m
        obtain ⟨rfl, rfl⟩ := m
        exact ⟨one, rfl, plv_th (ad.pl1 (by decide) (by decide)) ad.th1⟩⟩ (new_same hz kp)⟩⟩⟩
    walk_at "rd"
    refine iteK (fun hc => ?_) (fun hc => ?_)
    · obtain rfl : k = 10 := by omega
      exact ⟨_, rfl, _, rfl, by show _ ≤ 1000; simp, fun z hz => ⟨z, one, two, rfl, ad.pl1 (by decide) (by decide), ad.pl2 (by decide), upd_same, fun d H' hd nd e1 e2 kp => ⟨rfl, kk z H' hz ⟨d, _, e1, e2, fun f D m => by
        simp only [borne, List.mem_cons, List.not_mem_nil, or_false, Prod.mk.injEq] at m
        rcases m with ⟨rfl, rfl⟩ | ⟨rfl, rfl⟩
        · exact ⟨one, lk_name, plv_th (ad.pl1 (by decide) (by decide)) ad.th1⟩
        · exact ⟨two, rfl, plv_th (ad.pl2 (by decide)) ad.th2⟩⟩ (new_same hz kp)⟩⟩⟩
    obtain rfl : k = 11 := by omega
    exact ⟨_, rfl, _, rfl, by show _ ≤ 1000; simp, fun z hz => ⟨z, one, two, D2, R, rfl, ad.pl1 (by decide) (by decide), upd_same, there_put hR, ad.th2.same ((Same.refl H).upd hz), fun d y H' hd nd e1 e2 ty kp => ⟨rfl, kk z H' hz ⟨d, _, e1, e2, fun f D m => by
        simp only [borne, List.mem_cons, List.not_mem_nil, or_false, Prod.mk.injEq] at m
        rcases m with ⟨rfl, rfl⟩ | ⟨rfl, rfl⟩
        · exact ⟨one, lk_side, plv_th (ad.pl1 (by decide) (by decide)) ad.th1⟩
        · exact ⟨y, rfl, ty⟩⟩ (new_same hz kp)⟩⟩⟩
theorem ok_named (T : Txt K mg a) : FnOk P w K mg base CX0 8 a.f_named a.d_named ["_law_kind", "_law_one", "_law_two"] (spMade a) := by
  refine T.F_named.ok sc_named (fun vs H Q E h => ?_) (fun cdv A outer s H vs Q E hr h => ?_)
  · obtain ⟨k, one, two, D1, D2, R, rfl, _⟩ := h
    rfl
  · obtain ⟨k, one, two, D1, D2, R, rfl, k1, hR, ad, kk⟩ := h
    refine ⟨_, (pss_cons (ps_if (pt_cmpR op_eq (pv 0) pe_int (nomark _)) (pss_one (ps_ret (pe_oexVK (ks := ["word"]) T.x_NoWord T.xi_NoWord T.xt_NoWord (ok_NoWord_init T) (hr.mono (by decide)) T.KN_NoWord_init_1.kbn pass0 (by rfl) T.g_NoWord (pk_cons (pv 1) pk_nil)))) pss_nil)
      (pss_cons (ps_if (pt_cmpR op_eq (pv 0) pe_int (nomark _)) (pss_one (ps_ret (pe_oexVK (ks := ["at"]) T.x_NoPact T.xi_NoPact T.xt_NoPact (ok_NoPact_init T) (hr.mono (by decide)) T.KN_NoPact_init_1.kbn pass0 (by rfl) T.g_NoPact (pk_cons (pv 1) pk_nil)))) pss_nil)
      (pss_cons (ps_if (pt_cmpR op_eq (pv 0) pe_int (nomark _)) (pss_one (ps_ret (pe_oexVK (ks := ["at"]) T.x_NoText T.xi_NoText T.xt_NoText (ok_NoText_init T) (hr.mono (by decide)) T.KN_NoText_init_1.kbn pass0 (by rfl) T.g_NoText (pk_cons (pv 1) pk_nil)))) pss_nil)
      (pss_cons (ps_if (pt_cmpR op_eq (pv 0) pe_int (nomark _)) (pss_one (ps_ret (pe_oexVK (ks := ["name"]) T.x_NoHelper T.xi_NoHelper T.xt_NoHelper (ok_NoHelper_init T) (hr.mono (by decide)) T.KN_NoHelper_init_1.kbn pass0 (by rfl) T.g_NoHelper (pk_cons (pv 1) pk_nil)))) pss_nil)
      (pss_cons (ps_if (pt_cmpR op_eq (pv 0) pe_int (nomark _)) (pss_one (ps_ret (pe_oexVK (ks := ["handle"]) T.x_NoHandle T.xi_NoHandle T.xt_NoHandle (ok_NoHandle_init T) (hr.mono (by decide)) T.KN_NoHandle_init_1.kbn pass0 (by rfl) T.g_NoHandle (pk_cons (pv 1) pk_nil)))) pss_nil)
      (pss_cons (ps_if (pt_cmpR op_eq (pv 0) pe_int (nomark _)) (pss_one (ps_ret (pe_oexVK (ks := ["handle"]) T.x_Ended T.xi_Ended T.xt_Ended (ok_Ended_init T) (hr.mono (by decide)) T.KN_Ended_init_1.kbn pass0 (by rfl) T.g_Ended (pk_cons (pv 1) pk_nil)))) pss_nil)
      (pss_cons (ps_if (pt_cmpR op_eq (pv 0) pe_int (nomark _)) (pss_one (ps_ret (pe_oexVK (ks := ["at"]) T.x_NoRow T.xi_NoRow T.xt_NoRow (ok_NoRow_init T) (hr.mono (by decide)) T.KN_NoRow_init_1.kbn pass0 (by rfl) T.g_NoRow (pk_cons (pv 1) pk_nil)))) pss_nil)
      (pss_cons (ps_if (pt_cmpR op_eq (pv 0) pe_int (nomark _)) (pss_one (ps_ret (pe_oexVK (ks := ["at"]) T.x_NoSide T.xi_NoSide T.xt_NoSide (ok_NoSide_init T) (hr.mono (by decide)) T.KN_NoSide_init_1.kbn pass0 (by rfl) T.g_NoSide (pk_cons (pv 1) pk_nil)))) pss_nil)
      (pss_cons (ps_if (pt_cmpR op_eq (pv 0) pe_int (nomark _)) (pss_one (ps_ret (pe_oexVK (ks := ["at"]) T.x_NoThing T.xi_NoThing T.xt_NoThing (ok_NoThing_init T) (hr.mono (by decide)) T.KN_NoThing_init_1.kbn pass0 (by rfl) T.g_NoThing (pk_cons (pv 1) pk_nil)))) pss_nil)
      (pss_cons (ps_if (pt_cmpR op_eq (pv 0) pe_int (nomark _)) (pss_one (ps_ret (pe_oexVK (ks := ["letter"]) T.x_NoLetter T.xi_NoLetter T.xt_NoLetter (ok_NoLetter_init T) (hr.mono (by decide)) T.KN_NoLetter_init_1.kbn pass0 (by rfl) T.g_NoLetter (pk_cons (pv 1) pk_nil)))) pss_nil)
      (pss_cons (ps_if (pt_cmpR op_eq (pv 0) pe_int (nomark _)) (pss_one (ps_ret (pe_oexVK (ks := ["at", "name"]) T.x_NoBody T.xi_NoBody T.xt_NoBody (ok_NoBody_init T) (hr.mono (by decide)) T.KR_NoBody_init pass0 (by rfl) T.g_NoBody (pk_cons (pv 2) (pk_cons (pv 1) pk_nil))))) pss_nil)
      (pss_one (ps_ret (pe_oexVK (ks := ["lines", "side"]) T.x_Unlet T.xi_Unlet T.xt_Unlet (ok_Unlet_init T) (hr.mono (by decide)) T.KR_Unlet_init pass0 (by rfl) T.g_Unlet (pk_cons (pv 2) (pk_cons (pv 1) pk_nil)))))))))))))))), ?_⟩
    walk_at "rd"
    refine iteK (fun hc => ?_) (fun hc => ?_)
    · obtain rfl : k = 0 := by omega
      exact ⟨_, rfl, rfl, fun z hz => ⟨z, one, rfl, ad.pl1 (by decide) (by decide), upd_same, fun d H' hd nd e1 e2 kp => ⟨rfl, kk z H' hz ⟨d, _, e1, e2, fun f D m => by
        simp only [borne, List.mem_cons, List.not_mem_nil, or_false, Prod.mk.injEq] at m
        obtain ⟨rfl, rfl⟩ := m
        exact ⟨one, rfl, plv_th (ad.pl1 (by decide) (by decide)) ad.th1⟩⟩ (new_same hz kp)⟩⟩⟩
    walk_at "rd"
    refine iteK (fun hc => ?_) (fun hc => ?_)
    · obtain rfl : k = 1 := by omega
      exact ⟨_, rfl, rfl, fun z hz => ⟨z, one, rfl, ad.pl1 (by decide) (by decide), upd_same, fun d H' hd nd e1 e2 kp => ⟨rfl, kk z H' hz ⟨d, _, e1, e2, fun f D m => by
        simp only [borne, List.mem_cons, List.not_mem_nil, or_false, Prod.mk.injEq] at m
        obtain ⟨rfl, rfl⟩ := m
        exact ⟨one, rfl, plv_th (ad.pl1 (by decide) (by decide)) ad.th1⟩⟩ (new_same hz kp)⟩⟩⟩
    walk_at "rd"
    refine iteK (fun hc => ?_) (fun hc => ?_)
    · obtain rfl : k = 2 := by omega
      exact ⟨_, rfl, rfl, fun z hz => ⟨z, one, rfl, ad.pl1 (by decide) (by decide), upd_same, fun d H' hd nd e1 e2 kp => ⟨rfl, kk z H' hz ⟨d, _, e1, e2, fun f D m => by
        simp only [borne, List.mem_cons, List.not_mem_nil, or_false, Prod.mk.injEq] at m
        obtain ⟨rfl, rfl⟩ := m
        exact ⟨one, rfl, plv_th (ad.pl1 (by decide) (by decide)) ad.th1⟩⟩ (new_same hz kp)⟩⟩⟩
    walk_at "rd"
    refine iteK (fun hc => ?_) (fun hc => ?_)
    · obtain rfl : k = 3 := by omega
      exact ⟨_, rfl, rfl, fun z hz => ⟨z, one, rfl, ad.pl1 (by decide) (by decide), upd_same, fun d H' hd nd e1 e2 kp => ⟨rfl, kk z H' hz ⟨d, _, e1, e2, fun f D m => by
        simp only [borne, List.mem_cons, List.not_mem_nil, or_false, Prod.mk.injEq] at m
        obtain ⟨rfl, rfl⟩ := m
        exact ⟨one, rfl, plv_th (ad.pl1 (by decide) (by decide)) ad.th1⟩⟩ (new_same hz kp)⟩⟩⟩
    walk_at "rd"
    refine iteK (fun hc => ?_) (fun hc => ?_)
    · obtain rfl : k = 4 := by omega
      obtain ⟨h, xs, rfl, eh, hp, hl⟩ := ad.han (by decide)
      exact ⟨_, rfl, rfl, fun z hz => ⟨z, h, xs, D1, R, rfl, upd_same, (upd_ne (ne_of_none eh hz)).trans eh, hp, hl, there_put hR, ad.th1.same ((Same.refl H).upd hz), fun d y H' hd nd e1 e2 ty kp => ⟨rfl, kk z H' hz ⟨d, _, e1, e2, fun f D m => by
        simp only [borne, List.mem_cons, List.not_mem_nil, or_false, Prod.mk.injEq] at m
        obtain ⟨rfl, rfl⟩ := m
        exact ⟨y, rfl, ty⟩⟩ (new_same hz kp)⟩⟩⟩
    walk_at "rd"
    refine iteK (fun hc => ?_) (fun hc => ?_)
    · obtain rfl : k = 5 := by omega
      obtain ⟨h, xs, rfl, eh, hp, hl⟩ := ad.han (by decide)
      exact ⟨_, rfl, rfl, fun z hz => ⟨z, h, xs, D1, R, rfl, upd_same, (upd_ne (ne_of_none eh hz)).trans eh, hp, hl, there_put hR, ad.th1.same ((Same.refl H).upd hz), fun d y H' hd nd e1 e2 ty kp => ⟨rfl, kk z H' hz ⟨d, _, e1, e2, fun f D m => by
        simp only [borne, List.mem_cons, List.not_mem_nil, or_false, Prod.mk.injEq] at m
        obtain ⟨rfl, rfl⟩ := m
        exact ⟨y, rfl, ty⟩⟩ (new_same hz kp)⟩⟩⟩
    walk_at "rd"
    refine iteK (fun hc => ?_) (fun hc => ?_)
    · obtain rfl : k = 6 := by omega
      exact ⟨_, rfl, rfl, fun z hz => ⟨z, one, rfl, ad.pl1 (by decide) (by decide), upd_same, fun d H' hd nd e1 e2 kp => ⟨rfl, kk z H' hz ⟨d, _, e1, e2, fun f D m => by
        simp only [borne, List.mem_cons, List.not_mem_nil, or_false, Prod.mk.injEq] at m
        obtain ⟨rfl, rfl⟩ := m
        exact ⟨one, rfl, plv_th (ad.pl1 (by decide) (by decide)) ad.th1⟩⟩ (new_same hz kp)⟩⟩⟩
    walk_at "rd"
    refine iteK (fun hc => ?_) (fun hc => ?_)
    · obtain rfl : k = 7 := by omega
      exact ⟨_, rfl, rfl, fun z hz => ⟨z, one, rfl, ad.pl1 (by decide) (by decide), upd_same, fun d H' hd nd e1 e2 kp => ⟨rfl, kk z H' hz ⟨d, _, e1, e2, fun f D m => by
        simp only [borne, List.mem_cons, List.not_mem_nil, or_false, Prod.mk.injEq] at m
        obtain ⟨rfl, rfl⟩ := m
        exact ⟨one, rfl, plv_th (ad.pl1 (by decide) (by decide)) ad.th1⟩⟩ (new_same hz kp)⟩⟩⟩
    walk_at "rd"
    refine iteK (fun hc => ?_) (fun hc => ?_)
    · obtain rfl : k = 8 := by omega
      exact ⟨_, rfl, rfl, fun z hz => ⟨z, one, rfl, ad.pl1 (by decide) (by decide), upd_same, fun d H' hd nd e1 e2 kp => ⟨rfl, kk z H' hz ⟨d, _, e1, e2, fun f D m => by
        simp only [borne, List.mem_cons, List.not_mem_nil, or_false, Prod.mk.injEq] at m
        obtain ⟨rfl, rfl⟩ := m
        exact ⟨one, rfl, plv_th (ad.pl1 (by decide) (by decide)) ad.th1⟩⟩ (new_same hz kp)⟩⟩⟩
    walk_at "rd"
    refine iteK (fun hc => ?_) (fun hc => ?_)
    · obtain rfl : k = 9 := by omega
      exact ⟨_, rfl, rfl, fun z hz => ⟨z, one, rfl, ad.pl1 (by decide) (by decide), upd_same, fun d H' hd nd e1 e2 kp => ⟨rfl, kk z H' hz ⟨d, _, e1, e2, fun f D m => by
        simp only [borne, List.mem_cons, List.not_mem_nil, or_false, Prod.mk.injEq] at m
        obtain ⟨rfl, rfl⟩ := m
        exact ⟨one, rfl, plv_th (ad.pl1 (by decide) (by decide)) ad.th1⟩⟩ (new_same hz kp)⟩⟩⟩
    walk_at "rd"
    refine iteK (fun hc => ?_) (fun hc => ?_)
    · obtain rfl : k = 10 := by omega
      exact ⟨_, rfl, _, rfl, rfl, fun z hz => ⟨z, one, two, rfl, ad.pl1 (by decide) (by decide), ad.pl2 (by decide), upd_same, fun d H' hd nd e1 e2 kp => ⟨rfl, kk z H' hz ⟨d, _, e1, e2, fun f D m => by
        simp only [borne, List.mem_cons, List.not_mem_nil, or_false, Prod.mk.injEq] at m
        rcases m with ⟨rfl, rfl⟩ | ⟨rfl, rfl⟩
        · exact ⟨one, lk_name, plv_th (ad.pl1 (by decide) (by decide)) ad.th1⟩
        · exact ⟨two, rfl, plv_th (ad.pl2 (by decide)) ad.th2⟩⟩ (new_same hz kp)⟩⟩⟩
    obtain rfl : k = 11 := by omega
    exact ⟨_, rfl, _, rfl, rfl, fun z hz => ⟨z, one, two, D2, R, rfl, ad.pl1 (by decide) (by decide), upd_same, there_put hR, ad.th2.same ((Same.refl H).upd hz), fun d y H' hd nd e1 e2 ty kp => ⟨rfl, kk z H' hz ⟨d, _, e1, e2, fun f D m => by
        simp only [borne, List.mem_cons, List.not_mem_nil, or_false, Prod.mk.injEq] at m
        rcases m with ⟨rfl, rfl⟩ | ⟨rfl, rfl⟩
        · exact ⟨one, lk_side, plv_th (ad.pl1 (by decide) (by decide)) ad.th1⟩
        · exact ⟨y, rfl, ty⟩⟩ (new_same hz kp)⟩⟩⟩

/-! ### what is borne -/
def bornes (k : Nat) (D1 D2 : PyData) : List PyData := if k = 10 ∨ k = 11 then [D1, D2] else [D1]
def spBorne (a : Ad) : Sp := fun vs H Q _ => ∃ (k : Nat) (e : Addr) (D1 D2 : PyData) (R : List Addr), vs = [.int k, .ref e] ∧ k < 12 ∧ EvB a H R k e D1 D2 ∧
  ∀ (r : Addr) (xs : List V) (H' : Hp), H r = none → H' r = some (.lst xs) → xs.length = (bornes k D1 D2).length → (∀ (i : Nat) (x : V) (d : PyData), xs[i]? = some x → (bornes k D1 D2)[i]? = some d → Th H' R 3 x d) → Same H H' → Q (.ref r) H'
theorem one_th {H : Hp} {R : List Addr} {x : V} {d : PyData} (h : Th H R 3 x d) : ∀ (i : Nat) (y : V) (z : PyData), [x][i]? = some y → [d][i]? = some z → Th H R 3 y z
  | 0, _, _, e1, e2 => by cases e1; cases e2; exact h
  | n + 1, _, _, e1, _ => by cases e1
theorem two_th {H : Hp} {R : List Addr} {x y : V} {d e : PyData} (h : Th H R 3 x d) (h2 : Th H R 3 y e) : ∀ (i : Nat) (u : V) (z : PyData), [x, y][i]? = some u → [d, e][i]? = some z → Th H R 3 u z
  | 0, _, _, e1, e2 => by cases e1; cases e2; exact h
  | 1, _, _, e1, e2 => by cases e1; cases e2; exact h2
  | n + 2, _, _, e1, _ => by cases e1
theorem ok_borne (T : Txt K mg a) : FnOk P w K mg base CX0 1 a.f_borne a.d_borne ["_law_kind", "_law_made_here"] (spBorne a) := by
  refine T.F_borne.ok sc_borne (fun vs H Q E h => ?_) (fun cdv A outer s H vs Q E hr h => ?_)
  · obtain ⟨k, e, D1, D2, R, rfl, _⟩ := h
    rfl
  · obtain ⟨k, e, D1, D2, R, rfl, k1, ⟨d, fs, e1, e2, bn⟩, kk⟩ := h
    refine ⟨_, (pss_cons (ps_if (pt_cmpR op_eq (pv 0) pe_int (nomark _)) (pss_one (ps_ret (pe_lst (pa_cons (pe_xfV (pv 1)) pa_nil)))) pss_nil)
      (pss_cons (ps_if (pt_cmpR op_eq (pv 0) pe_int (nomark _)) (pss_one (ps_ret (pe_lst (pa_cons (pe_xfV (pv 1)) pa_nil)))) pss_nil)
      (C8.pss_cut (ps_if (PW.pt (pw_or (pt_cmpR op_eq (pv 0) pe_int (nomark _)) (pw_or1 (pt_cmpR op_eq (pv 0) pe_int (nomark _))))) (pss_one (ps_ret (pe_lst (pa_cons (pe_xfV (pv 1)) pa_nil)))) pss_nil)
      (pss_cons (ps_if (pt_cmpR op_eq (pv 0) pe_int (nomark _)) (pss_one (ps_ret (pe_lst (pa_cons (pe_xfV (pv 1)) pa_nil)))) pss_nil)
      (pss_cons (ps_if (pt_cmpR op_eq (pv 0) pe_int (nomark _)) (pss_one (ps_ret (pe_lst (pa_cons (pe_xfV (pv 1)) (pa_cons (pe_xfV (pv 1)) pa_nil))))) pss_nil)
      (C8.pss_cut (ps_if (pt_cmpR op_eq (pv 0) pe_int (nomark _)) (pss_one (ps_ret (pe_lst (pa_cons (pe_xfV (pv 1)) (pa_cons (pe_xfV (pv 1)) pa_nil))))) pss_nil)
      (pss_one (ps_ret (pe_lst (pa_cons (pe_xfV (pv 1)) pa_nil)))))))))), ?_⟩
    walk_at "rd"
    refine iteK (fun hc => ?_) (fun hc => ?_)
    · obtain rfl : k = 0 := by omega
      obtain ⟨v, lk, tv⟩ := bn "word" D1 (by simp [borne])
      refine ⟨_, rfl, a.c_NoWord, e, d, fs, v, T.xf_NoWord, T.n_NoWord_word, rfl, e1, e2, lk, ?_⟩
      refine ⟨by show 1 ≤ sizeLine; decide, fun r hr0 => kk r _ _ hr0 upd_same rfl (one_th (tv.same ((Same.refl H).upd hr0))) ((Same.refl H).upd hr0)⟩
    walk_at "rd"
    refine iteK (fun hc => ?_) (fun hc => ?_)
    · obtain rfl : k = 3 := by omega
      obtain ⟨v, lk, tv⟩ := bn "name" D1 (by simp [borne])
      refine ⟨_, rfl, a.c_NoHelper, e, d, fs, v, T.xf_NoHelper, T.n_NoHelper_name, rfl, e1, e2, lk, ?_⟩
      refine ⟨by show 1 ≤ sizeLine; decide, fun r hr0 => kk r _ _ hr0 upd_same rfl (one_th (tv.same ((Same.refl H).upd hr0))) ((Same.refl H).upd hr0)⟩
    refine ⟨fun σ H1 => Blk (σ = [some (.int k), some (.ref e)] ∧ H = H1 ∧ k ≠ 4 ∧ k ≠ 5), ?_, ?_⟩
    · walk_at "rd"
      refine iteK (fun hc => ?_) (fun hc => ?_)
      · refine iteT ?_
        obtain rfl : k = 4 := by omega
        obtain ⟨v, lk, tv⟩ := bn "handle" D1 (by simp [borne])
        refine ⟨_, rfl, a.c_NoHandle, e, d, fs, v, T.xf_NoHandle, T.n_NoHandle_handle, rfl, e1, e2, lk, ?_⟩
        refine ⟨by show 1 ≤ sizeLine; decide, fun r hr0 => kk r _ _ hr0 upd_same rfl (one_th (tv.same ((Same.refl H).upd hr0))) ((Same.refl H).upd hr0)⟩
      · walk_at "rd"
        refine iteK (fun hc => ?_) (fun hc => ?_)
        · obtain rfl : k = 5 := by omega
          obtain ⟨v, lk, tv⟩ := bn "handle" D1 (by simp [borne])
          refine ⟨_, rfl, a.c_Ended, e, d, fs, v, T.xf_Ended, T.n_Ended_handle, rfl, e1, e2, lk, ?_⟩
          refine ⟨by show 1 ≤ sizeLine; decide, fun r hr0 => kk r _ _ hr0 upd_same rfl (one_th (tv.same ((Same.refl H).upd hr0))) ((Same.refl H).upd hr0)⟩
        · exact Blk.of ⟨rfl, rfl, by omega, by omega⟩
    · rintro σ H1 hB
      obtain ⟨rfl, rfl, n4, n5⟩ := hB.out
      walk_at "rd"
      refine iteK (fun hc => ?_) (fun hc => ?_)
      · obtain rfl : k = 9 := by omega
        obtain ⟨v, lk, tv⟩ := bn "letter" D1 (by simp [borne])
        refine ⟨_, rfl, a.c_NoLetter, e, d, fs, v, T.xf_NoLetter, T.n_NoLetter_letter, rfl, e1, e2, lk, ?_⟩
        refine ⟨by show 1 ≤ sizeLine; decide, fun r hr0 => kk r _ _ hr0 upd_same rfl (one_th (tv.same ((Same.refl H).upd hr0))) ((Same.refl H).upd hr0)⟩
      walk_at "rd"
      refine iteK (fun hc => ?_) (fun hc => ?_)
      · obtain rfl : k = 10 := by omega
        obtain ⟨v, lk, tv⟩ := bn "name" D1 (by simp [borne])
        obtain ⟨v2, lk2, tv2⟩ := bn "at" D2 (by simp [borne])
        refine ⟨_, rfl, a.c_NoBody, e, d, fs, v, T.xf_NoBody, T.n_NoBody_name, rfl, e1, e2, lk, ?_⟩
        refine ⟨_, rfl, a.c_NoBody, e, d, fs, v2, T.xf_NoBody, T.n_NoBody_at, rfl, e1, e2, lk2, ?_⟩
        refine ⟨by show 2 ≤ sizeLine; decide, fun r hr0 => kk r _ _ hr0 upd_same rfl (two_th (tv.same ((Same.refl H).upd hr0)) (tv2.same ((Same.refl H).upd hr0))) ((Same.refl H).upd hr0)⟩
      refine ⟨fun σ H1 => Blk (σ = [some (.int k), some (.ref e)] ∧ H = H1 ∧ k ≠ 11), ?_, ?_⟩
      · walk_at "rd"
        refine iteK (fun hc => ?_) (fun hc => ?_)
        · obtain rfl : k = 11 := by omega
          obtain ⟨v, lk, tv⟩ := bn "side" D1 (by simp [borne])
          obtain ⟨v2, lk2, tv2⟩ := bn "lines" D2 (by simp [borne])
          refine ⟨_, rfl, a.c_Unlet, e, d, fs, v, T.xf_Unlet, T.n_Unlet_side, rfl, e1, e2, lk, ?_⟩
          refine ⟨_, rfl, a.c_Unlet, e, d, fs, v2, T.xf_Unlet, T.n_Unlet_lines, rfl, e1, e2, lk2, ?_⟩
          refine ⟨by show 2 ≤ sizeLine; decide, fun r hr0 => kk r _ _ hr0 upd_same rfl (two_th (tv.same ((Same.refl H).upd hr0)) (tv2.same ((Same.refl H).upd hr0))) ((Same.refl H).upd hr0)⟩
        · exact Blk.of ⟨rfl, rfl, by omega⟩
      · rintro σ H1 hB
        obtain ⟨rfl, rfl, n11⟩ := hB.out
        have hk : k = 1 ∨ k = 2 ∨ k = 6 ∨ k = 7 ∨ k = 8 := by omega
        rcases hk with h | h | h | h | h
        · obtain rfl : k = 1 := by omega
          obtain ⟨v, lk, tv⟩ := bn "at" D1 (by simp [borne])
          refine ⟨_, rfl, a.c_NoPact, e, d, fs, v, T.xf_NoPact, T.n_NoPact_at, rfl, e1, e2, lk, ?_⟩
          refine ⟨by show 1 ≤ sizeLine; decide, fun r hr0 => kk r _ _ hr0 upd_same rfl (one_th (tv.same ((Same.refl H).upd hr0))) ((Same.refl H).upd hr0)⟩
        · obtain rfl : k = 2 := by omega
          obtain ⟨v, lk, tv⟩ := bn "at" D1 (by simp [borne])
          refine ⟨_, rfl, a.c_NoText, e, d, fs, v, T.xf_NoText, T.n_NoText_at, rfl, e1, e2, lk, ?_⟩
          refine ⟨by show 1 ≤ sizeLine; decide, fun r hr0 => kk r _ _ hr0 upd_same rfl (one_th (tv.same ((Same.refl H).upd hr0))) ((Same.refl H).upd hr0)⟩
        · obtain rfl : k = 6 := by omega
          obtain ⟨v, lk, tv⟩ := bn "at" D1 (by simp [borne])
          refine ⟨_, rfl, a.c_NoRow, e, d, fs, v, T.xf_NoRow, T.n_NoRow_at, rfl, e1, e2, lk, ?_⟩
          refine ⟨by show 1 ≤ sizeLine; decide, fun r hr0 => kk r _ _ hr0 upd_same rfl (one_th (tv.same ((Same.refl H).upd hr0))) ((Same.refl H).upd hr0)⟩
        · obtain rfl : k = 7 := by omega
          obtain ⟨v, lk, tv⟩ := bn "at" D1 (by simp [borne])
          refine ⟨_, rfl, a.c_NoSide, e, d, fs, v, T.xf_NoSide, T.n_NoSide_at, rfl, e1, e2, lk, ?_⟩
          refine ⟨by show 1 ≤ sizeLine; decide, fun r hr0 => kk r _ _ hr0 upd_same rfl (one_th (tv.same ((Same.refl H).upd hr0))) ((Same.refl H).upd hr0)⟩
        · obtain rfl : k = 8 := by omega
          obtain ⟨v, lk, tv⟩ := bn "at" D1 (by simp [borne])
          refine ⟨_, rfl, a.c_NoThing, e, d, fs, v, T.xf_NoThing, T.n_NoThing_at, rfl, e1, e2, lk, ?_⟩
          refine ⟨by show 1 ≤ sizeLine; decide, fun r hr0 => kk r _ _ hr0 upd_same rfl (one_th (tv.same ((Same.refl H).upd hr0))) ((Same.refl H).upd hr0)⟩

/-! ### of which classes a refusal is -/
def sortsOf (k : Nat) : List Bool := [decide (0 = k), decide (1 = k), decide (2 = k), decide (3 = k), decide (4 = k), decide (5 = k), decide (6 = k), decide (7 = k), decide (8 = k), decide (9 = k), decide (10 = k), decide (11 = k), decide (12 = k), decide (13 = k), decide (14 = k), decide (15 = k), decide (16 = k), true, true]
def KitK (K : PySem.W.Frag) (a : Ad) (C : Addr) (k : Nat) : Prop := PySem.W.kitOne K (.ref C) (.ref a.c_NoWord) = some (decide (0 = k)) ∧ PySem.W.kitOne K (.ref C) (.ref a.c_NoPact) = some (decide (1 = k)) ∧ PySem.W.kitOne K (.ref C) (.ref a.c_NoText) = some (decide (2 = k)) ∧ PySem.W.kitOne K (.ref C) (.ref a.c_NoHelper) = some (decide (3 = k)) ∧ PySem.W.kitOne K (.ref C) (.ref a.c_NoHandle) = some (decide (4 = k)) ∧ PySem.W.kitOne K (.ref C) (.ref a.c_Ended) = some (decide (5 = k)) ∧ PySem.W.kitOne K (.ref C) (.ref a.c_NoRow) = some (decide (6 = k)) ∧ PySem.W.kitOne K (.ref C) (.ref a.c_NoSide) = some (decide (7 = k)) ∧ PySem.W.kitOne K (.ref C) (.ref a.c_NoThing) = some (decide (8 = k)) ∧ PySem.W.kitOne K (.ref C) (.ref a.c_NoLetter) = some (decide (9 = k)) ∧ PySem.W.kitOne K (.ref C) (.ref a.c_NoBody) = some (decide (10 = k)) ∧ PySem.W.kitOne K (.ref C) (.ref a.c_Unlet) = some (decide (11 = k)) ∧ PySem.W.kitOne K (.ref C) (.ref a.c_Closed) = some (decide (12 = k)) ∧ PySem.W.kitOne K (.ref C) (.ref a.c_TooLong) = some (decide (13 = k)) ∧ PySem.W.kitOne K (.ref C) (.ref a.c_TooDeep) = some (decide (14 = k)) ∧ PySem.W.kitOne K (.ref C) (.ref a.c_NothingDone) = some (decide (15 = k)) ∧ PySem.W.kitOne K (.ref C) (.ref a.c_NoLines) = some (decide (16 = k)) ∧ PySem.W.kitOne K (.ref C) (.ref a.c_PactError) = some true ∧ PySem.W.kitOne K (.ref C) (.type "ValueError") = some true
theorem evAt_same {H H' : Hp} {C z : Addr} (e : EvAt H C z) (s : Same H H') : EvAt H' C z := by
  cases e with
  | «with» dx fs e d => exact .with dx fs (s _ _ e) (s _ _ d)
  | bare e => exact .bare (s _ _ e)
def spSorts (K : PySem.W.Frag) (a : Ad) : Sp := fun vs H Q _ => ∃ (z C : Addr) (k : Nat), vs = [.ref z] ∧ EvAt H C z ∧ ExcC K C ∧ KitK K a C k ∧ ∀ (r : Addr) (H' : Hp), H r = none → H' r = some (.lst ((sortsOf k).map V.bl)) → Same H H' → Q (.ref r) H'
theorem ok_sorts (T : Txt K mg a) : FnOk P w K mg base CX0 1 a.f_sorts a.d_sorts ["_law_e"] (spSorts K a) := by
  refine T.F_sorts.ok sc_sorts (fun vs H Q E h => ?_) (fun cdv A outer s H vs Q E hr h => ?_)
  · obtain ⟨z, C, k, rfl, _⟩ := h
    rfl
  · obtain ⟨z, C, k, rfl, ev, xc, kt, kk⟩ := h
    obtain ⟨k0, k1, k2, k3, k4, k5, k6, k7, k8, k9, k10, k11, k12, k13, k14, k15, k16, k17, k18⟩ := kt
    refine ⟨_, (pss_cons (ps_set (i := 1) sc_sorts.nd rfl (Or.inl rfl) (pe_lst (pa_cons (pe_callB call_isV (by rfl) T.z_isinstance (by decide +kernel) (pa_cons (pv 0) (pa_cons (pe_glob (v := .ref a.c_NoWord) rfl T.g_NoWord rfl) pa_nil))) (pa_cons (pe_callB call_isV (by rfl) T.z_isinstance (by decide +kernel) (pa_cons (pv 0) (pa_cons (pe_glob (v := .ref a.c_NoPact) rfl T.g_NoPact rfl) pa_nil))) (pa_cons (pe_callB call_isV (by rfl) T.z_isinstance (by decide +kernel) (pa_cons (pv 0) (pa_cons (pe_glob (v := .ref a.c_NoText) rfl T.g_NoText rfl) pa_nil))) (pa_cons (pe_callB call_isV (by rfl) T.z_isinstance (by decide +kernel) (pa_cons (pv 0) (pa_cons (pe_glob (v := .ref a.c_NoHelper) rfl T.g_NoHelper rfl) pa_nil))) pa_nil))))))
      (pss_cons (ps_set (i := 1) sc_sorts.nd rfl (Or.inl rfl) (pe_op op_cat (pv 1) (pe_lst (pa_cons (pe_callB call_isV (by rfl) T.z_isinstance (by decide +kernel) (pa_cons (pv 0) (pa_cons (pe_glob (v := .ref a.c_NoHandle) rfl T.g_NoHandle rfl) pa_nil))) (pa_cons (pe_callB call_isV (by rfl) T.z_isinstance (by decide +kernel) (pa_cons (pv 0) (pa_cons (pe_glob (v := .ref a.c_Ended) rfl T.g_Ended rfl) pa_nil))) (pa_cons (pe_callB call_isV (by rfl) T.z_isinstance (by decide +kernel) (pa_cons (pv 0) (pa_cons (pe_glob (v := .ref a.c_NoRow) rfl T.g_NoRow rfl) pa_nil))) (pa_cons (pe_callB call_isV (by rfl) T.z_isinstance (by decide +kernel) (pa_cons (pv 0) (pa_cons (pe_glob (v := .ref a.c_NoSide) rfl T.g_NoSide rfl) pa_nil))) pa_nil)))))))
      (pss_cons (ps_set (i := 1) sc_sorts.nd rfl (Or.inl rfl) (pe_op op_cat (pv 1) (pe_lst (pa_cons (pe_callB call_isV (by rfl) T.z_isinstance (by decide +kernel) (pa_cons (pv 0) (pa_cons (pe_glob (v := .ref a.c_NoThing) rfl T.g_NoThing rfl) pa_nil))) (pa_cons (pe_callB call_isV (by rfl) T.z_isinstance (by decide +kernel) (pa_cons (pv 0) (pa_cons (pe_glob (v := .ref a.c_NoLetter) rfl T.g_NoLetter rfl) pa_nil))) (pa_cons (pe_callB call_isV (by rfl) T.z_isinstance (by decide +kernel) (pa_cons (pv 0) (pa_cons (pe_glob (v := .ref a.c_NoBody) rfl T.g_NoBody rfl) pa_nil))) (pa_cons (pe_callB call_isV (by rfl) T.z_isinstance (by decide +kernel) (pa_cons (pv 0) (pa_cons (pe_glob (v := .ref a.c_Unlet) rfl T.g_Unlet rfl) pa_nil))) pa_nil)))))))
      (pss_cons (ps_set (i := 1) sc_sorts.nd rfl (Or.inl rfl) (pe_op op_cat (pv 1) (pe_lst (pa_cons (pe_callB call_isV (by rfl) T.z_isinstance (by decide +kernel) (pa_cons (pv 0) (pa_cons (pe_glob (v := .ref a.c_Closed) rfl T.g_Closed rfl) pa_nil))) (pa_cons (pe_callB call_isV (by rfl) T.z_isinstance (by decide +kernel) (pa_cons (pv 0) (pa_cons (pe_glob (v := .ref a.c_TooLong) rfl T.g_TooLong rfl) pa_nil))) (pa_cons (pe_callB call_isV (by rfl) T.z_isinstance (by decide +kernel) (pa_cons (pv 0) (pa_cons (pe_glob (v := .ref a.c_TooDeep) rfl T.g_TooDeep rfl) pa_nil))) pa_nil))))))
      (pss_cons (ps_set (i := 1) sc_sorts.nd rfl (Or.inl rfl) (pe_op op_cat (pv 1) (pe_lst (pa_cons (pe_callB call_isV (by rfl) T.z_isinstance (by decide +kernel) (pa_cons (pv 0) (pa_cons (pe_glob (v := .ref a.c_NothingDone) rfl T.g_NothingDone rfl) pa_nil))) (pa_cons (pe_callB call_isV (by rfl) T.z_isinstance (by decide +kernel) (pa_cons (pv 0) (pa_cons (pe_glob (v := .ref a.c_NoLines) rfl T.g_NoLines rfl) pa_nil))) pa_nil)))))
      (pss_one (ps_ret (pe_op op_cat (pv 1) (pe_lst (pa_cons (pe_callB call_isV (by rfl) T.z_isinstance (by decide +kernel) (pa_cons (pv 0) (pa_cons (pe_glob (v := .ref a.c_PactError) rfl T.g_PactError rfl) pa_nil))) (pa_cons (pe_callB call_isV (by rfl) T.z_isinstance (by decide +kernel) (pa_cons (pv 0) (pa_cons (pe_bltn (v := .ty "ValueError") (by rfl) T.z_ValueError (by decide +kernel) rfl) pa_nil))) pa_nil))))))))))), ?_⟩
    refine ⟨_, rfl, C, z, _, _, _, rfl, ev, xc, fun _ h => h, k0, ?_⟩
    refine ⟨_, rfl, C, z, _, _, _, rfl, ev, xc, fun _ h => h, k1, ?_⟩
    refine ⟨_, rfl, C, z, _, _, _, rfl, ev, xc, fun _ h => h, k2, ?_⟩
    refine ⟨_, rfl, C, z, _, _, _, rfl, ev, xc, fun _ h => h, k3, ?_⟩
    refine ⟨by show 4 ≤ sizeLine; decide, fun r1 hr1 => ?_⟩
    have s1 : Same H (upd H r1 (.lst [V.bl (decide (0 = k)), V.bl (decide (1 = k)), V.bl (decide (2 = k)), V.bl (decide (3 = k))])) := (Same.refl H).upd hr1
    have e1 : (upd H r1 (.lst [V.bl (decide (0 = k)), V.bl (decide (1 = k)), V.bl (decide (2 = k)), V.bl (decide (3 = k))])) r1 = some (.lst [V.bl (decide (0 = k)), V.bl (decide (1 = k)), V.bl (decide (2 = k)), V.bl (decide (3 = k))]) := upd_same
    generalize (upd H r1 (.lst [V.bl (decide (0 = k)), V.bl (decide (1 = k)), V.bl (decide (2 = k)), V.bl (decide (3 = k))])) = H1 at s1 e1 ⊢
    have v1 := evAt_same ev s1
    have t1 : Same H H1 := (Same.refl H).trans s1
    have e2 := e1
    refine ⟨_, rfl, ?_⟩
    refine ⟨_, rfl, C, z, _, _, _, rfl, v1, xc, fun _ h => h, k4, ?_⟩
    refine ⟨_, rfl, C, z, _, _, _, rfl, v1, xc, fun _ h => h, k5, ?_⟩
    refine ⟨_, rfl, C, z, _, _, _, rfl, v1, xc, fun _ h => h, k6, ?_⟩
    refine ⟨_, rfl, C, z, _, _, _, rfl, v1, xc, fun _ h => h, k7, ?_⟩
    refine ⟨by show 4 ≤ sizeLine; decide, fun r3 hr3 => ?_⟩
    have s3 : Same H1 (upd H1 r3 (.lst [V.bl (decide (4 = k)), V.bl (decide (5 = k)), V.bl (decide (6 = k)), V.bl (decide (7 = k))])) := (Same.refl H1).upd hr3
    have e3 : (upd H1 r3 (.lst [V.bl (decide (4 = k)), V.bl (decide (5 = k)), V.bl (decide (6 = k)), V.bl (decide (7 = k))])) r3 = some (.lst [V.bl (decide (4 = k)), V.bl (decide (5 = k)), V.bl (decide (6 = k)), V.bl (decide (7 = k))]) := upd_same
    generalize (upd H1 r3 (.lst [V.bl (decide (4 = k)), V.bl (decide (5 = k)), V.bl (decide (6 = k)), V.bl (decide (7 = k))])) = H3 at s3 e3 ⊢
    have v3 := evAt_same v1 s3
    have t3 : Same H H3 := t1.trans s3
    have e2' := s3 _ _ e2
    refine ⟨_, _, _, _, rfl, rfl, e2', e3, by show 8 ≤ sizeLine; decide, fun r4 hr4 => ?_⟩
    dsimp only [List.cons_append, List.nil_append]
    have s4 : Same H3 (upd H3 r4 (.lst [V.bl (decide (0 = k)), V.bl (decide (1 = k)), V.bl (decide (2 = k)), V.bl (decide (3 = k)), V.bl (decide (4 = k)), V.bl (decide (5 = k)), V.bl (decide (6 = k)), V.bl (decide (7 = k))])) := (Same.refl H3).upd hr4
    have e4 : (upd H3 r4 (.lst [V.bl (decide (0 = k)), V.bl (decide (1 = k)), V.bl (decide (2 = k)), V.bl (decide (3 = k)), V.bl (decide (4 = k)), V.bl (decide (5 = k)), V.bl (decide (6 = k)), V.bl (decide (7 = k))])) r4 = some (.lst [V.bl (decide (0 = k)), V.bl (decide (1 = k)), V.bl (decide (2 = k)), V.bl (decide (3 = k)), V.bl (decide (4 = k)), V.bl (decide (5 = k)), V.bl (decide (6 = k)), V.bl (decide (7 = k))]) := upd_same
    generalize (upd H3 r4 (.lst [V.bl (decide (0 = k)), V.bl (decide (1 = k)), V.bl (decide (2 = k)), V.bl (decide (3 = k)), V.bl (decide (4 = k)), V.bl (decide (5 = k)), V.bl (decide (6 = k)), V.bl (decide (7 = k))])) = H4 at s4 e4 ⊢
    have v4 := evAt_same v3 s4
    have t4 : Same H H4 := t3.trans s4
    refine ⟨_, rfl, ?_⟩
    refine ⟨_, rfl, C, z, _, _, _, rfl, v4, xc, fun _ h => h, k8, ?_⟩
    refine ⟨_, rfl, C, z, _, _, _, rfl, v4, xc, fun _ h => h, k9, ?_⟩
    refine ⟨_, rfl, C, z, _, _, _, rfl, v4, xc, fun _ h => h, k10, ?_⟩
    refine ⟨_, rfl, C, z, _, _, _, rfl, v4, xc, fun _ h => h, k11, ?_⟩
    refine ⟨by show 4 ≤ sizeLine; decide, fun r5 hr5 => ?_⟩
    have s5 : Same H4 (upd H4 r5 (.lst [V.bl (decide (8 = k)), V.bl (decide (9 = k)), V.bl (decide (10 = k)), V.bl (decide (11 = k))])) := (Same.refl H4).upd hr5
    have e5 : (upd H4 r5 (.lst [V.bl (decide (8 = k)), V.bl (decide (9 = k)), V.bl (decide (10 = k)), V.bl (decide (11 = k))])) r5 = some (.lst [V.bl (decide (8 = k)), V.bl (decide (9 = k)), V.bl (decide (10 = k)), V.bl (decide (11 = k))]) := upd_same
    generalize (upd H4 r5 (.lst [V.bl (decide (8 = k)), V.bl (decide (9 = k)), V.bl (decide (10 = k)), V.bl (decide (11 = k))])) = H5 at s5 e5 ⊢
    have v5 := evAt_same v4 s5
    have t5 : Same H H5 := t4.trans s5
    have e4' := s5 _ _ e4
    refine ⟨_, _, _, _, rfl, rfl, e4', e5, by show 12 ≤ sizeLine; decide, fun r6 hr6 => ?_⟩
    dsimp only [List.cons_append, List.nil_append]
    have s6 : Same H5 (upd H5 r6 (.lst [V.bl (decide (0 = k)), V.bl (decide (1 = k)), V.bl (decide (2 = k)), V.bl (decide (3 = k)), V.bl (decide (4 = k)), V.bl (decide (5 = k)), V.bl (decide (6 = k)), V.bl (decide (7 = k)), V.bl (decide (8 = k)), V.bl (decide (9 = k)), V.bl (decide (10 = k)), V.bl (decide (11 = k))])) := (Same.refl H5).upd hr6
    have e6 : (upd H5 r6 (.lst [V.bl (decide (0 = k)), V.bl (decide (1 = k)), V.bl (decide (2 = k)), V.bl (decide (3 = k)), V.bl (decide (4 = k)), V.bl (decide (5 = k)), V.bl (decide (6 = k)), V.bl (decide (7 = k)), V.bl (decide (8 = k)), V.bl (decide (9 = k)), V.bl (decide (10 = k)), V.bl (decide (11 = k))])) r6 = some (.lst [V.bl (decide (0 = k)), V.bl (decide (1 = k)), V.bl (decide (2 = k)), V.bl (decide (3 = k)), V.bl (decide (4 = k)), V.bl (decide (5 = k)), V.bl (decide (6 = k)), V.bl (decide (7 = k)), V.bl (decide (8 = k)), V.bl (decide (9 = k)), V.bl (decide (10 = k)), V.bl (decide (11 = k))]) := upd_same
    generalize (upd H5 r6 (.lst [V.bl (decide (0 = k)), V.bl (decide (1 = k)), V.bl (decide (2 = k)), V.bl (decide (3 = k)), V.bl (decide (4 = k)), V.bl (decide (5 = k)), V.bl (decide (6 = k)), V.bl (decide (7 = k)), V.bl (decide (8 = k)), V.bl (decide (9 = k)), V.bl (decide (10 = k)), V.bl (decide (11 = k))])) = H6 at s6 e6 ⊢
    have v6 := evAt_same v5 s6
    have t6 : Same H H6 := t5.trans s6
    refine ⟨_, rfl, ?_⟩
    refine ⟨_, rfl, C, z, _, _, _, rfl, v6, xc, fun _ h => h, k12, ?_⟩
    refine ⟨_, rfl, C, z, _, _, _, rfl, v6, xc, fun _ h => h, k13, ?_⟩
    refine ⟨_, rfl, C, z, _, _, _, rfl, v6, xc, fun _ h => h, k14, ?_⟩
    refine ⟨by show 3 ≤ sizeLine; decide, fun r7 hr7 => ?_⟩
    have s7 : Same H6 (upd H6 r7 (.lst [V.bl (decide (12 = k)), V.bl (decide (13 = k)), V.bl (decide (14 = k))])) := (Same.refl H6).upd hr7
    have e7 : (upd H6 r7 (.lst [V.bl (decide (12 = k)), V.bl (decide (13 = k)), V.bl (decide (14 = k))])) r7 = some (.lst [V.bl (decide (12 = k)), V.bl (decide (13 = k)), V.bl (decide (14 = k))]) := upd_same
    generalize (upd H6 r7 (.lst [V.bl (decide (12 = k)), V.bl (decide (13 = k)), V.bl (decide (14 = k))])) = H7 at s7 e7 ⊢
    have v7 := evAt_same v6 s7
    have t7 : Same H H7 := t6.trans s7
    have e6' := s7 _ _ e6
    refine ⟨_, _, _, _, rfl, rfl, e6', e7, by show 15 ≤ sizeLine; decide, fun r8 hr8 => ?_⟩
    dsimp only [List.cons_append, List.nil_append]
    have s8 : Same H7 (upd H7 r8 (.lst [V.bl (decide (0 = k)), V.bl (decide (1 = k)), V.bl (decide (2 = k)), V.bl (decide (3 = k)), V.bl (decide (4 = k)), V.bl (decide (5 = k)), V.bl (decide (6 = k)), V.bl (decide (7 = k)), V.bl (decide (8 = k)), V.bl (decide (9 = k)), V.bl (decide (10 = k)), V.bl (decide (11 = k)), V.bl (decide (12 = k)), V.bl (decide (13 = k)), V.bl (decide (14 = k))])) := (Same.refl H7).upd hr8
    have e8 : (upd H7 r8 (.lst [V.bl (decide (0 = k)), V.bl (decide (1 = k)), V.bl (decide (2 = k)), V.bl (decide (3 = k)), V.bl (decide (4 = k)), V.bl (decide (5 = k)), V.bl (decide (6 = k)), V.bl (decide (7 = k)), V.bl (decide (8 = k)), V.bl (decide (9 = k)), V.bl (decide (10 = k)), V.bl (decide (11 = k)), V.bl (decide (12 = k)), V.bl (decide (13 = k)), V.bl (decide (14 = k))])) r8 = some (.lst [V.bl (decide (0 = k)), V.bl (decide (1 = k)), V.bl (decide (2 = k)), V.bl (decide (3 = k)), V.bl (decide (4 = k)), V.bl (decide (5 = k)), V.bl (decide (6 = k)), V.bl (decide (7 = k)), V.bl (decide (8 = k)), V.bl (decide (9 = k)), V.bl (decide (10 = k)), V.bl (decide (11 = k)), V.bl (decide (12 = k)), V.bl (decide (13 = k)), V.bl (decide (14 = k))]) := upd_same
    generalize (upd H7 r8 (.lst [V.bl (decide (0 = k)), V.bl (decide (1 = k)), V.bl (decide (2 = k)), V.bl (decide (3 = k)), V.bl (decide (4 = k)), V.bl (decide (5 = k)), V.bl (decide (6 = k)), V.bl (decide (7 = k)), V.bl (decide (8 = k)), V.bl (decide (9 = k)), V.bl (decide (10 = k)), V.bl (decide (11 = k)), V.bl (decide (12 = k)), V.bl (decide (13 = k)), V.bl (decide (14 = k))])) = H8 at s8 e8 ⊢
    have v8 := evAt_same v7 s8
    have t8 : Same H H8 := t7.trans s8
    refine ⟨_, rfl, ?_⟩
    refine ⟨_, rfl, C, z, _, _, _, rfl, v8, xc, fun _ h => h, k15, ?_⟩
    refine ⟨_, rfl, C, z, _, _, _, rfl, v8, xc, fun _ h => h, k16, ?_⟩
    refine ⟨by show 2 ≤ sizeLine; decide, fun r9 hr9 => ?_⟩
    have s9 : Same H8 (upd H8 r9 (.lst [V.bl (decide (15 = k)), V.bl (decide (16 = k))])) := (Same.refl H8).upd hr9
    have e9 : (upd H8 r9 (.lst [V.bl (decide (15 = k)), V.bl (decide (16 = k))])) r9 = some (.lst [V.bl (decide (15 = k)), V.bl (decide (16 = k))]) := upd_same
    generalize (upd H8 r9 (.lst [V.bl (decide (15 = k)), V.bl (decide (16 = k))])) = H9 at s9 e9 ⊢
    have v9 := evAt_same v8 s9
    have t9 : Same H H9 := t8.trans s9
    have e8' := s9 _ _ e8
    refine ⟨_, _, _, _, rfl, rfl, e8', e9, by show 17 ≤ sizeLine; decide, fun r10 hr10 => ?_⟩
    dsimp only [List.cons_append, List.nil_append]
    have s10 : Same H9 (upd H9 r10 (.lst [V.bl (decide (0 = k)), V.bl (decide (1 = k)), V.bl (decide (2 = k)), V.bl (decide (3 = k)), V.bl (decide (4 = k)), V.bl (decide (5 = k)), V.bl (decide (6 = k)), V.bl (decide (7 = k)), V.bl (decide (8 = k)), V.bl (decide (9 = k)), V.bl (decide (10 = k)), V.bl (decide (11 = k)), V.bl (decide (12 = k)), V.bl (decide (13 = k)), V.bl (decide (14 = k)), V.bl (decide (15 = k)), V.bl (decide (16 = k))])) := (Same.refl H9).upd hr10
    have e10 : (upd H9 r10 (.lst [V.bl (decide (0 = k)), V.bl (decide (1 = k)), V.bl (decide (2 = k)), V.bl (decide (3 = k)), V.bl (decide (4 = k)), V.bl (decide (5 = k)), V.bl (decide (6 = k)), V.bl (decide (7 = k)), V.bl (decide (8 = k)), V.bl (decide (9 = k)), V.bl (decide (10 = k)), V.bl (decide (11 = k)), V.bl (decide (12 = k)), V.bl (decide (13 = k)), V.bl (decide (14 = k)), V.bl (decide (15 = k)), V.bl (decide (16 = k))])) r10 = some (.lst [V.bl (decide (0 = k)), V.bl (decide (1 = k)), V.bl (decide (2 = k)), V.bl (decide (3 = k)), V.bl (decide (4 = k)), V.bl (decide (5 = k)), V.bl (decide (6 = k)), V.bl (decide (7 = k)), V.bl (decide (8 = k)), V.bl (decide (9 = k)), V.bl (decide (10 = k)), V.bl (decide (11 = k)), V.bl (decide (12 = k)), V.bl (decide (13 = k)), V.bl (decide (14 = k)), V.bl (decide (15 = k)), V.bl (decide (16 = k))]) := upd_same
    generalize (upd H9 r10 (.lst [V.bl (decide (0 = k)), V.bl (decide (1 = k)), V.bl (decide (2 = k)), V.bl (decide (3 = k)), V.bl (decide (4 = k)), V.bl (decide (5 = k)), V.bl (decide (6 = k)), V.bl (decide (7 = k)), V.bl (decide (8 = k)), V.bl (decide (9 = k)), V.bl (decide (10 = k)), V.bl (decide (11 = k)), V.bl (decide (12 = k)), V.bl (decide (13 = k)), V.bl (decide (14 = k)), V.bl (decide (15 = k)), V.bl (decide (16 = k))])) = H10 at s10 e10 ⊢
    have v10 := evAt_same v9 s10
    have t10 : Same H H10 := t9.trans s10
    refine ⟨_, rfl, ?_⟩
    refine ⟨_, rfl, C, z, _, _, _, rfl, v10, xc, fun _ h => h, k17, ?_⟩
    refine ⟨_, rfl, C, z, _, _, _, rfl, v10, xc, fun _ h => h, k18, ?_⟩
    refine ⟨by show 2 ≤ sizeLine; decide, fun r11 hr11 => ?_⟩
    have s11 : Same H10 (upd H10 r11 (.lst [V.bl true, V.bl true])) := (Same.refl H10).upd hr11
    have e11 : (upd H10 r11 (.lst [V.bl true, V.bl true])) r11 = some (.lst [V.bl true, V.bl true]) := upd_same
    generalize (upd H10 r11 (.lst [V.bl true, V.bl true])) = H11 at s11 e11 ⊢
    have v11 := evAt_same v10 s11
    have t11 : Same H H11 := t10.trans s11
    have e10' := s11 _ _ e10
    refine ⟨_, _, _, _, rfl, rfl, e10', e11, by show 19 ≤ sizeLine; decide, fun r12 hr12 => ?_⟩
    exact kk r12 _ (t11.free hr12) upd_same (t11.trans ((Same.refl H11).upd hr12))

/-! ### values that are drawn -/
def sign (c : Nat) : Str := ⟨#[c]⟩
theorem join_signs (cs : List Nat) : Txt.join ("" : Str) (cs.map sign) = ⟨cs.toArray⟩ := by
  have e0 : ("" : Str) = SX.S [] := by decide +kernel
  have e1 : cs.map sign = (cs.map fun c => [c]).map SX.S := by rw [List.map_map]; rfl
  rw [e0, e1, SX.join_S]
  have e2 : ∀ l : List Nat, TL.joinL [] (l.map fun c => [c]) = l := by
    intro l
    induction l with
    | nil => rfl
    | cons x r ih =>
      cases r with
      | nil => rfl
      | cons y r =>
        show [x] ++ ([] ++ TL.joinL [] ((y :: r).map fun c => [c])) = _
        rw [ih]
        rfl
  rw [e2]
theorem signs_len (cs : List Nat) : ((cs.map sign).map (·.length)).sum = cs.length := by
  rw [List.map_map]
  induction cs with
  | nil => rfl
  | cons x r ih => rw [List.map_cons, List.sum_cons, ih]; show 1 + r.length = _; rw [List.length_cons]; omega
theorem offbox {b g l x : Addr} {n : Int} {H0 : Hp} (bx : BoxAt H0 b g l n) (hx : H0 x = none) : x ∉ [b, g] := by
  obtain ⟨gs, ls, cur, e1, e2, _⟩ := bx
  intro hq
  simp at hq
  rcases hq with rfl | rfl
  · rw [e1] at hx; cases hx
  · rw [e2] at hx; cases hx
theorem offbox3 {b g l x : Addr} {n : Int} {H0 : Hp} (bx : BoxAt H0 b g l n) (hx : H0 x = none) : x ∉ [b, g, l] := by
  obtain ⟨gs, ls, cur, e1, e2, e3, _⟩ := bx
  intro hq
  simp at hq
  rcases hq with rfl | rfl | rfl
  · rw [e1] at hx; cases hx
  · rw [e2] at hx; cases hx
  · rw [e3] at hx; cases hx
theorem box_put {H : Hp} {b g l x : Addr} {n : Int} {o : HO} (h : BoxAt H b g l n) (hx : x ∉ [b, g, l]) : BoxAt (upd H x o) b g l n := by
  obtain ⟨gs, ls, cur, e1, e2, e3, r⟩ := h
  simp at hx
  exact ⟨gs, ls, cur, by rw [upd_ne (Ne.symm hx.1)]; exact e1, by rw [upd_ne (Ne.symm hx.2.1)]; exact e2, by rw [upd_ne (Ne.symm hx.2.2)]; exact e3, r⟩
def Signs : Str := " !#$&()*+,-./0123456789:;<=>?@ABCXYZ[]^_abcxyz{|}~"
theorem signs_line : Signs.length ≤ sizeLine := by decide +kernel
theorem signs_50 : Signs.length = 50 := by decide +kernel
theorem signs_ix {k : Int} (h0 : 0 ≤ k) (h1 : k < 50) : ∃ c, atI Signs.cps.toList k = some c ∧ c < 1114112 := by
  obtain ⟨j, rfl⟩ : ∃ j : Nat, k = j := ⟨k.toNat, by omega⟩
  have hl : j < Signs.cps.toList.length := by
    rw [show Signs.cps.toList.length = 50 by decide +kernel]
    omega
  refine ⟨_, atI_nat (List.getElem?_eq_getElem hl), ?_⟩
  have hall : ∀ c ∈ Signs.cps.toList, c < 1114112 := by decide +kernel
  exact hall _ (List.getElem_mem hl)
/-- one thing that is handed in -/
structure A1 (H : Hp) (R : List Addr) (k : Nat) (one : V) (D1 : PyData) : Prop where
  han : k = 4 ∨ k = 5 → ∃ (h : Addr) (xs : List V), one = .ref h ∧ H h = some (.tup xs) ∧ (∀ y ∈ xs, PlV y) ∧ xs.length ≤ 20
  pl1 : k ≠ 4 → k ≠ 5 → PlV one
  th1 : Th H R 3 one D1
structure A2 (H : Hp) (R : List Addr) (k : Nat) (two : V) (D2 : PyData) : Prop where
  pl2 : k ≠ 11 → PlV two
  th2 : Th H R 3 two D2
theorem pl_int {y : Int} (h1 : -10 ^ 40 < y) (h2 : y < 10 ^ 40) : PlV (.int y) := .int (by
  by_cases h : y.natAbs = 0
  · rw [h]; decide
  · refine (Nat.log2_lt h).mpr (Nat.lt_of_lt_of_le (by omega : y.natAbs < 10 ^ 40) ?_)
    exact Nat.le_trans (by decide : 10 ^ 40 ≤ 2 ^ 140) (Nat.pow_le_pow_right (by decide) (by decide)))
theorem tx_of {cs : List Nat} (h1 : cs.length ≤ 100) (h : ∀ c, c ∈ cs → c < 1114112) : PlV (.str ⟨cs.toArray⟩) ∧ PyData.strOk ⟨cs.toArray⟩ = true := by
  refine ⟨.str (by show cs.toArray.size ≤ 100; simpa using h1) (fun x hx => Nat.lt_of_lt_of_le (h x (by simpa using hx)) (by decide)), ?_⟩
  unfold PyData.strOk
  rw [← Array.all_toList]
  exact List.all_eq_true.mpr fun c hc => decide_eq_true (h c (by simpa using hc))
theorem ok_x {t : Str} (h : PyData.strOk t = true) : PyData.strOk (t ++ ("x" : Str)) = true := by
  unfold PyData.strOk at h ⊢
  rw [← Array.all_toList] at h ⊢
  have e : (t ++ ("x" : Str)).cps.toList = t.cps.toList ++ ("x" : Str).cps.toList := by
    show (t.cps ++ ("x" : Str).cps).toList = _
    simp
  rw [e, List.all_append, h]
  decide +kernel
theorem pl_x {t : Str} (h : PlV (.str t)) (hl : t.length ≤ 12) : PlV (.str (t ++ ("x" : Str))) := by
  cases h with
  | str _ hc =>
    refine .str ?_ fun n hn => ?_
    · rw [strLen_append, show ("x" : Str).length = 1 by decide +kernel]; omega
    · have e : (t ++ ("x" : Str)).cps.toList = t.cps.toList ++ ("x" : Str).cps.toList := by
        show (t.cps ++ ("x" : Str).cps).toList = _
        simp
      rw [e] at hn
      rcases List.mem_append.mp hn with q | q
      · exact hc n q
      · exact (by decide +kernel : ∀ n ∈ ("x" : Str).cps.toList, n < 16 ^ 8) n q
theorem all1 {H : Hp} {R : List Addr} {n : Nat} {x : V} {d : PyData} (h : Th H R n x d) : ∀ (i : Nat) (y : V) (z : PyData), [x][i]? = some y → [d][i]? = some z → Th H R n y z
  | 0, _, _, e1, e2 => by cases e1; cases e2; exact h
  | n + 1, _, _, e1, _ => by cases e1
theorem all2 {H : Hp} {R : List Addr} {n : Nat} {x y : V} {d e : PyData} (h : Th H R n x d) (h2 : Th H R n y e) : ∀ (i : Nat) (u : V) (z : PyData), [x, y][i]? = some u → [d, e][i]? = some z → Th H R n u z
  | 0, _, _, e1, e2 => by cases e1; cases e2; exact h
  | 1, _, _, e1, e2 => by cases e1; cases e2; exact h2
  | n + 2, _, _, e1, _ => by cases e1
theorem all3 {H : Hp} {R : List Addr} {n : Nat} {x y v : V} {d e f : PyData} (h : Th H R n x d) (h2 : Th H R n y e) (h3 : Th H R n v f) : ∀ (i : Nat) (u : V) (z : PyData), [x, y, v][i]? = some u → [d, e, f][i]? = some z → Th H R n u z
  | 0, _, _, e1, e2 => by cases e1; cases e2; exact h
  | 1, _, _, e1, e2 => by cases e1; cases e2; exact h2
  | 2, _, _, e1, e2 => by cases e1; cases e2; exact h3
  | n + 3, _, _, e1, _ => by cases e1
theorem th_keep {H H' : Hp} {R : List Addr} {n : Nat} {v : V} {D : PyData} (h : Th H R n v D) (k : Keeps R H H') : Th H' R n v D := h.map fun c o nr e => ⟨k c o e nr, nr⟩
theorem a1keep {H H' : Hp} {b g : Addr} {k : Nat} {one : V} {D1 : PyData} (h : A1 H [b, g] k one D1) (kp : Keeps [b, g] H H') : A1 H' [b, g] k one D1 := by
  refine ⟨fun q => ?_, h.pl1, th_keep h.th1 kp⟩
  obtain ⟨c, xs, rfl, e, p, l⟩ := h.han q
  have nc : c ∉ [b, g] := by
    rcases h.th1 with t | ⟨c', _, _, e', nr, _⟩
    · rcases t with ⟨_, e', _⟩ | ⟨_, e', _⟩ | ⟨e', _⟩ <;> cases e'
    · cases e'; exact nr
  exact ⟨c, xs, rfl, kp _ _ e nc, p, l⟩
theorem a2keep {H H' : Hp} {b g : Addr} {k : Nat} {two : V} {D2 : PyData} (h : A2 H [b, g] k two D2) (kp : Keeps [b, g] H H') : A2 H' [b, g] k two D2 := ⟨h.pl2, th_keep h.th2 kp⟩
def spValue : Sp := fun vs H Q _ => ∃ (b g l : Addr) (n : Int) (k : Nat), vs = [.ref b, .int k] ∧ BoxAt H b g l n ∧ 0 ≤ n ∧ n < 9000000 ∧
  ∀ (r : Addr) (one two : V) (t : Str) (D1 D2 : PyData) (n' : Int) (H' : Hp), H' r = some (.tup [one, two, .str t]) → AD H' [b, g] k one two D1 D2 → n ≤ n' → n' ≤ n + 30 → BoxAt H' b g l n' → Keeps [b, g] H H' → Q (.ref r) H'
theorem ok_value (T : Txt K mg a) : FnOk P w K mg base CX0 3 a.f_value a.d_value ["_law_box_here", "_law_kind"] spValue := by
  refine T.F_value.ok sc_value (fun vs H Q E h => ?_) (fun cdv A outer s H vs Q E hr h => ?_)
  · obtain ⟨b, g, l, n, k, rfl, _⟩ := h
    rfl
  · obtain ⟨b, g, l, n, k, rfl, bx, n0, n1, kk⟩ := h
    refine ⟨_, (pss_cons (ps_set (i := 2) sc_value.nd rfl (Or.inr rfl) pe_str)
      (pss_cons (ps_set (i := 3) sc_value.nd rfl (Or.inl rfl) (pe_join pe_str (pe_lc (own := [("_law_k", 7)]) (g := gName 7) (tt := tYes) rfl sc_value.nd (pi_range1 (by rfl) T.z_range (pa_cons (pe_call (ok_take T) (hr.mono (by decide)) rfl T.g_take T.k_take T.B_take .nil pass0 (pa_cons (pv 0) (pa_cons pe_int pa_nil))) pa_nil)) (blkOk_by (own := [("_law_k", 7)]) (N := ["_law_box_here", "_law_kind", "_law_signs", "_law_text", "_law_number", "_law_one", "_law_two", "_law_k"]) (sc := defScope s_value) (by decide +kernel)) (fun _ _ _ _ _ => pg_name (i := 7) sc_value.nd rfl (Or.inl rfl)) (fun _ _ _ _ _ => pts_nil) (fun _ _ _ _ _ => by exact (pe_ix ix_str (pv 2) (pe_call (ok_take T) (hr.mono (by decide)) rfl T.g_take T.k_take T.B_take .nil pass0 (pa_cons (pv 0) (pa_cons (pe_callB call_len_str (by rfl) T.z_len (by decide +kernel) (pa_cons (pv 2) pa_nil)) pa_nil))) (fun _ _ => rfl))))))
      (pss_cons (ps_set (i := 4) sc_value.nd rfl (Or.inl rfl) (pe_op op_mul (pe_call (ok_take T) (hr.mono (by decide)) rfl T.g_take T.k_take T.B_take .nil pass0 (pa_cons (pv 0) (pa_cons (pe_op op_pow pe_int pe_int) pa_nil))) (pe_op op_sub pe_int (pe_op op_mul pe_int (pe_call (ok_take T) (hr.mono (by decide)) rfl T.g_take T.k_take T.B_take .nil pass0 (pa_cons (pv 0) (pa_cons pe_int pa_nil)))))))
      (pss_cons (ps_set (i := 5) sc_value.nd rfl (Or.inl rfl) (pe_ix ix_list (pe_lst (pa_cons (pv 3) (pa_cons (pv 4) pa_nil))) (pe_call (ok_take T) (hr.mono (by decide)) rfl T.g_take T.k_take T.B_take .nil pass0 (pa_cons (pv 0) (pa_cons pe_int pa_nil))) (fun _ _ => rfl)))
      (C8.pss_cut (ps_if (PW.pt (pw_or (pt_cmpR op_eq (pv 1) pe_int (nomark _)) (pw_or1 (pt_cmpR op_eq (pv 1) pe_int (nomark _))))) (pss_one (ps_set (i := 5) sc_value.nd rfl (Or.inl rfl) (pe_ix ix_list (pe_lst (pa_cons (pe_tup pa_nil) (pa_cons (pe_tup (pa_cons (pv 4) pa_nil)) (pa_cons (pe_tup (pa_cons (pv 4) (pa_cons pe_int pa_nil))) (pa_cons (pe_tup (pa_cons (pv 3) (pa_cons (pv 4) (pa_cons (pv 3) pa_nil)))) pa_nil))))) (pe_call (ok_take T) (hr.mono (by decide)) rfl T.g_take T.k_take T.B_take .nil pass0 (pa_cons (pv 0) (pa_cons pe_int pa_nil))) (fun _ _ => rfl)))) pss_nil)
      (pss_cons (ps_set (i := 6) sc_value.nd rfl (Or.inl rfl) (pe_ix ix_list (pe_lst (pa_cons (pv 3) (pa_cons (pv 4) (pa_cons (pe_op op_sub (pv 4) pe_int) (pa_cons (pe_op op_add_str (pv 3) pe_str) pa_nil))))) (pe_call (ok_take T) (hr.mono (by decide)) rfl T.g_take T.k_take T.B_take .nil pass0 (pa_cons (pv 0) (pa_cons pe_int pa_nil))) (fun _ _ => rfl)))
      (C8.pss_cut (ps_if (pt_cmpR op_eq (pv 1) pe_int (nomark _)) (pss_one (ps_set (i := 6) sc_value.nd rfl (Or.inl rfl) (pe_ix ix_list (pe_lst (pa_cons (pe_lst pa_nil) (pa_cons (pe_lst (pa_cons (pv 4) pa_nil)) (pa_cons (pe_lst (pa_cons (pe_tup (pa_cons (pe_tup (pa_cons pe_str (pa_cons (pv 3) pa_nil))) (pa_cons pe_non (pa_cons pe_non pa_nil)))) pa_nil)) (pa_cons (pe_lst (pa_cons (pe_tup (pa_cons pe_int (pa_cons pe_int (pa_cons pe_int pa_nil)))) (pa_cons (pv 3) pa_nil))) pa_nil))))) (pe_call (ok_take T) (hr.mono (by decide)) rfl T.g_take T.k_take T.B_take .nil pass0 (pa_cons (pv 0) (pa_cons pe_int pa_nil))) (fun _ _ => rfl)))) pss_nil)
      (pss_one (ps_ret (pe_tup (pa_cons (pv 5) (pa_cons (pv 6) (pa_cons (pv 3) pa_nil))))))))))))), ?_⟩
    refine ⟨⟨_, rfl⟩, ?_⟩
    refine ⟨_, rfl, b, g, l, n, 13, rfl, bx, n0, by omega, by decide, by decide, fun m H1 m0 m1 bx1 kp1 => ⟨m, rfl, by omega, by omega, fun D hD => ?_⟩⟩
    have hD0 : D ∉ [b, g] := offbox bx1 hD
    have fD : H D = none := (kp1.fresh hD).resolve_left hD0
    refine lc_range (lo := 0) (n := m.toNat) (fun i H3 => Blk (∃ cs : List Nat, cs.length = i ∧ (∀ c, c ∈ cs → c < 1114112) ∧ H3 D = some (.lst ((cs.map sign).map V.str)) ∧ BoxAt H3 b g l (n + 1 + i) ∧ Keeps [b, g] H H3)) ?_ ?_ ?_
    · refine Blk.of ⟨[], rfl, by simp, upd_same, ?_, kp1.upd (.inr fD)⟩
      have e : n + 1 + ((0 : Nat) : Int) = n + 1 := by omega
      rw [e]
      exact bx1.upd hD
    · intro i H3 hi hB
      obtain ⟨cs, rfl, hl, h3, bx3, kp3⟩ := hB.out
      refine ⟨rfl, ?_⟩
      dsimp only [tYes]
      refine iteT ?_
      refine ⟨_, rfl, _, rfl, _, rfl, Signs, rfl, signs_line, ?_⟩
      refine ⟨b, g, l, _, 50, by rw [signs_50]; rfl, bx3, by omega, by omega, by decide, by decide, fun j H4 j0 j1 bx4 kp4 => ?_⟩
      obtain ⟨c, hc, lc⟩ := signs_ix j0 j1
      refine ⟨_, _, _, rfl, rfl, signs_line, hc, ?_⟩
      have h4 := kp4 _ _ h3 hD0
      refine ⟨_, h4, ?_, Blk.of ⟨cs ++ [c], by rw [List.length_append]; rfl, ?_, ?_, ?_, (kp3.trans kp4).upd (.inr fD)⟩⟩
      · rw [List.length_map, List.length_map]
        exact small (by omega)
      · intro x hx
        rcases List.mem_append.mp hx with q | q
        · exact hl x q
        · simp at q
          subst q
          exact lc
      · rw [upd_same, List.map_append, List.map_append]
        rfl
      · have e : n + 1 + ((cs.length + 1 : Nat) : Int) = n + 1 + (cs.length : Int) + 1 := by omega
        rw [e]
        exact box_put bx4 fun q => offbox3 bx1 hD q
    · intro H3 hB
      obtain ⟨cs, hcl, hl, h3, bx3, kp3⟩ := hB.out
      refine ⟨_, D, cs.map sign, rfl, rfl, .inl (SqL.of h3), ?_, ?_⟩
      · rw [signs_len, List.length_map, show ("" : Str).length = 0 by decide +kernel]
        omega
      rw [join_signs]
      obtain ⟨pt, ot⟩ := tx_of (cs := cs) (by omega) hl
      have tl : (⟨cs.toArray⟩ : Str).length ≤ 12 := by show cs.toArray.size ≤ 12; simp; omega
      generalize (⟨cs.toArray⟩ : Str) = t at pt ot tl ⊢
      obtain ⟨n3, e3⟩ : ∃ z : Int, z = n + 1 + (m.toNat : Int) := ⟨_, rfl⟩
      rw [← e3] at bx3
      have b3 : n ≤ n3 ∧ n3 ≤ n + 13 := by omega
      clear hcl hl h3 e3
      refine ⟨_, rfl, _, _, rfl, rfl, ⟨by decide, by decide, by decide⟩, ?_⟩
      refine ⟨b, g, l, n3, _, rfl, bx3, by omega, by omega, by decide, by decide, fun q H4 q0 q1 bx4 kp4 => ?_⟩
      refine ⟨_, rfl, b, g, l, n3 + 1, 2, rfl, bx4, by omega, by omega, by decide, by decide, fun q2 H5 z0 z1 bx5 kp5 => ?_⟩
      refine ⟨_, _, rfl, rfl, .inl ⟨by decide, by decide⟩, ?_⟩
      refine ⟨_, _, rfl, rfl, ?_⟩
      refine ⟨_, _, rfl, rfl, .inr ⟨by omega, by omega⟩, ?_⟩
      show gName 4 (V.int (q * (1 - 2 * q2))) _ _ _
      have zb : -10 ^ 39 < q * (1 - 2 * q2) ∧ q * (1 - 2 * q2) < 10 ^ 39 := by
        have q1' : q < 10 ^ 39 := q1
        have : q2 = 0 ∨ q2 = 1 := by omega
        rcases this with rfl | rfl <;> omega
      generalize q * (1 - 2 * q2) = z at zb ⊢
      have pz := pl_int (show -10 ^ 40 < z by omega) (show z < 10 ^ 40 by omega)
      have pz1 := pl_int (show -10 ^ 40 < z - 1 by omega) (show z - 1 < 10 ^ 40 by omega)
      refine ⟨_, rfl, _, rfl, by show 2 ≤ sizeLine; decide, fun L hL => ?_⟩
      refine ⟨_, rfl, b, g, l, n3 + 1 + 1, 2, rfl, bx5.upd hL, by omega, by omega, by decide, by decide, fun q3 H6 w0 w1 bx6 kp6 => ?_⟩
      have hL6 : H6 L = some (.lst [.str t, .int z]) := kp6 _ _ upd_same (offbox bx5 hL)
      obtain ⟨one, D1, h1, p1, t1⟩ : ∃ (one : V) (D1 : PyData), atI [V.str t, V.int z] q3 = some one ∧ PlV one ∧ Th0 one D1 := by
        have : q3 = 0 ∨ q3 = 1 := by omega
        rcases this with rfl | rfl
        · exact ⟨_, _, rfl, pt, .inr (.inl ⟨t, rfl, rfl, ot⟩)⟩
        · exact ⟨_, _, rfl, pz, .inl ⟨z, rfl, rfl⟩⟩
      refine ⟨_, _, _, _, rfl, rfl, SqL.of hL6, h1, ?_⟩
      have kp6' : Keeps [b, g] H H6 := (((kp3.trans kp4).trans kp5).upd (.inr ((((kp3.trans kp4).trans kp5).fresh hL).resolve_left (offbox bx5 hL)))).trans kp6
      clear h1 hL6 hL kp6 bx5 bx4 kp5 kp4 kp3 bx3
      refine ⟨fun σ H1 => Blk (∃ (one : V) (D1 : PyData) (n' : Int), σ = [some (.ref b), some (.int k), some (.str Signs), some (.str t), some (.int z), some one, none, none] ∧ A1 H1 [b, g] k one D1 ∧ BoxAt H1 b g l n' ∧ n ≤ n' ∧ n' ≤ n + 18 ∧ Keeps [b, g] H H1), ?_, ?_⟩
      · walk_at "rd"
        refine iteK (fun hc => ?_) (fun hc => ?_)
        · refine iteT ?_
          obtain rfl : k = 4 := by omega
          refine ⟨by show 0 ≤ sizeLine; decide, fun p0 hp0 => ?_⟩
          obtain ⟨H7, e7⟩ : ∃ Z, Z = upd H6 p0 (.tup []) := ⟨_, rfl⟩
          have s7 : Same H6 H7 := by rw [e7]; exact (Same.refl H6).upd hp0
          have a0 : H7 p0 = some (.tup []) := by rw [e7]; exact upd_same
          rw [← e7]
          refine ⟨_, rfl, by show 1 ≤ sizeLine; decide, fun p1 hp1 => ?_⟩
          obtain ⟨H8, e8⟩ : ∃ Z, Z = upd H7 p1 (.tup [.int z]) := ⟨_, rfl⟩
          have s8 : Same H7 H8 := by rw [e8]; exact (Same.refl H7).upd hp1
          have a1 : H8 p1 = some (.tup [.int z]) := by rw [e8]; exact upd_same
          rw [← e8]
          refine ⟨_, rfl, by show 2 ≤ sizeLine; decide, fun p2 hp2 => ?_⟩
          obtain ⟨H9, e9⟩ : ∃ Z, Z = upd H8 p2 (.tup [.int z, .int 3]) := ⟨_, rfl⟩
          have s9 : Same H8 H9 := by rw [e9]; exact (Same.refl H8).upd hp2
          have a2 : H9 p2 = some (.tup [.int z, .int 3]) := by rw [e9]; exact upd_same
          rw [← e9]
          refine ⟨_, rfl, _, rfl, _, rfl, by show 3 ≤ sizeLine; decide, fun p3 hp3 => ?_⟩
          obtain ⟨H10, e10⟩ : ∃ Z, Z = upd H9 p3 (.tup [.str t, .int z, .str t]) := ⟨_, rfl⟩
          have s10 : Same H9 H10 := by rw [e10]; exact (Same.refl H9).upd hp3
          have a3 : H10 p3 = some (.tup [.str t, .int z, .str t]) := by rw [e10]; exact upd_same
          rw [← e10]
          refine ⟨by show 4 ≤ sizeLine; decide, fun L2 hL2 => ?_⟩
          have s6 : Same H6 (upd H10 L2 (.lst [.ref p0, .ref p1, .ref p2, .ref p3])) := (((s7.trans s8).trans s9).trans s10).trans ((Same.refl H10).upd hL2)
          have a0 := ((Same.refl H10).upd (o := .lst [.ref p0, .ref p1, .ref p2, .ref p3]) hL2) _ _ (s10 _ _ (s9 _ _ (s8 _ _ a0)))
          have a1 := ((Same.refl H10).upd (o := .lst [.ref p0, .ref p1, .ref p2, .ref p3]) hL2) _ _ (s10 _ _ (s9 _ _ a1))
          have a2 := ((Same.refl H10).upd (o := .lst [.ref p0, .ref p1, .ref p2, .ref p3]) hL2) _ _ (s10 _ _ a2)
          have a3 := ((Same.refl H10).upd (o := .lst [.ref p0, .ref p1, .ref p2, .ref p3]) hL2) _ _ a3
          have aL : (upd H10 L2 (.lst [.ref p0, .ref p1, .ref p2, .ref p3])) L2 = some (.lst [.ref p0, .ref p1, .ref p2, .ref p3]) := upd_same
          have nL : L2 ∉ [b, g] := offbox (((((bx6.same s7).same s8).same s9).same s10)) hL2
          have f0 : p0 ∉ [b, g] := offbox bx6 hp0
          have f1 : p1 ∉ [b, g] := offbox (bx6.same s7) hp1
          have f2 : p2 ∉ [b, g] := offbox ((bx6.same s7).same s8) hp2
          have f3 : p3 ∉ [b, g] := offbox (((bx6.same s7).same s8).same s9) hp3
          generalize (upd H10 L2 (.lst [.ref p0, .ref p1, .ref p2, .ref p3])) = H11 at s6 a0 a1 a2 a3 aL ⊢
          clear e7 e8 e9 e10 s7 s8 s9 s10 hp0 hp1 hp2 hp3 hL2
          refine ⟨_, rfl, b, g, l, n3 + 1 + 1 + 1, 4, rfl, bx6.same s6, by omega, by omega, by decide, by decide, fun q4 H12 y0 y1 bx12 kp12 => ?_⟩
          have aL := kp12 _ _ aL nL
          obtain ⟨h, xs, ds, hq, eh, px, th⟩ : ∃ (h : Addr) (xs : List V) (ds : List PyData), atI [V.ref p0, .ref p1, .ref p2, .ref p3] q4 = some (.ref h) ∧ (H12 h = some (.tup xs) ∧ h ∉ [b, g]) ∧ ((∀ y ∈ xs, PlV y) ∧ xs.length ≤ 20) ∧ xs.length = ds.length ∧ ∀ (i : Nat) (x : V) (d : PyData), xs[i]? = some x → ds[i]? = some d → Th0 x d := by
            have : q4 = 0 ∨ q4 = 1 ∨ q4 = 2 ∨ q4 = 3 := by omega
            have tz : Th0 (.int z) (.int z) := .inl ⟨z, rfl, rfl⟩
            have tt : Th0 (.str t) (.str t) := .inr (.inl ⟨t, rfl, rfl, ot⟩)
            rcases this with rfl | rfl | rfl | rfl
            · exact ⟨p0, [], [], rfl, ⟨kp12 _ _ a0 f0, f0⟩, ⟨by simp, by decide⟩, rfl, fun i x d e => by simp at e⟩
            · exact ⟨p1, _, [.int z], rfl, ⟨kp12 _ _ a1 f1, f1⟩, ⟨by simpa using pz, by show 1 ≤ 20; decide⟩, rfl, fun i x d e e' => by
                match i, e, e' with
                | 0, e, e' => cases e; cases e'; exact tz⟩
            · exact ⟨p2, _, [.int z, .int 3], rfl, ⟨kp12 _ _ a2 f2, f2⟩, ⟨by simpa using ⟨pz, pl_int (by decide) (by decide)⟩, by show 2 ≤ 20; decide⟩, rfl, fun i x d e e' => by
                match i, e, e' with
                | 0, e, e' => cases e; cases e'; exact tz
                | 1, e, e' => cases e; cases e'; exact .inl ⟨3, rfl, rfl⟩⟩
            · exact ⟨p3, _, [.str t, .int z, .str t], rfl, ⟨kp12 _ _ a3 f3, f3⟩, ⟨by simpa using ⟨pt, pz, pt⟩, by show 3 ≤ 20; decide⟩, rfl, fun i x d e e' => by
                match i, e, e' with
                | 0, e, e' => cases e; cases e'; exact tt
                | 1, e, e' => cases e; cases e'; exact tz
                | 2, e, e' => cases e; cases e'; exact tt⟩
          refine ⟨_, _, _, _, rfl, rfl, SqL.of aL, hq, ?_⟩
          have k6 : Keeps [b, g] H6 H12 := Keeps.trans (fun c o z _ => s6 c o z) kp12
          refine Blk.of ⟨.ref h, .tuple ds, n3 + 1 + 1 + 1 + 1, rfl, ⟨fun _ => ⟨h, xs, rfl, eh.1, px.1, px.2⟩, fun x y => absurd rfl (by first | exact x | exact y), .inr ⟨h, xs, ds, rfl, eh.2, .inl ⟨eh.1, rfl⟩, px.2, th.1, fun i x d e1 e2 => Th.of0 2 (th.2 i x d e1 e2)⟩⟩, bx12, by omega, by omega, kp6'.trans k6⟩
        · walk_at "rd"
          refine iteK (fun hc => ?_) (fun hc => ?_)
          · obtain rfl : k = 5 := by omega
            refine ⟨by show 0 ≤ sizeLine; decide, fun p0 hp0 => ?_⟩
            obtain ⟨H7, e7⟩ : ∃ Z, Z = upd H6 p0 (.tup []) := ⟨_, rfl⟩
            have s7 : Same H6 H7 := by rw [e7]; exact (Same.refl H6).upd hp0
            have a0 : H7 p0 = some (.tup []) := by rw [e7]; exact upd_same
            rw [← e7]
            refine ⟨_, rfl, by show 1 ≤ sizeLine; decide, fun p1 hp1 => ?_⟩
            obtain ⟨H8, e8⟩ : ∃ Z, Z = upd H7 p1 (.tup [.int z]) := ⟨_, rfl⟩
            have s8 : Same H7 H8 := by rw [e8]; exact (Same.refl H7).upd hp1
            have a1 : H8 p1 = some (.tup [.int z]) := by rw [e8]; exact upd_same
            rw [← e8]
            refine ⟨_, rfl, by show 2 ≤ sizeLine; decide, fun p2 hp2 => ?_⟩
            obtain ⟨H9, e9⟩ : ∃ Z, Z = upd H8 p2 (.tup [.int z, .int 3]) := ⟨_, rfl⟩
            have s9 : Same H8 H9 := by rw [e9]; exact (Same.refl H8).upd hp2
            have a2 : H9 p2 = some (.tup [.int z, .int 3]) := by rw [e9]; exact upd_same
            rw [← e9]
            refine ⟨_, rfl, _, rfl, _, rfl, by show 3 ≤ sizeLine; decide, fun p3 hp3 => ?_⟩
            obtain ⟨H10, e10⟩ : ∃ Z, Z = upd H9 p3 (.tup [.str t, .int z, .str t]) := ⟨_, rfl⟩
            have s10 : Same H9 H10 := by rw [e10]; exact (Same.refl H9).upd hp3
            have a3 : H10 p3 = some (.tup [.str t, .int z, .str t]) := by rw [e10]; exact upd_same
            rw [← e10]
            refine ⟨by show 4 ≤ sizeLine; decide, fun L2 hL2 => ?_⟩
            have s6 : Same H6 (upd H10 L2 (.lst [.ref p0, .ref p1, .ref p2, .ref p3])) := (((s7.trans s8).trans s9).trans s10).trans ((Same.refl H10).upd hL2)
            have a0 := ((Same.refl H10).upd (o := .lst [.ref p0, .ref p1, .ref p2, .ref p3]) hL2) _ _ (s10 _ _ (s9 _ _ (s8 _ _ a0)))
            have a1 := ((Same.refl H10).upd (o := .lst [.ref p0, .ref p1, .ref p2, .ref p3]) hL2) _ _ (s10 _ _ (s9 _ _ a1))
            have a2 := ((Same.refl H10).upd (o := .lst [.ref p0, .ref p1, .ref p2, .ref p3]) hL2) _ _ (s10 _ _ a2)
            have a3 := ((Same.refl H10).upd (o := .lst [.ref p0, .ref p1, .ref p2, .ref p3]) hL2) _ _ a3
            have aL : (upd H10 L2 (.lst [.ref p0, .ref p1, .ref p2, .ref p3])) L2 = some (.lst [.ref p0, .ref p1, .ref p2, .ref p3]) := upd_same
            have nL : L2 ∉ [b, g] := offbox (((((bx6.same s7).same s8).same s9).same s10)) hL2
            have f0 : p0 ∉ [b, g] := offbox bx6 hp0
            have f1 : p1 ∉ [b, g] := offbox (bx6.same s7) hp1
            have f2 : p2 ∉ [b, g] := offbox ((bx6.same s7).same s8) hp2
            have f3 : p3 ∉ [b, g] := offbox (((bx6.same s7).same s8).same s9) hp3
            generalize (upd H10 L2 (.lst [.ref p0, .ref p1, .ref p2, .ref p3])) = H11 at s6 a0 a1 a2 a3 aL ⊢
            clear e7 e8 e9 e10 s7 s8 s9 s10 hp0 hp1 hp2 hp3 hL2
            refine ⟨_, rfl, b, g, l, n3 + 1 + 1 + 1, 4, rfl, bx6.same s6, by omega, by omega, by decide, by decide, fun q4 H12 y0 y1 bx12 kp12 => ?_⟩
            have aL := kp12 _ _ aL nL
            obtain ⟨h, xs, ds, hq, eh, px, th⟩ : ∃ (h : Addr) (xs : List V) (ds : List PyData), atI [V.ref p0, .ref p1, .ref p2, .ref p3] q4 = some (.ref h) ∧ (H12 h = some (.tup xs) ∧ h ∉ [b, g]) ∧ ((∀ y ∈ xs, PlV y) ∧ xs.length ≤ 20) ∧ xs.length = ds.length ∧ ∀ (i : Nat) (x : V) (d : PyData), xs[i]? = some x → ds[i]? = some d → Th0 x d := by
              have : q4 = 0 ∨ q4 = 1 ∨ q4 = 2 ∨ q4 = 3 := by omega
              have tz : Th0 (.int z) (.int z) := .inl ⟨z, rfl, rfl⟩
              have tt : Th0 (.str t) (.str t) := .inr (.inl ⟨t, rfl, rfl, ot⟩)
              rcases this with rfl | rfl | rfl | rfl
              · exact ⟨p0, [], [], rfl, ⟨kp12 _ _ a0 f0, f0⟩, ⟨by simp, by decide⟩, rfl, fun i x d e => by simp at e⟩
              · exact ⟨p1, _, [.int z], rfl, ⟨kp12 _ _ a1 f1, f1⟩, ⟨by simpa using pz, by show 1 ≤ 20; decide⟩, rfl, fun i x d e e' => by
                  match i, e, e' with
                  | 0, e, e' => cases e; cases e'; exact tz⟩
              · exact ⟨p2, _, [.int z, .int 3], rfl, ⟨kp12 _ _ a2 f2, f2⟩, ⟨by simpa using ⟨pz, pl_int (by decide) (by decide)⟩, by show 2 ≤ 20; decide⟩, rfl, fun i x d e e' => by
                  match i, e, e' with
                  | 0, e, e' => cases e; cases e'; exact tz
                  | 1, e, e' => cases e; cases e'; exact .inl ⟨3, rfl, rfl⟩⟩
              · exact ⟨p3, _, [.str t, .int z, .str t], rfl, ⟨kp12 _ _ a3 f3, f3⟩, ⟨by simpa using ⟨pt, pz, pt⟩, by show 3 ≤ 20; decide⟩, rfl, fun i x d e e' => by
                  match i, e, e' with
                  | 0, e, e' => cases e; cases e'; exact tt
                  | 1, e, e' => cases e; cases e'; exact tz
                  | 2, e, e' => cases e; cases e'; exact tt⟩
            refine ⟨_, _, _, _, rfl, rfl, SqL.of aL, hq, ?_⟩
            have k6 : Keeps [b, g] H6 H12 := Keeps.trans (fun c o z _ => s6 c o z) kp12
            refine Blk.of ⟨.ref h, .tuple ds, n3 + 1 + 1 + 1 + 1, rfl, ⟨fun _ => ⟨h, xs, rfl, eh.1, px.1, px.2⟩, fun x y => absurd rfl (by first | exact x | exact y), .inr ⟨h, xs, ds, rfl, eh.2, .inl ⟨eh.1, rfl⟩, px.2, th.1, fun i x d e1 e2 => Th.of0 2 (th.2 i x d e1 e2)⟩⟩, bx12, by omega, by omega, kp6'.trans k6⟩
          · exact Blk.of ⟨one, D1, n3 + 1 + 1 + 1, rfl, ⟨fun h => by omega, fun _ _ => p1, Th.of0 3 t1⟩, bx6, by omega, by omega, kp6'⟩
      · rintro σ H1 hB
        obtain ⟨one, D1, n4, rfl, ao, bx7, b4, b5, kp7⟩ := hB.out
        refine ⟨_, rfl, _, rfl, _, rfl, _, _, rfl, rfl, _, rfl, _, _, rfl, rfl, by rw [show (Str.ofString "x").length = 1 by decide +kernel, sizeLine_eq]; omega, ?_⟩
        refine ⟨by show 4 ≤ sizeLine; decide, fun L hL => ?_⟩
        have nL : L ∉ [b, g] := offbox bx7 hL
        have sL : Same H1 (upd H1 L (.lst [.str t, .int z, .int (z - 1), .str (t ++ ("x" : Str))])) := (Same.refl H1).upd hL
        have aL : (upd H1 L (.lst [.str t, .int z, .int (z - 1), .str (t ++ ("x" : Str))])) L = some (.lst [.str t, .int z, .int (z - 1), .str (t ++ ("x" : Str))]) := upd_same
        refine ⟨_, rfl, b, g, l, n4, 4, rfl, bx7.same sL, by omega, by omega, by decide, by decide, fun q5 H3 v0 v1 bx3 kp3 => ?_⟩
        have aL := kp3 _ _ aL nL
        have k3 : Keeps [b, g] H1 H3 := Keeps.trans (fun c o z _ => sL c o z) kp3
        obtain ⟨two, D2, hq, p2, t2⟩ : ∃ (two : V) (D2 : PyData), atI [V.str t, .int z, .int (z - 1), .str (t ++ ("x" : Str))] q5 = some two ∧ PlV two ∧ Th0 two D2 := by
          have : q5 = 0 ∨ q5 = 1 ∨ q5 = 2 ∨ q5 = 3 := by omega
          rcases this with rfl | rfl | rfl | rfl
          · exact ⟨_, _, rfl, pt, .inr (.inl ⟨_, rfl, rfl, ot⟩)⟩
          · exact ⟨_, _, rfl, pz, .inl ⟨_, rfl, rfl⟩⟩
          · exact ⟨_, _, rfl, pz1, .inl ⟨_, rfl, rfl⟩⟩
          · exact ⟨_, _, rfl, pl_x pt tl, .inr (.inl ⟨_, rfl, rfl, ok_x ot⟩)⟩
        refine ⟨_, _, _, _, rfl, rfl, SqL.of aL, hq, ?_⟩
        have ao := a1keep ao k3
        have kp8 : Keeps [b, g] H H3 := kp7.trans k3
        obtain ⟨n5, e5⟩ : ∃ y : Int, y = n4 := ⟨_, rfl⟩
        rw [← e5] at bx3
        have b5 : n ≤ n5 ∧ n5 ≤ n + 18 := by omega
        clear e5 b4 kp7 k3 aL nL sL hq hL bx7 kp3
        refine ⟨fun σ H4 => Blk (∃ (two : V) (D2 : PyData) (n' : Int), σ = [some (.ref b), some (.int k), some (.str Signs), some (.str t), some (.int z), some one, some two, none] ∧ A1 H4 [b, g] k one D1 ∧ A2 H4 [b, g] k two D2 ∧ BoxAt H4 b g l n' ∧ n ≤ n' ∧ n' ≤ n + 20 ∧ Keeps [b, g] H H4), ?_, ?_⟩
        · walk_at "rd"
          refine iteK (fun hc => ?_) (fun hc => ?_)
          · obtain rfl : k = 11 := by omega
            refine ⟨by show 0 ≤ sizeLine; decide, fun p0 hp0 => ?_⟩
            obtain ⟨H7, e7⟩ : ∃ Z, Z = upd H3 p0 (.lst []) := ⟨_, rfl⟩
            have s7 : Same H3 H7 := by rw [e7]; exact (Same.refl H3).upd hp0
            have a0 : H7 p0 = some (.lst []) := by rw [e7]; exact upd_same
            rw [← e7]
            refine ⟨_, rfl, by show 1 ≤ sizeLine; decide, fun p1 hp1 => ?_⟩
            obtain ⟨H8, e8⟩ : ∃ Z, Z = upd H7 p1 (.lst [.int z]) := ⟨_, rfl⟩
            have s8 : Same H7 H8 := by rw [e8]; exact (Same.refl H7).upd hp1
            have a1 : H8 p1 = some (.lst [.int z]) := by rw [e8]; exact upd_same
            rw [← e8]
            refine ⟨_, rfl, by show 2 ≤ sizeLine; decide, fun p2 hp2 => ?_⟩
            obtain ⟨H9, e9⟩ : ∃ Z, Z = upd H8 p2 (.tup [.str ("top" : Str), .str t]) := ⟨_, rfl⟩
            have s9 : Same H8 H9 := by rw [e9]; exact (Same.refl H8).upd hp2
            have a2 : H9 p2 = some (.tup [.str ("top" : Str), .str t]) := by rw [e9]; exact upd_same
            rw [← e9]
            refine ⟨by show 3 ≤ sizeLine; decide, fun p3 hp3 => ?_⟩
            obtain ⟨H10, e10⟩ : ∃ Z, Z = upd H9 p3 (.tup [.ref p2, .non, .non]) := ⟨_, rfl⟩
            have s10 : Same H9 H10 := by rw [e10]; exact (Same.refl H9).upd hp3
            have a3 : H10 p3 = some (.tup [.ref p2, .non, .non]) := by rw [e10]; exact upd_same
            rw [← e10]
            refine ⟨by show 1 ≤ sizeLine; decide, fun p4 hp4 => ?_⟩
            obtain ⟨H11, e11⟩ : ∃ Z, Z = upd H10 p4 (.lst [.ref p3]) := ⟨_, rfl⟩
            have s11 : Same H10 H11 := by rw [e11]; exact (Same.refl H10).upd hp4
            have a4 : H11 p4 = some (.lst [.ref p3]) := by rw [e11]; exact upd_same
            rw [← e11]
            refine ⟨by show 3 ≤ sizeLine; decide, fun p5 hp5 => ?_⟩
            obtain ⟨H12, e12⟩ : ∃ Z, Z = upd H11 p5 (.tup [.int 1, .int 2, .int 3]) := ⟨_, rfl⟩
            have s12 : Same H11 H12 := by rw [e12]; exact (Same.refl H11).upd hp5
            have a5 : H12 p5 = some (.tup [.int 1, .int 2, .int 3]) := by rw [e12]; exact upd_same
            rw [← e12]
            refine ⟨_, rfl, by show 2 ≤ sizeLine; decide, fun p6 hp6 => ?_⟩
            obtain ⟨H13, e13⟩ : ∃ Z, Z = upd H12 p6 (.lst [.ref p5, .str t]) := ⟨_, rfl⟩
            have s13 : Same H12 H13 := by rw [e13]; exact (Same.refl H12).upd hp6
            have a6 : H13 p6 = some (.lst [.ref p5, .str t]) := by rw [e13]; exact upd_same
            rw [← e13]
            refine ⟨by show 4 ≤ sizeLine; decide, fun L2 hL2 => ?_⟩
            have b7 := bx3.same s7
            have b8 := b7.same s8
            have b9 := b8.same s9
            have b10 := b9.same s10
            have b11 := b10.same s11
            have b12 := b11.same s12
            have b13 := b12.same s13
            have s14 : Same H13 (upd H13 L2 (.lst [.ref p0, .ref p1, .ref p4, .ref p6])) := (Same.refl H13).upd hL2
            have aL : (upd H13 L2 (.lst [.ref p0, .ref p1, .ref p4, .ref p6])) L2 = some (.lst [.ref p0, .ref p1, .ref p4, .ref p6]) := upd_same
            have nL : L2 ∉ [b, g] := offbox b13 hL2
            generalize (upd H13 L2 (.lst [.ref p0, .ref p1, .ref p4, .ref p6])) = H14 at s14 aL ⊢
            have s6 : Same H3 H14 := ((((((s7.trans s8).trans s9).trans s10).trans s11).trans s12).trans s13).trans s14
            have f0 : p0 ∉ [b, g] := offbox bx3 hp0
            have f1 : p1 ∉ [b, g] := offbox b7 hp1
            have f2 : p2 ∉ [b, g] := offbox b8 hp2
            have f3 : p3 ∉ [b, g] := offbox b9 hp3
            have f4 : p4 ∉ [b, g] := offbox b10 hp4
            have f5 : p5 ∉ [b, g] := offbox b11 hp5
            have f6 : p6 ∉ [b, g] := offbox b12 hp6
            have a0 := s14 _ _ (s13 _ _ (s12 _ _ (s11 _ _ (s10 _ _ (s9 _ _ (s8 _ _ a0))))))
            have a1 := s14 _ _ (s13 _ _ (s12 _ _ (s11 _ _ (s10 _ _ (s9 _ _ a1)))))
            have a2 := s14 _ _ (s13 _ _ (s12 _ _ (s11 _ _ (s10 _ _ a2))))
            have a3 := s14 _ _ (s13 _ _ (s12 _ _ (s11 _ _ a3)))
            have a4 := s14 _ _ (s13 _ _ (s12 _ _ a4))
            have a5 := s14 _ _ (s13 _ _ a5)
            have a6 := s14 _ _ a6
            clear e7 e8 e9 e10 e11 e12 e13 s7 s8 s9 s10 s11 s12 s13 s14 hp0 hp1 hp2 hp3 hp4 hp5 hp6 hL2 b7 b8 b9 b10 b11 b12 b13
            refine ⟨_, rfl, b, g, l, n5 + 1, 4, rfl, bx3.same s6, by omega, by omega, by decide, by decide, fun q4 H15 y0 y1 bx15 kp15 => ?_⟩
            have aL := kp15 _ _ aL nL
            have a0 := kp15 _ _ a0 f0
            have a1 := kp15 _ _ a1 f1
            have a2 := kp15 _ _ a2 f2
            have a3 := kp15 _ _ a3 f3
            have a4 := kp15 _ _ a4 f4
            have a5 := kp15 _ _ a5 f5
            have a6 := kp15 _ _ a6 f6
            have k6 : Keeps [b, g] H3 H15 := Keeps.trans (fun c o z _ => s6 c o z) kp15
            have tz : ∀ i : Int, Th0 (.int i) (.int i) := fun i => .inl ⟨i, rfl, rfl⟩
            have tt : ∀ i : Str, PyData.strOk i = true → Th0 (.str i) (.str i) := fun i o => .inr (.inl ⟨i, rfl, rfl, o⟩)
            obtain ⟨two, D2, hq, th⟩ : ∃ (two : V) (D2 : PyData), atI [V.ref p0, .ref p1, .ref p4, .ref p6] q4 = some two ∧ Th H15 [b, g] 3 two D2 := by
              have : q4 = 0 ∨ q4 = 1 ∨ q4 = 2 ∨ q4 = 3 := by omega
              rcases this with rfl | rfl | rfl | rfl
              · exact ⟨_, .list [], rfl, .inr ⟨p0, [], [], rfl, f0, .inr ⟨a0, rfl⟩, by decide, rfl, fun i x d e => by simp at e⟩⟩
              · exact ⟨_, .list [.int z], rfl, .inr ⟨p1, _, _, rfl, f1, .inr ⟨a1, rfl⟩, by show 1 ≤ 20; decide, rfl, all1 (Th.of0 2 (tz z))⟩⟩
              · exact ⟨_, .list [.tuple [.tuple [.str ("top" : Str), .str t], .none, .none]], rfl, .inr ⟨p4, _, _, rfl, f4, .inr ⟨a4, rfl⟩, by show 1 ≤ 20; decide, rfl, all1 (.inr ⟨p3, _, _, rfl, f3, .inl ⟨a3, rfl⟩, by show 3 ≤ 20; decide, rfl,
                  all3 (.inr ⟨p2, _, _, rfl, f2, .inl ⟨a2, rfl⟩, by show 2 ≤ 20; decide, rfl, all2 (Th.of0 0 (tt _ (by decide +kernel))) (Th.of0 0 (tt _ ot))⟩) (Th.of0 1 (.inr (.inr ⟨rfl, rfl⟩))) (Th.of0 1 (.inr (.inr ⟨rfl, rfl⟩)))⟩)⟩⟩
              · exact ⟨_, .list [.tuple [.int 1, .int 2, .int 3], .str t], rfl, .inr ⟨p6, _, _, rfl, f6, .inr ⟨a6, rfl⟩, by show 2 ≤ 20; decide, rfl, all2 (.inr ⟨p5, _, _, rfl, f5, .inl ⟨a5, rfl⟩, by show 3 ≤ 20; decide, rfl,
                  all3 (Th.of0 1 (tz _)) (Th.of0 1 (tz _)) (Th.of0 1 (tz _))⟩) (Th.of0 2 (tt _ ot))⟩⟩
            refine ⟨_, _, _, _, rfl, rfl, SqL.of aL, hq, ?_⟩
            refine Blk.of ⟨two, D2, n5 + 1 + 1, rfl, a1keep ao k6, ⟨fun h => absurd rfl h, th⟩, bx15, by omega, by omega, kp8.trans k6⟩
          · exact Blk.of ⟨two, D2, n5 + 1, rfl, ao, ⟨fun _ => p2, Th.of0 3 t2⟩, bx3, by omega, by omega, kp8⟩
        · rintro σ H4 hB
          obtain ⟨two, D2, n6, rfl, a1, a2, bx4, b6, b7, kp4⟩ := hB.out
          refine ⟨_, rfl, _, rfl, _, rfl, by show 3 ≤ sizeLine; decide, fun r hr0 => ?_⟩
          have sr : Same H4 (upd H4 r (.tup [one, two, .str t])) := (Same.refl H4).upd hr0
          have a1 := a1keep a1 (fun c o z _ => sr c o z)
          have a2 := a2keep a2 (fun c o z _ => sr c o z)
          exact kk r one two t D1 D2 n6 _ upd_same ⟨a1.han, a1.pl1, a1.th1, a2.pl2, a2.th2⟩ b6 (by omega) (bx4.same sr) (kp4.trans fun c o z _ => sr c o z)

/-! ### the law -/
theorem ad_keep {H H' : Hp} {b g : Addr} {k : Nat} {one two : V} {D1 D2 : PyData} (h : AD H [b, g] k one two D1 D2) (kp : Keeps [b, g] H H') : AD H' [b, g] k one two D1 D2 := by
  have a1 := a1keep ⟨h.han, h.pl1, h.th1⟩ kp
  have a2 := a2keep ⟨h.pl2, h.th2⟩ kp
  exact ⟨a1.han, a1.pl1, a1.th1, a2.pl2, a2.th2⟩
theorem same_keeps {H H' : Hp} {R : List Addr} (s : Same H H') : Keeps R H H' := fun c o z _ => s c o z
theorem box_there {H : Hp} {b g l : Addr} {n : Int} (bx : BoxAt H b g l n) : ∀ z, z ∈ [b, g] → H z ≠ none := fun z hz q => offbox bx q hz
theorem evB_same {a : Ad} {H H' : Hp} {R : List Addr} {k : Nat} {e : Addr} {D1 D2 : PyData} (h : EvB a H R k e D1 D2) (s : Same H H') : EvB a H' R k e D1 D2 := by
  obtain ⟨d, fs, e1, e2, f⟩ := h
  exact ⟨d, fs, s _ _ e1, s _ _ e2, fun f' D m => (f f' D m).elim fun v h => ⟨v, h.1, h.2.same s⟩⟩
theorem evB_at {a : Ad} {H : Hp} {R : List Addr} {k : Nat} {e : Addr} {D1 D2 : PyData} (h : EvB a H R k e D1 D2) : EvAt H (clsK a k) e := by
  obtain ⟨d, fs, e1, e2, _⟩ := h
  exact .with d fs e1 e2
theorem bornes_lay {H : Hp} {R : List Addr} {k : Nat} {one two : V} {D1 D2 : PyData} (h : AD H R k one two D1 D2) : (PyData.list (bornes k D1 D2)).canLay0 = true ∧ SeqAt.shaped (.list (bornes k D1 D2)) = true := by
  have h1 := h.th1.lay
  have h2 := h.th2.lay
  have hc : (PyData.list (bornes k D1 D2)).canLay0 = true ∧ (PyData.list (bornes k D1 D2)).depth ≤ 60 := by
    unfold bornes
    by_cases q : k = 10 ∨ k = 11
    · rw [if_pos q]
      simp only [PyData.canLay0, PyData.canLayAll0, PyData.depth, PyData.depthAll, h1.1, h2.1]
      exact ⟨rfl, by omega⟩
    · rw [if_neg q]
      simp only [PyData.canLay0, PyData.canLayAll0, PyData.depth, PyData.depthAll, h1.1]
      exact ⟨rfl, by omega⟩
  refine ⟨hc.1, ?_⟩
  unfold SeqAt.shaped
  rw [hc.1]
  exact decide_eq_true (by omega)
theorem bornes_dp {K : PySem.W.Frag} {H : Hp} {R : List Addr} {k n : Nat} {one two : V} {D1 D2 : PyData} (h : AD H R k one two D1 D2) (hn : n = (bornes k D1 D2).length) : DpAll K H (cutV [one, two] none (some (n : Int))) (bornes k D1 D2) := by
  unfold bornes at hn ⊢
  by_cases q : k = 10 ∨ k = 11
  · rw [if_pos q] at hn ⊢
    subst hn
    exact .cons h.th1.dp (.cons h.th2.dp .nil)
  · rw [if_neg q] at hn ⊢
    subst hn
    exact .cons h.th1.dp .nil
theorem excC_x {K : PySem.W.Frag} {C : Addr} (x : XfC K C) (c : PySem.W.findIn K (.ref C) "__class__" = some (some (.builtin "object.__class__")) ∧ PySem.W.mroIn K C (.type "object") = some true) (fg : PySem.W.specialIn K (.builtin "object.__class__") "__get__" = some (some (.builtin "getset_descriptor.__get__"))) (ft : PySem.W.takesIn K (.builtin "object.__class__") = some true) : ExcC K C :=
  ⟨x.ga, x.gg, x.exC, x.hdC, c.1, fg, ft, c.2⟩
theorem cls_facts (T : Txt K mg a) {i : Nat} (h : i < 17) : ExcC K (clsK a i) ∧ KitK K a (clsK a i) i := by
  have hh : i = 0 ∨ i = 1 ∨ i = 2 ∨ i = 3 ∨ i = 4 ∨ i = 5 ∨ i = 6 ∨ i = 7 ∨ i = 8 ∨ i = 9 ∨ i = 10 ∨ i = 11 ∨ i = 12 ∨ i = 13 ∨ i = 14 ∨ i = 15 ∨ i = 16 := by omega
  rcases hh with rfl | rfl | rfl | rfl | rfl | rfl | rfl | rfl | rfl | rfl | rfl | rfl | rfl | rfl | rfl | rfl | rfl
  · exact ⟨excC_x T.xf_NoWord T.cf_NoWord T.fg T.ft, T.kt_NoWord⟩
  · exact ⟨excC_x T.xf_NoPact T.cf_NoPact T.fg T.ft, T.kt_NoPact⟩
  · exact ⟨excC_x T.xf_NoText T.cf_NoText T.fg T.ft, T.kt_NoText⟩
  · exact ⟨excC_x T.xf_NoHelper T.cf_NoHelper T.fg T.ft, T.kt_NoHelper⟩
  · exact ⟨excC_x T.xf_NoHandle T.cf_NoHandle T.fg T.ft, T.kt_NoHandle⟩
  · exact ⟨excC_x T.xf_Ended T.cf_Ended T.fg T.ft, T.kt_Ended⟩
  · exact ⟨excC_x T.xf_NoRow T.cf_NoRow T.fg T.ft, T.kt_NoRow⟩
  · exact ⟨excC_x T.xf_NoSide T.cf_NoSide T.fg T.ft, T.kt_NoSide⟩
  · exact ⟨excC_x T.xf_NoThing T.cf_NoThing T.fg T.ft, T.kt_NoThing⟩
  · exact ⟨excC_x T.xf_NoLetter T.cf_NoLetter T.fg T.ft, T.kt_NoLetter⟩
  · exact ⟨excC_x T.xf_NoBody T.cf_NoBody T.fg T.ft, T.kt_NoBody⟩
  · exact ⟨excC_x T.xf_Unlet T.cf_Unlet T.fg T.ft, T.kt_Unlet⟩
  · exact ⟨⟨T.cf_Closed.2.2.1, T.cf_Closed.2.2.2.1, T.cf_Closed.2.2.2.2.1, T.cf_Closed.2.2.2.2.2, T.cf_Closed.1, T.fg, T.ft, T.cf_Closed.2.1⟩, T.kt_Closed⟩
  · exact ⟨⟨T.cf_TooLong.2.2.1, T.cf_TooLong.2.2.2.1, T.cf_TooLong.2.2.2.2.1, T.cf_TooLong.2.2.2.2.2, T.cf_TooLong.1, T.fg, T.ft, T.cf_TooLong.2.1⟩, T.kt_TooLong⟩
  · exact ⟨⟨T.cf_TooDeep.2.2.1, T.cf_TooDeep.2.2.2.1, T.cf_TooDeep.2.2.2.2.1, T.cf_TooDeep.2.2.2.2.2, T.cf_TooDeep.1, T.fg, T.ft, T.cf_TooDeep.2.1⟩, T.kt_TooDeep⟩
  · exact ⟨⟨T.cf_NothingDone.2.2.1, T.cf_NothingDone.2.2.2.1, T.cf_NothingDone.2.2.2.2.1, T.cf_NothingDone.2.2.2.2.2, T.cf_NothingDone.1, T.fg, T.ft, T.cf_NothingDone.2.1⟩, T.kt_NothingDone⟩
  · exact ⟨⟨T.cf_NoLines.2.2.1, T.cf_NoLines.2.2.2.1, T.cf_NoLines.2.2.2.2.1, T.cf_NoLines.2.2.2.2.2, T.cf_NoLines.1, T.fg, T.ft, T.cf_NoLines.2.1⟩, T.kt_NoLines⟩
theorem sorts_data (i : Nat) : (PyData.list ((sortsOf i).map PyData.bool)).canLay0 = true ∧ SeqAt.shaped (.list ((sortsOf i).map PyData.bool)) = true := by
  have h1 : (PyData.list ((sortsOf i).map PyData.bool)).canLay0 = true := by simp [sortsOf, PyData.canLay0, PyData.canLayAll0]
  refine ⟨h1, ?_⟩
  unfold SeqAt.shaped
  rw [h1]
  have h2 : (PyData.list ((sortsOf i).map PyData.bool)).depth = 1 := by simp [sortsOf, PyData.depth, PyData.depthAll]
  exact decide_eq_true (by omega)
theorem dp_bools {K : PySem.W.Frag} {H : Hp} : ∀ bs : List Bool, DpAll K H (bs.map V.bl) (bs.map PyData.bool)
  | [] => .nil
  | b :: r => .cons (.bl b) (dp_bools r)
theorem sorts_split (i : Nat) : ((List.range 17).map fun j : Nat => V.bl (decide (V.int (j : Int) = V.int (i : Int)))) ++ [.bl true, .bl true] = (sortsOf i).map V.bl := by
  have e : ∀ j : Nat, decide (V.int (j : Int) = V.int (i : Int)) = decide (j = i) := fun j => by
    by_cases h : j = i
    · subst h; rw [decide_eq_true rfl, decide_eq_true rfl]
    · rw [decide_eq_false h, decide_eq_false fun q => h (by injection q with q; omega)]
  have e2 : (fun j : Nat => V.bl (decide (V.int (j : Int) = V.int (i : Int)))) = fun j : Nat => V.bl (decide (j = i)) := funext fun j => by rw [e]
  rw [e2]
  rfl
def spLaw (K : PySem.W.Frag) : Sp := fun vs H Q _ => ∃ (s : Addr) (ns : List Int), vs = [.ref s] ∧ SqL K H s (ns.map V.int) ∧ ns.length ≤ 63 ∧ ∀ H', Q (.bl true) H'
theorem ok_law (T : Txt K mg a) : FnOk P w K mg base CX0 9 a.f_law a.d_law ["_law_script"] (spLaw K) := by
  refine T.F_law.ok sc_law (fun vs H Q E h => ?_) (fun cdv A outer s H vs Q E hr h => ?_)
  · obtain ⟨s, ns, rfl, _⟩ := h
    rfl
  · obtain ⟨sc, ns, rfl, hS, hl, kk⟩ := h
    refine ⟨_, (pss_cons (ps_set (i := 1) sc_law.nd rfl (Or.inl rfl) (pe_call (ok_box T) (hr.mono (by decide)) rfl T.g_box T.k_box T.B_box .nil pass0 (pa_cons (pv 0) pa_nil)))
      (pss_cons (ps_for PassesOwn.never rfl (pi_range1 (by rfl) T.z_range (pa_cons pe_int pa_nil)) (pg_name (i := 2) sc_law.nd rfl (Or.inr rfl)) (pss_cons (ps_asg (pe_call (ok_value T) (hr.mono (by decide)) rfl T.g_value T.k_value T.B_value .nil pass0 (pa_cons (pv 1) (pa_cons (pv 2) pa_nil))) (pg_tup (by rfl) (pgs_cons (pg_name (i := 3) sc_law.nd rfl (Or.inl rfl)) (pgs_cons (pg_name (i := 4) sc_law.nd rfl (Or.inl rfl)) (pgs_cons (pg_name (i := 5) sc_law.nd rfl (Or.inl rfl)) pgs_nil)))))
      (pss_cons (ps_asg (pe_call (ok_value T) (hr.mono (by decide)) rfl T.g_value T.k_value T.B_value .nil pass0 (pa_cons (pv 1) (pa_cons (pv 2) pa_nil))) (pg_tup (by rfl) (pgs_cons (pg_name (i := 6) sc_law.nd rfl (Or.inl rfl)) (pgs_cons (pg_name (i := 7) sc_law.nd rfl (Or.inl rfl)) (pgs_cons (pg_name (i := 8) sc_law.nd rfl (Or.inl rfl)) pgs_nil)))))
      (C8.pss_cut (ps_if (pt_cmpR op_gt (pv 2) pe_int (nomark _)) (pss_one (ps_par (i := 9) (j := 10) (by rfl) sc_law.nd rfl rfl (by decide) (by rfl) (by rfl) (pa_cons (pe_call (ok_of_a_text T) (hr.mono (by decide)) rfl T.g_of_a_text T.k_of_a_text T.B_of_a_text .nil pass0 (pa_cons (pv 2) (pa_cons (pv 5) pa_nil))) (pa_cons (pe_call (ok_of_a_text T) (hr.mono (by decide)) rfl T.g_of_a_text T.k_of_a_text T.B_of_a_text .nil pass0 (pa_cons (pv 2) (pa_cons (pv 8) pa_nil))) pa_nil)) (by rfl))) (pss_cons (ps_par (i := 9) (j := 10) (by rfl) sc_law.nd rfl rfl (by decide) (by rfl) (by rfl) (pa_cons (pe_call (ok_made T) (hr.mono (by decide)) rfl T.g_made T.k_made T.B_made .nil pass0 (pa_cons (pv 2) (pa_cons (pv 3) (pa_cons (pv 4) pa_nil)))) (pa_cons (pe_call (ok_named T) (hr.mono (by decide)) rfl T.g_named T.k_named T.B_named .nil pass0 (pa_cons (pv 2) (pa_cons (pv 6) (pa_cons (pv 7) pa_nil)))) pa_nil)) (by rfl))
      (pss_cons (ps_if (pt_cmpR (op_neD hr.units) (pe_call (ok_borne T) (hr.mono (by decide)) rfl T.g_borne T.k_borne T.B_borne .nil pass0 (pa_cons (pv 2) (pa_cons (pv 9) pa_nil))) (pe_slice sl_list (pe_lst (pa_cons (pv 3) (pa_cons (pv 4) pa_nil))) po_none (po_some (pe_callB call_len_seq (by rfl) T.z_len (by decide +kernel) (pa_cons (pe_call (ok_borne T) (hr.mono (by decide)) rfl T.g_borne T.k_borne T.B_borne .nil pass0 (pa_cons (pv 2) (pa_cons (pv 9) pa_nil))) pa_nil)))) (nomark _)) (pss_one (ps_ret pe_bl)) pss_nil)
      (pss_one (ps_if (pt_cmpR (op_neD hr.units) (pe_call (ok_borne T) (hr.mono (by decide)) rfl T.g_borne T.k_borne T.B_borne .nil pass0 (pa_cons (pv 2) (pa_cons (pv 10) pa_nil))) (pe_slice sl_list (pe_lst (pa_cons (pv 6) (pa_cons (pv 7) pa_nil))) po_none (po_some (pe_callB call_len_seq (by rfl) T.z_len (by decide +kernel) (pa_cons (pe_call (ok_borne T) (hr.mono (by decide)) rfl T.g_borne T.k_borne T.B_borne .nil pass0 (pa_cons (pv 2) (pa_cons (pv 10) pa_nil))) pa_nil)))) (nomark _)) (pss_one (ps_ret pe_bl)) pss_nil)))))
      (pss_cons (ps_set (i := 11) sc_law.nd rfl (Or.inl rfl) (pe_op op_cat (pe_lc (own := [("_law_k", 12)]) (g := gName 12) (tt := tYes) rfl sc_law.nd (pi_range1 (by rfl) T.z_range (pa_cons pe_int pa_nil)) (blkOk_by (own := [("_law_k", 12)]) (N := ["_law_script", "_law_box_here", "_law_kind", "_law_one", "_law_two", "_law_text", "_law_other", "_law_more", "_law_rest", "_law_first", "_law_second", "_law_due", "_law_k"]) (sc := defScope s_law) (by decide +kernel)) (fun _ _ _ _ _ => pg_name (i := 12) sc_law.nd rfl (Or.inl rfl)) (fun _ _ _ _ _ => pts_nil) (fun _ _ _ _ _ => by exact (pe_cmpR op_eq (pv 12) (pv 2) (nomark _)))) (pe_lst (pa_cons pe_bl (pa_cons pe_bl pa_nil)))))
      (pss_one (ps_if (PW.pt (pw_or (pt_cmpR (op_neD hr.units) (pe_call (ok_sorts T) (hr.mono (by decide)) rfl T.g_sorts T.k_sorts T.B_sorts .nil pass0 (pa_cons (pv 9) pa_nil)) (pv 11) (nomark _)) (pw_or1 (pt_cmpR (op_neD hr.units) (pe_call (ok_sorts T) (hr.mono (by decide)) rfl T.g_sorts T.k_sorts T.B_sorts .nil pass0 (pa_cons (pv 10) pa_nil)) (pv 11) (nomark _))))) (pss_one (ps_ret pe_bl)) pss_nil)))))))
      (pss_one (ps_ret pe_bl)))), ?_⟩
    refine ⟨_, rfl, sc, ns, rfl, hS, hl, fun b g l H1 hb hg hl bx s1 => ?_⟩
    refine ⟨17, rfl, by decide, by decide, ?_⟩
    refine for_range (lo := 0) (n := 17) (fun i σ H2 => Blk (∃ v2 v3 v4 v5 v6 v7 v8 v9 v10 v11, σ = [some (.ref sc), some (.ref b), v2, v3, v4, v5, v6, v7, v8, v9, v10, v11, none] ∧ ∃ n' : Int, BoxAt H2 b g l n' ∧ 0 ≤ n' ∧ n' ≤ 60 * i)) ?_ ?_ ?_
    · exact Blk.of ⟨_, _, _, _, _, _, _, _, _, _, rfl, 0, bx, by decide, by decide⟩
    · intro i σ H2 hi hB
      obtain ⟨v2, v3, v4, v5, v6, v7, v8, v9, v10, v11, rfl, n2, bx2, c1, c2⟩ := hB.out
      rw [show (0 : Int) + ((i : Nat) : Int) = i from Int.zero_add _]
      refine ⟨_, rfl, _, rfl, b, g, l, n2, i, rfl, bx2, c1, by omega, fun r one two t D1 D2 n3 H3 hr3 ad c3 c4 bx3 kp3 => ?_⟩
      refine ⟨r, _, rfl, SqT.of hr3, rfl, _, _, rfl, _, _, rfl, _, _, rfl, rfl, ?_⟩
      refine ⟨_, rfl, _, rfl, b, g, l, n3, i, rfl, bx3, by omega, by omega, fun r2 one2 two2 t2 E1 E2 n4 H4 hr4 ad2 c5 c6 bx4 kp4 => ?_⟩
      refine ⟨r2, _, rfl, SqT.of hr4, rfl, _, _, rfl, _, _, rfl, _, _, rfl, rfl, ?_⟩
      have ad := ad_keep ad kp4
      refine ⟨fun σ H5 => Blk (∃ z1 z2 : Addr, σ = [some (.ref sc), some (.ref b), some (.int i), some one, some two, some (.str t), some one2, some two2, some (.str t2), some (.ref z1), some (.ref z2), v11, none] ∧ EvAt H5 (clsK a i) z1 ∧ EvAt H5 (clsK a i) z2 ∧ BoxAt H5 b g l n4), ?_, ?_⟩
      · walk_at "rd"
        refine iteD (fun hc => ?_) (fun hc => ?_)
        · refine ⟨_, rfl, _, rfl, i, t, rfl, by omega, by omega, fun z1 H5 hz1 e1 s5 => ?_⟩
          refine ⟨_, rfl, _, rfl, i, t2, rfl, by omega, by omega, fun z2 H6 hz2 e2 s6 => ?_⟩
          exact ⟨_, _, rfl, Blk.of ⟨z1, z2, rfl, .bare (s6 _ _ e1), .bare e2, (bx4.same s5).same s6⟩⟩
        · refine ⟨_, rfl, _, rfl, _, rfl, i, one, two, D1, D2, [b, g], rfl, by omega, box_there bx4, ad, fun z1 H5 hz1 e1 s5 => ?_⟩
          refine ⟨_, rfl, _, rfl, _, rfl, i, one2, two2, E1, E2, [b, g], rfl, by omega, box_there (bx4.same s5), ad_keep ad2 (same_keeps s5), fun z2 H6 hz2 e2 s6 => ?_⟩
          have ad := ad_keep (ad_keep ad (same_keeps s5)) (same_keeps s6)
          have ad2 := ad_keep (ad_keep ad2 (same_keeps s5)) (same_keeps s6)
          have bx6 := (bx4.same s5).same s6
          have w1 := evB_same e1 s6
          refine ⟨_, _, rfl, ?_⟩
          refine ⟨_, rfl, _, rfl, i, z1, D1, D2, [b, g], rfl, by omega, w1, fun r5 xs5 H7 hr5 hl5 ln5 th5 s7 => ?_⟩
          refine ⟨_, rfl, _, rfl, by show 2 ≤ sizeLine; decide, fun L hL => ?_⟩
          refine ⟨_, rfl, _, rfl, i, z1, D1, D2, [b, g], rfl, by omega, evB_same w1 (s7.trans ((Same.refl H7).upd hL)), fun r6 xs6 H8 hr6 hl6 ln6 th6 s8 => ?_⟩
          refine ⟨_, _, rfl, .inl (SqL.of hl6), ?_⟩
          have s78 : Same H7 H8 := ((Same.refl H7).upd hL).trans s8
          refine ⟨_, rfl, L, _, rfl, SqL.of (s8 _ _ upd_same), fun p hp => ?_⟩
          have s9 : Same H7 (upd H8 p (.lst (cutV [one, two] none (some (xs6.length : Int))))) := s78.trans ((Same.refl H8).upd hp)
          have q9 : (upd H8 p (.lst (cutV [one, two] none (some (xs6.length : Int))))) p = some (.lst (cutV [one, two] none (some (xs6.length : Int)))) := upd_same
          generalize (upd H8 p (.lst (cutV [one, two] none (some (xs6.length : Int))))) = H9 at s9 q9 ⊢
          have t9 : Same H6 H9 := s7.trans s9
          have lay := bornes_lay ad
          refine ⟨.list (bornes i D1 D2), .list (bornes i D1 D2), .lst (SqL.of (s9 _ _ hl5)) (dpAll_of ln5 fun j x d e1 e2 => ((th5 j x d e1 e2).same s9).dp), .lst (SqL.of q9) (bornes_dp (ad_keep ad (same_keeps t9)) ln6), lay.2, lay.2, ?_⟩
          rw [SeqAt.eqv_refl _ lay.1]
          refine ⟨_, rfl, ?_⟩
          refine iteF ?_
          have ad2 := ad_keep ad2 (same_keeps t9)
          have w2 := evB_same e2 t9
          refine ⟨_, rfl, _, rfl, i, z2, E1, E2, [b, g], rfl, by omega, w2, fun r5' xs5' H7' hr5' hl5' ln5' th5' s7' => ?_⟩
          refine ⟨_, rfl, _, rfl, by show 2 ≤ sizeLine; decide, fun L' hL' => ?_⟩
          refine ⟨_, rfl, _, rfl, i, z2, E1, E2, [b, g], rfl, by omega, evB_same w2 (s7'.trans ((Same.refl H7').upd hL')), fun r6' xs6' H8' hr6' hl6' ln6' th6' s8' => ?_⟩
          refine ⟨_, _, rfl, .inl (SqL.of hl6'), ?_⟩
          have s78' : Same H7' H8' := ((Same.refl H7').upd hL').trans s8'
          refine ⟨_, rfl, L', _, rfl, SqL.of (s8' _ _ upd_same), fun p' hp' => ?_⟩
          have s9' : Same H7' (upd H8' p' (.lst (cutV [one2, two2] none (some (xs6'.length : Int))))) := s78'.trans ((Same.refl H8').upd hp')
          have q9' : (upd H8' p' (.lst (cutV [one2, two2] none (some (xs6'.length : Int))))) p' = some (.lst (cutV [one2, two2] none (some (xs6'.length : Int)))) := upd_same
          generalize (upd H8' p' (.lst (cutV [one2, two2] none (some (xs6'.length : Int))))) = H9' at s9' q9' ⊢
          have t9' : Same H9 H9' := s7'.trans s9'
          have lay' := bornes_lay ad2
          refine ⟨.list (bornes i E1 E2), .list (bornes i E1 E2), .lst (SqL.of (s9' _ _ hl5')) (dpAll_of ln5' fun j x d e1 e2 => ((th5' j x d e1 e2).same s9').dp), .lst (SqL.of q9') (bornes_dp (ad_keep ad2 (same_keeps t9')) ln6'), lay'.2, lay'.2, ?_⟩
          rw [SeqAt.eqv_refl _ lay'.1]
          refine ⟨_, rfl, ?_⟩
          refine iteF ?_
          exact Blk.of ⟨z1, z2, rfl, evB_at (evB_same (evB_same w1 t9) t9'), evB_at (evB_same w2 t9'), (bx6.same t9).same t9'⟩
      · rintro σ H5 hB
        obtain ⟨z1, z2, rfl, w1, w2, bx5⟩ := hB.out
        obtain ⟨xc, kt⟩ := cls_facts T (i := i) hi
        refine ⟨17, rfl, by decide, by decide, fun D hD => ?_⟩
        have bxD := bx5
        refine lc_range (lo := 0) (n := 17) (fun j H6 => Blk (H6 = upd H5 D (.lst ((List.range j).map fun j : Nat => V.bl (decide (V.int (j : Int) = V.int (i : Int))))))) (Blk.of rfl) ?_ ?_
        · intro j H6 hj hB
          obtain rfl := hB.out
          refine ⟨rfl, ?_⟩
          dsimp only [tYes]
          refine iteT ?_
          refine ⟨_, rfl, _, rfl, rfl, ?_⟩
          refine ⟨_, upd_same, by rw [List.length_map, List.length_range]; exact small (by omega), Blk.of ?_⟩
          rw [upd_upd, List.range_succ, List.map_append, Int.zero_add]
          rfl
        · intro H6 hB
          obtain rfl := hB.out
          have s6 : Same H5 (upd H5 D (.lst ((List.range 17).map fun j : Nat => V.bl (decide (V.int (j : Int) = V.int (i : Int)))))) := (Same.refl H5).upd hD
          have q6 : (upd H5 D (.lst ((List.range 17).map fun j : Nat => V.bl (decide (V.int (j : Int) = V.int (i : Int)))))) D = some (.lst ((List.range 17).map fun j : Nat => V.bl (decide (V.int (j : Int) = V.int (i : Int))))) := upd_same
          generalize (upd H5 D (.lst ((List.range 17).map fun j : Nat => V.bl (decide (V.int (j : Int) = V.int (i : Int)))))) = H6 at s6 q6 ⊢
          refine ⟨by show 2 ≤ sizeLine; decide, fun p hp => ?_⟩
          have np : D ≠ p := ne_of_none q6 hp
          refine ⟨_, _, _, _, rfl, rfl, (upd_ne np).trans q6, upd_same, by rw [List.length_map, List.length_range]; decide, fun u hu => ?_⟩
          rw [sorts_split]
          have s7 : Same H5 (upd (upd H6 p (.lst [.bl true, .bl true])) u (.lst ((sortsOf i).map V.bl))) := (s6.trans ((Same.refl H6).upd hp)).trans ((Same.refl _).upd hu)
          have q7 : (upd (upd H6 p (.lst [.bl true, .bl true])) u (.lst ((sortsOf i).map V.bl))) u = some (.lst ((sortsOf i).map V.bl)) := upd_same
          generalize (upd (upd H6 p (.lst [.bl true, .bl true])) u (.lst ((sortsOf i).map V.bl))) = H7 at s7 q7 ⊢
          have lay := sorts_data i
          refine ⟨_, rfl, z1, clsK a i, i, rfl, evAt_same w1 s7, xc, kt, fun r1 H8 hr1 q8 s8 => ?_⟩
          refine ⟨_, rfl, .list ((sortsOf i).map PyData.bool), .list ((sortsOf i).map PyData.bool), .lst (SqL.of q8) (dp_bools _), .lst (SqL.of (s8 _ _ q7)) (dp_bools _), lay.2, lay.2, ?_⟩
          rw [SeqAt.eqv_refl _ lay.1]
          refine ⟨_, rfl, ?_⟩
          refine iteF ?_
          refine ⟨_, rfl, z2, clsK a i, i, rfl, evAt_same w2 (s7.trans s8), xc, kt, fun r2 H9 hr2 q9 s9 => ?_⟩
          refine ⟨_, rfl, .list ((sortsOf i).map PyData.bool), .list ((sortsOf i).map PyData.bool), .lst (SqL.of q9) (dp_bools _), .lst (SqL.of (s9 _ _ (s8 _ _ q7))) (dp_bools _), lay.2, lay.2, ?_⟩
          rw [SeqAt.eqv_refl _ lay.1]
          refine ⟨_, rfl, ?_⟩
          refine iteF ?_
          exact Blk.of ⟨_, _, _, _, _, _, _, _, _, _, rfl, n4, ((bx5.same s7).same s8).same s9, by omega, by omega⟩
    · intro σ H2 hB
      obtain ⟨v2, v3, v4, v5, v6, v7, v8, v9, v10, v11, rfl, n2, bx2, c1, c2⟩ := hB.out
      exact kk _
end
theorem all_mk {l : PySem.W.OpenLaw} {w : World} {K : PySem.W.Frag} {h : Heap} {mg : Str → Option Value} {fa c_NoWord c_NoPact c_NoText c_NoHelper c_NoHandle c_Ended c_NoRow c_NoSide c_NoThing c_NoLetter c_NoBody c_Unlet c_PactError c_Closed c_TooLong c_TooDeep c_NothingDone c_NoLines f_p_copied f_NoWord_init f_NoPact_init f_NoText_init f_NoHelper_init f_NoHandle_init f_Ended_init f_NoRow_init f_NoSide_init f_NoThing_init f_NoLetter_init f_NoBody_init f_Unlet_init f_box f_mixed f_take f_of_a_text f_made f_named f_borne f_sorts f_value f_law : Addr} (X : K.In h) (G : h.Ns mainGlobals mg) (hfa : mg "law" = some (.ref fa))
    {od_p_copied an_p_copied od_NoWord_init an_NoWord_init od_NoPact_init an_NoPact_init od_NoText_init an_NoText_init od_NoHelper_init an_NoHelper_init od_NoHandle_init an_NoHandle_init od_Ended_init an_Ended_init od_NoRow_init an_NoRow_init od_NoSide_init an_NoSide_init od_NoThing_init an_NoThing_init od_NoLetter_init an_NoLetter_init od_NoBody_init an_NoBody_init od_Unlet_init an_Unlet_init od_box an_box od_mixed an_mixed od_take an_take od_of_a_text an_of_a_text od_made an_made od_named an_named od_borne an_borne od_sorts an_sorts od_value an_value od_law an_law : Option Addr} {sl_p_copied sl_NoWord_init sl_NoPact_init sl_NoText_init sl_NoHelper_init sl_NoHandle_init sl_Ended_init sl_NoRow_init sl_NoSide_init sl_NoThing_init sl_NoLetter_init sl_NoBody_init sl_Unlet_init sl_box sl_mixed sl_take sl_of_a_text sl_made sl_named sl_borne sl_sorts sl_value sl_law : Array (Option Value)}
    {oc_p_copied kV_p_copied dc_p_copied pm_p_copied cd_p_copied ct_p_copied oc_NoWord_init kV_NoWord_init dc_NoWord_init pm_NoWord_init cd_NoWord_init ct_NoWord_init oc_NoPact_init kV_NoPact_init dc_NoPact_init pm_NoPact_init cd_NoPact_init ct_NoPact_init oc_NoText_init kV_NoText_init dc_NoText_init pm_NoText_init cd_NoText_init ct_NoText_init oc_NoHelper_init kV_NoHelper_init dc_NoHelper_init pm_NoHelper_init cd_NoHelper_init ct_NoHelper_init oc_NoHandle_init kV_NoHandle_init dc_NoHandle_init pm_NoHandle_init cd_NoHandle_init ct_NoHandle_init oc_Ended_init kV_Ended_init dc_Ended_init pm_Ended_init cd_Ended_init ct_Ended_init oc_NoRow_init kV_NoRow_init dc_NoRow_init pm_NoRow_init cd_NoRow_init ct_NoRow_init oc_NoSide_init kV_NoSide_init dc_NoSide_init pm_NoSide_init cd_NoSide_init ct_NoSide_init oc_NoThing_init kV_NoThing_init dc_NoThing_init pm_NoThing_init cd_NoThing_init ct_NoThing_init oc_NoLetter_init kV_NoLetter_init dc_NoLetter_init pm_NoLetter_init cd_NoLetter_init ct_NoLetter_init oc_NoBody_init kV_NoBody_init dc_NoBody_init pm_NoBody_init cd_NoBody_init ct_NoBody_init oc_Unlet_init kV_Unlet_init dc_Unlet_init pm_Unlet_init cd_Unlet_init ct_Unlet_init oc_box kV_box dc_box pm_box cd_box ct_box oc_mixed kV_mixed dc_mixed pm_mixed cd_mixed ct_mixed oc_take kV_take dc_take pm_take cd_take ct_take oc_of_a_text kV_of_a_text dc_of_a_text pm_of_a_text cd_of_a_text ct_of_a_text oc_made kV_made dc_made pm_made cd_made ct_made oc_named kV_named dc_named pm_named cd_named ct_named oc_borne kV_borne dc_borne pm_borne cd_borne ct_borne oc_sorts kV_sorts dc_sorts pm_sorts cd_sorts ct_sorts oc_value kV_value dc_value pm_value cd_value ct_value oc_law kV_law dc_law pm_law cd_law ct_law : Value}
    {nm_NoWord qn_NoWord : Str} {N_NoWord : Addr} {bs_NoWord bm_NoWord sub_NoWord : List Value} {sn_NoWord : List Str} {ab_NoWord : Bool} {col_NoWord : Option Bool} {dd_NoWord : Option Addr} {e0_NoWord e1_NoWord e2_NoWord e3_NoWord e5_NoWord : Option Value}
    {nm_NoPact qn_NoPact : Str} {N_NoPact : Addr} {bs_NoPact bm_NoPact sub_NoPact : List Value} {sn_NoPact : List Str} {ab_NoPact : Bool} {col_NoPact : Option Bool} {dd_NoPact : Option Addr} {e0_NoPact e1_NoPact e2_NoPact e3_NoPact e5_NoPact : Option Value}
    {nm_NoText qn_NoText : Str} {N_NoText : Addr} {bs_NoText bm_NoText sub_NoText : List Value} {sn_NoText : List Str} {ab_NoText : Bool} {col_NoText : Option Bool} {dd_NoText : Option Addr} {e0_NoText e1_NoText e2_NoText e3_NoText e5_NoText : Option Value}
    {nm_NoHelper qn_NoHelper : Str} {N_NoHelper : Addr} {bs_NoHelper bm_NoHelper sub_NoHelper : List Value} {sn_NoHelper : List Str} {ab_NoHelper : Bool} {col_NoHelper : Option Bool} {dd_NoHelper : Option Addr} {e0_NoHelper e1_NoHelper e2_NoHelper e3_NoHelper e5_NoHelper : Option Value}
    {nm_NoHandle qn_NoHandle : Str} {N_NoHandle : Addr} {bs_NoHandle bm_NoHandle sub_NoHandle : List Value} {sn_NoHandle : List Str} {ab_NoHandle : Bool} {col_NoHandle : Option Bool} {dd_NoHandle : Option Addr} {e0_NoHandle e1_NoHandle e2_NoHandle e3_NoHandle e5_NoHandle : Option Value}
    {nm_Ended qn_Ended : Str} {N_Ended : Addr} {bs_Ended bm_Ended sub_Ended : List Value} {sn_Ended : List Str} {ab_Ended : Bool} {col_Ended : Option Bool} {dd_Ended : Option Addr} {e0_Ended e1_Ended e2_Ended e3_Ended e5_Ended : Option Value}
    {nm_NoRow qn_NoRow : Str} {N_NoRow : Addr} {bs_NoRow bm_NoRow sub_NoRow : List Value} {sn_NoRow : List Str} {ab_NoRow : Bool} {col_NoRow : Option Bool} {dd_NoRow : Option Addr} {e0_NoRow e1_NoRow e2_NoRow e3_NoRow e5_NoRow : Option Value}
    {nm_NoSide qn_NoSide : Str} {N_NoSide : Addr} {bs_NoSide bm_NoSide sub_NoSide : List Value} {sn_NoSide : List Str} {ab_NoSide : Bool} {col_NoSide : Option Bool} {dd_NoSide : Option Addr} {e0_NoSide e1_NoSide e2_NoSide e3_NoSide e5_NoSide : Option Value}
    {nm_NoThing qn_NoThing : Str} {N_NoThing : Addr} {bs_NoThing bm_NoThing sub_NoThing : List Value} {sn_NoThing : List Str} {ab_NoThing : Bool} {col_NoThing : Option Bool} {dd_NoThing : Option Addr} {e0_NoThing e1_NoThing e2_NoThing e3_NoThing e5_NoThing : Option Value}
    {nm_NoLetter qn_NoLetter : Str} {N_NoLetter : Addr} {bs_NoLetter bm_NoLetter sub_NoLetter : List Value} {sn_NoLetter : List Str} {ab_NoLetter : Bool} {col_NoLetter : Option Bool} {dd_NoLetter : Option Addr} {e0_NoLetter e1_NoLetter e2_NoLetter e3_NoLetter e5_NoLetter : Option Value}
    {nm_NoBody qn_NoBody : Str} {N_NoBody : Addr} {bs_NoBody bm_NoBody sub_NoBody : List Value} {sn_NoBody : List Str} {ab_NoBody : Bool} {col_NoBody : Option Bool} {dd_NoBody : Option Addr} {e0_NoBody e1_NoBody e2_NoBody e3_NoBody e5_NoBody : Option Value}
    {nm_Unlet qn_Unlet : Str} {N_Unlet : Addr} {bs_Unlet bm_Unlet sub_Unlet : List Value} {sn_Unlet : List Str} {ab_Unlet : Bool} {col_Unlet : Option Bool} {dd_Unlet : Option Addr} {e0_Unlet e1_Unlet e2_Unlet e3_Unlet e5_Unlet : Option Value}
    (a_NoWord : PySem.W.nsIn K mainGlobals "NoWord" = some (some (.ref c_NoWord)))
    (xl_NoWord : K.lookup c_NoWord = some (excClassObj nm_NoWord qn_NoWord c_NoWord N_NoWord bs_NoWord bm_NoWord true sn_NoWord sub_NoWord ab_NoWord col_NoWord dd_NoWord e0_NoWord e1_NoWord e2_NoWord e3_NoWord e5_NoWord "ValueError.__new__"))
    (xm_NoWord : PySem.HandSPX.refsVE bm_NoWord = true)
    (xs_NoWord : PySem.W.findIn K (.ref c_NoWord) "__setattr__" = some (some (.builtin "object.__setattr__")))
    (xe_NoWord : PySem.W.subIn K (.ref c_NoWord) (.type "BaseException") = some true)
    (xy_NoWord : PySem.W.typeIn K (.ref c_NoWord) = some (.type "type"))
    (xk_NoWord : PySem.W.keepIn K (.ref c_NoWord) = true)
    (xg_NoWord : PySem.W.findIn K (.ref c_NoWord) "__getattribute__" = some (some (.builtin "BaseException.__getattribute__")))
    (xo_NoWord : PySem.W.findIn K (.ref c_NoWord) "__getattr__" = some none)
    (xd_NoWord : PySem.W.hasDictIn K c_NoWord = true)
    (n_NoWord_word : PySem.W.findIn K (.ref c_NoWord) "word" = some none)
    (a_NoPact : PySem.W.nsIn K mainGlobals "NoPact" = some (some (.ref c_NoPact)))
    (xl_NoPact : K.lookup c_NoPact = some (excClassObj nm_NoPact qn_NoPact c_NoPact N_NoPact bs_NoPact bm_NoPact true sn_NoPact sub_NoPact ab_NoPact col_NoPact dd_NoPact e0_NoPact e1_NoPact e2_NoPact e3_NoPact e5_NoPact "ValueError.__new__"))
    (xm_NoPact : PySem.HandSPX.refsVE bm_NoPact = true)
    (xs_NoPact : PySem.W.findIn K (.ref c_NoPact) "__setattr__" = some (some (.builtin "object.__setattr__")))
    (xe_NoPact : PySem.W.subIn K (.ref c_NoPact) (.type "BaseException") = some true)
    (xy_NoPact : PySem.W.typeIn K (.ref c_NoPact) = some (.type "type"))
    (xk_NoPact : PySem.W.keepIn K (.ref c_NoPact) = true)
    (xg_NoPact : PySem.W.findIn K (.ref c_NoPact) "__getattribute__" = some (some (.builtin "BaseException.__getattribute__")))
    (xo_NoPact : PySem.W.findIn K (.ref c_NoPact) "__getattr__" = some none)
    (xd_NoPact : PySem.W.hasDictIn K c_NoPact = true)
    (n_NoPact_at : PySem.W.findIn K (.ref c_NoPact) "at" = some none)
    (a_NoText : PySem.W.nsIn K mainGlobals "NoText" = some (some (.ref c_NoText)))
    (xl_NoText : K.lookup c_NoText = some (excClassObj nm_NoText qn_NoText c_NoText N_NoText bs_NoText bm_NoText true sn_NoText sub_NoText ab_NoText col_NoText dd_NoText e0_NoText e1_NoText e2_NoText e3_NoText e5_NoText "ValueError.__new__"))
    (xm_NoText : PySem.HandSPX.refsVE bm_NoText = true)
    (xs_NoText : PySem.W.findIn K (.ref c_NoText) "__setattr__" = some (some (.builtin "object.__setattr__")))
    (xe_NoText : PySem.W.subIn K (.ref c_NoText) (.type "BaseException") = some true)
    (xy_NoText : PySem.W.typeIn K (.ref c_NoText) = some (.type "type"))
    (xk_NoText : PySem.W.keepIn K (.ref c_NoText) = true)
    (xg_NoText : PySem.W.findIn K (.ref c_NoText) "__getattribute__" = some (some (.builtin "BaseException.__getattribute__")))
    (xo_NoText : PySem.W.findIn K (.ref c_NoText) "__getattr__" = some none)
    (xd_NoText : PySem.W.hasDictIn K c_NoText = true)
    (n_NoText_at : PySem.W.findIn K (.ref c_NoText) "at" = some none)
    (a_NoHelper : PySem.W.nsIn K mainGlobals "NoHelper" = some (some (.ref c_NoHelper)))
    (xl_NoHelper : K.lookup c_NoHelper = some (excClassObj nm_NoHelper qn_NoHelper c_NoHelper N_NoHelper bs_NoHelper bm_NoHelper true sn_NoHelper sub_NoHelper ab_NoHelper col_NoHelper dd_NoHelper e0_NoHelper e1_NoHelper e2_NoHelper e3_NoHelper e5_NoHelper "ValueError.__new__"))
    (xm_NoHelper : PySem.HandSPX.refsVE bm_NoHelper = true)
    (xs_NoHelper : PySem.W.findIn K (.ref c_NoHelper) "__setattr__" = some (some (.builtin "object.__setattr__")))
    (xe_NoHelper : PySem.W.subIn K (.ref c_NoHelper) (.type "BaseException") = some true)
    (xy_NoHelper : PySem.W.typeIn K (.ref c_NoHelper) = some (.type "type"))
    (xk_NoHelper : PySem.W.keepIn K (.ref c_NoHelper) = true)
    (xg_NoHelper : PySem.W.findIn K (.ref c_NoHelper) "__getattribute__" = some (some (.builtin "BaseException.__getattribute__")))
    (xo_NoHelper : PySem.W.findIn K (.ref c_NoHelper) "__getattr__" = some none)
    (xd_NoHelper : PySem.W.hasDictIn K c_NoHelper = true)
    (n_NoHelper_name : PySem.W.findIn K (.ref c_NoHelper) "name" = some none)
    (a_NoHandle : PySem.W.nsIn K mainGlobals "NoHandle" = some (some (.ref c_NoHandle)))
    (xl_NoHandle : K.lookup c_NoHandle = some (excClassObj nm_NoHandle qn_NoHandle c_NoHandle N_NoHandle bs_NoHandle bm_NoHandle true sn_NoHandle sub_NoHandle ab_NoHandle col_NoHandle dd_NoHandle e0_NoHandle e1_NoHandle e2_NoHandle e3_NoHandle e5_NoHandle "ValueError.__new__"))
    (xm_NoHandle : PySem.HandSPX.refsVE bm_NoHandle = true)
    (xs_NoHandle : PySem.W.findIn K (.ref c_NoHandle) "__setattr__" = some (some (.builtin "object.__setattr__")))
    (xe_NoHandle : PySem.W.subIn K (.ref c_NoHandle) (.type "BaseException") = some true)
    (xy_NoHandle : PySem.W.typeIn K (.ref c_NoHandle) = some (.type "type"))
    (xk_NoHandle : PySem.W.keepIn K (.ref c_NoHandle) = true)
    (xg_NoHandle : PySem.W.findIn K (.ref c_NoHandle) "__getattribute__" = some (some (.builtin "BaseException.__getattribute__")))
    (xo_NoHandle : PySem.W.findIn K (.ref c_NoHandle) "__getattr__" = some none)
    (xd_NoHandle : PySem.W.hasDictIn K c_NoHandle = true)
    (n_NoHandle_handle : PySem.W.findIn K (.ref c_NoHandle) "handle" = some none)
    (a_Ended : PySem.W.nsIn K mainGlobals "Ended" = some (some (.ref c_Ended)))
    (xl_Ended : K.lookup c_Ended = some (excClassObj nm_Ended qn_Ended c_Ended N_Ended bs_Ended bm_Ended true sn_Ended sub_Ended ab_Ended col_Ended dd_Ended e0_Ended e1_Ended e2_Ended e3_Ended e5_Ended "ValueError.__new__"))
    (xm_Ended : PySem.HandSPX.refsVE bm_Ended = true)
    (xs_Ended : PySem.W.findIn K (.ref c_Ended) "__setattr__" = some (some (.builtin "object.__setattr__")))
    (xe_Ended : PySem.W.subIn K (.ref c_Ended) (.type "BaseException") = some true)
    (xy_Ended : PySem.W.typeIn K (.ref c_Ended) = some (.type "type"))
    (xk_Ended : PySem.W.keepIn K (.ref c_Ended) = true)
    (xg_Ended : PySem.W.findIn K (.ref c_Ended) "__getattribute__" = some (some (.builtin "BaseException.__getattribute__")))
    (xo_Ended : PySem.W.findIn K (.ref c_Ended) "__getattr__" = some none)
    (xd_Ended : PySem.W.hasDictIn K c_Ended = true)
    (n_Ended_handle : PySem.W.findIn K (.ref c_Ended) "handle" = some none)
    (a_NoRow : PySem.W.nsIn K mainGlobals "NoRow" = some (some (.ref c_NoRow)))
    (xl_NoRow : K.lookup c_NoRow = some (excClassObj nm_NoRow qn_NoRow c_NoRow N_NoRow bs_NoRow bm_NoRow true sn_NoRow sub_NoRow ab_NoRow col_NoRow dd_NoRow e0_NoRow e1_NoRow e2_NoRow e3_NoRow e5_NoRow "ValueError.__new__"))
    (xm_NoRow : PySem.HandSPX.refsVE bm_NoRow = true)
    (xs_NoRow : PySem.W.findIn K (.ref c_NoRow) "__setattr__" = some (some (.builtin "object.__setattr__")))
    (xe_NoRow : PySem.W.subIn K (.ref c_NoRow) (.type "BaseException") = some true)
    (xy_NoRow : PySem.W.typeIn K (.ref c_NoRow) = some (.type "type"))
    (xk_NoRow : PySem.W.keepIn K (.ref c_NoRow) = true)
    (xg_NoRow : PySem.W.findIn K (.ref c_NoRow) "__getattribute__" = some (some (.builtin "BaseException.__getattribute__")))
    (xo_NoRow : PySem.W.findIn K (.ref c_NoRow) "__getattr__" = some none)
    (xd_NoRow : PySem.W.hasDictIn K c_NoRow = true)
    (n_NoRow_at : PySem.W.findIn K (.ref c_NoRow) "at" = some none)
    (a_NoSide : PySem.W.nsIn K mainGlobals "NoSide" = some (some (.ref c_NoSide)))
    (xl_NoSide : K.lookup c_NoSide = some (excClassObj nm_NoSide qn_NoSide c_NoSide N_NoSide bs_NoSide bm_NoSide true sn_NoSide sub_NoSide ab_NoSide col_NoSide dd_NoSide e0_NoSide e1_NoSide e2_NoSide e3_NoSide e5_NoSide "ValueError.__new__"))
    (xm_NoSide : PySem.HandSPX.refsVE bm_NoSide = true)
    (xs_NoSide : PySem.W.findIn K (.ref c_NoSide) "__setattr__" = some (some (.builtin "object.__setattr__")))
    (xe_NoSide : PySem.W.subIn K (.ref c_NoSide) (.type "BaseException") = some true)
    (xy_NoSide : PySem.W.typeIn K (.ref c_NoSide) = some (.type "type"))
    (xk_NoSide : PySem.W.keepIn K (.ref c_NoSide) = true)
    (xg_NoSide : PySem.W.findIn K (.ref c_NoSide) "__getattribute__" = some (some (.builtin "BaseException.__getattribute__")))
    (xo_NoSide : PySem.W.findIn K (.ref c_NoSide) "__getattr__" = some none)
    (xd_NoSide : PySem.W.hasDictIn K c_NoSide = true)
    (n_NoSide_at : PySem.W.findIn K (.ref c_NoSide) "at" = some none)
    (a_NoThing : PySem.W.nsIn K mainGlobals "NoThing" = some (some (.ref c_NoThing)))
    (xl_NoThing : K.lookup c_NoThing = some (excClassObj nm_NoThing qn_NoThing c_NoThing N_NoThing bs_NoThing bm_NoThing true sn_NoThing sub_NoThing ab_NoThing col_NoThing dd_NoThing e0_NoThing e1_NoThing e2_NoThing e3_NoThing e5_NoThing "ValueError.__new__"))
    (xm_NoThing : PySem.HandSPX.refsVE bm_NoThing = true)
    (xs_NoThing : PySem.W.findIn K (.ref c_NoThing) "__setattr__" = some (some (.builtin "object.__setattr__")))
    (xe_NoThing : PySem.W.subIn K (.ref c_NoThing) (.type "BaseException") = some true)
    (xy_NoThing : PySem.W.typeIn K (.ref c_NoThing) = some (.type "type"))
    (xk_NoThing : PySem.W.keepIn K (.ref c_NoThing) = true)
    (xg_NoThing : PySem.W.findIn K (.ref c_NoThing) "__getattribute__" = some (some (.builtin "BaseException.__getattribute__")))
    (xo_NoThing : PySem.W.findIn K (.ref c_NoThing) "__getattr__" = some none)
    (xd_NoThing : PySem.W.hasDictIn K c_NoThing = true)
    (n_NoThing_at : PySem.W.findIn K (.ref c_NoThing) "at" = some none)
    (a_NoLetter : PySem.W.nsIn K mainGlobals "NoLetter" = some (some (.ref c_NoLetter)))
    (xl_NoLetter : K.lookup c_NoLetter = some (excClassObj nm_NoLetter qn_NoLetter c_NoLetter N_NoLetter bs_NoLetter bm_NoLetter true sn_NoLetter sub_NoLetter ab_NoLetter col_NoLetter dd_NoLetter e0_NoLetter e1_NoLetter e2_NoLetter e3_NoLetter e5_NoLetter "ValueError.__new__"))
    (xm_NoLetter : PySem.HandSPX.refsVE bm_NoLetter = true)
    (xs_NoLetter : PySem.W.findIn K (.ref c_NoLetter) "__setattr__" = some (some (.builtin "object.__setattr__")))
    (xe_NoLetter : PySem.W.subIn K (.ref c_NoLetter) (.type "BaseException") = some true)
    (xy_NoLetter : PySem.W.typeIn K (.ref c_NoLetter) = some (.type "type"))
    (xk_NoLetter : PySem.W.keepIn K (.ref c_NoLetter) = true)
    (xg_NoLetter : PySem.W.findIn K (.ref c_NoLetter) "__getattribute__" = some (some (.builtin "BaseException.__getattribute__")))
    (xo_NoLetter : PySem.W.findIn K (.ref c_NoLetter) "__getattr__" = some none)
    (xd_NoLetter : PySem.W.hasDictIn K c_NoLetter = true)
    (n_NoLetter_letter : PySem.W.findIn K (.ref c_NoLetter) "letter" = some none)
    (a_NoBody : PySem.W.nsIn K mainGlobals "NoBody" = some (some (.ref c_NoBody)))
    (xl_NoBody : K.lookup c_NoBody = some (excClassObj nm_NoBody qn_NoBody c_NoBody N_NoBody bs_NoBody bm_NoBody true sn_NoBody sub_NoBody ab_NoBody col_NoBody dd_NoBody e0_NoBody e1_NoBody e2_NoBody e3_NoBody e5_NoBody "ValueError.__new__"))
    (xm_NoBody : PySem.HandSPX.refsVE bm_NoBody = true)
    (xs_NoBody : PySem.W.findIn K (.ref c_NoBody) "__setattr__" = some (some (.builtin "object.__setattr__")))
    (xe_NoBody : PySem.W.subIn K (.ref c_NoBody) (.type "BaseException") = some true)
    (xy_NoBody : PySem.W.typeIn K (.ref c_NoBody) = some (.type "type"))
    (xk_NoBody : PySem.W.keepIn K (.ref c_NoBody) = true)
    (xg_NoBody : PySem.W.findIn K (.ref c_NoBody) "__getattribute__" = some (some (.builtin "BaseException.__getattribute__")))
    (xo_NoBody : PySem.W.findIn K (.ref c_NoBody) "__getattr__" = some none)
    (xd_NoBody : PySem.W.hasDictIn K c_NoBody = true)
    (n_NoBody_name : PySem.W.findIn K (.ref c_NoBody) "name" = some none)
    (n_NoBody_at : PySem.W.findIn K (.ref c_NoBody) "at" = some none)
    (a_Unlet : PySem.W.nsIn K mainGlobals "Unlet" = some (some (.ref c_Unlet)))
    (xl_Unlet : K.lookup c_Unlet = some (excClassObj nm_Unlet qn_Unlet c_Unlet N_Unlet bs_Unlet bm_Unlet true sn_Unlet sub_Unlet ab_Unlet col_Unlet dd_Unlet e0_Unlet e1_Unlet e2_Unlet e3_Unlet e5_Unlet "ValueError.__new__"))
    (xm_Unlet : PySem.HandSPX.refsVE bm_Unlet = true)
    (xs_Unlet : PySem.W.findIn K (.ref c_Unlet) "__setattr__" = some (some (.builtin "object.__setattr__")))
    (xe_Unlet : PySem.W.subIn K (.ref c_Unlet) (.type "BaseException") = some true)
    (xy_Unlet : PySem.W.typeIn K (.ref c_Unlet) = some (.type "type"))
    (xk_Unlet : PySem.W.keepIn K (.ref c_Unlet) = true)
    (xg_Unlet : PySem.W.findIn K (.ref c_Unlet) "__getattribute__" = some (some (.builtin "BaseException.__getattribute__")))
    (xo_Unlet : PySem.W.findIn K (.ref c_Unlet) "__getattr__" = some none)
    (xd_Unlet : PySem.W.hasDictIn K c_Unlet = true)
    (n_Unlet_side : PySem.W.findIn K (.ref c_Unlet) "side" = some none)
    (n_Unlet_lines : PySem.W.findIn K (.ref c_Unlet) "lines" = some none)
    (a_PactError : PySem.W.nsIn K mainGlobals "PactError" = some (some (.ref c_PactError)))
    (da_PactError : PySem.W.specialIn K (.ref c_PactError) "__getattribute__" = some (some (.builtin "type.__getattribute__")))
    (dr_PactError : PySem.W.readsIn K c_PactError (.type "type") = true)
    (df_PactError : PySem.W.findCls K (.ref c_PactError) (.type "type") "__init__" = some (.val (.builtin "ValueError.__init__")))
    (a_Closed : PySem.W.nsIn K mainGlobals "Closed" = some (some (.ref c_Closed)))
    (a_TooLong : PySem.W.nsIn K mainGlobals "TooLong" = some (some (.ref c_TooLong)))
    (a_TooDeep : PySem.W.nsIn K mainGlobals "TooDeep" = some (some (.ref c_TooDeep)))
    (a_NothingDone : PySem.W.nsIn K mainGlobals "NothingDone" = some (some (.ref c_NothingDone)))
    (a_NoLines : PySem.W.nsIn K mainGlobals "NoLines" = some (some (.ref c_NoLines)))
    (cf_NoWord : PySem.W.findIn K (.ref c_NoWord) "__class__" = some (some (.builtin "object.__class__")) ∧ PySem.W.mroIn K c_NoWord (.type "object") = some true)
    (kt_NoWord : PySem.W.kitOne K (.ref c_NoWord) (.ref c_NoWord) = some true ∧ PySem.W.kitOne K (.ref c_NoWord) (.ref c_NoPact) = some false ∧ PySem.W.kitOne K (.ref c_NoWord) (.ref c_NoText) = some false ∧ PySem.W.kitOne K (.ref c_NoWord) (.ref c_NoHelper) = some false ∧ PySem.W.kitOne K (.ref c_NoWord) (.ref c_NoHandle) = some false ∧ PySem.W.kitOne K (.ref c_NoWord) (.ref c_Ended) = some false ∧ PySem.W.kitOne K (.ref c_NoWord) (.ref c_NoRow) = some false ∧ PySem.W.kitOne K (.ref c_NoWord) (.ref c_NoSide) = some false ∧ PySem.W.kitOne K (.ref c_NoWord) (.ref c_NoThing) = some false ∧ PySem.W.kitOne K (.ref c_NoWord) (.ref c_NoLetter) = some false ∧ PySem.W.kitOne K (.ref c_NoWord) (.ref c_NoBody) = some false ∧ PySem.W.kitOne K (.ref c_NoWord) (.ref c_Unlet) = some false ∧ PySem.W.kitOne K (.ref c_NoWord) (.ref c_Closed) = some false ∧ PySem.W.kitOne K (.ref c_NoWord) (.ref c_TooLong) = some false ∧ PySem.W.kitOne K (.ref c_NoWord) (.ref c_TooDeep) = some false ∧ PySem.W.kitOne K (.ref c_NoWord) (.ref c_NothingDone) = some false ∧ PySem.W.kitOne K (.ref c_NoWord) (.ref c_NoLines) = some false ∧ PySem.W.kitOne K (.ref c_NoWord) (.ref c_PactError) = some true ∧ PySem.W.kitOne K (.ref c_NoWord) (.type "ValueError") = some true)
    (cf_NoPact : PySem.W.findIn K (.ref c_NoPact) "__class__" = some (some (.builtin "object.__class__")) ∧ PySem.W.mroIn K c_NoPact (.type "object") = some true)
    (kt_NoPact : PySem.W.kitOne K (.ref c_NoPact) (.ref c_NoWord) = some false ∧ PySem.W.kitOne K (.ref c_NoPact) (.ref c_NoPact) = some true ∧ PySem.W.kitOne K (.ref c_NoPact) (.ref c_NoText) = some false ∧ PySem.W.kitOne K (.ref c_NoPact) (.ref c_NoHelper) = some false ∧ PySem.W.kitOne K (.ref c_NoPact) (.ref c_NoHandle) = some false ∧ PySem.W.kitOne K (.ref c_NoPact) (.ref c_Ended) = some false ∧ PySem.W.kitOne K (.ref c_NoPact) (.ref c_NoRow) = some false ∧ PySem.W.kitOne K (.ref c_NoPact) (.ref c_NoSide) = some false ∧ PySem.W.kitOne K (.ref c_NoPact) (.ref c_NoThing) = some false ∧ PySem.W.kitOne K (.ref c_NoPact) (.ref c_NoLetter) = some false ∧ PySem.W.kitOne K (.ref c_NoPact) (.ref c_NoBody) = some false ∧ PySem.W.kitOne K (.ref c_NoPact) (.ref c_Unlet) = some false ∧ PySem.W.kitOne K (.ref c_NoPact) (.ref c_Closed) = some false ∧ PySem.W.kitOne K (.ref c_NoPact) (.ref c_TooLong) = some false ∧ PySem.W.kitOne K (.ref c_NoPact) (.ref c_TooDeep) = some false ∧ PySem.W.kitOne K (.ref c_NoPact) (.ref c_NothingDone) = some false ∧ PySem.W.kitOne K (.ref c_NoPact) (.ref c_NoLines) = some false ∧ PySem.W.kitOne K (.ref c_NoPact) (.ref c_PactError) = some true ∧ PySem.W.kitOne K (.ref c_NoPact) (.type "ValueError") = some true)
    (cf_NoText : PySem.W.findIn K (.ref c_NoText) "__class__" = some (some (.builtin "object.__class__")) ∧ PySem.W.mroIn K c_NoText (.type "object") = some true)
    (kt_NoText : PySem.W.kitOne K (.ref c_NoText) (.ref c_NoWord) = some false ∧ PySem.W.kitOne K (.ref c_NoText) (.ref c_NoPact) = some false ∧ PySem.W.kitOne K (.ref c_NoText) (.ref c_NoText) = some true ∧ PySem.W.kitOne K (.ref c_NoText) (.ref c_NoHelper) = some false ∧ PySem.W.kitOne K (.ref c_NoText) (.ref c_NoHandle) = some false ∧ PySem.W.kitOne K (.ref c_NoText) (.ref c_Ended) = some false ∧ PySem.W.kitOne K (.ref c_NoText) (.ref c_NoRow) = some false ∧ PySem.W.kitOne K (.ref c_NoText) (.ref c_NoSide) = some false ∧ PySem.W.kitOne K (.ref c_NoText) (.ref c_NoThing) = some false ∧ PySem.W.kitOne K (.ref c_NoText) (.ref c_NoLetter) = some false ∧ PySem.W.kitOne K (.ref c_NoText) (.ref c_NoBody) = some false ∧ PySem.W.kitOne K (.ref c_NoText) (.ref c_Unlet) = some false ∧ PySem.W.kitOne K (.ref c_NoText) (.ref c_Closed) = some false ∧ PySem.W.kitOne K (.ref c_NoText) (.ref c_TooLong) = some false ∧ PySem.W.kitOne K (.ref c_NoText) (.ref c_TooDeep) = some false ∧ PySem.W.kitOne K (.ref c_NoText) (.ref c_NothingDone) = some false ∧ PySem.W.kitOne K (.ref c_NoText) (.ref c_NoLines) = some false ∧ PySem.W.kitOne K (.ref c_NoText) (.ref c_PactError) = some true ∧ PySem.W.kitOne K (.ref c_NoText) (.type "ValueError") = some true)
    (cf_NoHelper : PySem.W.findIn K (.ref c_NoHelper) "__class__" = some (some (.builtin "object.__class__")) ∧ PySem.W.mroIn K c_NoHelper (.type "object") = some true)
    (kt_NoHelper : PySem.W.kitOne K (.ref c_NoHelper) (.ref c_NoWord) = some false ∧ PySem.W.kitOne K (.ref c_NoHelper) (.ref c_NoPact) = some false ∧ PySem.W.kitOne K (.ref c_NoHelper) (.ref c_NoText) = some false ∧ PySem.W.kitOne K (.ref c_NoHelper) (.ref c_NoHelper) = some true ∧ PySem.W.kitOne K (.ref c_NoHelper) (.ref c_NoHandle) = some false ∧ PySem.W.kitOne K (.ref c_NoHelper) (.ref c_Ended) = some false ∧ PySem.W.kitOne K (.ref c_NoHelper) (.ref c_NoRow) = some false ∧ PySem.W.kitOne K (.ref c_NoHelper) (.ref c_NoSide) = some false ∧ PySem.W.kitOne K (.ref c_NoHelper) (.ref c_NoThing) = some false ∧ PySem.W.kitOne K (.ref c_NoHelper) (.ref c_NoLetter) = some false ∧ PySem.W.kitOne K (.ref c_NoHelper) (.ref c_NoBody) = some false ∧ PySem.W.kitOne K (.ref c_NoHelper) (.ref c_Unlet) = some false ∧ PySem.W.kitOne K (.ref c_NoHelper) (.ref c_Closed) = some false ∧ PySem.W.kitOne K (.ref c_NoHelper) (.ref c_TooLong) = some false ∧ PySem.W.kitOne K (.ref c_NoHelper) (.ref c_TooDeep) = some false ∧ PySem.W.kitOne K (.ref c_NoHelper) (.ref c_NothingDone) = some false ∧ PySem.W.kitOne K (.ref c_NoHelper) (.ref c_NoLines) = some false ∧ PySem.W.kitOne K (.ref c_NoHelper) (.ref c_PactError) = some true ∧ PySem.W.kitOne K (.ref c_NoHelper) (.type "ValueError") = some true)
    (cf_NoHandle : PySem.W.findIn K (.ref c_NoHandle) "__class__" = some (some (.builtin "object.__class__")) ∧ PySem.W.mroIn K c_NoHandle (.type "object") = some true)
    (kt_NoHandle : PySem.W.kitOne K (.ref c_NoHandle) (.ref c_NoWord) = some false ∧ PySem.W.kitOne K (.ref c_NoHandle) (.ref c_NoPact) = some false ∧ PySem.W.kitOne K (.ref c_NoHandle) (.ref c_NoText) = some false ∧ PySem.W.kitOne K (.ref c_NoHandle) (.ref c_NoHelper) = some false ∧ PySem.W.kitOne K (.ref c_NoHandle) (.ref c_NoHandle) = some true ∧ PySem.W.kitOne K (.ref c_NoHandle) (.ref c_Ended) = some false ∧ PySem.W.kitOne K (.ref c_NoHandle) (.ref c_NoRow) = some false ∧ PySem.W.kitOne K (.ref c_NoHandle) (.ref c_NoSide) = some false ∧ PySem.W.kitOne K (.ref c_NoHandle) (.ref c_NoThing) = some false ∧ PySem.W.kitOne K (.ref c_NoHandle) (.ref c_NoLetter) = some false ∧ PySem.W.kitOne K (.ref c_NoHandle) (.ref c_NoBody) = some false ∧ PySem.W.kitOne K (.ref c_NoHandle) (.ref c_Unlet) = some false ∧ PySem.W.kitOne K (.ref c_NoHandle) (.ref c_Closed) = some false ∧ PySem.W.kitOne K (.ref c_NoHandle) (.ref c_TooLong) = some false ∧ PySem.W.kitOne K (.ref c_NoHandle) (.ref c_TooDeep) = some false ∧ PySem.W.kitOne K (.ref c_NoHandle) (.ref c_NothingDone) = some false ∧ PySem.W.kitOne K (.ref c_NoHandle) (.ref c_NoLines) = some false ∧ PySem.W.kitOne K (.ref c_NoHandle) (.ref c_PactError) = some true ∧ PySem.W.kitOne K (.ref c_NoHandle) (.type "ValueError") = some true)
    (cf_Ended : PySem.W.findIn K (.ref c_Ended) "__class__" = some (some (.builtin "object.__class__")) ∧ PySem.W.mroIn K c_Ended (.type "object") = some true)
    (kt_Ended : PySem.W.kitOne K (.ref c_Ended) (.ref c_NoWord) = some false ∧ PySem.W.kitOne K (.ref c_Ended) (.ref c_NoPact) = some false ∧ PySem.W.kitOne K (.ref c_Ended) (.ref c_NoText) = some false ∧ PySem.W.kitOne K (.ref c_Ended) (.ref c_NoHelper) = some false ∧ PySem.W.kitOne K (.ref c_Ended) (.ref c_NoHandle) = some false ∧ PySem.W.kitOne K (.ref c_Ended) (.ref c_Ended) = some true ∧ PySem.W.kitOne K (.ref c_Ended) (.ref c_NoRow) = some false ∧ PySem.W.kitOne K (.ref c_Ended) (.ref c_NoSide) = some false ∧ PySem.W.kitOne K (.ref c_Ended) (.ref c_NoThing) = some false ∧ PySem.W.kitOne K (.ref c_Ended) (.ref c_NoLetter) = some false ∧ PySem.W.kitOne K (.ref c_Ended) (.ref c_NoBody) = some false ∧ PySem.W.kitOne K (.ref c_Ended) (.ref c_Unlet) = some false ∧ PySem.W.kitOne K (.ref c_Ended) (.ref c_Closed) = some false ∧ PySem.W.kitOne K (.ref c_Ended) (.ref c_TooLong) = some false ∧ PySem.W.kitOne K (.ref c_Ended) (.ref c_TooDeep) = some false ∧ PySem.W.kitOne K (.ref c_Ended) (.ref c_NothingDone) = some false ∧ PySem.W.kitOne K (.ref c_Ended) (.ref c_NoLines) = some false ∧ PySem.W.kitOne K (.ref c_Ended) (.ref c_PactError) = some true ∧ PySem.W.kitOne K (.ref c_Ended) (.type "ValueError") = some true)
    (cf_NoRow : PySem.W.findIn K (.ref c_NoRow) "__class__" = some (some (.builtin "object.__class__")) ∧ PySem.W.mroIn K c_NoRow (.type "object") = some true)
    (kt_NoRow : PySem.W.kitOne K (.ref c_NoRow) (.ref c_NoWord) = some false ∧ PySem.W.kitOne K (.ref c_NoRow) (.ref c_NoPact) = some false ∧ PySem.W.kitOne K (.ref c_NoRow) (.ref c_NoText) = some false ∧ PySem.W.kitOne K (.ref c_NoRow) (.ref c_NoHelper) = some false ∧ PySem.W.kitOne K (.ref c_NoRow) (.ref c_NoHandle) = some false ∧ PySem.W.kitOne K (.ref c_NoRow) (.ref c_Ended) = some false ∧ PySem.W.kitOne K (.ref c_NoRow) (.ref c_NoRow) = some true ∧ PySem.W.kitOne K (.ref c_NoRow) (.ref c_NoSide) = some false ∧ PySem.W.kitOne K (.ref c_NoRow) (.ref c_NoThing) = some false ∧ PySem.W.kitOne K (.ref c_NoRow) (.ref c_NoLetter) = some false ∧ PySem.W.kitOne K (.ref c_NoRow) (.ref c_NoBody) = some false ∧ PySem.W.kitOne K (.ref c_NoRow) (.ref c_Unlet) = some false ∧ PySem.W.kitOne K (.ref c_NoRow) (.ref c_Closed) = some false ∧ PySem.W.kitOne K (.ref c_NoRow) (.ref c_TooLong) = some false ∧ PySem.W.kitOne K (.ref c_NoRow) (.ref c_TooDeep) = some false ∧ PySem.W.kitOne K (.ref c_NoRow) (.ref c_NothingDone) = some false ∧ PySem.W.kitOne K (.ref c_NoRow) (.ref c_NoLines) = some false ∧ PySem.W.kitOne K (.ref c_NoRow) (.ref c_PactError) = some true ∧ PySem.W.kitOne K (.ref c_NoRow) (.type "ValueError") = some true)
    (cf_NoSide : PySem.W.findIn K (.ref c_NoSide) "__class__" = some (some (.builtin "object.__class__")) ∧ PySem.W.mroIn K c_NoSide (.type "object") = some true)
    (kt_NoSide : PySem.W.kitOne K (.ref c_NoSide) (.ref c_NoWord) = some false ∧ PySem.W.kitOne K (.ref c_NoSide) (.ref c_NoPact) = some false ∧ PySem.W.kitOne K (.ref c_NoSide) (.ref c_NoText) = some false ∧ PySem.W.kitOne K (.ref c_NoSide) (.ref c_NoHelper) = some false ∧ PySem.W.kitOne K (.ref c_NoSide) (.ref c_NoHandle) = some false ∧ PySem.W.kitOne K (.ref c_NoSide) (.ref c_Ended) = some false ∧ PySem.W.kitOne K (.ref c_NoSide) (.ref c_NoRow) = some false ∧ PySem.W.kitOne K (.ref c_NoSide) (.ref c_NoSide) = some true ∧ PySem.W.kitOne K (.ref c_NoSide) (.ref c_NoThing) = some false ∧ PySem.W.kitOne K (.ref c_NoSide) (.ref c_NoLetter) = some false ∧ PySem.W.kitOne K (.ref c_NoSide) (.ref c_NoBody) = some false ∧ PySem.W.kitOne K (.ref c_NoSide) (.ref c_Unlet) = some false ∧ PySem.W.kitOne K (.ref c_NoSide) (.ref c_Closed) = some false ∧ PySem.W.kitOne K (.ref c_NoSide) (.ref c_TooLong) = some false ∧ PySem.W.kitOne K (.ref c_NoSide) (.ref c_TooDeep) = some false ∧ PySem.W.kitOne K (.ref c_NoSide) (.ref c_NothingDone) = some false ∧ PySem.W.kitOne K (.ref c_NoSide) (.ref c_NoLines) = some false ∧ PySem.W.kitOne K (.ref c_NoSide) (.ref c_PactError) = some true ∧ PySem.W.kitOne K (.ref c_NoSide) (.type "ValueError") = some true)
    (cf_NoThing : PySem.W.findIn K (.ref c_NoThing) "__class__" = some (some (.builtin "object.__class__")) ∧ PySem.W.mroIn K c_NoThing (.type "object") = some true)
    (kt_NoThing : PySem.W.kitOne K (.ref c_NoThing) (.ref c_NoWord) = some false ∧ PySem.W.kitOne K (.ref c_NoThing) (.ref c_NoPact) = some false ∧ PySem.W.kitOne K (.ref c_NoThing) (.ref c_NoText) = some false ∧ PySem.W.kitOne K (.ref c_NoThing) (.ref c_NoHelper) = some false ∧ PySem.W.kitOne K (.ref c_NoThing) (.ref c_NoHandle) = some false ∧ PySem.W.kitOne K (.ref c_NoThing) (.ref c_Ended) = some false ∧ PySem.W.kitOne K (.ref c_NoThing) (.ref c_NoRow) = some false ∧ PySem.W.kitOne K (.ref c_NoThing) (.ref c_NoSide) = some false ∧ PySem.W.kitOne K (.ref c_NoThing) (.ref c_NoThing) = some true ∧ PySem.W.kitOne K (.ref c_NoThing) (.ref c_NoLetter) = some false ∧ PySem.W.kitOne K (.ref c_NoThing) (.ref c_NoBody) = some false ∧ PySem.W.kitOne K (.ref c_NoThing) (.ref c_Unlet) = some false ∧ PySem.W.kitOne K (.ref c_NoThing) (.ref c_Closed) = some false ∧ PySem.W.kitOne K (.ref c_NoThing) (.ref c_TooLong) = some false ∧ PySem.W.kitOne K (.ref c_NoThing) (.ref c_TooDeep) = some false ∧ PySem.W.kitOne K (.ref c_NoThing) (.ref c_NothingDone) = some false ∧ PySem.W.kitOne K (.ref c_NoThing) (.ref c_NoLines) = some false ∧ PySem.W.kitOne K (.ref c_NoThing) (.ref c_PactError) = some true ∧ PySem.W.kitOne K (.ref c_NoThing) (.type "ValueError") = some true)
    (cf_NoLetter : PySem.W.findIn K (.ref c_NoLetter) "__class__" = some (some (.builtin "object.__class__")) ∧ PySem.W.mroIn K c_NoLetter (.type "object") = some true)
    (kt_NoLetter : PySem.W.kitOne K (.ref c_NoLetter) (.ref c_NoWord) = some false ∧ PySem.W.kitOne K (.ref c_NoLetter) (.ref c_NoPact) = some false ∧ PySem.W.kitOne K (.ref c_NoLetter) (.ref c_NoText) = some false ∧ PySem.W.kitOne K (.ref c_NoLetter) (.ref c_NoHelper) = some false ∧ PySem.W.kitOne K (.ref c_NoLetter) (.ref c_NoHandle) = some false ∧ PySem.W.kitOne K (.ref c_NoLetter) (.ref c_Ended) = some false ∧ PySem.W.kitOne K (.ref c_NoLetter) (.ref c_NoRow) = some false ∧ PySem.W.kitOne K (.ref c_NoLetter) (.ref c_NoSide) = some false ∧ PySem.W.kitOne K (.ref c_NoLetter) (.ref c_NoThing) = some false ∧ PySem.W.kitOne K (.ref c_NoLetter) (.ref c_NoLetter) = some true ∧ PySem.W.kitOne K (.ref c_NoLetter) (.ref c_NoBody) = some false ∧ PySem.W.kitOne K (.ref c_NoLetter) (.ref c_Unlet) = some false ∧ PySem.W.kitOne K (.ref c_NoLetter) (.ref c_Closed) = some false ∧ PySem.W.kitOne K (.ref c_NoLetter) (.ref c_TooLong) = some false ∧ PySem.W.kitOne K (.ref c_NoLetter) (.ref c_TooDeep) = some false ∧ PySem.W.kitOne K (.ref c_NoLetter) (.ref c_NothingDone) = some false ∧ PySem.W.kitOne K (.ref c_NoLetter) (.ref c_NoLines) = some false ∧ PySem.W.kitOne K (.ref c_NoLetter) (.ref c_PactError) = some true ∧ PySem.W.kitOne K (.ref c_NoLetter) (.type "ValueError") = some true)
    (cf_NoBody : PySem.W.findIn K (.ref c_NoBody) "__class__" = some (some (.builtin "object.__class__")) ∧ PySem.W.mroIn K c_NoBody (.type "object") = some true)
    (kt_NoBody : PySem.W.kitOne K (.ref c_NoBody) (.ref c_NoWord) = some false ∧ PySem.W.kitOne K (.ref c_NoBody) (.ref c_NoPact) = some false ∧ PySem.W.kitOne K (.ref c_NoBody) (.ref c_NoText) = some false ∧ PySem.W.kitOne K (.ref c_NoBody) (.ref c_NoHelper) = some false ∧ PySem.W.kitOne K (.ref c_NoBody) (.ref c_NoHandle) = some false ∧ PySem.W.kitOne K (.ref c_NoBody) (.ref c_Ended) = some false ∧ PySem.W.kitOne K (.ref c_NoBody) (.ref c_NoRow) = some false ∧ PySem.W.kitOne K (.ref c_NoBody) (.ref c_NoSide) = some false ∧ PySem.W.kitOne K (.ref c_NoBody) (.ref c_NoThing) = some false ∧ PySem.W.kitOne K (.ref c_NoBody) (.ref c_NoLetter) = some false ∧ PySem.W.kitOne K (.ref c_NoBody) (.ref c_NoBody) = some true ∧ PySem.W.kitOne K (.ref c_NoBody) (.ref c_Unlet) = some false ∧ PySem.W.kitOne K (.ref c_NoBody) (.ref c_Closed) = some false ∧ PySem.W.kitOne K (.ref c_NoBody) (.ref c_TooLong) = some false ∧ PySem.W.kitOne K (.ref c_NoBody) (.ref c_TooDeep) = some false ∧ PySem.W.kitOne K (.ref c_NoBody) (.ref c_NothingDone) = some false ∧ PySem.W.kitOne K (.ref c_NoBody) (.ref c_NoLines) = some false ∧ PySem.W.kitOne K (.ref c_NoBody) (.ref c_PactError) = some true ∧ PySem.W.kitOne K (.ref c_NoBody) (.type "ValueError") = some true)
    (cf_Unlet : PySem.W.findIn K (.ref c_Unlet) "__class__" = some (some (.builtin "object.__class__")) ∧ PySem.W.mroIn K c_Unlet (.type "object") = some true)
    (kt_Unlet : PySem.W.kitOne K (.ref c_Unlet) (.ref c_NoWord) = some false ∧ PySem.W.kitOne K (.ref c_Unlet) (.ref c_NoPact) = some false ∧ PySem.W.kitOne K (.ref c_Unlet) (.ref c_NoText) = some false ∧ PySem.W.kitOne K (.ref c_Unlet) (.ref c_NoHelper) = some false ∧ PySem.W.kitOne K (.ref c_Unlet) (.ref c_NoHandle) = some false ∧ PySem.W.kitOne K (.ref c_Unlet) (.ref c_Ended) = some false ∧ PySem.W.kitOne K (.ref c_Unlet) (.ref c_NoRow) = some false ∧ PySem.W.kitOne K (.ref c_Unlet) (.ref c_NoSide) = some false ∧ PySem.W.kitOne K (.ref c_Unlet) (.ref c_NoThing) = some false ∧ PySem.W.kitOne K (.ref c_Unlet) (.ref c_NoLetter) = some false ∧ PySem.W.kitOne K (.ref c_Unlet) (.ref c_NoBody) = some false ∧ PySem.W.kitOne K (.ref c_Unlet) (.ref c_Unlet) = some true ∧ PySem.W.kitOne K (.ref c_Unlet) (.ref c_Closed) = some false ∧ PySem.W.kitOne K (.ref c_Unlet) (.ref c_TooLong) = some false ∧ PySem.W.kitOne K (.ref c_Unlet) (.ref c_TooDeep) = some false ∧ PySem.W.kitOne K (.ref c_Unlet) (.ref c_NothingDone) = some false ∧ PySem.W.kitOne K (.ref c_Unlet) (.ref c_NoLines) = some false ∧ PySem.W.kitOne K (.ref c_Unlet) (.ref c_PactError) = some true ∧ PySem.W.kitOne K (.ref c_Unlet) (.type "ValueError") = some true)
    (ke_Closed : PySem.W.keepIn K (.ref c_Closed) = true)
    (ex_Closed : PySem.W.excIn K c_Closed [.type "ValueError", .type "Exception", .type "BaseException", .type "object"] "ValueError.__new__" = true)
    (cf_Closed : PySem.W.findIn K (.ref c_Closed) "__class__" = some (some (.builtin "object.__class__")) ∧ PySem.W.mroIn K c_Closed (.type "object") = some true ∧ PySem.W.findIn K (.ref c_Closed) "__getattribute__" = some (some (.builtin "BaseException.__getattribute__")) ∧ PySem.W.findIn K (.ref c_Closed) "__getattr__" = some none ∧ PySem.W.subIn K (.ref c_Closed) (.type "BaseException") = some true ∧ PySem.W.hasDictIn K c_Closed = true)
    (kt_Closed : PySem.W.kitOne K (.ref c_Closed) (.ref c_NoWord) = some false ∧ PySem.W.kitOne K (.ref c_Closed) (.ref c_NoPact) = some false ∧ PySem.W.kitOne K (.ref c_Closed) (.ref c_NoText) = some false ∧ PySem.W.kitOne K (.ref c_Closed) (.ref c_NoHelper) = some false ∧ PySem.W.kitOne K (.ref c_Closed) (.ref c_NoHandle) = some false ∧ PySem.W.kitOne K (.ref c_Closed) (.ref c_Ended) = some false ∧ PySem.W.kitOne K (.ref c_Closed) (.ref c_NoRow) = some false ∧ PySem.W.kitOne K (.ref c_Closed) (.ref c_NoSide) = some false ∧ PySem.W.kitOne K (.ref c_Closed) (.ref c_NoThing) = some false ∧ PySem.W.kitOne K (.ref c_Closed) (.ref c_NoLetter) = some false ∧ PySem.W.kitOne K (.ref c_Closed) (.ref c_NoBody) = some false ∧ PySem.W.kitOne K (.ref c_Closed) (.ref c_Unlet) = some false ∧ PySem.W.kitOne K (.ref c_Closed) (.ref c_Closed) = some true ∧ PySem.W.kitOne K (.ref c_Closed) (.ref c_TooLong) = some false ∧ PySem.W.kitOne K (.ref c_Closed) (.ref c_TooDeep) = some false ∧ PySem.W.kitOne K (.ref c_Closed) (.ref c_NothingDone) = some false ∧ PySem.W.kitOne K (.ref c_Closed) (.ref c_NoLines) = some false ∧ PySem.W.kitOne K (.ref c_Closed) (.ref c_PactError) = some true ∧ PySem.W.kitOne K (.ref c_Closed) (.type "ValueError") = some true)
    (ke_TooLong : PySem.W.keepIn K (.ref c_TooLong) = true)
    (ex_TooLong : PySem.W.excIn K c_TooLong [.type "ValueError", .type "Exception", .type "BaseException", .type "object"] "ValueError.__new__" = true)
    (cf_TooLong : PySem.W.findIn K (.ref c_TooLong) "__class__" = some (some (.builtin "object.__class__")) ∧ PySem.W.mroIn K c_TooLong (.type "object") = some true ∧ PySem.W.findIn K (.ref c_TooLong) "__getattribute__" = some (some (.builtin "BaseException.__getattribute__")) ∧ PySem.W.findIn K (.ref c_TooLong) "__getattr__" = some none ∧ PySem.W.subIn K (.ref c_TooLong) (.type "BaseException") = some true ∧ PySem.W.hasDictIn K c_TooLong = true)
    (kt_TooLong : PySem.W.kitOne K (.ref c_TooLong) (.ref c_NoWord) = some false ∧ PySem.W.kitOne K (.ref c_TooLong) (.ref c_NoPact) = some false ∧ PySem.W.kitOne K (.ref c_TooLong) (.ref c_NoText) = some false ∧ PySem.W.kitOne K (.ref c_TooLong) (.ref c_NoHelper) = some false ∧ PySem.W.kitOne K (.ref c_TooLong) (.ref c_NoHandle) = some false ∧ PySem.W.kitOne K (.ref c_TooLong) (.ref c_Ended) = some false ∧ PySem.W.kitOne K (.ref c_TooLong) (.ref c_NoRow) = some false ∧ PySem.W.kitOne K (.ref c_TooLong) (.ref c_NoSide) = some false ∧ PySem.W.kitOne K (.ref c_TooLong) (.ref c_NoThing) = some false ∧ PySem.W.kitOne K (.ref c_TooLong) (.ref c_NoLetter) = some false ∧ PySem.W.kitOne K (.ref c_TooLong) (.ref c_NoBody) = some false ∧ PySem.W.kitOne K (.ref c_TooLong) (.ref c_Unlet) = some false ∧ PySem.W.kitOne K (.ref c_TooLong) (.ref c_Closed) = some false ∧ PySem.W.kitOne K (.ref c_TooLong) (.ref c_TooLong) = some true ∧ PySem.W.kitOne K (.ref c_TooLong) (.ref c_TooDeep) = some false ∧ PySem.W.kitOne K (.ref c_TooLong) (.ref c_NothingDone) = some false ∧ PySem.W.kitOne K (.ref c_TooLong) (.ref c_NoLines) = some false ∧ PySem.W.kitOne K (.ref c_TooLong) (.ref c_PactError) = some true ∧ PySem.W.kitOne K (.ref c_TooLong) (.type "ValueError") = some true)
    (ke_TooDeep : PySem.W.keepIn K (.ref c_TooDeep) = true)
    (ex_TooDeep : PySem.W.excIn K c_TooDeep [.type "ValueError", .type "Exception", .type "BaseException", .type "object"] "ValueError.__new__" = true)
    (cf_TooDeep : PySem.W.findIn K (.ref c_TooDeep) "__class__" = some (some (.builtin "object.__class__")) ∧ PySem.W.mroIn K c_TooDeep (.type "object") = some true ∧ PySem.W.findIn K (.ref c_TooDeep) "__getattribute__" = some (some (.builtin "BaseException.__getattribute__")) ∧ PySem.W.findIn K (.ref c_TooDeep) "__getattr__" = some none ∧ PySem.W.subIn K (.ref c_TooDeep) (.type "BaseException") = some true ∧ PySem.W.hasDictIn K c_TooDeep = true)
    (kt_TooDeep : PySem.W.kitOne K (.ref c_TooDeep) (.ref c_NoWord) = some false ∧ PySem.W.kitOne K (.ref c_TooDeep) (.ref c_NoPact) = some false ∧ PySem.W.kitOne K (.ref c_TooDeep) (.ref c_NoText) = some false ∧ PySem.W.kitOne K (.ref c_TooDeep) (.ref c_NoHelper) = some false ∧ PySem.W.kitOne K (.ref c_TooDeep) (.ref c_NoHandle) = some false ∧ PySem.W.kitOne K (.ref c_TooDeep) (.ref c_Ended) = some false ∧ PySem.W.kitOne K (.ref c_TooDeep) (.ref c_NoRow) = some false ∧ PySem.W.kitOne K (.ref c_TooDeep) (.ref c_NoSide) = some false ∧ PySem.W.kitOne K (.ref c_TooDeep) (.ref c_NoThing) = some false ∧ PySem.W.kitOne K (.ref c_TooDeep) (.ref c_NoLetter) = some false ∧ PySem.W.kitOne K (.ref c_TooDeep) (.ref c_NoBody) = some false ∧ PySem.W.kitOne K (.ref c_TooDeep) (.ref c_Unlet) = some false ∧ PySem.W.kitOne K (.ref c_TooDeep) (.ref c_Closed) = some false ∧ PySem.W.kitOne K (.ref c_TooDeep) (.ref c_TooLong) = some false ∧ PySem.W.kitOne K (.ref c_TooDeep) (.ref c_TooDeep) = some true ∧ PySem.W.kitOne K (.ref c_TooDeep) (.ref c_NothingDone) = some false ∧ PySem.W.kitOne K (.ref c_TooDeep) (.ref c_NoLines) = some false ∧ PySem.W.kitOne K (.ref c_TooDeep) (.ref c_PactError) = some true ∧ PySem.W.kitOne K (.ref c_TooDeep) (.type "ValueError") = some true)
    (ke_NothingDone : PySem.W.keepIn K (.ref c_NothingDone) = true)
    (ex_NothingDone : PySem.W.excIn K c_NothingDone [.type "ValueError", .type "Exception", .type "BaseException", .type "object"] "ValueError.__new__" = true)
    (cf_NothingDone : PySem.W.findIn K (.ref c_NothingDone) "__class__" = some (some (.builtin "object.__class__")) ∧ PySem.W.mroIn K c_NothingDone (.type "object") = some true ∧ PySem.W.findIn K (.ref c_NothingDone) "__getattribute__" = some (some (.builtin "BaseException.__getattribute__")) ∧ PySem.W.findIn K (.ref c_NothingDone) "__getattr__" = some none ∧ PySem.W.subIn K (.ref c_NothingDone) (.type "BaseException") = some true ∧ PySem.W.hasDictIn K c_NothingDone = true)
    (kt_NothingDone : PySem.W.kitOne K (.ref c_NothingDone) (.ref c_NoWord) = some false ∧ PySem.W.kitOne K (.ref c_NothingDone) (.ref c_NoPact) = some false ∧ PySem.W.kitOne K (.ref c_NothingDone) (.ref c_NoText) = some false ∧ PySem.W.kitOne K (.ref c_NothingDone) (.ref c_NoHelper) = some false ∧ PySem.W.kitOne K (.ref c_NothingDone) (.ref c_NoHandle) = some false ∧ PySem.W.kitOne K (.ref c_NothingDone) (.ref c_Ended) = some false ∧ PySem.W.kitOne K (.ref c_NothingDone) (.ref c_NoRow) = some false ∧ PySem.W.kitOne K (.ref c_NothingDone) (.ref c_NoSide) = some false ∧ PySem.W.kitOne K (.ref c_NothingDone) (.ref c_NoThing) = some false ∧ PySem.W.kitOne K (.ref c_NothingDone) (.ref c_NoLetter) = some false ∧ PySem.W.kitOne K (.ref c_NothingDone) (.ref c_NoBody) = some false ∧ PySem.W.kitOne K (.ref c_NothingDone) (.ref c_Unlet) = some false ∧ PySem.W.kitOne K (.ref c_NothingDone) (.ref c_Closed) = some false ∧ PySem.W.kitOne K (.ref c_NothingDone) (.ref c_TooLong) = some false ∧ PySem.W.kitOne K (.ref c_NothingDone) (.ref c_TooDeep) = some false ∧ PySem.W.kitOne K (.ref c_NothingDone) (.ref c_NothingDone) = some true ∧ PySem.W.kitOne K (.ref c_NothingDone) (.ref c_NoLines) = some false ∧ PySem.W.kitOne K (.ref c_NothingDone) (.ref c_PactError) = some true ∧ PySem.W.kitOne K (.ref c_NothingDone) (.type "ValueError") = some true)
    (ke_NoLines : PySem.W.keepIn K (.ref c_NoLines) = true)
    (ex_NoLines : PySem.W.excIn K c_NoLines [.type "ValueError", .type "Exception", .type "BaseException", .type "object"] "ValueError.__new__" = true)
    (cf_NoLines : PySem.W.findIn K (.ref c_NoLines) "__class__" = some (some (.builtin "object.__class__")) ∧ PySem.W.mroIn K c_NoLines (.type "object") = some true ∧ PySem.W.findIn K (.ref c_NoLines) "__getattribute__" = some (some (.builtin "BaseException.__getattribute__")) ∧ PySem.W.findIn K (.ref c_NoLines) "__getattr__" = some none ∧ PySem.W.subIn K (.ref c_NoLines) (.type "BaseException") = some true ∧ PySem.W.hasDictIn K c_NoLines = true)
    (kt_NoLines : PySem.W.kitOne K (.ref c_NoLines) (.ref c_NoWord) = some false ∧ PySem.W.kitOne K (.ref c_NoLines) (.ref c_NoPact) = some false ∧ PySem.W.kitOne K (.ref c_NoLines) (.ref c_NoText) = some false ∧ PySem.W.kitOne K (.ref c_NoLines) (.ref c_NoHelper) = some false ∧ PySem.W.kitOne K (.ref c_NoLines) (.ref c_NoHandle) = some false ∧ PySem.W.kitOne K (.ref c_NoLines) (.ref c_Ended) = some false ∧ PySem.W.kitOne K (.ref c_NoLines) (.ref c_NoRow) = some false ∧ PySem.W.kitOne K (.ref c_NoLines) (.ref c_NoSide) = some false ∧ PySem.W.kitOne K (.ref c_NoLines) (.ref c_NoThing) = some false ∧ PySem.W.kitOne K (.ref c_NoLines) (.ref c_NoLetter) = some false ∧ PySem.W.kitOne K (.ref c_NoLines) (.ref c_NoBody) = some false ∧ PySem.W.kitOne K (.ref c_NoLines) (.ref c_Unlet) = some false ∧ PySem.W.kitOne K (.ref c_NoLines) (.ref c_Closed) = some false ∧ PySem.W.kitOne K (.ref c_NoLines) (.ref c_TooLong) = some false ∧ PySem.W.kitOne K (.ref c_NoLines) (.ref c_TooDeep) = some false ∧ PySem.W.kitOne K (.ref c_NoLines) (.ref c_NothingDone) = some false ∧ PySem.W.kitOne K (.ref c_NoLines) (.ref c_NoLines) = some true ∧ PySem.W.kitOne K (.ref c_NoLines) (.ref c_PactError) = some true ∧ PySem.W.kitOne K (.ref c_NoLines) (.type "ValueError") = some true)
    (fg : PySem.W.specialIn K (.builtin "object.__class__") "__get__" = some (some (.builtin "getset_descriptor.__get__")))
    (ft : PySem.W.takesIn K (.builtin "object.__class__") = some true)
    (a_p_copied : PySem.W.nsIn K mainGlobals "_copied" = some (some (.ref f_p_copied)))
    (l_p_copied : K.lookup f_p_copied = some ⟨oc_p_copied, od_p_copied, .func (PySem.W.fnOf "_copied" "_copied" (defArgs s_p_copied) (defBody s_p_copied) (defScope s_p_copied) .none kV_p_copied dc_p_copied pm_p_copied an_p_copied cd_p_copied ct_p_copied), sl_p_copied⟩)
    (q_p_copied : PySem.W.codeIn K cd_p_copied "_copied" = true)
    (k_p_copied : PySem.W.keepIn K (.ref f_p_copied) = true)
    (a_NoWord_init : PySem.W.findIn K (.ref c_NoWord) "__init__" = some (some (.ref f_NoWord_init)))
    (i_NoWord_init : PySem.W.isFn K (.ref f_NoWord_init) = true)
    (l_NoWord_init : K.lookup f_NoWord_init = some ⟨oc_NoWord_init, od_NoWord_init, .func (PySem.W.fnOf "__init__" "NoWord.__init__" (defArgs s_NoWord_init) (defBody s_NoWord_init) (defScope s_NoWord_init) .none kV_NoWord_init dc_NoWord_init pm_NoWord_init an_NoWord_init cd_NoWord_init ct_NoWord_init), sl_NoWord_init⟩)
    (q_NoWord_init : PySem.W.codeIn K cd_NoWord_init "NoWord.__init__" = true)
    (k_NoWord_init : PySem.W.keepIn K (.ref f_NoWord_init) = true)
    (a_NoPact_init : PySem.W.findIn K (.ref c_NoPact) "__init__" = some (some (.ref f_NoPact_init)))
    (i_NoPact_init : PySem.W.isFn K (.ref f_NoPact_init) = true)
    (l_NoPact_init : K.lookup f_NoPact_init = some ⟨oc_NoPact_init, od_NoPact_init, .func (PySem.W.fnOf "__init__" "NoPact.__init__" (defArgs s_NoPact_init) (defBody s_NoPact_init) (defScope s_NoPact_init) .none kV_NoPact_init dc_NoPact_init pm_NoPact_init an_NoPact_init cd_NoPact_init ct_NoPact_init), sl_NoPact_init⟩)
    (q_NoPact_init : PySem.W.codeIn K cd_NoPact_init "NoPact.__init__" = true)
    (k_NoPact_init : PySem.W.keepIn K (.ref f_NoPact_init) = true)
    (a_NoText_init : PySem.W.findIn K (.ref c_NoText) "__init__" = some (some (.ref f_NoText_init)))
    (i_NoText_init : PySem.W.isFn K (.ref f_NoText_init) = true)
    (l_NoText_init : K.lookup f_NoText_init = some ⟨oc_NoText_init, od_NoText_init, .func (PySem.W.fnOf "__init__" "NoText.__init__" (defArgs s_NoText_init) (defBody s_NoText_init) (defScope s_NoText_init) .none kV_NoText_init dc_NoText_init pm_NoText_init an_NoText_init cd_NoText_init ct_NoText_init), sl_NoText_init⟩)
    (q_NoText_init : PySem.W.codeIn K cd_NoText_init "NoText.__init__" = true)
    (k_NoText_init : PySem.W.keepIn K (.ref f_NoText_init) = true)
    (a_NoHelper_init : PySem.W.findIn K (.ref c_NoHelper) "__init__" = some (some (.ref f_NoHelper_init)))
    (i_NoHelper_init : PySem.W.isFn K (.ref f_NoHelper_init) = true)
    (l_NoHelper_init : K.lookup f_NoHelper_init = some ⟨oc_NoHelper_init, od_NoHelper_init, .func (PySem.W.fnOf "__init__" "NoHelper.__init__" (defArgs s_NoHelper_init) (defBody s_NoHelper_init) (defScope s_NoHelper_init) .none kV_NoHelper_init dc_NoHelper_init pm_NoHelper_init an_NoHelper_init cd_NoHelper_init ct_NoHelper_init), sl_NoHelper_init⟩)
    (q_NoHelper_init : PySem.W.codeIn K cd_NoHelper_init "NoHelper.__init__" = true)
    (k_NoHelper_init : PySem.W.keepIn K (.ref f_NoHelper_init) = true)
    (a_NoHandle_init : PySem.W.findIn K (.ref c_NoHandle) "__init__" = some (some (.ref f_NoHandle_init)))
    (i_NoHandle_init : PySem.W.isFn K (.ref f_NoHandle_init) = true)
    (l_NoHandle_init : K.lookup f_NoHandle_init = some ⟨oc_NoHandle_init, od_NoHandle_init, .func (PySem.W.fnOf "__init__" "NoHandle.__init__" (defArgs s_NoHandle_init) (defBody s_NoHandle_init) (defScope s_NoHandle_init) .none kV_NoHandle_init dc_NoHandle_init pm_NoHandle_init an_NoHandle_init cd_NoHandle_init ct_NoHandle_init), sl_NoHandle_init⟩)
    (q_NoHandle_init : PySem.W.codeIn K cd_NoHandle_init "NoHandle.__init__" = true)
    (k_NoHandle_init : PySem.W.keepIn K (.ref f_NoHandle_init) = true)
    (a_Ended_init : PySem.W.findIn K (.ref c_Ended) "__init__" = some (some (.ref f_Ended_init)))
    (i_Ended_init : PySem.W.isFn K (.ref f_Ended_init) = true)
    (l_Ended_init : K.lookup f_Ended_init = some ⟨oc_Ended_init, od_Ended_init, .func (PySem.W.fnOf "__init__" "Ended.__init__" (defArgs s_Ended_init) (defBody s_Ended_init) (defScope s_Ended_init) .none kV_Ended_init dc_Ended_init pm_Ended_init an_Ended_init cd_Ended_init ct_Ended_init), sl_Ended_init⟩)
    (q_Ended_init : PySem.W.codeIn K cd_Ended_init "Ended.__init__" = true)
    (k_Ended_init : PySem.W.keepIn K (.ref f_Ended_init) = true)
    (a_NoRow_init : PySem.W.findIn K (.ref c_NoRow) "__init__" = some (some (.ref f_NoRow_init)))
    (i_NoRow_init : PySem.W.isFn K (.ref f_NoRow_init) = true)
    (l_NoRow_init : K.lookup f_NoRow_init = some ⟨oc_NoRow_init, od_NoRow_init, .func (PySem.W.fnOf "__init__" "NoRow.__init__" (defArgs s_NoRow_init) (defBody s_NoRow_init) (defScope s_NoRow_init) .none kV_NoRow_init dc_NoRow_init pm_NoRow_init an_NoRow_init cd_NoRow_init ct_NoRow_init), sl_NoRow_init⟩)
    (q_NoRow_init : PySem.W.codeIn K cd_NoRow_init "NoRow.__init__" = true)
    (k_NoRow_init : PySem.W.keepIn K (.ref f_NoRow_init) = true)
    (a_NoSide_init : PySem.W.findIn K (.ref c_NoSide) "__init__" = some (some (.ref f_NoSide_init)))
    (i_NoSide_init : PySem.W.isFn K (.ref f_NoSide_init) = true)
    (l_NoSide_init : K.lookup f_NoSide_init = some ⟨oc_NoSide_init, od_NoSide_init, .func (PySem.W.fnOf "__init__" "NoSide.__init__" (defArgs s_NoSide_init) (defBody s_NoSide_init) (defScope s_NoSide_init) .none kV_NoSide_init dc_NoSide_init pm_NoSide_init an_NoSide_init cd_NoSide_init ct_NoSide_init), sl_NoSide_init⟩)
    (q_NoSide_init : PySem.W.codeIn K cd_NoSide_init "NoSide.__init__" = true)
    (k_NoSide_init : PySem.W.keepIn K (.ref f_NoSide_init) = true)
    (a_NoThing_init : PySem.W.findIn K (.ref c_NoThing) "__init__" = some (some (.ref f_NoThing_init)))
    (i_NoThing_init : PySem.W.isFn K (.ref f_NoThing_init) = true)
    (l_NoThing_init : K.lookup f_NoThing_init = some ⟨oc_NoThing_init, od_NoThing_init, .func (PySem.W.fnOf "__init__" "NoThing.__init__" (defArgs s_NoThing_init) (defBody s_NoThing_init) (defScope s_NoThing_init) .none kV_NoThing_init dc_NoThing_init pm_NoThing_init an_NoThing_init cd_NoThing_init ct_NoThing_init), sl_NoThing_init⟩)
    (q_NoThing_init : PySem.W.codeIn K cd_NoThing_init "NoThing.__init__" = true)
    (k_NoThing_init : PySem.W.keepIn K (.ref f_NoThing_init) = true)
    (a_NoLetter_init : PySem.W.findIn K (.ref c_NoLetter) "__init__" = some (some (.ref f_NoLetter_init)))
    (i_NoLetter_init : PySem.W.isFn K (.ref f_NoLetter_init) = true)
    (l_NoLetter_init : K.lookup f_NoLetter_init = some ⟨oc_NoLetter_init, od_NoLetter_init, .func (PySem.W.fnOf "__init__" "NoLetter.__init__" (defArgs s_NoLetter_init) (defBody s_NoLetter_init) (defScope s_NoLetter_init) .none kV_NoLetter_init dc_NoLetter_init pm_NoLetter_init an_NoLetter_init cd_NoLetter_init ct_NoLetter_init), sl_NoLetter_init⟩)
    (q_NoLetter_init : PySem.W.codeIn K cd_NoLetter_init "NoLetter.__init__" = true)
    (k_NoLetter_init : PySem.W.keepIn K (.ref f_NoLetter_init) = true)
    (a_NoBody_init : PySem.W.findIn K (.ref c_NoBody) "__init__" = some (some (.ref f_NoBody_init)))
    (i_NoBody_init : PySem.W.isFn K (.ref f_NoBody_init) = true)
    (l_NoBody_init : K.lookup f_NoBody_init = some ⟨oc_NoBody_init, od_NoBody_init, .func (PySem.W.fnOf "__init__" "NoBody.__init__" (defArgs s_NoBody_init) (defBody s_NoBody_init) (defScope s_NoBody_init) .none kV_NoBody_init dc_NoBody_init pm_NoBody_init an_NoBody_init cd_NoBody_init ct_NoBody_init), sl_NoBody_init⟩)
    (q_NoBody_init : PySem.W.codeIn K cd_NoBody_init "NoBody.__init__" = true)
    (k_NoBody_init : PySem.W.keepIn K (.ref f_NoBody_init) = true)
    (a_Unlet_init : PySem.W.findIn K (.ref c_Unlet) "__init__" = some (some (.ref f_Unlet_init)))
    (i_Unlet_init : PySem.W.isFn K (.ref f_Unlet_init) = true)
    (l_Unlet_init : K.lookup f_Unlet_init = some ⟨oc_Unlet_init, od_Unlet_init, .func (PySem.W.fnOf "__init__" "Unlet.__init__" (defArgs s_Unlet_init) (defBody s_Unlet_init) (defScope s_Unlet_init) .none kV_Unlet_init dc_Unlet_init pm_Unlet_init an_Unlet_init cd_Unlet_init ct_Unlet_init), sl_Unlet_init⟩)
    (q_Unlet_init : PySem.W.codeIn K cd_Unlet_init "Unlet.__init__" = true)
    (k_Unlet_init : PySem.W.keepIn K (.ref f_Unlet_init) = true)
    (a_box : PySem.W.nsIn K mainGlobals "_law_box" = some (some (.ref f_box)))
    (l_box : K.lookup f_box = some ⟨oc_box, od_box, .func (PySem.W.fnOf "_law_box" "_law_box" (defArgs s_box) (defBody s_box) (defScope s_box) .none kV_box dc_box pm_box an_box cd_box ct_box), sl_box⟩)
    (q_box : PySem.W.codeIn K cd_box "_law_box" = true)
    (k_box : PySem.W.keepIn K (.ref f_box) = true)
    (a_mixed : PySem.W.nsIn K mainGlobals "_law_mixed" = some (some (.ref f_mixed)))
    (l_mixed : K.lookup f_mixed = some ⟨oc_mixed, od_mixed, .func (PySem.W.fnOf "_law_mixed" "_law_mixed" (defArgs s_mixed) (defBody s_mixed) (defScope s_mixed) .none kV_mixed dc_mixed pm_mixed an_mixed cd_mixed ct_mixed), sl_mixed⟩)
    (q_mixed : PySem.W.codeIn K cd_mixed "_law_mixed" = true)
    (k_mixed : PySem.W.keepIn K (.ref f_mixed) = true)
    (a_take : PySem.W.nsIn K mainGlobals "_law_take" = some (some (.ref f_take)))
    (l_take : K.lookup f_take = some ⟨oc_take, od_take, .func (PySem.W.fnOf "_law_take" "_law_take" (defArgs s_take) (defBody s_take) (defScope s_take) .none kV_take dc_take pm_take an_take cd_take ct_take), sl_take⟩)
    (q_take : PySem.W.codeIn K cd_take "_law_take" = true)
    (k_take : PySem.W.keepIn K (.ref f_take) = true)
    (a_of_a_text : PySem.W.nsIn K mainGlobals "_law_of_a_text" = some (some (.ref f_of_a_text)))
    (l_of_a_text : K.lookup f_of_a_text = some ⟨oc_of_a_text, od_of_a_text, .func (PySem.W.fnOf "_law_of_a_text" "_law_of_a_text" (defArgs s_of_a_text) (defBody s_of_a_text) (defScope s_of_a_text) .none kV_of_a_text dc_of_a_text pm_of_a_text an_of_a_text cd_of_a_text ct_of_a_text), sl_of_a_text⟩)
    (q_of_a_text : PySem.W.codeIn K cd_of_a_text "_law_of_a_text" = true)
    (k_of_a_text : PySem.W.keepIn K (.ref f_of_a_text) = true)
    (a_made : PySem.W.nsIn K mainGlobals "_law_made" = some (some (.ref f_made)))
    (l_made : K.lookup f_made = some ⟨oc_made, od_made, .func (PySem.W.fnOf "_law_made" "_law_made" (defArgs s_made) (defBody s_made) (defScope s_made) .none kV_made dc_made pm_made an_made cd_made ct_made), sl_made⟩)
    (q_made : PySem.W.codeIn K cd_made "_law_made" = true)
    (k_made : PySem.W.keepIn K (.ref f_made) = true)
    (a_named : PySem.W.nsIn K mainGlobals "_law_named" = some (some (.ref f_named)))
    (l_named : K.lookup f_named = some ⟨oc_named, od_named, .func (PySem.W.fnOf "_law_named" "_law_named" (defArgs s_named) (defBody s_named) (defScope s_named) .none kV_named dc_named pm_named an_named cd_named ct_named), sl_named⟩)
    (q_named : PySem.W.codeIn K cd_named "_law_named" = true)
    (k_named : PySem.W.keepIn K (.ref f_named) = true)
    (a_borne : PySem.W.nsIn K mainGlobals "_law_borne" = some (some (.ref f_borne)))
    (l_borne : K.lookup f_borne = some ⟨oc_borne, od_borne, .func (PySem.W.fnOf "_law_borne" "_law_borne" (defArgs s_borne) (defBody s_borne) (defScope s_borne) .none kV_borne dc_borne pm_borne an_borne cd_borne ct_borne), sl_borne⟩)
    (q_borne : PySem.W.codeIn K cd_borne "_law_borne" = true)
    (k_borne : PySem.W.keepIn K (.ref f_borne) = true)
    (a_sorts : PySem.W.nsIn K mainGlobals "_law_sorts" = some (some (.ref f_sorts)))
    (l_sorts : K.lookup f_sorts = some ⟨oc_sorts, od_sorts, .func (PySem.W.fnOf "_law_sorts" "_law_sorts" (defArgs s_sorts) (defBody s_sorts) (defScope s_sorts) .none kV_sorts dc_sorts pm_sorts an_sorts cd_sorts ct_sorts), sl_sorts⟩)
    (q_sorts : PySem.W.codeIn K cd_sorts "_law_sorts" = true)
    (k_sorts : PySem.W.keepIn K (.ref f_sorts) = true)
    (a_value : PySem.W.nsIn K mainGlobals "_law_value" = some (some (.ref f_value)))
    (l_value : K.lookup f_value = some ⟨oc_value, od_value, .func (PySem.W.fnOf "_law_value" "_law_value" (defArgs s_value) (defBody s_value) (defScope s_value) .none kV_value dc_value pm_value an_value cd_value ct_value), sl_value⟩)
    (q_value : PySem.W.codeIn K cd_value "_law_value" = true)
    (k_value : PySem.W.keepIn K (.ref f_value) = true)
    (a_law : PySem.W.nsIn K mainGlobals "law" = some (some (.ref f_law)))
    (l_law : K.lookup f_law = some ⟨oc_law, od_law, .func (PySem.W.fnOf "law" "law" (defArgs s_law) (defBody s_law) (defScope s_law) .none kV_law dc_law pm_law an_law cd_law ct_law), sl_law⟩)
    (q_law : PySem.W.codeIn K cd_law "law" = true)
    (k_law : PySem.W.keepIn K (.ref f_law) = true)
    (z_ValueError : PySem.W.nsIn K mainGlobals "ValueError" = some none)
    (z_isinstance : PySem.W.nsIn K mainGlobals "isinstance" = some none)
    (z_list : PySem.W.nsIn K mainGlobals "list" = some none)
    (z_tuple : PySem.W.nsIn K mainGlobals "tuple" = some none)
    (z_len : PySem.W.nsIn K mainGlobals "len" = some none)
    (z_range : PySem.W.nsIn K mainGlobals "range" = some none)
    : ∃ fd : FuncData, (∀ (s : Shared) (v : Value), BindsTo s fd ⟨[v], []⟩ [("_law_script", v)]) ∧ ∀ base : Heap, K.In base → base.Ns mainGlobals mg → FnOk l.prog w K mg base CX0 20 fa fd ["_law_script"] (spLaw K) := by
  have e : f_law = fa := (Value.ref.inj (Option.some.inj (hfa.symm.trans (PySem.W.mg_of X G a_law)))).symm
  subst e
  have F_p_copied := fun_mk (st := s_p_copied) l_p_copied q_p_copied k_p_copied
  have B_p_copied := F_p_copied.binds (ps := ["thing"]) fun _ _ _ _ _ _ us hl => match us, hl with | [_], _ => rfl
  have F_NoWord_init := fun_mk (st := s_NoWord_init) l_NoWord_init q_NoWord_init k_NoWord_init
  have B_NoWord_init := F_NoWord_init.binds (ps := ["self", "word"]) fun _ _ _ _ _ _ us hl => match us, hl with | [_, _], _ => rfl
  have F_NoPact_init := fun_mk (st := s_NoPact_init) l_NoPact_init q_NoPact_init k_NoPact_init
  have B_NoPact_init := F_NoPact_init.binds (ps := ["self", "at"]) fun _ _ _ _ _ _ us hl => match us, hl with | [_, _], _ => rfl
  have F_NoText_init := fun_mk (st := s_NoText_init) l_NoText_init q_NoText_init k_NoText_init
  have B_NoText_init := F_NoText_init.binds (ps := ["self", "at"]) fun _ _ _ _ _ _ us hl => match us, hl with | [_, _], _ => rfl
  have F_NoHelper_init := fun_mk (st := s_NoHelper_init) l_NoHelper_init q_NoHelper_init k_NoHelper_init
  have B_NoHelper_init := F_NoHelper_init.binds (ps := ["self", "name"]) fun _ _ _ _ _ _ us hl => match us, hl with | [_, _], _ => rfl
  have F_NoHandle_init := fun_mk (st := s_NoHandle_init) l_NoHandle_init q_NoHandle_init k_NoHandle_init
  have B_NoHandle_init := F_NoHandle_init.binds (ps := ["self", "handle"]) fun _ _ _ _ _ _ us hl => match us, hl with | [_, _], _ => rfl
  have F_Ended_init := fun_mk (st := s_Ended_init) l_Ended_init q_Ended_init k_Ended_init
  have B_Ended_init := F_Ended_init.binds (ps := ["self", "handle"]) fun _ _ _ _ _ _ us hl => match us, hl with | [_, _], _ => rfl
  have F_NoRow_init := fun_mk (st := s_NoRow_init) l_NoRow_init q_NoRow_init k_NoRow_init
  have B_NoRow_init := F_NoRow_init.binds (ps := ["self", "at"]) fun _ _ _ _ _ _ us hl => match us, hl with | [_, _], _ => rfl
  have F_NoSide_init := fun_mk (st := s_NoSide_init) l_NoSide_init q_NoSide_init k_NoSide_init
  have B_NoSide_init := F_NoSide_init.binds (ps := ["self", "at"]) fun _ _ _ _ _ _ us hl => match us, hl with | [_, _], _ => rfl
  have F_NoThing_init := fun_mk (st := s_NoThing_init) l_NoThing_init q_NoThing_init k_NoThing_init
  have B_NoThing_init := F_NoThing_init.binds (ps := ["self", "at"]) fun _ _ _ _ _ _ us hl => match us, hl with | [_, _], _ => rfl
  have F_NoLetter_init := fun_mk (st := s_NoLetter_init) l_NoLetter_init q_NoLetter_init k_NoLetter_init
  have B_NoLetter_init := F_NoLetter_init.binds (ps := ["self", "letter"]) fun _ _ _ _ _ _ us hl => match us, hl with | [_, _], _ => rfl
  have F_NoBody_init := fun_mk (st := s_NoBody_init) l_NoBody_init q_NoBody_init k_NoBody_init
  have B_NoBody_init := F_NoBody_init.binds (ps := ["self", "name", "at"]) fun _ _ _ _ _ _ us hl => match us, hl with | [_, _, _], _ => rfl
  have F_Unlet_init := fun_mk (st := s_Unlet_init) l_Unlet_init q_Unlet_init k_Unlet_init
  have B_Unlet_init := F_Unlet_init.binds (ps := ["self", "side", "lines"]) fun _ _ _ _ _ _ us hl => match us, hl with | [_, _, _], _ => rfl
  have F_box := fun_mk (st := s_box) l_box q_box k_box
  have B_box := F_box.binds (ps := ["_law_script"]) fun _ _ _ _ _ _ us hl => match us, hl with | [_], _ => rfl
  have F_mixed := fun_mk (st := s_mixed) l_mixed q_mixed k_mixed
  have B_mixed := F_mixed.binds (ps := ["_law_cell", "_law_k"]) fun _ _ _ _ _ _ us hl => match us, hl with | [_, _], _ => rfl
  have F_take := fun_mk (st := s_take) l_take q_take k_take
  have B_take := F_take.binds (ps := ["_law_box_here", "_law_size"]) fun _ _ _ _ _ _ us hl => match us, hl with | [_, _], _ => rfl
  have F_of_a_text := fun_mk (st := s_of_a_text) l_of_a_text q_of_a_text k_of_a_text
  have B_of_a_text := F_of_a_text.binds (ps := ["_law_kind", "_law_one"]) fun _ _ _ _ _ _ us hl => match us, hl with | [_, _], _ => rfl
  have F_made := fun_mk (st := s_made) l_made q_made k_made
  have B_made := F_made.binds (ps := ["_law_kind", "_law_one", "_law_two"]) fun _ _ _ _ _ _ us hl => match us, hl with | [_, _, _], _ => rfl
  have F_named := fun_mk (st := s_named) l_named q_named k_named
  have B_named := F_named.binds (ps := ["_law_kind", "_law_one", "_law_two"]) fun _ _ _ _ _ _ us hl => match us, hl with | [_, _, _], _ => rfl
  have F_borne := fun_mk (st := s_borne) l_borne q_borne k_borne
  have B_borne := F_borne.binds (ps := ["_law_kind", "_law_made_here"]) fun _ _ _ _ _ _ us hl => match us, hl with | [_, _], _ => rfl
  have F_sorts := fun_mk (st := s_sorts) l_sorts q_sorts k_sorts
  have B_sorts := F_sorts.binds (ps := ["_law_e"]) fun _ _ _ _ _ _ us hl => match us, hl with | [_], _ => rfl
  have F_value := fun_mk (st := s_value) l_value q_value k_value
  have B_value := F_value.binds (ps := ["_law_box_here", "_law_kind"]) fun _ _ _ _ _ _ us hl => match us, hl with | [_, _], _ => rfl
  have F_law := fun_mk (st := s_law) l_law q_law k_law
  have B_law := F_law.binds (ps := ["_law_script"]) fun _ _ _ _ _ _ us hl => match us, hl with | [_], _ => rfl
  have KN_NoWord_init_1 := kwn_mk F_NoWord_init (ps := ["self", "word"]) (n := 1) (ks := ["word"]) rfl (fun _ _ _ _ _ _ us ws hu hw => match us, ws, hu, hw with | [_], [_], _, _ => rfl)
  have KN_NoPact_init_1 := kwn_mk F_NoPact_init (ps := ["self", "at"]) (n := 1) (ks := ["at"]) rfl (fun _ _ _ _ _ _ us ws hu hw => match us, ws, hu, hw with | [_], [_], _, _ => rfl)
  have KN_NoText_init_1 := kwn_mk F_NoText_init (ps := ["self", "at"]) (n := 1) (ks := ["at"]) rfl (fun _ _ _ _ _ _ us ws hu hw => match us, ws, hu, hw with | [_], [_], _, _ => rfl)
  have KN_NoHelper_init_1 := kwn_mk F_NoHelper_init (ps := ["self", "name"]) (n := 1) (ks := ["name"]) rfl (fun _ _ _ _ _ _ us ws hu hw => match us, ws, hu, hw with | [_], [_], _, _ => rfl)
  have KN_NoHandle_init_1 := kwn_mk F_NoHandle_init (ps := ["self", "handle"]) (n := 1) (ks := ["handle"]) rfl (fun _ _ _ _ _ _ us ws hu hw => match us, ws, hu, hw with | [_], [_], _, _ => rfl)
  have KN_Ended_init_1 := kwn_mk F_Ended_init (ps := ["self", "handle"]) (n := 1) (ks := ["handle"]) rfl (fun _ _ _ _ _ _ us ws hu hw => match us, ws, hu, hw with | [_], [_], _, _ => rfl)
  have KN_NoRow_init_1 := kwn_mk F_NoRow_init (ps := ["self", "at"]) (n := 1) (ks := ["at"]) rfl (fun _ _ _ _ _ _ us ws hu hw => match us, ws, hu, hw with | [_], [_], _, _ => rfl)
  have KN_NoSide_init_1 := kwn_mk F_NoSide_init (ps := ["self", "at"]) (n := 1) (ks := ["at"]) rfl (fun _ _ _ _ _ _ us ws hu hw => match us, ws, hu, hw with | [_], [_], _, _ => rfl)
  have KN_NoThing_init_1 := kwn_mk F_NoThing_init (ps := ["self", "at"]) (n := 1) (ks := ["at"]) rfl (fun _ _ _ _ _ _ us ws hu hw => match us, ws, hu, hw with | [_], [_], _, _ => rfl)
  have KN_NoLetter_init_1 := kwn_mk F_NoLetter_init (ps := ["self", "letter"]) (n := 1) (ks := ["letter"]) rfl (fun _ _ _ _ _ _ us ws hu hw => match us, ws, hu, hw with | [_], [_], _, _ => rfl)
  have KR_NoBody_init := kwr_mk F_NoBody_init (ps := ["self", "name", "at"]) (n := 1) (ks := ["at", "name"]) (fun _ _ _ _ _ _ us ws hu hw => match us, ws, hu, hw with | [_], [_, _], _, _ => rfl)
  have KR_Unlet_init := kwr_mk F_Unlet_init (ps := ["self", "side", "lines"]) (n := 1) (ks := ["lines", "side"]) (fun _ _ _ _ _ _ us ws hu hw => match us, ws, hu, hw with | [_], [_, _], _, _ => rfl)
  have T : Txt K mg { c_NoWord := c_NoWord, c_NoPact := c_NoPact, c_NoText := c_NoText, c_NoHelper := c_NoHelper, c_NoHandle := c_NoHandle, c_Ended := c_Ended, c_NoRow := c_NoRow, c_NoSide := c_NoSide, c_NoThing := c_NoThing, c_NoLetter := c_NoLetter, c_NoBody := c_NoBody, c_Unlet := c_Unlet, c_PactError := c_PactError, c_Closed := c_Closed, c_TooLong := c_TooLong, c_TooDeep := c_TooDeep, c_NothingDone := c_NothingDone, c_NoLines := c_NoLines, f_p_copied := f_p_copied, d_p_copied := PySem.W.fnOf "_copied" "_copied" (defArgs s_p_copied) (defBody s_p_copied) (defScope s_p_copied) .none kV_p_copied dc_p_copied pm_p_copied an_p_copied cd_p_copied ct_p_copied, f_NoWord_init := f_NoWord_init, d_NoWord_init := PySem.W.fnOf "__init__" "NoWord.__init__" (defArgs s_NoWord_init) (defBody s_NoWord_init) (defScope s_NoWord_init) .none kV_NoWord_init dc_NoWord_init pm_NoWord_init an_NoWord_init cd_NoWord_init ct_NoWord_init, f_NoPact_init := f_NoPact_init, d_NoPact_init := PySem.W.fnOf "__init__" "NoPact.__init__" (defArgs s_NoPact_init) (defBody s_NoPact_init) (defScope s_NoPact_init) .none kV_NoPact_init dc_NoPact_init pm_NoPact_init an_NoPact_init cd_NoPact_init ct_NoPact_init, f_NoText_init := f_NoText_init, d_NoText_init := PySem.W.fnOf "__init__" "NoText.__init__" (defArgs s_NoText_init) (defBody s_NoText_init) (defScope s_NoText_init) .none kV_NoText_init dc_NoText_init pm_NoText_init an_NoText_init cd_NoText_init ct_NoText_init, f_NoHelper_init := f_NoHelper_init, d_NoHelper_init := PySem.W.fnOf "__init__" "NoHelper.__init__" (defArgs s_NoHelper_init) (defBody s_NoHelper_init) (defScope s_NoHelper_init) .none kV_NoHelper_init dc_NoHelper_init pm_NoHelper_init an_NoHelper_init cd_NoHelper_init ct_NoHelper_init, f_NoHandle_init := f_NoHandle_init, d_NoHandle_init := PySem.W.fnOf "__init__" "NoHandle.__init__" (defArgs s_NoHandle_init) (defBody s_NoHandle_init) (defScope s_NoHandle_init) .none kV_NoHandle_init dc_NoHandle_init pm_NoHandle_init an_NoHandle_init cd_NoHandle_init ct_NoHandle_init, f_Ended_init := f_Ended_init, d_Ended_init := PySem.W.fnOf "__init__" "Ended.__init__" (defArgs s_Ended_init) (defBody s_Ended_init) (defScope s_Ended_init) .none kV_Ended_init dc_Ended_init pm_Ended_init an_Ended_init cd_Ended_init ct_Ended_init, f_NoRow_init := f_NoRow_init, d_NoRow_init := PySem.W.fnOf "__init__" "NoRow.__init__" (defArgs s_NoRow_init) (defBody s_NoRow_init) (defScope s_NoRow_init) .none kV_NoRow_init dc_NoRow_init pm_NoRow_init an_NoRow_init cd_NoRow_init ct_NoRow_init, f_NoSide_init := f_NoSide_init, d_NoSide_init := PySem.W.fnOf "__init__" "NoSide.__init__" (defArgs s_NoSide_init) (defBody s_NoSide_init) (defScope s_NoSide_init) .none kV_NoSide_init dc_NoSide_init pm_NoSide_init an_NoSide_init cd_NoSide_init ct_NoSide_init, f_NoThing_init := f_NoThing_init, d_NoThing_init := PySem.W.fnOf "__init__" "NoThing.__init__" (defArgs s_NoThing_init) (defBody s_NoThing_init) (defScope s_NoThing_init) .none kV_NoThing_init dc_NoThing_init pm_NoThing_init an_NoThing_init cd_NoThing_init ct_NoThing_init, f_NoLetter_init := f_NoLetter_init, d_NoLetter_init := PySem.W.fnOf "__init__" "NoLetter.__init__" (defArgs s_NoLetter_init) (defBody s_NoLetter_init) (defScope s_NoLetter_init) .none kV_NoLetter_init dc_NoLetter_init pm_NoLetter_init an_NoLetter_init cd_NoLetter_init ct_NoLetter_init, f_NoBody_init := f_NoBody_init, d_NoBody_init := PySem.W.fnOf "__init__" "NoBody.__init__" (defArgs s_NoBody_init) (defBody s_NoBody_init) (defScope s_NoBody_init) .none kV_NoBody_init dc_NoBody_init pm_NoBody_init an_NoBody_init cd_NoBody_init ct_NoBody_init, f_Unlet_init := f_Unlet_init, d_Unlet_init := PySem.W.fnOf "__init__" "Unlet.__init__" (defArgs s_Unlet_init) (defBody s_Unlet_init) (defScope s_Unlet_init) .none kV_Unlet_init dc_Unlet_init pm_Unlet_init an_Unlet_init cd_Unlet_init ct_Unlet_init, f_box := f_box, d_box := PySem.W.fnOf "_law_box" "_law_box" (defArgs s_box) (defBody s_box) (defScope s_box) .none kV_box dc_box pm_box an_box cd_box ct_box, f_mixed := f_mixed, d_mixed := PySem.W.fnOf "_law_mixed" "_law_mixed" (defArgs s_mixed) (defBody s_mixed) (defScope s_mixed) .none kV_mixed dc_mixed pm_mixed an_mixed cd_mixed ct_mixed, f_take := f_take, d_take := PySem.W.fnOf "_law_take" "_law_take" (defArgs s_take) (defBody s_take) (defScope s_take) .none kV_take dc_take pm_take an_take cd_take ct_take, f_of_a_text := f_of_a_text, d_of_a_text := PySem.W.fnOf "_law_of_a_text" "_law_of_a_text" (defArgs s_of_a_text) (defBody s_of_a_text) (defScope s_of_a_text) .none kV_of_a_text dc_of_a_text pm_of_a_text an_of_a_text cd_of_a_text ct_of_a_text, f_made := f_made, d_made := PySem.W.fnOf "_law_made" "_law_made" (defArgs s_made) (defBody s_made) (defScope s_made) .none kV_made dc_made pm_made an_made cd_made ct_made, f_named := f_named, d_named := PySem.W.fnOf "_law_named" "_law_named" (defArgs s_named) (defBody s_named) (defScope s_named) .none kV_named dc_named pm_named an_named cd_named ct_named, f_borne := f_borne, d_borne := PySem.W.fnOf "_law_borne" "_law_borne" (defArgs s_borne) (defBody s_borne) (defScope s_borne) .none kV_borne dc_borne pm_borne an_borne cd_borne ct_borne, f_sorts := f_sorts, d_sorts := PySem.W.fnOf "_law_sorts" "_law_sorts" (defArgs s_sorts) (defBody s_sorts) (defScope s_sorts) .none kV_sorts dc_sorts pm_sorts an_sorts cd_sorts ct_sorts, f_value := f_value, d_value := PySem.W.fnOf "_law_value" "_law_value" (defArgs s_value) (defBody s_value) (defScope s_value) .none kV_value dc_value pm_value an_value cd_value ct_value, f_law := f_law, d_law := PySem.W.fnOf "law" "law" (defArgs s_law) (defBody s_law) (defScope s_law) .none kV_law dc_law pm_law an_law cd_law ct_law } := { x_NoWord := ⟨⟨_, _, _, _, _, _, _, _, _, _, _, _, _, _, _, xl_NoWord, xm_NoWord⟩, xs_NoWord, xe_NoWord, xy_NoWord, xk_NoWord⟩, xi_NoWord := a_NoWord_init, xt_NoWord := beq_iff_eq.mp i_NoWord_init, xf_NoWord := ⟨xg_NoWord, xo_NoWord, xe_NoWord, xd_NoWord⟩, g_NoWord := PySem.W.mg_of X G a_NoWord, n_NoWord_word := n_NoWord_word, x_NoPact := ⟨⟨_, _, _, _, _, _, _, _, _, _, _, _, _, _, _, xl_NoPact, xm_NoPact⟩, xs_NoPact, xe_NoPact, xy_NoPact, xk_NoPact⟩, xi_NoPact := a_NoPact_init, xt_NoPact := beq_iff_eq.mp i_NoPact_init, xf_NoPact := ⟨xg_NoPact, xo_NoPact, xe_NoPact, xd_NoPact⟩, g_NoPact := PySem.W.mg_of X G a_NoPact, n_NoPact_at := n_NoPact_at, x_NoText := ⟨⟨_, _, _, _, _, _, _, _, _, _, _, _, _, _, _, xl_NoText, xm_NoText⟩, xs_NoText, xe_NoText, xy_NoText, xk_NoText⟩, xi_NoText := a_NoText_init, xt_NoText := beq_iff_eq.mp i_NoText_init, xf_NoText := ⟨xg_NoText, xo_NoText, xe_NoText, xd_NoText⟩, g_NoText := PySem.W.mg_of X G a_NoText, n_NoText_at := n_NoText_at, x_NoHelper := ⟨⟨_, _, _, _, _, _, _, _, _, _, _, _, _, _, _, xl_NoHelper, xm_NoHelper⟩, xs_NoHelper, xe_NoHelper, xy_NoHelper, xk_NoHelper⟩, xi_NoHelper := a_NoHelper_init, xt_NoHelper := beq_iff_eq.mp i_NoHelper_init, xf_NoHelper := ⟨xg_NoHelper, xo_NoHelper, xe_NoHelper, xd_NoHelper⟩, g_NoHelper := PySem.W.mg_of X G a_NoHelper, n_NoHelper_name := n_NoHelper_name, x_NoHandle := ⟨⟨_, _, _, _, _, _, _, _, _, _, _, _, _, _, _, xl_NoHandle, xm_NoHandle⟩, xs_NoHandle, xe_NoHandle, xy_NoHandle, xk_NoHandle⟩, xi_NoHandle := a_NoHandle_init, xt_NoHandle := beq_iff_eq.mp i_NoHandle_init, xf_NoHandle := ⟨xg_NoHandle, xo_NoHandle, xe_NoHandle, xd_NoHandle⟩, g_NoHandle := PySem.W.mg_of X G a_NoHandle, n_NoHandle_handle := n_NoHandle_handle, x_Ended := ⟨⟨_, _, _, _, _, _, _, _, _, _, _, _, _, _, _, xl_Ended, xm_Ended⟩, xs_Ended, xe_Ended, xy_Ended, xk_Ended⟩, xi_Ended := a_Ended_init, xt_Ended := beq_iff_eq.mp i_Ended_init, xf_Ended := ⟨xg_Ended, xo_Ended, xe_Ended, xd_Ended⟩, g_Ended := PySem.W.mg_of X G a_Ended, n_Ended_handle := n_Ended_handle, x_NoRow := ⟨⟨_, _, _, _, _, _, _, _, _, _, _, _, _, _, _, xl_NoRow, xm_NoRow⟩, xs_NoRow, xe_NoRow, xy_NoRow, xk_NoRow⟩, xi_NoRow := a_NoRow_init, xt_NoRow := beq_iff_eq.mp i_NoRow_init, xf_NoRow := ⟨xg_NoRow, xo_NoRow, xe_NoRow, xd_NoRow⟩, g_NoRow := PySem.W.mg_of X G a_NoRow, n_NoRow_at := n_NoRow_at, x_NoSide := ⟨⟨_, _, _, _, _, _, _, _, _, _, _, _, _, _, _, xl_NoSide, xm_NoSide⟩, xs_NoSide, xe_NoSide, xy_NoSide, xk_NoSide⟩, xi_NoSide := a_NoSide_init, xt_NoSide := beq_iff_eq.mp i_NoSide_init, xf_NoSide := ⟨xg_NoSide, xo_NoSide, xe_NoSide, xd_NoSide⟩, g_NoSide := PySem.W.mg_of X G a_NoSide, n_NoSide_at := n_NoSide_at, x_NoThing := ⟨⟨_, _, _, _, _, _, _, _, _, _, _, _, _, _, _, xl_NoThing, xm_NoThing⟩, xs_NoThing, xe_NoThing, xy_NoThing, xk_NoThing⟩, xi_NoThing := a_NoThing_init, xt_NoThing := beq_iff_eq.mp i_NoThing_init, xf_NoThing := ⟨xg_NoThing, xo_NoThing, xe_NoThing, xd_NoThing⟩, g_NoThing := PySem.W.mg_of X G a_NoThing, n_NoThing_at := n_NoThing_at, x_NoLetter := ⟨⟨_, _, _, _, _, _, _, _, _, _, _, _, _, _, _, xl_NoLetter, xm_NoLetter⟩, xs_NoLetter, xe_NoLetter, xy_NoLetter, xk_NoLetter⟩, xi_NoLetter := a_NoLetter_init, xt_NoLetter := beq_iff_eq.mp i_NoLetter_init, xf_NoLetter := ⟨xg_NoLetter, xo_NoLetter, xe_NoLetter, xd_NoLetter⟩, g_NoLetter := PySem.W.mg_of X G a_NoLetter, n_NoLetter_letter := n_NoLetter_letter, x_NoBody := ⟨⟨_, _, _, _, _, _, _, _, _, _, _, _, _, _, _, xl_NoBody, xm_NoBody⟩, xs_NoBody, xe_NoBody, xy_NoBody, xk_NoBody⟩, xi_NoBody := a_NoBody_init, xt_NoBody := beq_iff_eq.mp i_NoBody_init, xf_NoBody := ⟨xg_NoBody, xo_NoBody, xe_NoBody, xd_NoBody⟩, g_NoBody := PySem.W.mg_of X G a_NoBody, n_NoBody_name := n_NoBody_name, n_NoBody_at := n_NoBody_at, x_Unlet := ⟨⟨_, _, _, _, _, _, _, _, _, _, _, _, _, _, _, xl_Unlet, xm_Unlet⟩, xs_Unlet, xe_Unlet, xy_Unlet, xk_Unlet⟩, xi_Unlet := a_Unlet_init, xt_Unlet := beq_iff_eq.mp i_Unlet_init, xf_Unlet := ⟨xg_Unlet, xo_Unlet, xe_Unlet, xd_Unlet⟩, g_Unlet := PySem.W.mg_of X G a_Unlet, n_Unlet_side := n_Unlet_side, n_Unlet_lines := n_Unlet_lines, md_PactError := ⟨da_PactError, dr_PactError, df_PactError⟩, g_PactError := PySem.W.mg_of X G a_PactError, cf_NoWord := cf_NoWord, kt_NoWord := kt_NoWord, cf_NoPact := cf_NoPact, kt_NoPact := kt_NoPact, cf_NoText := cf_NoText, kt_NoText := kt_NoText, cf_NoHelper := cf_NoHelper, kt_NoHelper := kt_NoHelper, cf_NoHandle := cf_NoHandle, kt_NoHandle := kt_NoHandle, cf_Ended := cf_Ended, kt_Ended := kt_Ended, cf_NoRow := cf_NoRow, kt_NoRow := kt_NoRow, cf_NoSide := cf_NoSide, kt_NoSide := kt_NoSide, cf_NoThing := cf_NoThing, kt_NoThing := kt_NoThing, cf_NoLetter := cf_NoLetter, kt_NoLetter := kt_NoLetter, cf_NoBody := cf_NoBody, kt_NoBody := kt_NoBody, cf_Unlet := cf_Unlet, kt_Unlet := kt_Unlet, ke_Closed := ke_Closed, ex_Closed := ex_Closed, cf_Closed := cf_Closed, kt_Closed := kt_Closed, ke_TooLong := ke_TooLong, ex_TooLong := ex_TooLong, cf_TooLong := cf_TooLong, kt_TooLong := kt_TooLong, ke_TooDeep := ke_TooDeep, ex_TooDeep := ex_TooDeep, cf_TooDeep := cf_TooDeep, kt_TooDeep := kt_TooDeep, ke_NothingDone := ke_NothingDone, ex_NothingDone := ex_NothingDone, cf_NothingDone := cf_NothingDone, kt_NothingDone := kt_NothingDone, ke_NoLines := ke_NoLines, ex_NoLines := ex_NoLines, cf_NoLines := cf_NoLines, kt_NoLines := kt_NoLines, fg := fg, ft := ft, F_p_copied := F_p_copied, B_p_copied := B_p_copied, g_p_copied := PySem.W.mg_of X G a_p_copied, k_p_copied := k_p_copied, F_NoWord_init := F_NoWord_init, B_NoWord_init := B_NoWord_init, F_NoPact_init := F_NoPact_init, B_NoPact_init := B_NoPact_init, F_NoText_init := F_NoText_init, B_NoText_init := B_NoText_init, F_NoHelper_init := F_NoHelper_init, B_NoHelper_init := B_NoHelper_init, F_NoHandle_init := F_NoHandle_init, B_NoHandle_init := B_NoHandle_init, F_Ended_init := F_Ended_init, B_Ended_init := B_Ended_init, F_NoRow_init := F_NoRow_init, B_NoRow_init := B_NoRow_init, F_NoSide_init := F_NoSide_init, B_NoSide_init := B_NoSide_init, F_NoThing_init := F_NoThing_init, B_NoThing_init := B_NoThing_init, F_NoLetter_init := F_NoLetter_init, B_NoLetter_init := B_NoLetter_init, F_NoBody_init := F_NoBody_init, B_NoBody_init := B_NoBody_init, F_Unlet_init := F_Unlet_init, B_Unlet_init := B_Unlet_init, F_box := F_box, B_box := B_box, g_box := PySem.W.mg_of X G a_box, k_box := k_box, F_mixed := F_mixed, B_mixed := B_mixed, g_mixed := PySem.W.mg_of X G a_mixed, k_mixed := k_mixed, F_take := F_take, B_take := B_take, g_take := PySem.W.mg_of X G a_take, k_take := k_take, F_of_a_text := F_of_a_text, B_of_a_text := B_of_a_text, g_of_a_text := PySem.W.mg_of X G a_of_a_text, k_of_a_text := k_of_a_text, F_made := F_made, B_made := B_made, g_made := PySem.W.mg_of X G a_made, k_made := k_made, F_named := F_named, B_named := B_named, g_named := PySem.W.mg_of X G a_named, k_named := k_named, F_borne := F_borne, B_borne := B_borne, g_borne := PySem.W.mg_of X G a_borne, k_borne := k_borne, F_sorts := F_sorts, B_sorts := B_sorts, g_sorts := PySem.W.mg_of X G a_sorts, k_sorts := k_sorts, F_value := F_value, B_value := B_value, g_value := PySem.W.mg_of X G a_value, k_value := k_value, F_law := F_law, B_law := B_law, g_law := PySem.W.mg_of X G a_law, k_law := k_law, g_Closed := PySem.W.mg_of X G a_Closed, g_TooLong := PySem.W.mg_of X G a_TooLong, g_TooDeep := PySem.W.mg_of X G a_TooDeep, g_NothingDone := PySem.W.mg_of X G a_NothingDone, g_NoLines := PySem.W.mg_of X G a_NoLines, KN_NoWord_init_1 := KN_NoWord_init_1, KN_NoPact_init_1 := KN_NoPact_init_1, KN_NoText_init_1 := KN_NoText_init_1, KN_NoHelper_init_1 := KN_NoHelper_init_1, KN_NoHandle_init_1 := KN_NoHandle_init_1, KN_Ended_init_1 := KN_Ended_init_1, KN_NoRow_init_1 := KN_NoRow_init_1, KN_NoSide_init_1 := KN_NoSide_init_1, KN_NoThing_init_1 := KN_NoThing_init_1, KN_NoLetter_init_1 := KN_NoLetter_init_1, KR_NoBody_init := KR_NoBody_init, KR_Unlet_init := KR_Unlet_init, z_ValueError := PySem.W.mg_none_of X G z_ValueError, z_isinstance := PySem.W.mg_none_of X G z_isinstance, z_list := PySem.W.mg_none_of X G z_list, z_tuple := PySem.W.mg_none_of X G z_tuple, z_len := PySem.W.mg_none_of X G z_len, z_range := PySem.W.mg_none_of X G z_range }
  exact ⟨_, fun s v => .of_eq rfl, fun base _ _ => (ok_law T).mono (by decide)⟩
theorem walk {l : PySem.W.OpenLaw} {q : Program} {loose : List Str} {XP : (Str → Option Value) → Heap → Prop} {YP : World → Heap → Prop} {d : DefRec} {K : Params → PySem.W.Frag} (hn : l.most = some 63) (hdf : d.params.defaults = [])
    (hY : ∀ (w : World) (h : Heap), YP w h → (K w.params).In h)
    (F : ∀ (w : World) (mg : Str → Option Value) (fa : Addr) (h : Heap), (K w.params).In h → h.Ns mainGlobals mg → mg d.name = some (.ref fa) →
      ∃ fd : FuncData, (∀ (s : Shared) (u : Value), BindsTo s fd ⟨[u], []⟩ [("_law_script", u)]) ∧ ∀ base : Heap, (K w.params).In base → base.Ns mainGlobals mg → FnOk l.prog w (K w.params) mg base CX0 20 fa fd ["_law_script"] (spLaw (K w.params))) :
    PySem.W.WalkO q loose XP YP l.row.toRowW d [] (fun f vs => PySem.call f vs) := L2.walk_of (n := 63) (k := 20) (x := "_law_script") (CX := fun _ => CX0) (sp := fun w => spLaw (K w.params)) hn (by decide) hdf ⟨rfl, by decide, by decide⟩ hY F (fun _ _ a ns hl _ hS => ⟨a, ns, rfl, hS, hl, fun _ => rfl⟩) fun _ _ _ _ _ z => z
end Lw
open PySem PySem.W PyProof.Rows
set_option maxRecDepth 100000 in
set_option maxHeartbeats 0 in
theorem PySem.Challenge.cw_pactford_k92_refusals_made_holds : PySem.Challenge.rw_pactford_k92_refusals_made.Holds := by
  w_on; o_law; k_head; (case hw => w_witness2)
  k_fill
  refine Lw.walk (l := PySem.Challenge.rw_pactford_k92_refusals_made) rfl rfl (fun w h Y => PySem.W.kIn_of Y) ?F
  case F =>
    intro w mg fa h KX G hmg
    refine' Lw.all_mk KX G hmg ?a_NoWord ?xl_NoWord ?xm_NoWord ?xs_NoWord ?xe_NoWord ?xy_NoWord ?xk_NoWord ?xg_NoWord ?xo_NoWord ?xd_NoWord ?n_NoWord_word ?a_NoPact ?xl_NoPact ?xm_NoPact ?xs_NoPact ?xe_NoPact ?xy_NoPact ?xk_NoPact ?xg_NoPact ?xo_NoPact ?xd_NoPact ?n_NoPact_at ?a_NoText ?xl_NoText ?xm_NoText ?xs_NoText ?xe_NoText ?xy_NoText ?xk_NoText ?xg_NoText ?xo_NoText ?xd_NoText ?n_NoText_at ?a_NoHelper ?xl_NoHelper ?xm_NoHelper ?xs_NoHelper ?xe_NoHelper ?xy_NoHelper ?xk_NoHelper ?xg_NoHelper ?xo_NoHelper ?xd_NoHelper ?n_NoHelper_name ?a_NoHandle ?xl_NoHandle ?xm_NoHandle ?xs_NoHandle ?xe_NoHandle ?xy_NoHandle ?xk_NoHandle ?xg_NoHandle ?xo_NoHandle ?xd_NoHandle ?n_NoHandle_handle ?a_Ended ?xl_Ended ?xm_Ended ?xs_Ended ?xe_Ended ?xy_Ended ?xk_Ended ?xg_Ended ?xo_Ended ?xd_Ended ?n_Ended_handle ?a_NoRow ?xl_NoRow ?xm_NoRow ?xs_NoRow ?xe_NoRow ?xy_NoRow ?xk_NoRow ?xg_NoRow ?xo_NoRow ?xd_NoRow ?n_NoRow_at ?a_NoSide ?xl_NoSide ?xm_NoSide ?xs_NoSide ?xe_NoSide ?xy_NoSide ?xk_NoSide ?xg_NoSide ?xo_NoSide ?xd_NoSide ?n_NoSide_at ?a_NoThing ?xl_NoThing ?xm_NoThing ?xs_NoThing ?xe_NoThing ?xy_NoThing ?xk_NoThing ?xg_NoThing ?xo_NoThing ?xd_NoThing ?n_NoThing_at ?a_NoLetter ?xl_NoLetter ?xm_NoLetter ?xs_NoLetter ?xe_NoLetter ?xy_NoLetter ?xk_NoLetter ?xg_NoLetter ?xo_NoLetter ?xd_NoLetter ?n_NoLetter_letter ?a_NoBody ?xl_NoBody ?xm_NoBody ?xs_NoBody ?xe_NoBody ?xy_NoBody ?xk_NoBody ?xg_NoBody ?xo_NoBody ?xd_NoBody ?n_NoBody_name ?n_NoBody_at ?a_Unlet ?xl_Unlet ?xm_Unlet ?xs_Unlet ?xe_Unlet ?xy_Unlet ?xk_Unlet ?xg_Unlet ?xo_Unlet ?xd_Unlet ?n_Unlet_side ?n_Unlet_lines ?a_PactError ?da_PactError ?dr_PactError ?df_PactError ?a_Closed ?a_TooLong ?a_TooDeep ?a_NothingDone ?a_NoLines ?cf_NoWord ?kt_NoWord ?cf_NoPact ?kt_NoPact ?cf_NoText ?kt_NoText ?cf_NoHelper ?kt_NoHelper ?cf_NoHandle ?kt_NoHandle ?cf_Ended ?kt_Ended ?cf_NoRow ?kt_NoRow ?cf_NoSide ?kt_NoSide ?cf_NoThing ?kt_NoThing ?cf_NoLetter ?kt_NoLetter ?cf_NoBody ?kt_NoBody ?cf_Unlet ?kt_Unlet ?ke_Closed ?ex_Closed ?cf_Closed ?kt_Closed ?ke_TooLong ?ex_TooLong ?cf_TooLong ?kt_TooLong ?ke_TooDeep ?ex_TooDeep ?cf_TooDeep ?kt_TooDeep ?ke_NothingDone ?ex_NothingDone ?cf_NothingDone ?kt_NothingDone ?ke_NoLines ?ex_NoLines ?cf_NoLines ?kt_NoLines ?fg ?ft ?a_p_copied ?l_p_copied ?q_p_copied ?k_p_copied ?a_NoWord_init ?i_NoWord_init ?l_NoWord_init ?q_NoWord_init ?k_NoWord_init ?a_NoPact_init ?i_NoPact_init ?l_NoPact_init ?q_NoPact_init ?k_NoPact_init ?a_NoText_init ?i_NoText_init ?l_NoText_init ?q_NoText_init ?k_NoText_init ?a_NoHelper_init ?i_NoHelper_init ?l_NoHelper_init ?q_NoHelper_init ?k_NoHelper_init ?a_NoHandle_init ?i_NoHandle_init ?l_NoHandle_init ?q_NoHandle_init ?k_NoHandle_init ?a_Ended_init ?i_Ended_init ?l_Ended_init ?q_Ended_init ?k_Ended_init ?a_NoRow_init ?i_NoRow_init ?l_NoRow_init ?q_NoRow_init ?k_NoRow_init ?a_NoSide_init ?i_NoSide_init ?l_NoSide_init ?q_NoSide_init ?k_NoSide_init ?a_NoThing_init ?i_NoThing_init ?l_NoThing_init ?q_NoThing_init ?k_NoThing_init ?a_NoLetter_init ?i_NoLetter_init ?l_NoLetter_init ?q_NoLetter_init ?k_NoLetter_init ?a_NoBody_init ?i_NoBody_init ?l_NoBody_init ?q_NoBody_init ?k_NoBody_init ?a_Unlet_init ?i_Unlet_init ?l_Unlet_init ?q_Unlet_init ?k_Unlet_init ?a_box ?l_box ?q_box ?k_box ?a_mixed ?l_mixed ?q_mixed ?k_mixed ?a_take ?l_take ?q_take ?k_take ?a_of_a_text ?l_of_a_text ?q_of_a_text ?k_of_a_text ?a_made ?l_made ?q_made ?k_made ?a_named ?l_named ?q_named ?k_named ?a_borne ?l_borne ?q_borne ?k_borne ?a_sorts ?l_sorts ?q_sorts ?k_sorts ?a_value ?l_value ?q_value ?k_value ?a_law ?l_law ?q_law ?k_law ?z_ValueError ?z_isinstance ?z_list ?z_tuple ?z_len ?z_range
    (case a_NoWord => first | k_is | kit_is | rfl | decide +kernel | kernel_rfl | (and_intros <;> first | k_is | kit_is | rfl | decide +kernel | kernel_rfl))
    (case xl_NoWord => first | k_is | kit_is | rfl | decide +kernel | kernel_rfl | (and_intros <;> first | k_is | kit_is | rfl | decide +kernel | kernel_rfl))
    (case xm_NoWord => first | k_is | kit_is | rfl | decide +kernel | kernel_rfl | (and_intros <;> first | k_is | kit_is | rfl | decide +kernel | kernel_rfl))
    (case xs_NoWord => first | k_is | kit_is | rfl | decide +kernel | kernel_rfl | (and_intros <;> first | k_is | kit_is | rfl | decide +kernel | kernel_rfl))
    (case xe_NoWord => first | k_is | kit_is | rfl | decide +kernel | kernel_rfl | (and_intros <;> first | k_is | kit_is | rfl | decide +kernel | kernel_rfl))
    (case xy_NoWord => first | k_is | kit_is | rfl | decide +kernel | kernel_rfl | (and_intros <;> first | k_is | kit_is | rfl | decide +kernel | kernel_rfl))
    (case xk_NoWord => first | k_is | kit_is | rfl | decide +kernel | kernel_rfl | (and_intros <;> first | k_is | kit_is | rfl | decide +kernel | kernel_rfl))
    (case xg_NoWord => first | k_is | kit_is | rfl | decide +kernel | kernel_rfl | (and_intros <;> first | k_is | kit_is | rfl | decide +kernel | kernel_rfl))
    (case xo_NoWord => first | k_is | kit_is | rfl | decide +kernel | kernel_rfl | (and_intros <;> first | k_is | kit_is | rfl | decide +kernel | kernel_rfl))
    (case xd_NoWord => first | k_is | kit_is | rfl | decide +kernel | kernel_rfl | (and_intros <;> first | k_is | kit_is | rfl | decide +kernel | kernel_rfl))
    (case n_NoWord_word => first | k_is | kit_is | rfl | decide +kernel | kernel_rfl | (and_intros <;> first | k_is | kit_is | rfl | decide +kernel | kernel_rfl))
    (case a_NoPact => first | k_is | kit_is | rfl | decide +kernel | kernel_rfl | (and_intros <;> first | k_is | kit_is | rfl | decide +kernel | kernel_rfl))
    (case xl_NoPact => first | k_is | kit_is | rfl | decide +kernel | kernel_rfl | (and_intros <;> first | k_is | kit_is | rfl | decide +kernel | kernel_rfl))
    (case xm_NoPact => first | k_is | kit_is | rfl | decide +kernel | kernel_rfl | (and_intros <;> first | k_is | kit_is | rfl | decide +kernel | kernel_rfl))
    (case xs_NoPact => first | k_is | kit_is | rfl | decide +kernel | kernel_rfl | (and_intros <;> first | k_is | kit_is | rfl | decide +kernel | kernel_rfl))
    (case xe_NoPact => first | k_is | kit_is | rfl | decide +kernel | kernel_rfl | (and_intros <;> first | k_is | kit_is | rfl | decide +kernel | kernel_rfl))
    (case xy_NoPact => first | k_is | kit_is | rfl | decide +kernel | kernel_rfl | (and_intros <;> first | k_is | kit_is | rfl | decide +kernel | kernel_rfl))
    (case xk_NoPact => first | k_is | kit_is | rfl | decide +kernel | kernel_rfl | (and_intros <;> first | k_is | kit_is | rfl | decide +kernel | kernel_rfl))
    (case xg_NoPact => first | k_is | kit_is | rfl | decide +kernel | kernel_rfl | (and_intros <;> first | k_is | kit_is | rfl | decide +kernel | kernel_rfl))
    (case xo_NoPact => first | k_is | kit_is | rfl | decide +kernel | kernel_rfl | (and_intros <;> first | k_is | kit_is | rfl | decide +kernel | kernel_rfl))
    (case xd_NoPact => first | k_is | kit_is | rfl | decide +kernel | kernel_rfl | (and_intros <;> first | k_is | kit_is | rfl | decide +kernel | kernel_rfl))
    (case n_NoPact_at => first | k_is | kit_is | rfl | decide +kernel | kernel_rfl | (and_intros <;> first | k_is | kit_is | rfl | decide +kernel | kernel_rfl))
    (case a_NoText => first | k_is | kit_is | rfl | decide +kernel | kernel_rfl | (and_intros <;> first | k_is | kit_is | rfl | decide +kernel | kernel_rfl))
    (case xl_NoText => first | k_is | kit_is | rfl | decide +kernel | kernel_rfl | (and_intros <;> first | k_is | kit_is | rfl | decide +kernel | kernel_rfl))
    (case xm_NoText => first | k_is | kit_is | rfl | decide +kernel | kernel_rfl | (and_intros <;> first | k_is | kit_is | rfl | decide +kernel | kernel_rfl))
    (case xs_NoText => first | k_is | kit_is | rfl | decide +kernel | kernel_rfl | (and_intros <;> first | k_is | kit_is | rfl | decide +kernel | kernel_rfl))
    (case xe_NoText => first | k_is | kit_is | rfl | decide +kernel | kernel_rfl | (and_intros <;> first | k_is | kit_is | rfl | decide +kernel | kernel_rfl))
    (case xy_NoText => first | k_is | kit_is | rfl | decide +kernel | kernel_rfl | (and_intros <;> first | k_is | kit_is | rfl | decide +kernel | kernel_rfl))
    (case xk_NoText => first | k_is | kit_is | rfl | decide +kernel | kernel_rfl | (and_intros <;> first | k_is | kit_is | rfl | decide +kernel | kernel_rfl))
    (case xg_NoText => first | k_is | kit_is | rfl | decide +kernel | kernel_rfl | (and_intros <;> first | k_is | kit_is | rfl | decide +kernel | kernel_rfl))
    (case xo_NoText => first | k_is | kit_is | rfl | decide +kernel | kernel_rfl | (and_intros <;> first | k_is | kit_is | rfl | decide +kernel | kernel_rfl))
    (case xd_NoText => first | k_is | kit_is | rfl | decide +kernel | kernel_rfl | (and_intros <;> first | k_is | kit_is | rfl | decide +kernel | kernel_rfl))
    (case n_NoText_at => first | k_is | kit_is | rfl | decide +kernel | kernel_rfl | (and_intros <;> first | k_is | kit_is | rfl | decide +kernel | kernel_rfl))
    (case a_NoHelper => first | k_is | kit_is | rfl | decide +kernel | kernel_rfl | (and_intros <;> first | k_is | kit_is | rfl | decide +kernel | kernel_rfl))
    (case xl_NoHelper => first | k_is | kit_is | rfl | decide +kernel | kernel_rfl | (and_intros <;> first | k_is | kit_is | rfl | decide +kernel | kernel_rfl))
    (case xm_NoHelper => first | k_is | kit_is | rfl | decide +kernel | kernel_rfl | (and_intros <;> first | k_is | kit_is | rfl | decide +kernel | kernel_rfl))
    (case xs_NoHelper => first | k_is | kit_is | rfl | decide +kernel | kernel_rfl | (and_intros <;> first | k_is | kit_is | rfl | decide +kernel | kernel_rfl))
    (case xe_NoHelper => first | k_is | kit_is | rfl | decide +kernel | kernel_rfl | (and_intros <;> first | k_is | kit_is | rfl | decide +kernel | kernel_rfl))
    (case xy_NoHelper => first | k_is | kit_is | rfl | decide +kernel | kernel_rfl | (and_intros <;> first | k_is | kit_is | rfl | decide +kernel | kernel_rfl))
    (case xk_NoHelper => first | k_is | kit_is | rfl | decide +kernel | kernel_rfl | (and_intros <;> first | k_is | kit_is | rfl | decide +kernel | kernel_rfl))
    (case xg_NoHelper => first | k_is | kit_is | rfl | decide +kernel | kernel_rfl | (and_intros <;> first | k_is | kit_is | rfl | decide +kernel | kernel_rfl))
    (case xo_NoHelper => first | k_is | kit_is | rfl | decide +kernel | kernel_rfl | (and_intros <;> first | k_is | kit_is | rfl | decide +kernel | kernel_rfl))
    (case xd_NoHelper => first | k_is | kit_is | rfl | decide +kernel | kernel_rfl | (and_intros <;> first | k_is | kit_is | rfl | decide +kernel | kernel_rfl))
    (case n_NoHelper_name => first | k_is | kit_is | rfl | decide +kernel | kernel_rfl | (and_intros <;> first | k_is | kit_is | rfl | decide +kernel | kernel_rfl))
    (case a_NoHandle => first | k_is | kit_is | rfl | decide +kernel | kernel_rfl | (and_intros <;> first | k_is | kit_is | rfl | decide +kernel | kernel_rfl))
    (case xl_NoHandle => first | k_is | kit_is | rfl | decide +kernel | kernel_rfl | (and_intros <;> first | k_is | kit_is | rfl | decide +kernel | kernel_rfl))
    (case xm_NoHandle => first | k_is | kit_is | rfl | decide +kernel | kernel_rfl | (and_intros <;> first | k_is | kit_is | rfl | decide +kernel | kernel_rfl))
    (case xs_NoHandle => first | k_is | kit_is | rfl | decide +kernel | kernel_rfl | (and_intros <;> first | k_is | kit_is | rfl | decide +kernel | kernel_rfl))
    (case xe_NoHandle => first | k_is | kit_is | rfl | decide +kernel | kernel_rfl | (and_intros <;> first | k_is | kit_is | rfl | decide +kernel | kernel_rfl))
    (case xy_NoHandle => first | k_is | kit_is | rfl | decide +kernel | kernel_rfl | (and_intros <;> first | k_is | kit_is | rfl | decide +kernel | kernel_rfl))
    (case xk_NoHandle => first | k_is | kit_is | rfl | decide +kernel | kernel_rfl | (and_intros <;> first | k_is | kit_is | rfl | decide +kernel | kernel_rfl))
    (case xg_NoHandle => first | k_is | kit_is | rfl | decide +kernel | kernel_rfl | (and_intros <;> first | k_is | kit_is | rfl | decide +kernel | kernel_rfl))
    (case xo_NoHandle => first | k_is | kit_is | rfl | decide +kernel | kernel_rfl | (and_intros <;> first | k_is | kit_is | rfl | decide +kernel | kernel_rfl))
    (case xd_NoHandle => first | k_is | kit_is | rfl | decide +kernel | kernel_rfl | (and_intros <;> first | k_is | kit_is | rfl | decide +kernel | kernel_rfl))
    (case n_NoHandle_handle => first | k_is | kit_is | rfl | decide +kernel | kernel_rfl | (and_intros <;> first | k_is | kit_is | rfl | decide +kernel | kernel_rfl))
    (case a_Ended => first | k_is | kit_is | rfl | decide +kernel | kernel_rfl | (and_intros <;> first | k_is | kit_is | rfl | decide +kernel | kernel_rfl))
    (case xl_Ended => first | k_is | kit_is | rfl | decide +kernel | kernel_rfl | (and_intros <;> first | k_is | kit_is | rfl | decide +kernel | kernel_rfl))
    (case xm_Ended => first | k_is | kit_is | rfl | decide +kernel | kernel_rfl | (and_intros <;> first | k_is | kit_is | rfl | decide +kernel | kernel_rfl))
    (case xs_Ended => first | k_is | kit_is | rfl | decide +kernel | kernel_rfl | (and_intros <;> first | k_is | kit_is | rfl | decide +kernel | kernel_rfl))
    (case xe_Ended => first | k_is | kit_is | rfl | decide +kernel | kernel_rfl | (and_intros <;> first | k_is | kit_is | rfl | decide +kernel | kernel_rfl))
    (case xy_Ended => first | k_is | kit_is | rfl | decide +kernel | kernel_rfl | (and_intros <;> first | k_is | kit_is | rfl | decide +kernel | kernel_rfl))
    (case xk_Ended => first | k_is | kit_is | rfl | decide +kernel | kernel_rfl | (and_intros <;> first | k_is | kit_is | rfl | decide +kernel | kernel_rfl))
    (case xg_Ended => first | k_is | kit_is | rfl | decide +kernel | kernel_rfl | (and_intros <;> first | k_is | kit_is | rfl | decide +kernel | kernel_rfl))
    (case xo_Ended => first | k_is | kit_is | rfl | decide +kernel | kernel_rfl | (and_intros <;> first | k_is | kit_is | rfl | decide +kernel | kernel_rfl))
    (case xd_Ended => first | k_is | kit_is | rfl | decide +kernel | kernel_rfl | (and_intros <;> first | k_is | kit_is | rfl | decide +kernel | kernel_rfl))
    (case n_Ended_handle => first | k_is | kit_is | rfl | decide +kernel | kernel_rfl | (and_intros <;> first | k_is | kit_is | rfl | decide +kernel | kernel_rfl))
    (case a_NoRow => first | k_is | kit_is | rfl | decide +kernel | kernel_rfl | (and_intros <;> first | k_is | kit_is | rfl | decide +kernel | kernel_rfl))
    (case xl_NoRow => first | k_is | kit_is | rfl | decide +kernel | kernel_rfl | (and_intros <;> first | k_is | kit_is | rfl | decide +kernel | kernel_rfl))
    (case xm_NoRow => first | k_is | kit_is | rfl | decide +kernel | kernel_rfl | (and_intros <;> first | k_is | kit_is | rfl | decide +kernel | kernel_rfl))
    (case xs_NoRow => first | k_is | kit_is | rfl | decide +kernel | kernel_rfl | (and_intros <;> first | k_is | kit_is | rfl | decide +kernel | kernel_rfl))
    (case xe_NoRow => first | k_is | kit_is | rfl | decide +kernel | kernel_rfl | (and_intros <;> first | k_is | kit_is | rfl | decide +kernel | kernel_rfl))
    (case xy_NoRow => first | k_is | kit_is | rfl | decide +kernel | kernel_rfl | (and_intros <;> first | k_is | kit_is | rfl | decide +kernel | kernel_rfl))
    (case xk_NoRow => first | k_is | kit_is | rfl | decide +kernel | kernel_rfl | (and_intros <;> first | k_is | kit_is | rfl | decide +kernel | kernel_rfl))
    (case xg_NoRow => first | k_is | kit_is | rfl | decide +kernel | kernel_rfl | (and_intros <;> first | k_is | kit_is | rfl | decide +kernel | kernel_rfl))
    (case xo_NoRow => first | k_is | kit_is | rfl | decide +kernel | kernel_rfl | (and_intros <;> first | k_is | kit_is | rfl | decide +kernel | kernel_rfl))
    (case xd_NoRow => first | k_is | kit_is | rfl | decide +kernel | kernel_rfl | (and_intros <;> first | k_is | kit_is | rfl | decide +kernel | kernel_rfl))
    (case n_NoRow_at => first | k_is | kit_is | rfl | decide +kernel | kernel_rfl | (and_intros <;> first | k_is | kit_is | rfl | decide +kernel | kernel_rfl))
    (case a_NoSide => first | k_is | kit_is | rfl | decide +kernel | kernel_rfl | (and_intros <;> first | k_is | kit_is | rfl | decide +kernel | kernel_rfl))
    (case xl_NoSide => first | k_is | kit_is | rfl | decide +kernel | kernel_rfl | (and_intros <;> first | k_is | kit_is | rfl | decide +kernel | kernel_rfl))
    (case xm_NoSide => first | k_is | kit_is | rfl | decide +kernel | kernel_rfl | (and_intros <;> first | k_is | kit_is | rfl | decide +kernel | kernel_rfl))
    (case xs_NoSide => first | k_is | kit_is | rfl | decide +kernel | kernel_rfl | (and_intros <;> first | k_is | kit_is | rfl | decide +kernel | kernel_rfl))
    (case xe_NoSide => first | k_is | kit_is | rfl | decide +kernel | kernel_rfl | (and_intros <;> first | k_is | kit_is | rfl | decide +kernel | kernel_rfl))
    (case xy_NoSide => first | k_is | kit_is | rfl | decide +kernel | kernel_rfl | (and_intros <;> first | k_is | kit_is | rfl | decide +kernel | kernel_rfl))
    (case xk_NoSide => first | k_is | kit_is | rfl | decide +kernel | kernel_rfl | (and_intros <;> first | k_is | kit_is | rfl | decide +kernel | kernel_rfl))
    (case xg_NoSide => first | k_is | kit_is | rfl | decide +kernel | kernel_rfl | (and_intros <;> first | k_is | kit_is | rfl | decide +kernel | kernel_rfl))
    (case xo_NoSide => first | k_is | kit_is | rfl | decide +kernel | kernel_rfl | (and_intros <;> first | k_is | kit_is | rfl | decide +kernel | kernel_rfl))
    (case xd_NoSide => first | k_is | kit_is | rfl | decide +kernel | kernel_rfl | (and_intros <;> first | k_is | kit_is | rfl | decide +kernel | kernel_rfl))
    (case n_NoSide_at => first | k_is | kit_is | rfl | decide +kernel | kernel_rfl | (and_intros <;> first | k_is | kit_is | rfl | decide +kernel | kernel_rfl))
    (case a_NoThing => first | k_is | kit_is | rfl | decide +kernel | kernel_rfl | (and_intros <;> first | k_is | kit_is | rfl | decide +kernel | kernel_rfl))
    (case xl_NoThing => first | k_is | kit_is | rfl | decide +kernel | kernel_rfl | (and_intros <;> first | k_is | kit_is | rfl | decide +kernel | kernel_rfl))
    (case xm_NoThing => first | k_is | kit_is | rfl | decide +kernel | kernel_rfl | (and_intros <;> first | k_is | kit_is | rfl | decide +kernel | kernel_rfl))
    (case xs_NoThing => first | k_is | kit_is | rfl | decide +kernel | kernel_rfl | (and_intros <;> first | k_is | kit_is | rfl | decide +kernel | kernel_rfl))
    (case xe_NoThing => first | k_is | kit_is | rfl | decide +kernel | kernel_rfl | (and_intros <;> first | k_is | kit_is | rfl | decide +kernel | kernel_rfl))
    (case xy_NoThing => first | k_is | kit_is | rfl | decide +kernel | kernel_rfl | (and_intros <;> first | k_is | kit_is | rfl | decide +kernel | kernel_rfl))
    (case xk_NoThing => first | k_is | kit_is | rfl | decide +kernel | kernel_rfl | (and_intros <;> first | k_is | kit_is | rfl | decide +kernel | kernel_rfl))
    (case xg_NoThing => first | k_is | kit_is | rfl | decide +kernel | kernel_rfl | (and_intros <;> first | k_is | kit_is | rfl | decide +kernel | kernel_rfl))
    (case xo_NoThing => first | k_is | kit_is | rfl | decide +kernel | kernel_rfl | (and_intros <;> first | k_is | kit_is | rfl | decide +kernel | kernel_rfl))
    (case xd_NoThing => first | k_is | kit_is | rfl | decide +kernel | kernel_rfl | (and_intros <;> first | k_is | kit_is | rfl | decide +kernel | kernel_rfl))
    (case n_NoThing_at => first | k_is | kit_is | rfl | decide +kernel | kernel_rfl | (and_intros <;> first | k_is | kit_is | rfl | decide +kernel | kernel_rfl))
    (case a_NoLetter => first | k_is | kit_is | rfl | decide +kernel | kernel_rfl | (and_intros <;> first | k_is | kit_is | rfl | decide +kernel | kernel_rfl))
    (case xl_NoLetter => first | k_is | kit_is | rfl | decide +kernel | kernel_rfl | (and_intros <;> first | k_is | kit_is | rfl | decide +kernel | kernel_rfl))
    (case xm_NoLetter => first | k_is | kit_is | rfl | decide +kernel | kernel_rfl | (and_intros <;> first | k_is | kit_is | rfl | decide +kernel | kernel_rfl))
    (case xs_NoLetter => first | k_is | kit_is | rfl | decide +kernel | kernel_rfl | (and_intros <;> first | k_is | kit_is | rfl | decide +kernel | kernel_rfl))
    (case xe_NoLetter => first | k_is | kit_is | rfl | decide +kernel | kernel_rfl | (and_intros <;> first | k_is | kit_is | rfl | decide +kernel | kernel_rfl))
    (case xy_NoLetter => first | k_is | kit_is | rfl | decide +kernel | kernel_rfl | (and_intros <;> first | k_is | kit_is | rfl | decide +kernel | kernel_rfl))
    (case xk_NoLetter => first | k_is | kit_is | rfl | decide +kernel | kernel_rfl | (and_intros <;> first | k_is | kit_is | rfl | decide +kernel | kernel_rfl))
    (case xg_NoLetter => first | k_is | kit_is | rfl | decide +kernel | kernel_rfl | (and_intros <;> first | k_is | kit_is | rfl | decide +kernel | kernel_rfl))
    (case xo_NoLetter => first | k_is | kit_is | rfl | decide +kernel | kernel_rfl | (and_intros <;> first | k_is | kit_is | rfl | decide +kernel | kernel_rfl))
    (case xd_NoLetter => first | k_is | kit_is | rfl | decide +kernel | kernel_rfl | (and_intros <;> first | k_is | kit_is | rfl | decide +kernel | kernel_rfl))
    (case n_NoLetter_letter => first | k_is | kit_is | rfl | decide +kernel | kernel_rfl | (and_intros <;> first | k_is | kit_is | rfl | decide +kernel | kernel_rfl))
    (case a_NoBody => first | k_is | kit_is | rfl | decide +kernel | kernel_rfl | (and_intros <;> first | k_is | kit_is | rfl | decide +kernel | kernel_rfl))
    (case xl_NoBody => first | k_is | kit_is | rfl | decide +kernel | kernel_rfl | (and_intros <;> first | k_is | kit_is | rfl | decide +kernel | kernel_rfl))
    (case xm_NoBody => first | k_is | kit_is | rfl | decide +kernel | kernel_rfl | (and_intros <;> first | k_is | kit_is | rfl | decide +kernel | kernel_rfl))
    (case xs_NoBody => first | k_is | kit_is | rfl | decide +kernel | kernel_rfl | (and_intros <;> first | k_is | kit_is | rfl | decide +kernel | kernel_rfl))
    (case xe_NoBody => first | k_is | kit_is | rfl | decide +kernel | kernel_rfl | (and_intros <;> first | k_is | kit_is | rfl | decide +kernel | kernel_rfl))
    (case xy_NoBody => first | k_is | kit_is | rfl | decide +kernel | kernel_rfl | (and_intros <;> first | k_is | kit_is | rfl | decide +kernel | kernel_rfl))
    (case xk_NoBody => first | k_is | kit_is | rfl | decide +kernel | kernel_rfl | (and_intros <;> first | k_is | kit_is | rfl | decide +kernel | kernel_rfl))
    (case xg_NoBody => first | k_is | kit_is | rfl | decide +kernel | kernel_rfl | (and_intros <;> first | k_is | kit_is | rfl | decide +kernel | kernel_rfl))
    (case xo_NoBody => first | k_is | kit_is | rfl | decide +kernel | kernel_rfl | (and_intros <;> first | k_is | kit_is | rfl | decide +kernel | kernel_rfl))
    (case xd_NoBody => first | k_is | kit_is | rfl | decide +kernel | kernel_rfl | (and_intros <;> first | k_is | kit_is | rfl | decide +kernel | kernel_rfl))
    (case n_NoBody_name => first | k_is | kit_is | rfl | decide +kernel | kernel_rfl | (and_intros <;> first | k_is | kit_is | rfl | decide +kernel | kernel_rfl))
    (case n_NoBody_at => first | k_is | kit_is | rfl | decide +kernel | kernel_rfl | (and_intros <;> first | k_is | kit_is | rfl | decide +kernel | kernel_rfl))
    (case a_Unlet => first | k_is | kit_is | rfl | decide +kernel | kernel_rfl | (and_intros <;> first | k_is | kit_is | rfl | decide +kernel | kernel_rfl))
    (case xl_Unlet => first | k_is | kit_is | rfl | decide +kernel | kernel_rfl | (and_intros <;> first | k_is | kit_is | rfl | decide +kernel | kernel_rfl))
    (case xm_Unlet => first | k_is | kit_is | rfl | decide +kernel | kernel_rfl | (and_intros <;> first | k_is | kit_is | rfl | decide +kernel | kernel_rfl))
    (case xs_Unlet => first | k_is | kit_is | rfl | decide +kernel | kernel_rfl | (and_intros <;> first | k_is | kit_is | rfl | decide +kernel | kernel_rfl))
    (case xe_Unlet => first | k_is | kit_is | rfl | decide +kernel | kernel_rfl | (and_intros <;> first | k_is | kit_is | rfl | decide +kernel | kernel_rfl))
    (case xy_Unlet => first | k_is | kit_is | rfl | decide +kernel | kernel_rfl | (and_intros <;> first | k_is | kit_is | rfl | decide +kernel | kernel_rfl))
    (case xk_Unlet => first | k_is | kit_is | rfl | decide +kernel | kernel_rfl | (and_intros <;> first | k_is | kit_is | rfl | decide +kernel | kernel_rfl))
    (case xg_Unlet => first | k_is | kit_is | rfl | decide +kernel | kernel_rfl | (and_intros <;> first | k_is | kit_is | rfl | decide +kernel | kernel_rfl))
    (case xo_Unlet => first | k_is | kit_is | rfl | decide +kernel | kernel_rfl | (and_intros <;> first | k_is | kit_is | rfl | decide +kernel | kernel_rfl))
    (case xd_Unlet => first | k_is | kit_is | rfl | decide +kernel | kernel_rfl | (and_intros <;> first | k_is | kit_is | rfl | decide +kernel | kernel_rfl))
    (case n_Unlet_side => first | k_is | kit_is | rfl | decide +kernel | kernel_rfl | (and_intros <;> first | k_is | kit_is | rfl | decide +kernel | kernel_rfl))
    (case n_Unlet_lines => first | k_is | kit_is | rfl | decide +kernel | kernel_rfl | (and_intros <;> first | k_is | kit_is | rfl | decide +kernel | kernel_rfl))
    (case a_PactError => first | k_is | kit_is | rfl | decide +kernel | kernel_rfl | (and_intros <;> first | k_is | kit_is | rfl | decide +kernel | kernel_rfl))
    (case da_PactError => first | k_is | kit_is | rfl | decide +kernel | kernel_rfl | (and_intros <;> first | k_is | kit_is | rfl | decide +kernel | kernel_rfl))
    (case dr_PactError => first | k_is | kit_is | rfl | decide +kernel | kernel_rfl | (and_intros <;> first | k_is | kit_is | rfl | decide +kernel | kernel_rfl))
    (case df_PactError => first | k_is | kit_is | rfl | decide +kernel | kernel_rfl | (and_intros <;> first | k_is | kit_is | rfl | decide +kernel | kernel_rfl))
    (case a_Closed => first | k_is | kit_is | rfl | decide +kernel | kernel_rfl | (and_intros <;> first | k_is | kit_is | rfl | decide +kernel | kernel_rfl))
    (case a_TooLong => first | k_is | kit_is | rfl | decide +kernel | kernel_rfl | (and_intros <;> first | k_is | kit_is | rfl | decide +kernel | kernel_rfl))
    (case a_TooDeep => first | k_is | kit_is | rfl | decide +kernel | kernel_rfl | (and_intros <;> first | k_is | kit_is | rfl | decide +kernel | kernel_rfl))
    (case a_NothingDone => first | k_is | kit_is | rfl | decide +kernel | kernel_rfl | (and_intros <;> first | k_is | kit_is | rfl | decide +kernel | kernel_rfl))
    (case a_NoLines => first | k_is | kit_is | rfl | decide +kernel | kernel_rfl | (and_intros <;> first | k_is | kit_is | rfl | decide +kernel | kernel_rfl))
    (case cf_NoWord => first | k_is | kit_is | rfl | decide +kernel | kernel_rfl | (and_intros <;> first | k_is | kit_is | rfl | decide +kernel | kernel_rfl))
    (case kt_NoWord => first | k_is | kit_is | rfl | decide +kernel | kernel_rfl | (and_intros <;> first | k_is | kit_is | rfl | decide +kernel | kernel_rfl))
    (case cf_NoPact => first | k_is | kit_is | rfl | decide +kernel | kernel_rfl | (and_intros <;> first | k_is | kit_is | rfl | decide +kernel | kernel_rfl))
    (case kt_NoPact => first | k_is | kit_is | rfl | decide +kernel | kernel_rfl | (and_intros <;> first | k_is | kit_is | rfl | decide +kernel | kernel_rfl))
    (case cf_NoText => first | k_is | kit_is | rfl | decide +kernel | kernel_rfl | (and_intros <;> first | k_is | kit_is | rfl | decide +kernel | kernel_rfl))
    (case kt_NoText => first | k_is | kit_is | rfl | decide +kernel | kernel_rfl | (and_intros <;> first | k_is | kit_is | rfl | decide +kernel | kernel_rfl))
    (case cf_NoHelper => first | k_is | kit_is | rfl | decide +kernel | kernel_rfl | (and_intros <;> first | k_is | kit_is | rfl | decide +kernel | kernel_rfl))
    (case kt_NoHelper => first | k_is | kit_is | rfl | decide +kernel | kernel_rfl | (and_intros <;> first | k_is | kit_is | rfl | decide +kernel | kernel_rfl))
    (case cf_NoHandle => first | k_is | kit_is | rfl | decide +kernel | kernel_rfl | (and_intros <;> first | k_is | kit_is | rfl | decide +kernel | kernel_rfl))
    (case kt_NoHandle => first | k_is | kit_is | rfl | decide +kernel | kernel_rfl | (and_intros <;> first | k_is | kit_is | rfl | decide +kernel | kernel_rfl))
    (case cf_Ended => first | k_is | kit_is | rfl | decide +kernel | kernel_rfl | (and_intros <;> first | k_is | kit_is | rfl | decide +kernel | kernel_rfl))
    (case kt_Ended => first | k_is | kit_is | rfl | decide +kernel | kernel_rfl | (and_intros <;> first | k_is | kit_is | rfl | decide +kernel | kernel_rfl))
    (case cf_NoRow => first | k_is | kit_is | rfl | decide +kernel | kernel_rfl | (and_intros <;> first | k_is | kit_is | rfl | decide +kernel | kernel_rfl))
    (case kt_NoRow => first | k_is | kit_is | rfl | decide +kernel | kernel_rfl | (and_intros <;> first | k_is | kit_is | rfl | decide +kernel | kernel_rfl))
    (case cf_NoSide => first | k_is | kit_is | rfl | decide +kernel | kernel_rfl | (and_intros <;> first | k_is | kit_is | rfl | decide +kernel | kernel_rfl))
    (case kt_NoSide => first | k_is | kit_is | rfl | decide +kernel | kernel_rfl | (and_intros <;> first | k_is | kit_is | rfl | decide +kernel | kernel_rfl))
    (case cf_NoThing => first | k_is | kit_is | rfl | decide +kernel | kernel_rfl | (and_intros <;> first | k_is | kit_is | rfl | decide +kernel | kernel_rfl))
    (case kt_NoThing => first | k_is | kit_is | rfl | decide +kernel | kernel_rfl | (and_intros <;> first | k_is | kit_is | rfl | decide +kernel | kernel_rfl))
    (case cf_NoLetter => first | k_is | kit_is | rfl | decide +kernel | kernel_rfl | (and_intros <;> first | k_is | kit_is | rfl | decide +kernel | kernel_rfl))
    (case kt_NoLetter => first | k_is | kit_is | rfl | decide +kernel | kernel_rfl | (and_intros <;> first | k_is | kit_is | rfl | decide +kernel | kernel_rfl))
    (case cf_NoBody => first | k_is | kit_is | rfl | decide +kernel | kernel_rfl | (and_intros <;> first | k_is | kit_is | rfl | decide +kernel | kernel_rfl))
    (case kt_NoBody => first | k_is | kit_is | rfl | decide +kernel | kernel_rfl | (and_intros <;> first | k_is | kit_is | rfl | decide +kernel | kernel_rfl))
    (case cf_Unlet => first | k_is | kit_is | rfl | decide +kernel | kernel_rfl | (and_intros <;> first | k_is | kit_is | rfl | decide +kernel | kernel_rfl))
    (case kt_Unlet => first | k_is | kit_is | rfl | decide +kernel | kernel_rfl | (and_intros <;> first | k_is | kit_is | rfl | decide +kernel | kernel_rfl))
    (case ke_Closed => first | k_is | kit_is | rfl | decide +kernel | kernel_rfl | (and_intros <;> first | k_is | kit_is | rfl | decide +kernel | kernel_rfl))
    (case ex_Closed => first | k_is | kit_is | rfl | decide +kernel | kernel_rfl | (and_intros <;> first | k_is | kit_is | rfl | decide +kernel | kernel_rfl))
    (case cf_Closed => first | k_is | kit_is | rfl | decide +kernel | kernel_rfl | (and_intros <;> first | k_is | kit_is | rfl | decide +kernel | kernel_rfl))
    (case kt_Closed => first | k_is | kit_is | rfl | decide +kernel | kernel_rfl | (and_intros <;> first | k_is | kit_is | rfl | decide +kernel | kernel_rfl))
    (case ke_TooLong => first | k_is | kit_is | rfl | decide +kernel | kernel_rfl | (and_intros <;> first | k_is | kit_is | rfl | decide +kernel | kernel_rfl))
    (case ex_TooLong => first | k_is | kit_is | rfl | decide +kernel | kernel_rfl | (and_intros <;> first | k_is | kit_is | rfl | decide +kernel | kernel_rfl))
    (case cf_TooLong => first | k_is | kit_is | rfl | decide +kernel | kernel_rfl | (and_intros <;> first | k_is | kit_is | rfl | decide +kernel | kernel_rfl))
    (case kt_TooLong => first | k_is | kit_is | rfl | decide +kernel | kernel_rfl | (and_intros <;> first | k_is | kit_is | rfl | decide +kernel | kernel_rfl))
    (case ke_TooDeep => first | k_is | kit_is | rfl | decide +kernel | kernel_rfl | (and_intros <;> first | k_is | kit_is | rfl | decide +kernel | kernel_rfl))
    (case ex_TooDeep => first | k_is | kit_is | rfl | decide +kernel | kernel_rfl | (and_intros <;> first | k_is | kit_is | rfl | decide +kernel | kernel_rfl))
    (case cf_TooDeep => first | k_is | kit_is | rfl | decide +kernel | kernel_rfl | (and_intros <;> first | k_is | kit_is | rfl | decide +kernel | kernel_rfl))
    (case kt_TooDeep => first | k_is | kit_is | rfl | decide +kernel | kernel_rfl | (and_intros <;> first | k_is | kit_is | rfl | decide +kernel | kernel_rfl))
    (case ke_NothingDone => first | k_is | kit_is | rfl | decide +kernel | kernel_rfl | (and_intros <;> first | k_is | kit_is | rfl | decide +kernel | kernel_rfl))
    (case ex_NothingDone => first | k_is | kit_is | rfl | decide +kernel | kernel_rfl | (and_intros <;> first | k_is | kit_is | rfl | decide +kernel | kernel_rfl))
    (case cf_NothingDone => first | k_is | kit_is | rfl | decide +kernel | kernel_rfl | (and_intros <;> first | k_is | kit_is | rfl | decide +kernel | kernel_rfl))
    (case kt_NothingDone => first | k_is | kit_is | rfl | decide +kernel | kernel_rfl | (and_intros <;> first | k_is | kit_is | rfl | decide +kernel | kernel_rfl))
    (case ke_NoLines => first | k_is | kit_is | rfl | decide +kernel | kernel_rfl | (and_intros <;> first | k_is | kit_is | rfl | decide +kernel | kernel_rfl))
    (case ex_NoLines => first | k_is | kit_is | rfl | decide +kernel | kernel_rfl | (and_intros <;> first | k_is | kit_is | rfl | decide +kernel | kernel_rfl))
    (case cf_NoLines => first | k_is | kit_is | rfl | decide +kernel | kernel_rfl | (and_intros <;> first | k_is | kit_is | rfl | decide +kernel | kernel_rfl))
    (case kt_NoLines => first | k_is | kit_is | rfl | decide +kernel | kernel_rfl | (and_intros <;> first | k_is | kit_is | rfl | decide +kernel | kernel_rfl))
    (case fg => first | k_is | kit_is | rfl | decide +kernel | kernel_rfl | (and_intros <;> first | k_is | kit_is | rfl | decide +kernel | kernel_rfl))
    (case ft => first | k_is | kit_is | rfl | decide +kernel | kernel_rfl | (and_intros <;> first | k_is | kit_is | rfl | decide +kernel | kernel_rfl))
    (case a_p_copied => first | k_is | kit_is | rfl | decide +kernel | kernel_rfl | (and_intros <;> first | k_is | kit_is | rfl | decide +kernel | kernel_rfl))
    (case l_p_copied => first | k_is | kit_is | rfl | decide +kernel | kernel_rfl | (and_intros <;> first | k_is | kit_is | rfl | decide +kernel | kernel_rfl))
    (case q_p_copied => first | k_is | kit_is | rfl | decide +kernel | kernel_rfl | (and_intros <;> first | k_is | kit_is | rfl | decide +kernel | kernel_rfl))
    (case k_p_copied => first | k_is | kit_is | rfl | decide +kernel | kernel_rfl | (and_intros <;> first | k_is | kit_is | rfl | decide +kernel | kernel_rfl))
    (case a_NoWord_init => first | k_is | kit_is | rfl | decide +kernel | kernel_rfl | (and_intros <;> first | k_is | kit_is | rfl | decide +kernel | kernel_rfl))
    (case i_NoWord_init => first | k_is | kit_is | rfl | decide +kernel | kernel_rfl | (and_intros <;> first | k_is | kit_is | rfl | decide +kernel | kernel_rfl))
    (case l_NoWord_init => first | k_is | kit_is | rfl | decide +kernel | kernel_rfl | (and_intros <;> first | k_is | kit_is | rfl | decide +kernel | kernel_rfl))
    (case q_NoWord_init => first | k_is | kit_is | rfl | decide +kernel | kernel_rfl | (and_intros <;> first | k_is | kit_is | rfl | decide +kernel | kernel_rfl))
    (case k_NoWord_init => first | k_is | kit_is | rfl | decide +kernel | kernel_rfl | (and_intros <;> first | k_is | kit_is | rfl | decide +kernel | kernel_rfl))
    (case a_NoPact_init => first | k_is | kit_is | rfl | decide +kernel | kernel_rfl | (and_intros <;> first | k_is | kit_is | rfl | decide +kernel | kernel_rfl))
    (case i_NoPact_init => first | k_is | kit_is | rfl | decide +kernel | kernel_rfl | (and_intros <;> first | k_is | kit_is | rfl | decide +kernel | kernel_rfl))
    (case l_NoPact_init => first | k_is | kit_is | rfl | decide +kernel | kernel_rfl | (and_intros <;> first | k_is | kit_is | rfl | decide +kernel | kernel_rfl))
    (case q_NoPact_init => first | k_is | kit_is | rfl | decide +kernel | kernel_rfl | (and_intros <;> first | k_is | kit_is | rfl | decide +kernel | kernel_rfl))
    (case k_NoPact_init => first | k_is | kit_is | rfl | decide +kernel | kernel_rfl | (and_intros <;> first | k_is | kit_is | rfl | decide +kernel | kernel_rfl))
    (case a_NoText_init => first | k_is | kit_is | rfl | decide +kernel | kernel_rfl | (and_intros <;> first | k_is | kit_is | rfl | decide +kernel | kernel_rfl))
    (case i_NoText_init => first | k_is | kit_is | rfl | decide +kernel | kernel_rfl | (and_intros <;> first | k_is | kit_is | rfl | decide +kernel | kernel_rfl))
    (case l_NoText_init => first | k_is | kit_is | rfl | decide +kernel | kernel_rfl | (and_intros <;> first | k_is | kit_is | rfl | decide +kernel | kernel_rfl))
    (case q_NoText_init => first | k_is | kit_is | rfl | decide +kernel | kernel_rfl | (and_intros <;> first | k_is | kit_is | rfl | decide +kernel | kernel_rfl))
    (case k_NoText_init => first | k_is | kit_is | rfl | decide +kernel | kernel_rfl | (and_intros <;> first | k_is | kit_is | rfl | decide +kernel | kernel_rfl))
    (case a_NoHelper_init => first | k_is | kit_is | rfl | decide +kernel | kernel_rfl | (and_intros <;> first | k_is | kit_is | rfl | decide +kernel | kernel_rfl))
    (case i_NoHelper_init => first | k_is | kit_is | rfl | decide +kernel | kernel_rfl | (and_intros <;> first | k_is | kit_is | rfl | decide +kernel | kernel_rfl))
    (case l_NoHelper_init => first | k_is | kit_is | rfl | decide +kernel | kernel_rfl | (and_intros <;> first | k_is | kit_is | rfl | decide +kernel | kernel_rfl))
    (case q_NoHelper_init => first | k_is | kit_is | rfl | decide +kernel | kernel_rfl | (and_intros <;> first | k_is | kit_is | rfl | decide +kernel | kernel_rfl))
    (case k_NoHelper_init => first | k_is | kit_is | rfl | decide +kernel | kernel_rfl | (and_intros <;> first | k_is | kit_is | rfl | decide +kernel | kernel_rfl))
    (case a_NoHandle_init => first | k_is | kit_is | rfl | decide +kernel | kernel_rfl | (and_intros <;> first | k_is | kit_is | rfl | decide +kernel | kernel_rfl))
    (case i_NoHandle_init => first | k_is | kit_is | rfl | decide +kernel | kernel_rfl | (and_intros <;> first | k_is | kit_is | rfl | decide +kernel | kernel_rfl))
    (case l_NoHandle_init => first | k_is | kit_is | rfl | decide +kernel | kernel_rfl | (and_intros <;> first | k_is | kit_is | rfl | decide +kernel | kernel_rfl))
    (case q_NoHandle_init => first | k_is | kit_is | rfl | decide +kernel | kernel_rfl | (and_intros <;> first | k_is | kit_is | rfl | decide +kernel | kernel_rfl))
    (case k_NoHandle_init => first | k_is | kit_is | rfl | decide +kernel | kernel_rfl | (and_intros <;> first | k_is | kit_is | rfl | decide +kernel | kernel_rfl))
    (case a_Ended_init => first | k_is | kit_is | rfl | decide +kernel | kernel_rfl | (and_intros <;> first | k_is | kit_is | rfl | decide +kernel | kernel_rfl))
    (case i_Ended_init => first | k_is | kit_is | rfl | decide +kernel | kernel_rfl | (and_intros <;> first | k_is | kit_is | rfl | decide +kernel | kernel_rfl))
    (case l_Ended_init => first | k_is | kit_is | rfl | decide +kernel | kernel_rfl | (and_intros <;> first | k_is | kit_is | rfl | decide +kernel | kernel_rfl))
    (case q_Ended_init => first | k_is | kit_is | rfl | decide +kernel | kernel_rfl | (and_intros <;> first | k_is | kit_is | rfl | decide +kernel | kernel_rfl))
    (case k_Ended_init => first | k_is | kit_is | rfl | decide +kernel | kernel_rfl | (and_intros <;> first | k_is | kit_is | rfl | decide +kernel | kernel_rfl))
    (case a_NoRow_init => first | k_is | kit_is | rfl | decide +kernel | kernel_rfl | (and_intros <;> first | k_is | kit_is | rfl | decide +kernel | kernel_rfl))
    (case i_NoRow_init => first | k_is | kit_is | rfl | decide +kernel | kernel_rfl | (and_intros <;> first | k_is | kit_is | rfl | decide +kernel | kernel_rfl))
    (case l_NoRow_init => first | k_is | kit_is | rfl | decide +kernel | kernel_rfl | (and_intros <;> first | k_is | kit_is | rfl | decide +kernel | kernel_rfl))
    (case q_NoRow_init => first | k_is | kit_is | rfl | decide +kernel | kernel_rfl | (and_intros <;> first | k_is | kit_is | rfl | decide +kernel | kernel_rfl))
    (case k_NoRow_init => first | k_is | kit_is | rfl | decide +kernel | kernel_rfl | (and_intros <;> first | k_is | kit_is | rfl | decide +kernel | kernel_rfl))
    (case a_NoSide_init => first | k_is | kit_is | rfl | decide +kernel | kernel_rfl | (and_intros <;> first | k_is | kit_is | rfl | decide +kernel | kernel_rfl))
    (case i_NoSide_init => first | k_is | kit_is | rfl | decide +kernel | kernel_rfl | (and_intros <;> first | k_is | kit_is | rfl | decide +kernel | kernel_rfl))
    (case l_NoSide_init => first | k_is | kit_is | rfl | decide +kernel | kernel_rfl | (and_intros <;> first | k_is | kit_is | rfl | decide +kernel | kernel_rfl))
    (case q_NoSide_init => first | k_is | kit_is | rfl | decide +kernel | kernel_rfl | (and_intros <;> first | k_is | kit_is | rfl | decide +kernel | kernel_rfl))
    (case k_NoSide_init => first | k_is | kit_is | rfl | decide +kernel | kernel_rfl | (and_intros <;> first | k_is | kit_is | rfl | decide +kernel | kernel_rfl))
    (case a_NoThing_init => first | k_is | kit_is | rfl | decide +kernel | kernel_rfl | (and_intros <;> first | k_is | kit_is | rfl | decide +kernel | kernel_rfl))
    (case i_NoThing_init => first | k_is | kit_is | rfl | decide +kernel | kernel_rfl | (and_intros <;> first | k_is | kit_is | rfl | decide +kernel | kernel_rfl))
    (case l_NoThing_init => first | k_is | kit_is | rfl | decide +kernel | kernel_rfl | (and_intros <;> first | k_is | kit_is | rfl | decide +kernel | kernel_rfl))
    (case q_NoThing_init => first | k_is | kit_is | rfl | decide +kernel | kernel_rfl | (and_intros <;> first | k_is | kit_is | rfl | decide +kernel | kernel_rfl))
    (case k_NoThing_init => first | k_is | kit_is | rfl | decide +kernel | kernel_rfl | (and_intros <;> first | k_is | kit_is | rfl | decide +kernel | kernel_rfl))
    (case a_NoLetter_init => first | k_is | kit_is | rfl | decide +kernel | kernel_rfl | (and_intros <;> first | k_is | kit_is | rfl | decide +kernel | kernel_rfl))
    (case i_NoLetter_init => first | k_is | kit_is | rfl | decide +kernel | kernel_rfl | (and_intros <;> first | k_is | kit_is | rfl | decide +kernel | kernel_rfl))
    (case l_NoLetter_init => first | k_is | kit_is | rfl | decide +kernel | kernel_rfl | (and_intros <;> first | k_is | kit_is | rfl | decide +kernel | kernel_rfl))
    (case q_NoLetter_init => first | k_is | kit_is | rfl | decide +kernel | kernel_rfl | (and_intros <;> first | k_is | kit_is | rfl | decide +kernel | kernel_rfl))
    (case k_NoLetter_init => first | k_is | kit_is | rfl | decide +kernel | kernel_rfl | (and_intros <;> first | k_is | kit_is | rfl | decide +kernel | kernel_rfl))
    (case a_NoBody_init => first | k_is | kit_is | rfl | decide +kernel | kernel_rfl | (and_intros <;> first | k_is | kit_is | rfl | decide +kernel | kernel_rfl))
    (case i_NoBody_init => first | k_is | kit_is | rfl | decide +kernel | kernel_rfl | (and_intros <;> first | k_is | kit_is | rfl | decide +kernel | kernel_rfl))
    (case l_NoBody_init => first | k_is | kit_is | rfl | decide +kernel | kernel_rfl | (and_intros <;> first | k_is | kit_is | rfl | decide +kernel | kernel_rfl))
    (case q_NoBody_init => first | k_is | kit_is | rfl | decide +kernel | kernel_rfl | (and_intros <;> first | k_is | kit_is | rfl | decide +kernel | kernel_rfl))
    (case k_NoBody_init => first | k_is | kit_is | rfl | decide +kernel | kernel_rfl | (and_intros <;> first | k_is | kit_is | rfl | decide +kernel | kernel_rfl))
    (case a_Unlet_init => first | k_is | kit_is | rfl | decide +kernel | kernel_rfl | (and_intros <;> first | k_is | kit_is | rfl | decide +kernel | kernel_rfl))
    (case i_Unlet_init => first | k_is | kit_is | rfl | decide +kernel | kernel_rfl | (and_intros <;> first | k_is | kit_is | rfl | decide +kernel | kernel_rfl))
    (case l_Unlet_init => first | k_is | kit_is | rfl | decide +kernel | kernel_rfl | (and_intros <;> first | k_is | kit_is | rfl | decide +kernel | kernel_rfl))
    (case q_Unlet_init => first | k_is | kit_is | rfl | decide +kernel | kernel_rfl | (and_intros <;> first | k_is | kit_is | rfl | decide +kernel | kernel_rfl))
    (case k_Unlet_init => first | k_is | kit_is | rfl | decide +kernel | kernel_rfl | (and_intros <;> first | k_is | kit_is | rfl | decide +kernel | kernel_rfl))
    (case a_box => first | k_is | kit_is | rfl | decide +kernel | kernel_rfl | (and_intros <;> first | k_is | kit_is | rfl | decide +kernel | kernel_rfl))
    (case l_box => first | k_is | kit_is | rfl | decide +kernel | kernel_rfl | (and_intros <;> first | k_is | kit_is | rfl | decide +kernel | kernel_rfl))
    (case q_box => first | k_is | kit_is | rfl | decide +kernel | kernel_rfl | (and_intros <;> first | k_is | kit_is | rfl | decide +kernel | kernel_rfl))
    (case k_box => first | k_is | kit_is | rfl | decide +kernel | kernel_rfl | (and_intros <;> first | k_is | kit_is | rfl | decide +kernel | kernel_rfl))
    (case a_mixed => first | k_is | kit_is | rfl | decide +kernel | kernel_rfl | (and_intros <;> first | k_is | kit_is | rfl | decide +kernel | kernel_rfl))
    (case l_mixed => first | k_is | kit_is | rfl | decide +kernel | kernel_rfl | (and_intros <;> first | k_is | kit_is | rfl | decide +kernel | kernel_rfl))
    (case q_mixed => first | k_is | kit_is | rfl | decide +kernel | kernel_rfl | (and_intros <;> first | k_is | kit_is | rfl | decide +kernel | kernel_rfl))
    (case k_mixed => first | k_is | kit_is | rfl | decide +kernel | kernel_rfl | (and_intros <;> first | k_is | kit_is | rfl | decide +kernel | kernel_rfl))
    (case a_take => first | k_is | kit_is | rfl | decide +kernel | kernel_rfl | (and_intros <;> first | k_is | kit_is | rfl | decide +kernel | kernel_rfl))
    (case l_take => first | k_is | kit_is | rfl | decide +kernel | kernel_rfl | (and_intros <;> first | k_is | kit_is | rfl | decide +kernel | kernel_rfl))
    (case q_take => first | k_is | kit_is | rfl | decide +kernel | kernel_rfl | (and_intros <;> first | k_is | kit_is | rfl | decide +kernel | kernel_rfl))
    (case k_take => first | k_is | kit_is | rfl | decide +kernel | kernel_rfl | (and_intros <;> first | k_is | kit_is | rfl | decide +kernel | kernel_rfl))
    (case a_of_a_text => first | k_is | kit_is | rfl | decide +kernel | kernel_rfl | (and_intros <;> first | k_is | kit_is | rfl | decide +kernel | kernel_rfl))
    (case l_of_a_text => first | k_is | kit_is | rfl | decide +kernel | kernel_rfl | (and_intros <;> first | k_is | kit_is | rfl | decide +kernel | kernel_rfl))
    (case q_of_a_text => first | k_is | kit_is | rfl | decide +kernel | kernel_rfl | (and_intros <;> first | k_is | kit_is | rfl | decide +kernel | kernel_rfl))
    (case k_of_a_text => first | k_is | kit_is | rfl | decide +kernel | kernel_rfl | (and_intros <;> first | k_is | kit_is | rfl | decide +kernel | kernel_rfl))
    (case a_made => first | k_is | kit_is | rfl | decide +kernel | kernel_rfl | (and_intros <;> first | k_is | kit_is | rfl | decide +kernel | kernel_rfl))
    (case l_made => first | k_is | kit_is | rfl | decide +kernel | kernel_rfl | (and_intros <;> first | k_is | kit_is | rfl | decide +kernel | kernel_rfl))
    (case q_made => first | k_is | kit_is | rfl | decide +kernel | kernel_rfl | (and_intros <;> first | k_is | kit_is | rfl | decide +kernel | kernel_rfl))
    (case k_made => first | k_is | kit_is | rfl | decide +kernel | kernel_rfl | (and_intros <;> first | k_is | kit_is | rfl | decide +kernel | kernel_rfl))
    (case a_named => first | k_is | kit_is | rfl | decide +kernel | kernel_rfl | (and_intros <;> first | k_is | kit_is | rfl | decide +kernel | kernel_rfl))
    (case l_named => first | k_is | kit_is | rfl | decide +kernel | kernel_rfl | (and_intros <;> first | k_is | kit_is | rfl | decide +kernel | kernel_rfl))
    (case q_named => first | k_is | kit_is | rfl | decide +kernel | kernel_rfl | (and_intros <;> first | k_is | kit_is | rfl | decide +kernel | kernel_rfl))
    (case k_named => first | k_is | kit_is | rfl | decide +kernel | kernel_rfl | (and_intros <;> first | k_is | kit_is | rfl | decide +kernel | kernel_rfl))
    (case a_borne => first | k_is | kit_is | rfl | decide +kernel | kernel_rfl | (and_intros <;> first | k_is | kit_is | rfl | decide +kernel | kernel_rfl))
    (case l_borne => first | k_is | kit_is | rfl | decide +kernel | kernel_rfl | (and_intros <;> first | k_is | kit_is | rfl | decide +kernel | kernel_rfl))
    (case q_borne => first | k_is | kit_is | rfl | decide +kernel | kernel_rfl | (and_intros <;> first | k_is | kit_is | rfl | decide +kernel | kernel_rfl))
    (case k_borne => first | k_is | kit_is | rfl | decide +kernel | kernel_rfl | (and_intros <;> first | k_is | kit_is | rfl | decide +kernel | kernel_rfl))
    (case a_sorts => first | k_is | kit_is | rfl | decide +kernel | kernel_rfl | (and_intros <;> first | k_is | kit_is | rfl | decide +kernel | kernel_rfl))
    (case l_sorts => first | k_is | kit_is | rfl | decide +kernel | kernel_rfl | (and_intros <;> first | k_is | kit_is | rfl | decide +kernel | kernel_rfl))
    (case q_sorts => first | k_is | kit_is | rfl | decide +kernel | kernel_rfl | (and_intros <;> first | k_is | kit_is | rfl | decide +kernel | kernel_rfl))
    (case k_sorts => first | k_is | kit_is | rfl | decide +kernel | kernel_rfl | (and_intros <;> first | k_is | kit_is | rfl | decide +kernel | kernel_rfl))
    (case a_value => first | k_is | kit_is | rfl | decide +kernel | kernel_rfl | (and_intros <;> first | k_is | kit_is | rfl | decide +kernel | kernel_rfl))
    (case l_value => first | k_is | kit_is | rfl | decide +kernel | kernel_rfl | (and_intros <;> first | k_is | kit_is | rfl | decide +kernel | kernel_rfl))
    (case q_value => first | k_is | kit_is | rfl | decide +kernel | kernel_rfl | (and_intros <;> first | k_is | kit_is | rfl | decide +kernel | kernel_rfl))
    (case k_value => first | k_is | kit_is | rfl | decide +kernel | kernel_rfl | (and_intros <;> first | k_is | kit_is | rfl | decide +kernel | kernel_rfl))
    (case a_law => first | k_is | kit_is | rfl | decide +kernel | kernel_rfl | (and_intros <;> first | k_is | kit_is | rfl | decide +kernel | kernel_rfl))
    (case l_law => first | k_is | kit_is | rfl | decide +kernel | kernel_rfl | (and_intros <;> first | k_is | kit_is | rfl | decide +kernel | kernel_rfl))
    (case q_law => first | k_is | kit_is | rfl | decide +kernel | kernel_rfl | (and_intros <;> first | k_is | kit_is | rfl | decide +kernel | kernel_rfl))
    (case k_law => first | k_is | kit_is | rfl | decide +kernel | kernel_rfl | (and_intros <;> first | k_is | kit_is | rfl | decide +kernel | kernel_rfl))
    (case z_ValueError => first | k_is | kit_is | rfl | decide +kernel | kernel_rfl | (and_intros <;> first | k_is | kit_is | rfl | decide +kernel | kernel_rfl))
    (case z_isinstance => first | k_is | kit_is | rfl | decide +kernel | kernel_rfl | (and_intros <;> first | k_is | kit_is | rfl | decide +kernel | kernel_rfl))
    (case z_list => first | k_is | kit_is | rfl | decide +kernel | kernel_rfl | (and_intros <;> first | k_is | kit_is | rfl | decide +kernel | kernel_rfl))
    (case z_tuple => first | k_is | kit_is | rfl | decide +kernel | kernel_rfl | (and_intros <;> first | k_is | kit_is | rfl | decide +kernel | kernel_rfl))
    (case z_len => first | k_is | kit_is | rfl | decide +kernel | kernel_rfl | (and_intros <;> first | k_is | kit_is | rfl | decide +kernel | kernel_rfl))
    (case z_range => first | k_is | kit_is | rfl | decide +kernel | kernel_rfl | (and_intros <;> first | k_is | kit_is | rfl | decide +kernel | kernel_rfl))
