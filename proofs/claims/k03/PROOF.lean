import PyProof.Rows.All
import Wide.All
import OpenK.AllK
import Wide.FinOn
import HandS.ForMost
import HandS.Gcd
import HandS.Wide
import HandS.EndBits
import HandS.IsInst
import HandS.SortInts
import HandS.NoneIn
import HandS.More
import HandS.Codes
import HandS.Zip
import HandS.ClsMeth
import HandS.ExcInit
import HandS.ExcIs
import HandS.ExcField
import HandS.ExcOwn
import HandS.WordsExc
import HandS.TryOnly
import HandS.TryMany
import HandS.FStrTup
import HandS.FStr
import KE.KExcIs
import KE.RegKIsAll
import PySem.Str
import HandS.Walk
import HandS.Strs
import HandS.TupAny
import KE.GoesEnum
import PySem.Challenge.RW_pactford_k03_pacts_refused
namespace My
def g (ns : List Int) (i : Nat) : Int := ns.getD i 0
def swp (ns : List Int) (i j : Nat) : List Int := (ns.set i (g ns j)).set j (g ns i)
theorem swp_len (ns : List Int) (i j : Nat) : (swp ns i j).length = ns.length := by unfold swp; rw [List.length_set, List.length_set]
theorem g_lt {ns : List Int} {i : Nat} (h : i < ns.length) : ns[i]? = some (g ns i) := by
  unfold g
  rw [List.getD_eq_getElem?_getD, List.getElem?_eq_getElem h]
  rfl
theorem g_swp {ns : List Int} {i j : Nat} (hi : i < ns.length) (hj : j < ns.length) (k : Nat) : g (swp ns i j) k = if k = j then g ns i else if k = i then g ns j else g ns k := by
  show (swp ns i j).getD k 0 = _
  unfold swp
  rw [List.getD_eq_getElem?_getD, List.getElem?_set, List.length_set, List.getElem?_set]
  by_cases h1 : j = k
  · subst h1
    simp only [if_true, if_pos hj]
    rfl
  · have h1' : ¬ k = j := fun q => h1 q.symm
    simp only [if_neg h1, if_neg h1']
    by_cases h2 : i = k
    · subst h2
      simp only [if_true, if_pos hi]
      rfl
    · have h2' : ¬ k = i := fun q => h2 q.symm
      simp only [if_neg h2, if_neg h2']
      unfold g
      rw [List.getD_eq_getElem?_getD]
theorem swp_perm {ns : List Int} {i j : Nat} (hi : i < ns.length) (hj : j < ns.length) : (swp ns i j).Perm ns := by
  have e1 : g ns j = ns[j] := by
    have := g_lt hj
    rw [List.getElem?_eq_getElem hj] at this
    exact (Option.some.inj this).symm
  have e2 : g ns i = ns[i] := by
    have := g_lt hi
    rw [List.getElem?_eq_getElem hi] at this
    exact (Option.some.inj this).symm
  unfold swp
  rw [e1, e2]
  exact List.set_set_perm hi hj
def IsHeap (ns : List Int) : Prop := ∀ i, 0 < i → i < ns.length → g ns ((i - 1) / 2) ≤ g ns i
def UpI (ns : List Int) (pos : Nat) : Prop := (∀ i, 0 < i → i < ns.length → i ≠ pos → g ns ((i - 1) / 2) ≤ g ns i) ∧
  ∀ c, 0 < c → c < ns.length → (c - 1) / 2 = pos → 0 < pos → g ns ((pos - 1) / 2) ≤ g ns c
def DnI (ns : List Int) (pos : Nat) : Prop := (∀ i, 0 < i → i < ns.length → i ≠ pos → (i - 1) / 2 ≠ pos → g ns ((i - 1) / 2) ≤ g ns i) ∧
  ∀ c, 0 < c → c < ns.length → (c - 1) / 2 = pos → 0 < pos → g ns ((pos - 1) / 2) ≤ g ns c
theorem UpI.done {ns : List Int} {pos : Nat} (h : UpI ns pos) (hp : pos = 0 ∨ g ns ((pos - 1) / 2) ≤ g ns pos) : IsHeap ns := by
  intro i h0 hl
  by_cases e : i = pos
  · subst e
    rcases hp with e | e
    · omega
    · exact e
  · exact h.1 i h0 hl e
theorem UpI.step {ns : List Int} {pos : Nat} (h : UpI ns pos) (h0 : 0 < pos) (hl : pos < ns.length) (hlt : g ns pos < g ns ((pos - 1) / 2)) : UpI (swp ns ((pos - 1) / 2) pos) ((pos - 1) / 2) := by
  have hq : (pos - 1) / 2 < ns.length := by omega
  have G := g_swp hq hl
  refine ⟨fun i i0 il ne => ?_, fun c c0 cl e q0 => ?_⟩
  · rw [swp_len] at il
    rw [G, G]
    by_cases e1 : i = pos
    · subst e1
      rw [if_pos rfl, if_neg (by omega), if_pos rfl]
      omega
    · rw [if_neg e1, if_neg ne]
      by_cases e2 : (i - 1) / 2 = pos
      · rw [if_pos e2]
        exact h.2 i i0 il e2 h0
      · rw [if_neg e2]
        by_cases e3 : (i - 1) / 2 = (pos - 1) / 2
        · rw [if_pos e3]
          have := h.1 i i0 il e1
          rw [e3] at this
          omega
        · rw [if_neg e3]
          exact h.1 i i0 il e1
  · rw [swp_len] at cl
    rw [G, G]
    have k1 := h.1 ((pos - 1) / 2) q0 hq (by omega)
    rw [if_neg (by omega), if_neg (by omega)]
    by_cases e1 : c = pos
    · rw [if_pos e1]
      exact k1
    · rw [if_neg e1, if_neg (by omega)]
      have k2 := h.1 c c0 cl e1
      rw [e] at k2
      omega
theorem DnI.leaf {ns : List Int} {pos : Nat} (h : DnI ns pos) (hl : ¬ pos < ns.length / 2) : UpI ns pos :=
  ⟨fun i i0 il ne => h.1 i i0 il ne (by omega), h.2⟩
theorem DnI.step {ns : List Int} {pos m : Nat} (h : DnI ns pos) (hm : m < ns.length) (m0 : 0 < m) (e : (m - 1) / 2 = pos) (hmin : ∀ c, 0 < c → c < ns.length → (c - 1) / 2 = pos → g ns m ≤ g ns c) : DnI (swp ns m pos) m := by
  have hp : pos < ns.length := by omega
  have G := g_swp hm hp
  refine ⟨fun i i0 il n1 n2 => ?_, fun c c0 cl ec _ => ?_⟩
  · rw [swp_len] at il
    rw [G, G]
    by_cases e1 : i = pos
    · rw [if_pos e1, if_neg (by omega), if_neg n2]
      subst e1
      exact h.2 m m0 hm e i0
    · rw [if_neg e1, if_neg n1]
      by_cases e2 : (i - 1) / 2 = pos
      · rw [if_pos e2]
        exact hmin i i0 il e2
      · rw [if_neg e2, if_neg n2]
        exact h.1 i i0 il e1 e2
  · rw [swp_len] at cl
    rw [G, G]
    rw [e, if_pos rfl, if_neg (by omega), if_neg (by omega)]
    have := h.1 c c0 cl (by omega) (by omega)
    rw [ec] at this
    exact this
theorem IsHeap.least {ns : List Int} (h : IsHeap ns) : ∀ i, i < ns.length → g ns 0 ≤ g ns i := by
  intro i
  induction i using Nat.strongRecOn with
  | _ i ih =>
    intro hl
    by_cases h0 : i = 0
    · subst h0; exact Int.le_refl _
    · exact Int.le_trans (ih ((i - 1) / 2) (by omega) (by omega)) (h i (by omega) hl)
theorem IsHeap.least_mem {ns : List Int} (h : IsHeap ns) {x : Int} (hx : x ∈ ns) : g ns 0 ≤ x := by
  obtain ⟨i, hi, e⟩ := List.mem_iff_getElem.mp hx
  have := h.least i hi
  have q := g_lt hi
  rw [List.getElem?_eq_getElem hi, e] at q
  rw [← Option.some.inj q] at this
  exact this
/-- one more at the end -/
theorem IsHeap.push {ns : List Int} (h : IsHeap ns) (x : Int) : UpI (ns ++ [x]) ns.length := by
  have ga : ∀ i, i < ns.length → g (ns ++ [x]) i = g ns i := fun i hi => by
    unfold g
    rw [List.getD_eq_getElem?_getD, List.getElem?_append_left hi, List.getD_eq_getElem?_getD]
  refine ⟨fun i i0 il ne => ?_, fun c c0 cl e _ => ?_⟩
  · rw [List.length_append, List.length_singleton] at il
    rw [ga i (by omega), ga _ (by omega)]
    exact h i i0 (by omega)
  · rw [List.length_append, List.length_singleton] at cl
    omega
/-- the last one put in the first one's place -/
theorem IsHeap.pop {ns : List Int} (h : IsHeap ns) (x : Int) : DnI (ns.dropLast.set 0 x) 0 := by
  have hlen : (ns.dropLast.set 0 x).length = ns.length - 1 := by rw [List.length_set, List.length_dropLast]
  have ga : ∀ i, 0 < i → i < ns.length - 1 → g (ns.dropLast.set 0 x) i = g ns i := fun i i0 hi => by
    unfold g
    rw [List.getD_eq_getElem?_getD, List.getElem?_set, if_neg (by omega), List.getD_eq_getElem?_getD, List.getElem?_dropLast, if_pos hi]
  refine ⟨fun i i0 il n1 n2 => ?_, fun c c0 cl e q => absurd q (by omega)⟩
  rw [hlen] at il
  rw [ga i i0 il, ga _ (by omega) (by omega)]
  exact h i i0 (by omega)
theorem pop_perm {ns : List Int} (h2 : 2 ≤ ns.length) : (g ns 0 :: (ns.dropLast.set 0 (g ns (ns.length - 1)))).Perm ns := by
  match ns, h2 with
  | a :: b :: r, _ =>
    have e1 : g (a :: b :: r) 0 = a := rfl
    have e2 : g (a :: b :: r) ((a :: b :: r).length - 1) = (b :: r).getLast (by simp) := by
      unfold g
      rw [List.getD_eq_getElem?_getD, ← List.getLast?_eq_getElem?, List.getLast?_cons_cons, List.getLast?_eq_some_getLast (by simp)]
      rfl
    rw [e1, e2, List.dropLast_cons_cons, List.set_cons_zero]
    refine List.Perm.cons _ ?_
    have e3 : (b :: r).dropLast ++ [(b :: r).getLast (by simp)] = b :: r := List.dropLast_concat_getLast _
    exact (List.perm_append_comm (l₁ := [(b :: r).getLast (by simp)]) (l₂ := (b :: r).dropLast)).trans (by rw [e3])
end My

set_option Elab.async false
set_option linter.all false
set_option maxRecDepth 100000
set_option maxHeartbeats 4000000
namespace L2
open PySem PySem.Spec PyProof.Rows
theorem iteD {p A B : Prop} [Decidable p] (h1 : p → A) (h2 : ¬ p → B) : if decide p = true then A else B := by
  by_cases h : p
  · rw [decide_eq_true h, if_pos rfl]; exact h1 h
  · rw [decide_eq_false h, if_neg Bool.false_ne_true]; exact h2 h
theorem iteB {b : Bool} {A B : Prop} (h1 : b = true → A) (h2 : b = false → B) : if b = true then A else B := by
  cases b with
  | true => rw [if_pos rfl]; exact h1 rfl
  | false => rw [if_neg Bool.false_ne_true]; exact h2 rfl
/-- a word that no step opens -/
@[irreducible] def Blk (p : Prop) : Prop := p
theorem Blk.of {p : Prop} (h : p) : Blk p := by unfold Blk; exact h
theorem Blk.out {p : Prop} (h : Blk p) : p := by unfold Blk at h; exact h
/-- all but the addresses of S stays -/
def Keeps (S : List Addr) (H H' : Hp) : Prop := ∀ b o, H b = some o → b ∉ S → H' b = some o
theorem Keeps.refl (S : List Addr) (H : Hp) : Keeps S H H := fun _ _ h _ => h
theorem Keeps.trans {S : List Addr} {H H1 H2 : Hp} (a : Keeps S H H1) (b : Keeps S H1 H2) : Keeps S H H2 := fun c o h n => b c o (a c o h n) n
theorem Keeps.mono {S S' : List Addr} {H H1 : Hp} (a : Keeps S H H1) (h : ∀ x ∈ S, x ∈ S') : Keeps S' H H1 := fun c o e n => a c o e fun q => n (h c q)
theorem Keeps.upd {S : List Addr} {H H1 : Hp} {x : Addr} {o : HO} (a : Keeps S H H1) (hx : x ∈ S ∨ H x = none) : Keeps S H (upd H1 x o) := fun c u e n => by
  have ne : c ≠ x := fun q => by
    subst q
    rcases hx with h | h
    · exact n h
    · rw [h] at e; cases e
  rw [upd_ne ne]
  exact a c u e n
/-- fresh at H1, so fresh at H (or in S) -/
theorem Keeps.fresh {S : List Addr} {H H1 : Hp} {x : Addr} (a : Keeps S H H1) (h : H1 x = none) : x ∈ S ∨ H x = none := by
  cases e : H x with
  | none => exact .inr rfl
  | some o =>
    by_cases hm : x ∈ S
    · exact .inl hm
    · rw [a x o e hm] at h; cases h
section
variable {X : Cx}
/-- xs[i], by values -/
def rGetL (K : PySem.W.Frag) : V → V → Hp → VK → Prop := fun x y H Q => ∃ p xs i v, x = .ref p ∧ y = .int i ∧ SqL K H p xs ∧ 0 ≤ i ∧ xs[i.toNat]? = some v ∧ Q v H
theorem pget_list : PGet X (rGetL X.K) := by
  intro pins s σ H o i ov iv Q I ro ri h
  obtain ⟨p, xs, j, v, rfl, rfl, hq, h0, hv, q⟩ := h
  cases ro
  obtain ⟨t, rfl⟩ := ri
  obtain ⟨its, r, pl, hz⟩ := I.list hq
  obtain ⟨w, ew, rw'⟩ := r.get hv
  have hl := r.length
  have hlt : j.toNat < xs.length := (List.getElem?_eq_some_iff.mp hv).1
  have hn := line63
  exact wpAny_getItem_list pl.isList h0 (by omega) (by simpa using ew) ⟨v, H, I, rw', q⟩
/-- the keywords alone: each parameter but the first by its name, in their order -/
structure KwB (K : PySem.W.Frag) (fd : FuncData) (ps ks : List Str) : Prop where
  to : ∀ (s : Shared) (u : Value) (ws : List Value), K.In s.heap → ws.length = ks.length → BindsTo s fd ⟨[u], ks.zip ws⟩ (ps.zip (u :: ws))
  len : ps.length = ks.length + 1
def tMethKw (C : Addr) (m : Str) (sp : Sp) (E : XK) (ta : TE) (tk : TA) : TE := fun σ H Q => ta σ H fun x H1 => ∃ a dx fs, x = .ref a ∧ H1 a = some (.ins C dx fs) ∧ fs.lookup m = none ∧
  tk σ H1 fun vs H2 => sp (x :: vs) H2 Q E
variable {CX : CXT} {k : Nat} {f C : Addr} {fd : FuncData} {ps ks : List Str} {sp : Sp} {E : XK} {m : Str} {pos apos : Pos} {o : Expr} {kws : List Keyword} {ta : TE} {tk : TA}
theorem run_kwm {pins : List (Addr × Obj)} {σ : St} {H : Hp} {s : Shared} {Q : VK} {u : Value} {v : V} {ws : List Value} {zs : List V} (F : FnOk X.prog X.w X.K X.mg X.base CX k f fd ps sp) (hr : Room k X.A) (hb : KwB X.K fd ps ks) (hx : Passes CX X E)
    (I : Inv X pins σ H s) (r : RelV v u) (rz : Vals zs ws) (h : sp (v :: zs) H Q E) : wpAny (model X.prog X.w) X.A (call (.ref f) [u] (ks.zip ws)) (EP X pins σ Q) X.xe s := by
  have r2 : Vals (v :: zs) (u :: ws) := .cons r rz
  have hl : (u :: ws).length = ps.length := by rw [← r2.length]; exact F.len _ _ _ _ h
  have hl2 : ws.length = ks.length := by have := hb.len; rw [List.length_cons] at hl; omega
  refine wpAny_call (codeAny_mono (F.run X.A X.stack s H ⟨[u], ks.zip ws⟩ (u :: ws) (v :: zs) Q E hr I.env0 (hb.to s u ws I.kIn hl2) r2 h) fun r s' hq => ?_)
  cases r with
  | error e => exact hx pins σ H s e s' I hq
  | ok fl =>
    cases fl with
    | ret u => exact I.after hq
    | next => exact False.elim hq
    | brk => exact False.elim hq
    | cont => exact False.elim hq
/-- o.m(k = v, ..) -/
theorem pe_methKw {pl : Sem Bool} (he : PE X o ta) (c : Cls X.K C) (hm : Meth X.K C m f) (F : FnOk X.prog X.w X.K X.mg X.base CX k f fd ps sp) (hr : Room k X.A) (hb : KwB X.K fd ps ks) (hx : Passes CX X E) (hkw : PK X kws tk)
    (hall : (backToKw pos (keywordEach kws X.env)).all (·.1.isSome) = true := by rfl) (hks : (backToKw pos (keywordEach kws X.env)).filterMap (·.1) = ks := by rfl)
    (hpl : ((backTo pos (starEach [] X.env)).any (·.1) || (backToKw pos (keywordEach kws X.env)).any (·.1.isNone)) = false := by rfl)
    (ht : eval (.Call (.Attribute o m apos) [] kws pos) X.env = (do
      let v0 ← eval o X.env
      standAt apos.atName
      let (g, frst) ← holding [v0] (getMethod v0 m pl)
      callWith pos g frst (backTo pos (starEach [] X.env)) (backToKw pos (keywordEach kws X.env))) := by rfl) :
    PE X (.Call (.Attribute o m apos) [] kws pos) (tMethKw C m sp E ta tk) := by
  constructor
  intro pins s σ H Q I h
  refine PySem.W.methodCall_KW (pl := pl) (thn (he.run pins s σ H _ I h) fun w s1 ⟨y, H1, I1, ry, a, dx, fs, ey, ea, l, q⟩ => ?_) ht
  subst ey
  obtain rfl : w = Value.ref a := ry
  refine getmeth_ok I1 ea c hm l (PySem.W.callWith_KW0 (h₀ := X.base) I.ok.mod.kin hm.kp hall (thn (hkw.run pos pins s1 σ H1 _ I1 q) fun ws s2 ⟨zs, H2, I2, rz, q2⟩ => ⟨I2.kIn, ?_⟩) hpl)
  rw [hks]
  exact run_kwm (v := .ref a) F hr hb hx I2 rfl rz q2
end
theorem kwb_mk {K : PySem.W.Frag} {x qual : Str} {st : Stmt} {f : Addr} {fd : FuncData} {ps ks : List Str} (F : Fun K x qual st f fd) (hl : ps.length = ks.length + 1)
    (h : ∀ (kV doc pm : Value) (an : Option Addr) (cdv ct : Value) (u : Value) (ws : List Value), ws.length = ks.length → bindArgs (PySem.W.fnOf x qual (defArgs st) (defBody st) (defScope st) .none kV doc pm an cdv ct) ⟨[u], ks.zip ws⟩ = pure (ps.zip (u :: ws))) : KwB K fd ps ks := by
  obtain ⟨_, _, kV, doc, pm, an, cdv, ct, _, rfl, _, _⟩ := F.ex
  exact ⟨fun s u ws _ hw => .of_eq (h kV doc pm an cdv ct u ws hw), hl⟩
/-! ### the box of draws -/
/-- a box at b: its great cells at g, the rest of the one that is drawn from, the lesser cells at l, how many draws -/
def BoxAt (H : Hp) (b g l : Addr) (n : Int) : Prop := ∃ (gs ls : List Int) (cur : Int), H b = some (.lst [.ref g, .int cur, .ref l, .int n]) ∧ H g = some (.lst (gs.map V.int)) ∧ H l = some (.lst (ls.map V.int)) ∧ b ≠ g ∧ b ≠ l ∧ g ≠ l ∧ gs.length ≤ 63 ∧ ls.length ≤ 63
theorem ints_get {ns : List Int} {i : Nat} {y : V} (h : (ns.map V.int)[i]? = some y) : ∃ z, ns[i]? = some z ∧ y = V.int z := by
  rw [List.getElem?_map] at h
  cases e : ns[i]? with
  | none => rw [e] at h; cases h
  | some z => rw [e] at h; exact ⟨z, rfl, (Option.some.inj h).symm⟩
theorem get_lt {α : Type} {xs : List α} {i : Nat} {y : α} (h : xs[i]? = some y) : i < xs.length := (List.getElem?_eq_some_iff.mp h).1
theorem Same.upd {H H1 : Hp} {x : Addr} {o : HO} (a : Same H H1) (h : H x = none) : Same H (upd H1 x o) := fun c u e => by
  rw [upd_ne (ne_of_none e h)]
  exact a c u e
theorem small {n : Nat} (h : n ≤ 100000) : n < sizeLine := Nat.lt_of_le_of_lt h (by decide)
theorem ixN_at {n j : Nat} (h : j < n) : ixN n ((j : Nat) : Int) = some j := by
  have h2 : ((j : Nat) : Int) < ((n : Nat) : Int) := Int.ofNat_lt.mpr h
  simp [ixN, h2]
theorem BoxAt.upd {H : Hp} {b g l x : Addr} {n : Int} {o : HO} (h : BoxAt H b g l n) (hx : H x = none) : BoxAt (upd H x o) b g l n := by
  obtain ⟨gs, ls, cur, e1, e2, e3, r⟩ := h
  exact ⟨gs, ls, cur, by rw [upd_ne (ne_of_none e1 hx)]; exact e1, by rw [upd_ne (ne_of_none e2 hx)]; exact e2, by rw [upd_ne (ne_of_none e3 hx)]; exact e3, r⟩
theorem BoxAt.keep {H H' : Hp} {b g l : Addr} {n : Int} {S : List Addr} (h : BoxAt H b g l n) (k : Keeps S H H') (a : b ∉ S) (c : g ∉ S) (d : l ∉ S) : BoxAt H' b g l n := by
  obtain ⟨gs, ls, cur, e1, e2, e3, r⟩ := h
  exact ⟨gs, ls, cur, k _ _ e1 a, k _ _ e2 c, k _ _ e3 d, r⟩
theorem BoxAt.same {H H' : Hp} {b g l : Addr} {n : Int} (h : BoxAt H b g l n) (k : Same H H') : BoxAt H' b g l n := by
  obtain ⟨gs, ls, cur, e1, e2, e3, r⟩ := h
  exact ⟨gs, ls, cur, k _ _ e1, k _ _ e2, k _ _ e3, r⟩
theorem BoxAt.off {H : Hp} {b g l q : Addr} {n : Int} (h : BoxAt H b g l n) (hq : H q = none) : q ∉ [b, g] := by
  obtain ⟨gs, ls, cur, e1, e2, _⟩ := h
  intro c
  simp at c
  rcases c with rfl | rfl
  · rw [e1] at hq; cases hq
  · rw [e2] at hq; cases hq
end L2

set_option linter.all false
set_option maxRecDepth 100000
set_option maxHeartbeats 4000000
namespace L2
open PySem PySem.Spec PyProof.Rows
section
variable {X : Cx} {CX : CXT} {k : Nat} {g C : Addr} {fd : FuncData} {sp : Sp} {E : XK}
/-- len(o), o an instance whose class has its own __len__ -/
def rLenOwn (C : Addr) (sp : Sp) (E : XK) : List V → Hp → VK → Prop := fun xs H Q => ∃ a dx fs, xs = [V.ref a] ∧ H a = some (.ins C dx fs) ∧ sp [.ref a] H (fun v H' => ∃ n : Int, v = .int n ∧ 0 ≤ n ∧ n < 2 ^ 63 ∧ Q (.int n) H') E
theorem call_lenOwn (hm : Meth X.K C "__len__" g) (F : FnOk X.prog X.w X.K X.mg X.base CX k g fd ["self"] sp) (hr : Room (k + 1) X.A) (hb : Binds X.K fd ["self"] []) (hx : Passes CX X E) : CallR X (.builtin "len") (rLenOwn C sp E) := by
  intro pins s σ H xs us Q I r h
  obtain ⟨a, dx, fs, rfl, ha, q⟩ := h
  obtain ⟨u, rfl, ru⟩ := r.one
  cases (show u = Value.ref a from ru)
  obtain ⟨_, _, _, e, mA, ⟨od, es, ep, e2, _⟩, _⟩ := I.hok a _ ha
  have J : PySem.W.InstAt s.heap a (PySem.W.instObj C dx) C (some od) := ⟨e, rfl, rfl, e2⟩
  obtain ⟨m, hF⟩ := I.fr
  have r2 : Vals [V.ref a] [Value.ref a] := .cons (show RelV (.ref a) (.ref a) from rfl) .nil
  have key : codeAny (model X.prog X.w) X.A.in1 (.call (.ref g) ⟨[.ref a], []⟩) (fun r s' => match r with
    | .ok (.ret v) => EP X pins σ (fun v H' => ∃ n : Int, v = .int n ∧ 0 ≤ n ∧ n < 2 ^ 63 ∧ Q (.int n) H') v s'
    | .ok _ => False
    | .error e => X.xe e s') s := by
    refine codeAny_mono (F.run X.A.in1 X.stack s H ⟨[.ref a], []⟩ [.ref a] [.ref a] _ E hr.in1 I.env0.in1 (hb s [.ref a] I.kIn rfl) r2 q) fun r s' hq => ?_
    cases r with
    | error e => exact hx pins σ H s e s' I hq
    | ok fl =>
      cases fl with
      | ret u => exact I.after hq
      | next => exact False.elim hq
      | brk => exact False.elim hq
      | cont => exact False.elim hq
  refine PySem.W.len_K hF I.ok.mod.kin J hm.at_ hm.fn (wpAny_mono (wpAny_call key) (fun v s' hv => ?_) fun _ _ x => x)
  obtain ⟨z, H', I', rz, n, rfl, n0, n1, qz⟩ := hv
  obtain ⟨t, rfl⟩ := (show ∃ t, v = Value.int n t from rz)
  exact ⟨⟨n0, n1⟩, .int n, H', I'.tok _, ⟨_, rfl⟩, qz⟩
end
/-- a loop over a locked dict's keys, by an invariant -/
theorem for_keys {d : Addr} {o : Obj} {kvs : List (Key × V)} {g : TG} {tb : TS} {D : Ends} {σ : St} {H : Hp} (Pv : Nat → St → Hp → Prop) (h0 : Pv 0 σ H) (hl : ∀ i σ H, Pv i σ H → H d = some (.frz o (.dK kvs)))
    (hs : ∀ i k v σ H, kvs[i]? = some (k, v) → Pv i σ H → g (kV k) σ H fun σ2 H2 => tb { D with nx := Pv (i + 1), ct := Pv (i + 1), bk := D.nx } σ2 H2) (hd : ∀ σ H, Pv kvs.length σ H → D.nx σ H) :
    ∃ W : Nat → Nat → St → Hp → Prop, (∃ m, W 0 m σ H) ∧ ∀ i m σ H, W i m σ H → ((Itk d o kvs).stop i H ∧ D.nx σ H) ∨
      ((Itk d o kvs).go i H ∧ ∃ N : St → Hp → Prop, (∀ σ' H', N σ' H' → ∃ m', m' < m ∧ W (i + 1) m' σ' H') ∧ ∀ x H', (Itk d o kvs).yld i H x H' → g x σ H' fun σ2 H2 => tb { D with nx := N, ct := N, bk := D.nx } σ2 H2) := by
  refine ⟨fun i m σ H => m + i = kvs.length ∧ Pv i σ H, ⟨kvs.length, rfl, h0⟩, fun i m σ H ⟨hm, p⟩ => ?_⟩
  have q := hl i σ H p
  by_cases hlt : i < kvs.length
  · refine .inr ⟨⟨q, hlt⟩, Pv (i + 1), fun σ' H' p' => ⟨m - 1, by omega, by omega, p'⟩, fun x H' y => ?_⟩
    obtain ⟨rfl, k, v, hk, rfl⟩ := y
    exact hs i k v σ _ hk p
  · obtain rfl : i = kvs.length := by omega
    exact .inl ⟨⟨q, Nat.le_refl _⟩, hd σ H p⟩
end L2

set_option linter.all false
set_option maxRecDepth 100000
set_option maxHeartbeats 4000000
namespace L2
open PySem PySem.Spec PyProof.Rows
/-- what the top says of a class over ValueError without an own __init__ -/
structure MidC (K : PySem.W.Frag) (D : Addr) : Prop where
  ga : PySem.W.specialIn K (.ref D) "__getattribute__" = some (some (.builtin "type.__getattribute__"))
  rd : PySem.W.readsIn K D (.type "type") = true
  fi : PySem.W.findCls K (.ref D) (.type "type") "__init__" = some (.val (.builtin "ValueError.__init__"))
section
variable {X : Cx} {e : Expr} {es : List Expr} {ta : TA} {n : Str} {D : Addr} {p1 p2 pos : Pos}
/-- D.__init__(self, ..), D an own class over ValueError that has no __init__ of its own -/
theorem pe_midInit {pl : Sem Bool} (T : MidC X.K D) (hg : Gl X n) (hm : X.mg n = some (.ref D)) (ha : PA X (e :: es) ta)
    (hc : eval (.Call (.Attribute (.Name n p1) "__init__" p2) (e :: es) [] pos) X.env = (do
      let ov ← eval (.Name n p1) X.env
      standAt p2.atName
      let (g, frst) ← holding [ov] (getMethod ov "__init__" pl)
      callWith pos g frst (backTo pos (starEach (e :: es) X.env)) (backToKw pos (keywordEach [] X.env))) := by rfl)
    (hdb : (n == ("__debug__" : Str)) = false := by decide)
    (st1 : starEach (e :: es) X.env = (false, eval e X.env) :: starEach es X.env := by rfl) (st2 : (backTo pos (starEach es X.env)).any (·.1) = false := by rfl) :
    PE X (.Call (.Attribute (.Name n p1) "__init__" p2) (e :: es) [] pos) (tVeI X.K ta) := by
  refine ⟨fun pins s σ H Q I h => ?_⟩
  refine PySem.W.methodCall_KW (ld_glob I hg hm ?_ hdb) hc
  refine PySem.W.method_cls I.kIn T.ga (PySem.W.cls_value I.kIn T.rd T.fi (by decide +kernel) ?_)
  refine PyProof.Rows.callWith_method1 (id := "ValueError.__init__") (thn (ha.run pos pins _ σ H _ (I.tok _) h) fun us s1 ⟨vs, H1, I1, r1, a, C, ws, ev, hl, T2, ea, q⟩ => ?_) st1 st2
  subst ev
  cases r1 with
  | @cons _ u0 _ ur ra rw' =>
    obtain rfl : u0 = Value.ref a := ra
    have hlen : ur.length ≤ sizeLine := by
      rw [← Paired.length rw', sizeLine_eq]
      omega
    exact oinit_ok T2 I1 ea hlen fun s' J => ⟨.non, H1, J, rfl, q⟩
end
/-- two promises of one def: one that lets nothing out, one that may -/
theorem FnOk.orX {P : Program} {w : World} {K : PySem.W.Frag} {mg : Str → Option Value} {base : Heap} {CX : CXT} {k : Nat} {f : Addr} {fd : FuncData} {ps : List Str} {sp1 sp2 : Sp} (F1 : FnOk P w K mg base CX0 k f fd ps sp1) (F2 : FnOk P w K mg base CX k f fd ps sp2) :
    FnOk P w K mg base CX k f fd ps (fun vs H Q E => sp1 vs H Q E ∨ sp2 vs H Q E) := by
  constructor
  · intro vs H Q E h
    rcases h with h | h
    · exact F1.len _ _ _ _ h
    · exact F2.len _ _ _ _ h
  · intro A outer s H args us vs Q E hr he hb hv h
    rcases h with h | h
    · refine codeAny_mono (F1.run A outer s H args us vs Q E hr he hb hv h) fun r s' z => ?_
      cases r with
      | error e => exact False.elim z
      | ok fl =>
        cases fl with
        | ret u => exact z
        | next => exact z
        | brk => exact z
        | cont => exact z
    · exact F2.run A outer s H args us vs Q E hr he hb hv h
/-! ### a method whose errors are taken by the body around -/
def tMethAt (C : Addr) (m : Str) (sp : Sp) (E : St → XK) (ta : TE) (t : TA) : TE := fun σ H Q => ta σ H fun x H1 => ∃ a dx fs, x = .ref a ∧ H1 a = some (.ins C dx fs) ∧ fs.lookup m = none ∧ t σ H1 fun vs H2 => sp (x :: vs) H2 Q (E σ)
section
variable {X : Cx} {CX : CXT} {k : Nat} {f C : Addr} {fd : FuncData} {ps : List Str} {sp : Sp} {E : St → XK} {m : Str} {pos apos : Pos} {e o : Expr} {es : List Expr} {ta : TE} {t : TA}
theorem pe_methAt {pl : Sem Bool} (ho : PE X o ta) (c : Cls X.K C) (hm : Meth X.K C m f) (F : FnOk X.prog X.w X.K X.mg X.base CX k f fd ps sp) (hr : Room k X.A) (hb : Binds X.K fd ps []) (hx : ∀ σ, PassesAt CX X σ (E σ)) (ha : PA X (e :: es) t)
    (h1 : starEach (e :: es) X.env = (false, eval e X.env) :: starEach es X.env := by rfl) (h2 : (backTo pos (starEach es X.env)).any (·.1) = false := by rfl)
    (h3 : eval (.Call (.Attribute o m apos) (e :: es) [] pos) X.env = (do
      let v0 ← eval o X.env
      standAt apos.atName
      let (g, first) ← holding [v0] (getMethod v0 m pl)
      callWith pos g first (backTo pos (starEach (e :: es) X.env)) (backToKw pos (keywordEach [] X.env))) := by rfl) :
    PE X (.Call (.Attribute o m apos) (e :: es) [] pos) (tMethAt C m sp E ta t) := by
  constructor
  intro pins s σ H Q I h
  refine PySem.W.methodCall_KW (pl := pl) (thn (ho.run pins s σ H _ I h) fun u s1 ⟨x, H1, I1, rx, a, dx, fs, ex, ea, l, q⟩ => ?_) h3
  subst ex
  obtain rfl : u = Value.ref a := rx
  refine getmeth_ok I1 ea c hm l (PySem.W.callWith_K (h₀ := X.base) (first := [.ref a]) I.ok.mod.kin hm.kp (thn (ha.run pos pins s1 σ H1 _ I1 q) fun us s2 ⟨vs, H2, I2, r, q2⟩ => ⟨I2.kIn, ?_⟩) h1 h2)
  exact run_fnS (vs := .ref a :: vs) (us := .ref a :: us) F hr hb (hx σ) I2 (.cons rfl r) q2
end
/-! ### a tuple of numbers in an f-string -/
theorem reprs_int {prog : Program} {w : World} : ∀ {l : List Int} {its : List Value}, Vals (l.map V.int) its → (∀ y ∈ l, y.natAbs.log2 < 1920) → ReprAll prog w its (l.map fun i => Str.ofString (toString i))
  | [], _, r, _ => by
    cases r
    exact .nil
  | y :: l, _, r, h => by
    cases r with
    | cons r1 r2 =>
      obtain ⟨t, rfl⟩ := r1
      exact .cons (ReprIs.int t (h y List.mem_cons_self)) (reprs_int r2 fun z hz => h z (List.mem_cons_of_mem _ hz))
theorem piled_int : ∀ l : List Int, (∀ y ∈ l, y.natAbs.log2 < 1920) → piled (l.map fun i => Str.ofString (toString i)) ≤ 1923 * l.length
  | [], _ => Nat.zero_le _
  | y :: l, h => by
    have h1 := int_text_len_1921 (h y List.mem_cons_self)
    have h2 := piled_int l fun z hz => h z (List.mem_cons_of_mem _ hz)
    rw [List.map_cons, piled_cons, List.length_cons]
    omega
/-- {t}, t a tuple of numbers: some text -/
def tFmtI (K : PySem.W.Frag) (te : TE) : TE := fun σ H Q => te σ H fun x H1 => ∃ (a : Addr) (l : List Int), x = .ref a ∧ SqT K H1 a (l.map V.int) ∧ (∀ y ∈ l, y.natAbs.log2 < 1920) ∧ l.length ≤ 20 ∧ ∀ m : Str, m.length ≤ 40000 → Q (.str m) H1
theorem pe_fmtI {X : Cx} {e : Expr} {te : TE} {pos : Pos} {k : Nat} (hr : Room k X.A) (he : PE X e te) : PE X (.FormattedValue e (-1) none pos) (tFmtI X.K te) := by
  refine ⟨fun pins s σ H Q I h => ?_⟩
  refine wpAny_FormattedValue_plain (thn (he.run pins s σ H _ I h) fun v s1 got => ?_)
  obtain ⟨x, H1, I1, r1, a, l, rfl, ht, hc, hz, q⟩ := got
  cases r1
  obtain ⟨its, rv, ⟨ox, ho, hcl, nx, hd⟩, _⟩ := I1.tuple ht
  have hp := piled_int l hc
  have htx := fmt_text (l.map fun i => Str.ofString (toString i))
  have hu := hr.units
  have hb : 40000 ≤ sizeLine := by rw [sizeLine_eq]; decide
  exact fmt_tuple (by omega) ho hcl hd (reprs_int rv hc) (by omega) fun m u tk hm => ⟨.str m, H1, I1.tok _, ⟨u, rfl⟩, q m (by omega)⟩
end L2

set_option linter.all false
set_option maxRecDepth 100000
set_option maxHeartbeats 4000000
/-! several clauses `except C as n` -/
namespace L2
open PySem PySem.Spec PyProof.Rows
/-- the ends of a suite whose name, in slot i, is let go of -/
def unb (i : Nat) (D : Ends) : Ends where
  nx := fun σ' H' => D.nx (σ'.set i none) H'
  rt := D.rt
  bk := fun σ' H' => D.bk (σ'.set i none) H'
  ct := fun σ' H' => D.ct (σ'.set i none) H'
abbrev Clause := Value × Nat × (Addr → Value → Option Addr → TS)
def wNamed (K : PySem.W.Frag) (Wout : WX) (D : Ends) : List Clause → WX
  | [] => Wout
  | c :: r => fun cls d σ H => ∃ b : Bool, PySem.W.exmOne K cls c.1 = some b ∧ (b = true → ∀ z, H z = none → c.2.2 z cls d (unb c.2.1 D) (σ.set c.2.1 (some (.ref z))) H) ∧ (b = false → wNamed K Wout D r cls d σ H)
inductive HdN (X : Cx) : List ExceptHandler → List Clause → Prop
  | nil : HdN X [] []
  | cons {x n : Str} {c : Value} {i : Nat} {ts : Addr → Value → Option Addr → TS} {q0 : Stmt} {qs : List Stmt} {p1 p2 : Pos} {hds : List ExceptHandler} {l : List Clause} (hc : Names X x c) (hi : X.N[i]? = some n) (hk : X.env.kindOf n = some .local)
      (hq : ∀ (z : Addr) (oz : Obj) (cls : Value) (d : Option Addr) (pn : List (Addr × Obj)), Zc cls d oz → (∃ fv, oz.data = .fields fv) → PSs (X.suite z ((z, oz) :: pn)) (q0 :: qs) (ts z cls d)) (rest : HdN X hds l) :
      HdN X (.ExceptHandler (some (.Name x p1)) (some n) (q0 :: qs) p2 :: hds) ((c, i, ts) :: l)
/-- an exception at a on its way through the body of X, the state around as told -/
structure Fly (X : Cx) (pins : List (Addr × Obj)) (a : Addr) (cls : Value) (d : Option Addr) (σ : St) (H : Hp) (B : Heap) (sI s3 : Shared) : Prop where
  inv : Inv X pins σ H sI
  nb : ∀ b o, sI.heap.get? b = some o → b ∉ frs X.stack → B.get? b = some o
  up : sI.heap.UpToSlots s3.heap
  fly : HandSPX.FlyingZ B (X.env :: X.outer) a (Zc cls d) s3.heap
  na : H a = none
  os : s3.os = sI.os
  ag : AllBare s3.gens
section
variable {X : Cx} {pins : List (Addr × Obj)} {a : Addr} {cls : Value} {d : Option Addr} {σ : St} {H : Hp} {B : Heap} {sI s3 : Shared}
theorem Fly.stands (F : Fly X pins a cls d σ H B sI s3) : Inv X pins σ H s3 := F.inv.landed F.nb F.fly.1 F.up F.os F.ag
theorem Fly.held (F : Fly X pins a cls d σ H B sI s3) (hf : X.env.frame = some X.env.locals) :
    ∃ (oz : Obj) (fv : Array Value), s3.heap.get? a = some oz ∧ Zc cls d oz ∧ oz.data = .fields fv ∧ Inv (X.suite a ((a, oz) :: (X.pn ++ pins))) [] σ H s3 := by
  obtain ⟨oz, fv, e, z, hd⟩ := F.fly.there
  have off : a ∉ frs (X.env :: X.outer) := by
    intro m
    obtain ⟨_, o2, e2, nf⟩ := F.fly.2.2.1.mem m
    obtain rfl := Option.some.inj (e.symm.trans e2)
    exact nf _ hd
  refine ⟨oz, fv, e, z, hd, F.stands.suite e hd F.na (fun q => off ?_) (fun q => off ?_)⟩
  · rw [q]
    exact List.mem_filterMap.mpr ⟨X.env, List.mem_cons_self, hf⟩
  · obtain ⟨v, hv, hv2⟩ := List.mem_filterMap.mp q
    exact List.mem_filterMap.mpr ⟨v, List.mem_cons_of_mem _ hv, hv2⟩
/-- the clauses, one after the other -/
theorem Fly.clauses {l : List Clause} {hds : List ExceptHandler} {Wout : WX} {D : Ends} (hs : X.stack = X.env :: X.outer) (hf : X.env.frame = some X.env.locals) (hN : X.N.Nodup) (tk : Takes X Wout) (h : HdN X hds l) (F : Fly X pins a cls d σ H B sI s3)
    (w : wNamed X.K Wout D l cls d σ H) : wpAny (model X.prog X.w) X.A (handleBy (.ref a) X.env hds) (SP X pins D) X.xe s3 := by
  induction h with
  | nil =>
    refine wpAny_handleBy_nil ?_
    obtain ⟨_, _, _, oz, fv, tb0, oT, tn, e, z, hd, h1, hr⟩ := id F.fly
    unfold PySem.passOn
    refine wpAny_bind (wpAny_field e hd h1 ?_)
    rw [if_neg (by simp : ¬ ((Value.ref tb0 == Value.none) = true))]
    have out : wpAny (model X.prog X.w) X.A (setFlight (.ref a) X.env.frame) (fun _ s4 => wpAny (model X.prog X.w) X.A (throw (.ref a) : Sem Flow) (SP X pins D) X.xe s4) X.xe s3 := by
      rw [hf]
      refine HandSPX.setFlight_upZ F.fly fun h4 held up4 => wpAny_throw (tk _ _ ?_)
      refine ⟨a, B, sI, pins, σ, H, cls, d, rfl, F.inv, F.nb, F.up.trans up4, ?_, F.na, F.os, F.ag, w⟩
      rw [hs]
      exact .inr (.inr held)
    first
      | exact wpAny_bind (wpAny_pure (wpAny_bind out))
      | exact wpAny_bind out
  | @cons x n c i ts q0 qs p1 p2 hds l hc hi hk hq rest ih =>
    obtain ⟨b, hb, yes, no⟩ := w
    obtain ⟨oz, fv, e, z, hd, S3⟩ := F.held hf
    refine wpAny_handleBy_cons (codeAny_handlers_test ?_) (fun w => by cases w)
    have LC : PySem.W.Looks (model X.prog X.w) s3.heap (typeOf (.ref a)) cls := fun _ _ _ _ k q => wpAny_typeOf_ref (k _ _ e) (by rw [z.1]; exact q)
    have LM := PySem.W.exm_one (M := model X.prog X.w) F.stands.kIn LC hb
    have named : ∀ {Q E : Value → Shared → Prop}, Q c s3 → wpAny (model X.prog X.w) (X.A.mark (some (.ref a))) (eval (.Name x p1) X.env) Q E s3 := by
      intro Q E q
      obtain ⟨hg, hdb, hm | ⟨hm, hv, hn⟩⟩ := hc
      · exact ld_glob S3 hg hm q hdb
      · exact ld_blt S3 hg hm hv q hn hdb
    refine named (LM.here ?_)
    cases b with
    | false => exact ih (no rfl)
    | true =>
      refine codeAny_handlers_suite_as (HandSPX.lands_againZ F.fly fun h4 fl4 up4 => ?_)
      have F4 : Fly X pins a cls d σ H B sI { s3 with heap := h4 } := ⟨F.inv, F.nb, F.up.trans up4, fl4, F.na, F.os, F.ag⟩
      obtain ⟨oy, fy, ey, zy, dy, S4⟩ := F4.held hf
      refine store_ok (X := X.suite a ((a, oy) :: (X.pn ++ pins))) (v := .ref a) S4 hN hi (.inl hk) rfl (fun s5 S5 => ?_) (.inr hk)
      refine wpAny_mono ((hq a oy cls d (X.pn ++ pins) zy ⟨_, dy⟩).run [] s5 _ H _ S5 (yes rfl a F.na)) (fun f s6 hsp => ?_) (fun _ _ q => q.elim)
      have ok := F.inv.ok
      have fin : ∀ {τ : St} {H6 : Hp} {P : Shared → Prop}, Inv (X.suite a ((a, oy) :: (X.pn ++ pins))) [] τ H6 s6 → (∀ s7, Inv X pins (τ.set i none) H6 s7 → P s7) →
          wpAny (model X.prog X.w) X.A (do bindName X.env n .none; unbindBehindTheSuite X.env n p2) (fun _ s7 => P s7) X.xe s6 := fun I6 q => gone_ok (I6.unsuite ok) hN hi hk q
      cases f with
      | next =>
        obtain ⟨τ, H6, I6, q6⟩ := hsp
        exact fin I6 fun _ I7 => ⟨_, _, I7, q6⟩
      | brk =>
        obtain ⟨τ, H6, I6, q6⟩ := hsp
        exact fin I6 fun _ I7 => ⟨_, _, I7, q6⟩
      | cont =>
        obtain ⟨τ, H6, I6, q6⟩ := hsp
        exact fin I6 fun _ I7 => ⟨_, _, I7, q6⟩
      | ret u =>
        obtain ⟨v, τ, H6, I6, r6, q6⟩ := hsp
        exact fin I6 fun _ I7 => ⟨_, _, _, I7, r6, q6⟩
theorem ps_try_named {body : List Stmt} {h0 : ExceptHandler} {hds : List ExceptHandler} {l : List Clause} {pos : Pos} {tb : WX → TS} {Wout : WX} (hs : X.stack = X.env :: X.outer) (hf : X.env.frame = some X.env.locals) (hN : X.N.Nodup) (tk : Takes X Wout)
    (hb : ∀ (W : WX) (qs : List (Addr × Obj)) (xe : Value → Shared → Prop), Takes (X.tr qs xe) W → PassesOwn (model X.prog X.w) X.A X.env xe → PSs (X.tr qs xe) body (tb W))
    (hh : HdN X (h0 :: hds) l) : PS X (.Try body (h0 :: hds) [] [] pos) (fun D σ H => tb (wNamed X.K Wout D l) D σ H) := by
  constructor
  intro pins s σ H D I h
  have ok := I.ok
  have hfr : X.A.frames = some (X.env :: X.outer) := ok.frames.trans (by rw [hs])
  refine wpAny_Try_except (wpAny_mono ((hb (wNamed X.K Wout D l) (X.pn ++ pins) (fun e t1 => wpAny (model X.prog X.w) X.A (noteFrame e X.env) (fun _ t2 => wpAny (model X.prog X.w) X.A (setFlight e none)
    (fun _ t3 => wpAny (model X.prog X.w) X.A (handleBy e X.env (h0 :: hds)) (SP X pins D) X.xe t3) X.xe t2) X.xe t1) (fun u s' hx => ?_) PassesOwn.looking).run [] s σ H D (I.toTry _) h) (fun f s1 hsp => ?_) (fun _ _ q => q))
  · obtain ⟨a, B, sI, pn', τ, H', cls, d, rfl, J, nb, up, sky, na, os, ag, w⟩ := hx
    have sky2 : Sky B (X.env :: X.outer) a (Zc cls d) X.env.locals s'.heap := hs ▸ sky
    refine Sky.land (a := a) Zc.steady hfr hf sky2 fun h3 fl up3 => ?_
    exact Fly.clauses (s3 := { s' with heap := h3 }) hs hf hN tk hh ⟨J.ofTry ok, nb, up.trans up3, fl, na, os, ag⟩ w
  · cases f with
    | next =>
      obtain ⟨τ, H', J, q⟩ := hsp
      exact wpAny_execs_nil ⟨τ, H', J.ofTry ok, q⟩
    | brk =>
      obtain ⟨τ, H', J, q⟩ := hsp
      exact ⟨τ, H', J.ofTry ok, q⟩
    | cont =>
      obtain ⟨τ, H', J, q⟩ := hsp
      exact ⟨τ, H', J.ofTry ok, q⟩
    | ret u =>
      obtain ⟨v, τ, H', J, r, q⟩ := hsp
      exact ⟨v, τ, H', J.ofTry ok, r, q⟩
end
/-- isinstance(e, c), e the caught exception, which has its dict -/
def rIsD (K : PySem.W.Frag) (z : Addr) (cls : Value) (d : Option Addr) : List V → Hp → VK → Prop := fun xs H Q => ∃ (D dd : Addr) (fs : List (Str × V)) (c : V) (cv : Value) (b : Bool),
  cls = .ref D ∧ d = some dd ∧ H dd = some (.xd fs) ∧ ExcC K D ∧ xs = [.ref z, c] ∧ (∀ u, RelV c u → u = cv) ∧ PySem.W.kitOne K (.ref D) cv = some b ∧ Q (.bl b) H
theorem call_isD {X : Cx} {z : Addr} {cls : Value} {d : Option Addr} {oz : Obj} {pn : List (Addr × Obj)} (hz : Zc cls d oz) (hf : ∃ fv, oz.data = .fields fv) : CallR (X.suite z ((z, oz) :: pn)) (.builtin "isinstance") (rIsD X.K z cls d) := by
  intro pins s σ H xs us Q I r h
  obtain ⟨D, dd, fs, c, cv, b, rfl, rfl, ed, T, rfl, hcv, e, q⟩ := h
  obtain ⟨u1, u2, rfl, r1, r2⟩ : ∃ u1 u2, us = [u1, u2] ∧ RelV (.ref z) u1 ∧ RelV c u2 := by
    cases r with
    | cons r1 r =>
      cases r with
      | cons r2 r =>
        cases r
        exact ⟨_, _, rfl, r1, r2⟩
  obtain rfl : u1 = Value.ref z := r1
  obtain rfl := hcv _ r2
  obtain ⟨at1, _⟩ := I.pin (z, oz) (List.mem_append_left _ List.mem_cons_self)
  obtain ⟨fv, hd⟩ := hf
  have hx : ObjOk X.prog X.w H s.heap dd (.xd fs) := I.hok dd _ ed
  obtain ⟨mA, hns, hr⟩ := hx
  obtain ⟨od, ho, _⟩ := lookIn_ns hns
  have J : PySem.W.InstAt s.heap z oz D (some od) := ⟨at1, hz.1, by unfold PySem.W.notCls; rw [hd] <;> rfl, by rw [hz.2]; exact ho⟩
  have hcl : (PySem.W.clsIn X.K D).isSome = true := by
    obtain ⟨cd, hc, _⟩ := PySem.W.any_some T.hd
    rw [hc]
    rfl
  exact PySem.W.kia_one (PySem.W.kitx_exc hcl T.hg T.hk T.hs T.ha T.hn T.ht T.hm) I.kIn J e (fun w => nomatch w) fun tk => ⟨.bl b, H, I.kept (t' := tk) fun _ _ w => w, rfl, q⟩
end L2

set_option linter.all false
set_option maxRecDepth 100000
namespace My
open PySem
/-- small letters, names -/
def letter (c : Nat) : Bool := decide (97 ≤ c) && decide (c ≤ 122)
def nameB (s : Str) : Bool := decide (1 ≤ s.cps.size) && decide (s.cps.size ≤ 8) && s.cps.toList.all letter
/-- the pigeonhole -/
theorem len_le {α : Type} [DecidableEq α] : ∀ {l m : List α}, l.Nodup → (∀ x, x ∈ l → x ∈ m) → l.length ≤ m.length
  | [], m, _, _ => Nat.zero_le _
  | a :: l, m, nd, h => by
    rw [List.nodup_cons] at nd
    have h2 : ∀ x, x ∈ l → x ∈ m.erase a := fun x hx => (List.mem_erase_of_ne (fun (e : x = a) => nd.1 (e ▸ hx))).mpr (h x (List.mem_cons_of_mem _ hx))
    have := len_le nd.2 h2
    have hm := h a List.mem_cons_self
    have := List.length_erase_of_mem hm
    have := List.length_pos_of_mem hm
    rw [List.length_cons]
    omega
def spares : List Str := ["q", "qa", "qb", "qc", "qd", "qe", "qf", "qg", "qh", "qi", "qj", "qk", "ql", "qm", "qn", "qo"]
theorem spares_nodup : spares.Nodup := by decide +kernel
theorem spares_name : ∀ s, s ∈ spares → nameB s = true := by decide +kernel
/-- how far the search for a spare name has come: i spares were looked at -/
def Seek (found : List Str) (i : Nat) (x : Str) : Prop := nameB x = true ∧ (x ∉ found ∨ ((∀ j, j + 1 < i → ∀ s, spares[j]? = some s → s ∈ found) ∧ (∀ s, 0 < i → spares[i - 1]? = some s → x = s)))
theorem Seek.first {found : List Str} {x : Str} (h : nameB x = true) : Seek found 0 x := ⟨h, .inr ⟨fun j h => absurd h (by omega), fun s h => absurd h (by omega)⟩⟩
theorem Seek.keep {found : List Str} {i : Nat} {x : Str} (h : Seek found i x) (n : x ∉ found) : Seek found (i + 1) x := ⟨h.1, .inl n⟩
theorem Seek.next {found : List Str} {i : Nat} {x s : Str} (h : Seek found i x) (n : x ∈ found) (hs : spares[i]? = some s) : Seek found (i + 1) s := by
  refine ⟨spares_name s (List.mem_of_getElem? hs), .inr ⟨fun j hj t ht => ?_, fun t _ ht => ?_⟩⟩
  · rcases h.2 with h2 | ⟨h2, h3⟩
    · exact absurd n h2
    · by_cases e : j + 1 < i
      · exact h2 j e t ht
      · obtain rfl : i = j + 1 := by omega
        have := h3 t (by omega) (by simpa using ht)
        exact this ▸ n
  · have : i + 1 - 1 = i := by omega
    rw [this, hs] at ht
    exact Option.some.inj ht
theorem Seek.done {found : List Str} {x : Str} (h : Seek found 16 x) (hl : found.length < 15) : nameB x = true ∧ x ∉ found := by
  refine ⟨h.1, ?_⟩
  rcases h.2 with h2 | ⟨h2, _⟩
  · exact h2
  · exfalso
    have nd : (spares.take 15).Nodup := by decide +kernel
    have hle : (spares.take 15).length ≤ found.length := len_le nd fun s hs => by
      obtain ⟨j, hj⟩ := List.getElem?_of_mem hs
      have hj2 : j < 15 := by
        have := (List.getElem?_eq_some_iff.mp hj).1
        have e : (spares.take 15).length = 15 := by decide +kernel
        omega
      rw [List.getElem?_take, if_pos hj2] at hj
      exact h2 j (by omega) s hj
    have e : (spares.take 15).length = 15 := by decide +kernel
    omega
/-- pairs of words: near, far, laden -/
abbrev Pr := Str × Str × Bool
structure PairsOk (ps : List Pr) : Prop where
  many : ps.length ≤ 6
  nm : ∀ p, p ∈ ps → nameB p.1 = true ∧ nameB p.2.1 = true
  nears : (ps.map (·.1)).Nodup
  fars : (ps.map (·.2.1)).Nodup
theorem PairsOk.take {ps : List Pr} (h : PairsOk ps) (n : Nat) : PairsOk (ps.take n) := by
  refine ⟨by have := h.many; rw [List.length_take]; omega, fun p hp => h.nm p (List.mem_of_mem_take hp), ?_, ?_⟩
  · rw [List.map_take]; exact h.nears.sublist (List.take_sublist _ _)
  · rw [List.map_take]; exact h.fars.sublist (List.take_sublist _ _)
theorem rot_nodup {α : Type} {l : List α} (h : l.Nodup) : (l.drop 1 ++ l.take 1).Nodup := by
  have e : (l.drop 1 ++ l.take 1).Perm (l.take 1 ++ l.drop 1) := List.perm_append_comm
  rw [List.take_append_drop] at e
  exact e.nodup_iff.mpr h
theorem rot_len {α : Type} (l : List α) : (l.drop 1 ++ l.take 1).length = l.length := by
  rw [List.length_append, List.length_drop, List.length_take]
  omega
end My

set_option linter.all false
set_option maxRecDepth 100000
namespace My
open PySem
/-- a helper's pact -/
structure Hr where
  name : Str
  side : Int
  takes : List Str
  gives : Bool
  throws : List Str
deriving DecidableEq
def wd (i : Int) (p : Pr) : Str := if i = 0 then p.1 else p.2.1
def sideB (i : Int) : Bool := decide (i = 0 ∨ i = 1)
def takesB (ts : List Str) : Bool := decide (ts.length ≤ 3) && ts.all fun t => decide (t ∈ (["lent", "given"] : List Str))
def throwsB (ts : List Str) : Bool := decide (ts.length ≤ 4) && ts.all fun t => decide (ts.count t = 1)
def pactB (x : Hr) : Bool := nameB x.name && sideB x.side && takesB x.takes && throwsB x.throws
def fitsHB (x : Hr) (ps : List Pr) (hs : List Hr) : Bool :=
  !(decide ((hs.filter fun z => decide (z.side = x.side)).length = 4) || decide (x.name ∈ hs.map (·.name))) && x.throws.all fun t => decide (t ∈ ps.map (wd x.side))
structure CrewOk (ps : List Pr) (hs : List Hr) : Prop where
  one : ∀ x, x ∈ hs → pactB x = true ∧ ∀ t, t ∈ x.throws → t ∈ ps.map (wd x.side)
  names : (hs.map (·.name)).Nodup
  few : ∀ s : Int, (hs.filter fun z => decide (z.side = s)).length ≤ 4
theorem throws_count {ts : List Str} (nd : ts.Nodup) : ∀ t, t ∈ ts → ts.count t = 1 := fun t h => by
  rw [List.nodup_iff_count] at nd
  have h1 := nd t
  have h2 := List.count_pos_iff.mpr h
  omega
theorem throwsB_nodup {ts : List Str} (h : throwsB ts = true) : ts.length ≤ 4 ∧ ts.Nodup := by
  unfold throwsB at h
  simp only [Bool.and_eq_true, decide_eq_true_eq, List.all_eq_true] at h
  refine ⟨h.1, List.nodup_iff_count.mpr fun t => ?_⟩
  by_cases hm : t ∈ ts
  · have := h.2 t hm
    omega
  · rw [List.count_eq_zero.mpr hm]
    omega
theorem throwsB_of {ts : List Str} (hl : ts.length ≤ 4) (nd : ts.Nodup) : throwsB ts = true := by
  unfold throwsB
  simp only [Bool.and_eq_true, decide_eq_true_eq, List.all_eq_true]
  exact ⟨hl, fun t ht => throws_count nd t ht⟩
theorem nin_take {α β : Type} [DecidableEq β] {f : α → β} {xs : List α} {i : Nat} {q : α} (nd : (xs.map f).Nodup) (h : xs[i]? = some q) : f q ∉ (xs.take i).map f := by
  intro hc
  rw [← List.take_append_drop i (xs.map f), List.nodup_append] at nd
  have h2 : f q ∈ (xs.map f).drop i := by
    have : (xs.map f)[i]? = some (f q) := by rw [List.getElem?_map, h]; rfl
    exact List.mem_of_getElem? (i := 0) (by rw [List.getElem?_drop]; simpa using this)
  rw [List.map_take] at hc
  exact nd.2.2 _ hc _ h2 rfl
theorem CrewOk.next {ps : List Pr} {hs : List Hr} (ok : CrewOk ps hs) {i : Nat} {x : Hr} (h : hs[i]? = some x) : pactB x = true ∧ fitsHB x ps (hs.take i) = true := by
  have hm := List.mem_of_getElem? h
  refine ⟨(ok.one x hm).1, ?_⟩
  unfold fitsHB
  have h1 : ((hs.take i).filter fun z => decide (z.side = x.side)).length < 4 := by
    have hf := ok.few x.side
    have e : hs = hs.take i ++ (x :: hs.drop (i + 1)) := by
      have hl := (List.getElem?_eq_some_iff.mp h)
      obtain ⟨hl, e⟩ := hl
      rw [← e, List.getElem_cons_drop hl, List.take_append_drop]
    rw [e, List.filter_append, List.length_append, List.filter_cons, if_pos (by simp), List.length_cons] at hf
    omega
  have h2 : x.throws.all (fun t => decide (t ∈ ps.map (wd x.side))) = true := List.all_eq_true.mpr fun t ht => decide_eq_true ((ok.one x hm).2 t ht)
  rw [h2, decide_eq_false (by omega), decide_eq_false (nin_take ok.names h)]
  rfl
end My

set_option linter.all false
set_option maxRecDepth 100000
set_option maxHeartbeats 4000000
/-! a method called with values by place and by name -/
namespace L2
open PySem PySem.Spec PyProof.Rows
structure KwN (K : PySem.W.Frag) (fd : FuncData) (ps : List Str) (n : Nat) (ks : List Str) : Prop where
  to : ∀ (s : Shared) (us ws : List Value), K.In s.heap → us.length = n → ws.length = ks.length → BindsTo s fd ⟨us, ks.zip ws⟩ (ps.zip (us ++ ws))
  len : ps.length = n + ks.length
theorem kwn_mk {K : PySem.W.Frag} {x qual : Str} {st : Stmt} {f : Addr} {fd : FuncData} {ps ks : List Str} {n : Nat} (F : Fun K x qual st f fd) (hl : ps.length = n + ks.length)
    (h : ∀ (kV doc pm : Value) (an : Option Addr) (cdv ct : Value) (us ws : List Value), us.length = n → ws.length = ks.length → bindArgs (PySem.W.fnOf x qual (defArgs st) (defBody st) (defScope st) .none kV doc pm an cdv ct) ⟨us, ks.zip ws⟩ = pure (ps.zip (us ++ ws))) : KwN K fd ps n ks := by
  obtain ⟨_, _, kV, doc, pm, an, cdv, ct, _, rfl, _, _⟩ := F.ex
  exact ⟨fun s us ws _ hu hw => .of_eq (h kV doc pm an cdv ct us ws hu hw), hl⟩
section
variable {X : Cx} {CX : CXT} {k n : Nat} {f C : Addr} {fd : FuncData} {ps ks : List Str} {sp : Sp} {m : Str} {pos apos : Pos} {o e : Expr} {es : List Expr} {kws : List Keyword} {ta : TE} {t tk : TA}
theorem run_fnN2 {E : XK} {pins : List (Addr × Obj)} {σ : St} {H : Hp} {s : Shared} {Q : VK} {us ws : List Value} {vs zs : List V} (F : FnOk X.prog X.w X.K X.mg X.base CX k f fd ps sp) (hr : Room k X.A) (hb : KwN X.K fd ps n ks) (hx : PassesAt CX X σ E)
    (I : Inv X pins σ H s) (r : Vals vs us) (rz : Vals zs ws) (hn : vs.length = n) (h : sp (vs ++ zs) H Q E) : wpAny (model X.prog X.w) X.A (call (.ref f) us (ks.zip ws)) (EP X pins σ Q) X.xe s := by
  have r2 := r.append rz
  have hl : (vs ++ zs).length = ps.length := F.len _ _ _ _ h
  have l1 : us.length = n := by rw [← r.length]; exact hn
  have l2 : ws.length = ks.length := by
    have := hb.len
    rw [← rz.length]
    rw [List.length_append] at hl
    omega
  refine wpAny_call (codeAny_mono (F.run X.A X.stack s H ⟨us, ks.zip ws⟩ (us ++ ws) (vs ++ zs) Q E hr I.env0 (hb.to s us ws I.kIn l1 l2) r2 h) fun r s' hq => ?_)
  cases r with
  | error e => exact hx pins H s e s' I hq
  | ok fl =>
    cases fl with
    | ret u => exact I.after hq
    | next => exact False.elim hq
    | brk => exact False.elim hq
    | cont => exact False.elim hq
def tMethNAt (C : Addr) (m : Str) (n : Nat) (sp : Sp) (E : St → XK) (ta : TE) (t tk : TA) : TE := fun σ H Q => ta σ H fun x H1 => ∃ a dx fs, x = .ref a ∧ H1 a = some (.ins C dx fs) ∧ fs.lookup m = none ∧
  t σ H1 fun vs H2 => tk σ H2 fun zs H3 => vs.length + 1 = n ∧ sp (x :: (vs ++ zs)) H3 Q (E σ)
theorem pe_methNAt {E : St → XK} {pl : Sem Bool} (ho : PE X o ta) (c : Cls X.K C) (hm : Meth X.K C m f) (F : FnOk X.prog X.w X.K X.mg X.base CX k f fd ps sp) (hr : Room k X.A) (hb : KwN X.K fd ps n ks) (hx : ∀ σ, PassesAt CX X σ (E σ)) (ha : PA X (e :: es) t) (hkw : PK X kws tk)
    (hall : (backToKw pos (keywordEach kws X.env)).all (·.1.isSome) = true := by rfl) (hks : (backToKw pos (keywordEach kws X.env)).filterMap (·.1) = ks := by rfl)
    (h1 : starEach (e :: es) X.env = (false, eval e X.env) :: starEach es X.env := by rfl)
    (hpl : ((backTo pos (starEach (e :: es) X.env)).any (·.1) || (backToKw pos (keywordEach kws X.env)).any (·.1.isNone)) = false := by rfl)
    (h3 : eval (.Call (.Attribute o m apos) (e :: es) kws pos) X.env = (do
      let v0 ← eval o X.env
      standAt apos.atName
      let (g, first) ← holding [v0] (getMethod v0 m pl)
      callWith pos g first (backTo pos (starEach (e :: es) X.env)) (backToKw pos (keywordEach kws X.env))) := by rfl) :
    PE X (.Call (.Attribute o m apos) (e :: es) kws pos) (tMethNAt C m n sp E ta t tk) := by
  constructor
  intro pins s σ H Q I h
  refine PySem.W.methodCall_KW (pl := pl) (thn (ho.run pins s σ H _ I h) fun u s1 ⟨x, H1, I1, rx, a, dx, fs, ex, ea, l, q⟩ => ?_) h3
  subst ex
  obtain rfl : u = Value.ref a := rx
  refine getmeth_ok I1 ea c hm l (PySem.W.callWith_KW (h₀ := X.base) (first := [.ref a]) I.ok.mod.kin hm.kp hall (thn (ha.run pos pins s1 σ H1 _ I1 q) fun us s2 ⟨vs, H2, I2, r, q2⟩ => ?_) hpl h1)
  refine thn (hkw.run pos pins s2 σ H2 _ I2 q2) fun ws s3 ⟨zs, H3, I3, rz, hn, q3⟩ => ⟨I3.kIn, ?_⟩
  rw [hks]
  exact run_fnN2 (vs := .ref a :: vs) (us := .ref a :: us) F hr hb (hx σ) I3 (.cons rfl r) rz hn q3
def tMethN (C : Addr) (m : Str) (n : Nat) (sp : Sp) (E : XK) (ta : TE) (t tk : TA) : TE := tMethNAt C m n sp (fun _ => E) ta t tk
theorem pe_methN {E : XK} {pl : Sem Bool} (ho : PE X o ta) (c : Cls X.K C) (hm : Meth X.K C m f) (F : FnOk X.prog X.w X.K X.mg X.base CX k f fd ps sp) (hr : Room k X.A) (hb : KwN X.K fd ps n ks) (hx : Passes CX X E) (ha : PA X (e :: es) t) (hkw : PK X kws tk)
    (hall : (backToKw pos (keywordEach kws X.env)).all (·.1.isSome) = true := by rfl) (hks : (backToKw pos (keywordEach kws X.env)).filterMap (·.1) = ks := by rfl)
    (h1 : starEach (e :: es) X.env = (false, eval e X.env) :: starEach es X.env := by rfl)
    (hpl : ((backTo pos (starEach (e :: es) X.env)).any (·.1) || (backToKw pos (keywordEach kws X.env)).any (·.1.isNone)) = false := by rfl)
    (h3 : eval (.Call (.Attribute o m apos) (e :: es) kws pos) X.env = (do
      let v0 ← eval o X.env
      standAt apos.atName
      let (g, first) ← holding [v0] (getMethod v0 m pl)
      callWith pos g first (backTo pos (starEach (e :: es) X.env)) (backToKw pos (keywordEach kws X.env))) := by rfl) :
    PE X (.Call (.Attribute o m apos) (e :: es) kws pos) (tMethN C m n sp E ta t tk) :=
  pe_methNAt (pl := pl) ho c hm F hr hb (fun σ pins H s e s' I q => hx pins σ H s e s' I q) ha hkw hall hks h1 hpl h3
end
end L2

set_option linter.all false
set_option maxRecDepth 100000
set_option maxHeartbeats 4000000
/-! tuple.count of texts -/
namespace L2
open PySem PySem.Spec PyProof.Rows
theorem countP_eqU {x : V} : ∀ {xs : List V} {us : List Value}, Vals xs us → xs.all flatV = true → us.countP (eqU x) = xs.countP fun y => eqV y x
  | _, _, .nil, _ => rfl
  | y :: xs, u :: us, .cons r t, f => by
    rw [List.all_cons, Bool.and_eq_true] at f
    rw [List.countP_cons, List.countP_cons, eqU_of r f.1, countP_eqU t f.2]
theorem countP_str (z : Str) : ∀ ys : List Str, ((ys.map V.str).countP fun y => eqV y (.str z)) = ys.count z
  | [] => rfl
  | y :: ys => by
    rw [List.map_cons, List.countP_cons, List.count_cons, countP_str z ys]
    rfl
theorem flats (l : List Str) : (l.map V.str).all flatV = true := List.all_eq_true.mpr fun v hv => by
  obtain ⟨s, _, rfl⟩ := List.mem_map.mp hv
  rfl
def rCntS (K : PySem.W.Frag) : V → List V → Hp → VK → Prop := fun x xs H Q => ∃ (p : Addr) (ys : List Str) (z : Str), x = .ref p ∧ xs = [.str z] ∧ SqT K H p (ys.map V.str) ∧ Q (.int (ys.count z : Nat)) H
theorem mt_tcount {X : Cx} : MtR X "tuple.count" (rCntS X.K) := by
  intro pins s σ H x xs v us Q I rx rxs h
  obtain ⟨p, ys, z, rfl, rfl, hq, q⟩ := h
  cases rx
  obtain ⟨u, rfl, ru⟩ := rxs.one
  obtain ⟨t, rfl⟩ := ru
  obtain ⟨its, r, pl, hz⟩ := I.tuple hq
  obtain ⟨⟨cls, dd, dt, sl⟩, ho, hc, n, hd⟩ := pl
  simp only at hc hd
  subst hc
  subst hd
  refine call_meets PySem.F.slot_tuple_count ⟨_, ho, rfl⟩ PySem.F.entry_tuple_count (PySem.F.args_tuple_count_2 _ _) (SeqAt.tuple_countAt p its.toArray n dd sl (.str z t) (eqU (.str z)))
    ⟨ho, fun w hw => mem_eqAt (x := .str z) ⟨t, rfl⟩ rfl r (flats ys) w (by simpa using hw), .int (ys.count z : Nat), H, I.tok _, ⟨s.toks, ?_⟩, q⟩
  show Value.int ((its.toArray.toList.countP (eqU (.str z)) : Nat) : Int) s.toks = Value.int ((ys.count z : Nat) : Int) s.toks
  have e : its.toArray.toList.countP (eqU (.str z)) = ys.count z := by
    rw [← countP_str]
    simpa using countP_eqU r (flats ys)
  rw [e]
end L2

set_option linter.all false
set_option maxRecDepth 100000
set_option maxHeartbeats 4000000
/-! tuples of which it is known that they have no dict of their own: held as locked objects -/
namespace L2
open PySem PySem.Spec PyProof.Rows
def TupF (H : Hp) (a : Addr) (xs : List V) : Prop := ∃ o : Obj, o.dict = none ∧ H a = some (.frz o (.tup xs))
theorem TupF.seq {K : PySem.W.Frag} {H : Hp} {a : Addr} {xs : List V} (h : TupF H a xs) : SqT K H a xs := let ⟨o, _, e⟩ := h; .inl (.inr ⟨o, e⟩)
section
variable {X : Cx} {es : List Expr} {e o : Expr} {t : TA} {to : TE} {pos apos cpos : Pos} {T id : String} {name : Str} {r : V → List V → Hp → VK → Prop}
/-- (a, ..), a new tuple, locked -/
def tTupF (t : TA) : TE := fun σ H Q => t σ H fun xs H1 => xs.length ≤ sizeLine ∧ ∀ (p : Addr) (ob : Obj), H1 p = none → ob.dict = none → Q (.ref p) (upd H1 p (.frz ob (.tup xs)))
theorem pe_tupF {x1} (h : PA X es t) : PE X (.Tuple es x1 pos) (tTupF t) := by
  constructor
  intro pins s σ H Q I hq
  refine wpAny_Tuple_spliced (thn (h.run pos pins s σ H _ I hq) fun us s1 ⟨xs, H1, I1, r, z, q⟩ => ⟨by rw [← r.length]; exact z, ?_⟩)
  refine ⟨.ref s1.heap.objs.size, _, I1.laid (t' := s1.toks) (o := .frz { cls := .type "tuple", data := .seq us.toArray } (.tup xs)) (fun b u e => Heap.get?_push_of_some _ e) (Nat.le_refl _) ?_, rfl, q _ _ (I1.hok.fresh (Nat.le_refl _)) rfl⟩
  exact ⟨Heap.get?_push_size _ rfl, z, us, r, ⟨_, Heap.get?_push_size _ rfl, rfl, _, rfl⟩⟩
/-- tuple(xs), xs a list: a new tuple, locked -/
def rTupF (K : PySem.W.Frag) : List V → Hp → VK → Prop := fun vs H Q => ∃ (p : Addr) (ys : List V), vs = [.ref p] ∧ SqL K H p ys ∧ ∀ (l : Addr) (ob : Obj), H l = none → ob.dict = none → Q (.ref l) (upd H l (.frz ob (.tup ys)))
theorem call_tupleF : CallR X (.type "tuple") (rTupF X.K) := by
  intro pins s σ H vs us Q I r h
  obtain ⟨p, ys, rfl, hq, q⟩ := h
  obtain ⟨u, rfl, rx⟩ := r.one
  cases rx
  obtain ⟨its, r', pl, hz⟩ := I.list hq
  have hn : its.length = ys.length := r'.length.symm
  refine call_tuple_list pl.isList (fun h' kp => ?_) (by rw [List.size_toArray, hn]; exact hz)
  have J := I.kept (t' := s.toks) kp
  have J2 : Inv X pins σ (upd H h'.objs.size (.frz { cls := .type "tuple", data := .seq its.toArray } (.tup ys))) { s with heap := h'.push { cls := .type "tuple", data := .seq its.toArray } } :=
    J.laid (t' := s.toks) (fun b u e => Heap.get?_push_of_some _ e) (Nat.le_refl _) ⟨Heap.get?_push_size _ rfl, hz, its, r', IsTup.new _ _⟩
  exact ⟨.ref h'.objs.size, _, J2, rfl, q _ _ (J.hok.fresh (Nat.le_refl _)) rfl⟩
/-- t.m(x, ..), t a locked tuple -/
def tBMF (r : V → List V → Hp → VK → Prop) (to : TE) (t : TA) : TE := fun σ H Q => to σ H fun x H1 => (∃ p xs, x = .ref p ∧ TupF H1 p xs) ∧ t σ H1 fun vs H2 => r x vs H2 Q
theorem pe_bmF (pa : PlainAttrs "tuple") (slot : Slot "tuple" name id) (hty : typeOf (.builtin id) = pure (.type "method_descriptor")) (hm : MtR X id r) (ho : PE X o to) (ha : PA X (e :: es) t)
    (b1 : attributeBase o name X.env (eval o X.env) = eval o X.env := by rfl)
    (b2 : ((backTo cpos (starEach (e :: es) X.env)).all (fun x => !x.1) && (backToKw cpos (keywordEach [] X.env)).all (fun x => x.1.isSome)
      && decide ((e :: es).length + ([] : List Keyword).length + (if ([] : List Keyword).isEmpty then 0 else 1) < 30)) = true := by rfl)
    (b3 : (apos.endLine == cpos.line) = true := by rfl) (b4 : starEach (e :: es) X.env = (false, eval e X.env) :: starEach es X.env := by rfl) (b5 : (backTo cpos (starEach es X.env)).any (·.1) = false := by rfl) :
    PE X (.Call (.Attribute o name apos) (e :: es) [] cpos) (tBMF r to t) := by
  constructor
  intro pins s σ H Q I h
  refine wpAny_Call_method_late b1 b2 b3 rfl (thn (ho.run pins s σ H _ I h) fun v s1 ⟨x, H1, I1, r1, ⟨p, xs, ex, ob, hd, hp⟩, q1⟩ => ?_)
  subst ex
  cases r1
  obtain ⟨g1, _, its, rv, ot, g2, hc, _⟩ := I1.hok p _ hp
  have eo : ob = ot := Option.some.inj (g1.symm.trans g2)
  refine ⟨"tuple", id, pa, slot, hty, ⟨ob, g1, eo ▸ hc⟩, fun b eb => ?_, ?_⟩
  · cases eb
    exact ⟨ob, g1, hd⟩
  have hA := ha.run cpos pins s1 σ H1 _ I1 q1
  rw [b4] at hA ⊢
  refine Calls.callWith_builtin (by show (false || (backTo cpos (starEach es X.env)).any (·.1)) = false; rw [b5] <;> rfl) (Calls.evalArgs_plain ?_)
  exact thn hA fun us s2 ⟨vs, H2, I2, r2, q2⟩ => hm pins s2 σ H2 (.ref p) vs _ us Q I2 rfl r2 q2
end
end L2
namespace L2
open PySem PySem.Spec PyProof.Rows
section
variable {X : Cx}
/-- t + u, both locked: a locked one -/
def rCatF : R2 := fun x y H Q => ∃ a b xs ys, x = .ref a ∧ y = .ref b ∧ TupF H a xs ∧ TupF H b ys ∧ xs.length + ys.length ≤ sizeLine ∧ ∀ (p : Addr) (H' : Hp), Same H H' → TupF H' p (xs ++ ys) → Q (.ref p) H'
theorem op_catF : OpR X (binaryOp .Add) rCatF := by
  intro pins s σ H x y v u Q I rx ry h
  obtain ⟨a, b, xs, ys, rfl, rfl, ha, hb, hz, q⟩ := h
  cases rx
  cases ry
  obtain ⟨its, r1, p1, _⟩ := I.tuple ha.seq
  obtain ⟨its2, r2, p2, _⟩ := I.tuple hb.seq
  by_cases hx : xs = []
  · subst hx
    cases r1
    exact cat_tup0 p1 p2 ⟨.ref b, H, I, rfl, q b H (Same.refl H) hb⟩
  · refine HT.cat_tup p1 p2 (fun z => hx (r1.nil_iff.mp z)) (fun z => ⟨.ref a, H, I, rfl, q a H (Same.refl H) ?_⟩) (fun z => ?_) (by rw [← r1.length, ← r2.length]; exact hz)
    · rw [r2.nil_iff.mp z, List.append_nil]
      exact ha
    · have hn := I.hok.fresh (H := H) (Nat.le_refl s.heap.objs.size)
      refine ⟨.ref s.heap.objs.size, _, I.laid (t' := s.toks) (o := .frz { cls := .type "tuple", data := .seq (its ++ its2).toArray } (.tup (xs ++ ys))) (fun b ob q => Heap.get?_push_of_some _ q) (Nat.le_refl _) ?_, rfl, q _ _ ((Same.refl H).upd hn) ⟨_, rfl, upd_same⟩⟩
      exact ⟨Heap.get?_push_size _ rfl, by rw [List.length_append]; exact hz, _, r1.append r2, IsTup.new _ _⟩
/-- t[lo:hi], t locked: a locked one -/
def rSlF : V → Option Int → Option Int → Hp → VK → Prop := fun x lo hi H Q => ∃ a xs, x = .ref a ∧ TupF H a xs ∧ ∀ (p : Addr) (H' : Hp), Same H H' → TupF H' p (cutV xs lo hi) → Q (.ref p) H'
theorem sl_tupF : SlR X rSlF := by
  intro pins s σ H x v vl vu lo hi sl Q I rx hs pl pu h
  obtain ⟨a, xs, rfl, hx, q⟩ := h
  cases rx
  obtain ⟨its, r, ht, hz⟩ := I.tuple hx.seq
  have hlen : its.toArray.size = xs.length := by rw [List.size_toArray]; exact r.length.symm
  by_cases hw : HT.sIx xs.length 0 lo = 0 ∧ HT.sIx xs.length xs.length hi = xs.length
  · refine ⟨"tuple", _, PyProof.Rows.slot_tuple_getitem.lookup, ht.typeIs, ?_⟩
    refine getItem_tuple_whole ht hs pl pu (by rw [hlen]; exact hw) ⟨.ref a, H, I, rfl, q a H (Same.refl H) ?_⟩
    have e : cutV xs lo hi = xs := by
      unfold cutV
      rw [hw.1, hw.2, List.drop_zero, Nat.sub_zero, List.take_length]
    rw [e]
    exact hx
  · refine ⟨"tuple", _, PyProof.Rows.slot_tuple_getitem.lookup, ht.typeIs, ?_⟩
    refine HT.getItem_tuple_cut ht hs pl pu (by rw [hlen]; exact hw) ?_ (by rw [hlen]; exact hz)
    rw [hlen]
    have hn := I.hok.fresh (H := H) (Nat.le_refl s.heap.objs.size)
    refine ⟨.ref s.heap.objs.size, _, I.laid (t' := s.toks) (o := .frz { cls := .type "tuple", data := .seq ((its.drop (HT.sIx xs.length 0 lo)).take (HT.sIx xs.length xs.length hi - HT.sIx xs.length 0 lo)).toArray } (.tup (cutV xs lo hi))) (fun b ob q => Heap.get?_push_of_some _ q) (Nat.le_refl _) ?_, rfl, q _ _ ((Same.refl H).upd hn) ⟨_, rfl, upd_same⟩⟩
    exact ⟨Heap.get?_push_size _ rfl, Nat.le_trans (cutV_length xs lo hi) hz, _, (r.drop (HT.sIx xs.length 0 lo)).take (HT.sIx xs.length xs.length hi - HT.sIx xs.length 0 lo), IsTup.new _ _⟩
end
end L2

set_option linter.all false
set_option maxRecDepth 100000
set_option maxHeartbeats 4000000
/-! enumerate(tuple) -/
namespace L2
open PySem PySem.Spec PyProof.Rows
open Sem (wp)
theorem et_meets {v : Value} {o : Obj} {H : Heap → Prop} (B : Begins v o H) :
    Meets (Builtin.«enumerate.__new__» ⟨[.type "enumerate", v], []⟩) (fun _ R s => H s.heap ∧
      R (.ok (.ret (.ref (s.heap.push o).objs.size))) { s with heap := (s.heap.push o).push { cls := .type "enumerate", data := .fields #[.none, .bool false, .ref s.heap.objs.size, rawInt 0, .none, .none] } }) := by
  refine .of_wp fun prog w A R s h => ?_
  obtain ⟨hp, gl, dd, tk, os⟩ := s
  obtain ⟨h1, h⟩ := h
  have hsub := sub_enumerate
  have q1 : ∀ {A' : Around} {E : Value → Shared → Prop} {Q : Value → Shared → Prop}, Q (.ref hp.objs.size) ⟨hp.push o, gl, dd, tk, os⟩ → wpAny (model prog w) A' (pyIter v) Q E ⟨hp, gl, dd, tk, os⟩ := fun q => B.iter prog w _ _ ⟨hp, gl, dd, tk, os⟩ _ h1 q
  wp_walk using q1
  refine wpAny_stack_any fun st => wpAny_pure ?_
  split
  · rename_i c _ _ _ _ _
    cases (c == Value.type "enumerate") <;> (wp_walk using q1; exact ⟨_, rfl, h⟩)
  · wp_walk using q1
    exact ⟨_, rfl, h⟩
theorem et_call {prog : Program} {w : World} {A : Around} {E : Value → Shared → Prop} {s : Shared} {t : Addr} {its : Array Value} {Q : Value → Shared → Prop} (ht : s.heap.IsTuple t its)
    (h : ∀ h', IsEnum h' (s.heap.objs.size + 1) s.heap.objs.size 0 .none → h'.IsTupleIter s.heap.objs.size t 0 → h'.objs.size = s.heap.objs.size + 2 →
      (∀ b o, s.heap.get? b = some o → h'.get? b = some o) → Q (.ref (s.heap.objs.size + 1)) { s with heap := h' }) :
    wpAny (model prog w) A (call (.type "enumerate") [.ref t]) Q E s := by
  refine callType_new F.called_enumerate (by decide) (F.typeCall_enumerate_1 _) (F.newCall_enumerate_1 _) (fun obj => F.args_object_init_2 obj _) F.entry_enumerate_new (et_meets (begins_tuple t its)) ⟨ht, ?_⟩
  have hz : (s.heap.push { cls := .type "tuple_iterator", data := .fields #[.ref t, .int 0 0] }).objs.size = s.heap.objs.size + 1 := Heap.size_push ..
  show _ ∧ _
  rw [hz]
  have he := Heap.get?_push_size (s.heap.push { cls := .type "tuple_iterator", data := .fields #[.ref t, .int 0 0] }) (o := { cls := .type "enumerate", data := .fields #[.none, .bool false, .ref s.heap.objs.size, rawInt 0, .none, .none] }) rfl
  rw [hz] at he
  exact ⟨⟨_, he, rfl⟩, h _ he ⟨_, Heap.get?_push_of_some _ (Heap.get?_push_size _ rfl), rfl, rfl⟩ (by rw [Heap.size_push, hz]) fun b o x => Heap.get?_push_of_some _ (Heap.get?_push_of_some _ x)⟩
/-- the tuple at a, each part in a new pair -/
def IteT (K : PySem.W.Frag) (a : Addr) : It where
  go i H := ∃ (xs : List V) (x : V), SqT K H a xs ∧ xs[i]? = some x
  yld i H v H' := ∃ T x, v = .ref T ∧ H T = none ∧ H' = upd H T (.tup [.int (i : Nat), x]) ∧ ∀ xs, SqT K H a xs → xs[i]? = some x
  stop i H := ∃ xs : List V, SqT K H a xs ∧ xs.length ≤ i
theorem turn_enumT {P : Program} {w : World} {K : PySem.W.Frag} {elts : List Expr} {kk : Nat} {tpos : Pos} (a e it : Addr) :
    Turn P w K (.Tuple elts kk tpos) (IteT K a) [e, it] e (fun i h => (∃ old, IsEnum h e it ((i : Nat) : Int) old) ∧ h.IsTupleIter it a i ∧ e ≠ it ∧ a ≠ it ∧ a ≠ e) where
  mem := List.mem_cons_self
  obj := fun i h st b hb => by
    obtain ⟨⟨old, he⟩, ⟨o, ho, hc, hd⟩, _⟩ := st
    have e' : b = e ∨ b = it := by simpa using hb
    rcases e' with rfl | rfl
    · exact ⟨_, he, fun v q => nomatch q⟩
    · exact ⟨o, ho, fun v q => by rw [hd] at q; cases q⟩
  keep := fun i h h' st k => let ⟨⟨old, he⟩, hi, hne⟩ := st; ⟨⟨old, k e (by simp) _ he⟩, hi.at fun o q => k it (by simp) o q, hne⟩
  item := by
    intro X hP hw hK hc i pins s σ H E I hf st hg
    subst hP hw hK
    obtain ⟨⟨old, he⟩, hit, hne, n1, n2⟩ := st
    obtain ⟨xs, x, hq, hx⟩ := hg
    obtain ⟨its, rv, p, hz⟩ := I.tuple hq
    obtain ⟨u, hu, ru⟩ := rv.get hx
    have hel : e < s.heap.objs.size := Heap.lt_size he
    have hil : it < s.heap.objs.size := by obtain ⟨_, q, _⟩ := hit; exact Heap.lt_size q
    have hlt : i < its.toArray.size := by
      have := (List.getElem?_eq_some_iff.mp hu).1
      simpa using this
    refine wpAny_pyNext_enum_itemD (Draws.tuple (A := X.A.in1) (show X.A.in1.handled = none from I.ok.hd hc) it a n1 its.toArray) he ⟨hit, p⟩ hlt hne (by simp [hne, n2.symm]) fun y h' tk hy ho st' hT hsz hk => ?_
    obtain rfl : y = u := by
      have h2 : its.toArray[i]? = some u := by simpa using hu
      have h3 : its.toArray[i]? = some y := hy
      rw [h2] at h3
      exact (Option.some.inj h3).symm
    refine ⟨_, rfl, wpAny_letOwnedTupleGo_enum (s := { s with heap := h', toks := tk + 1 }) ho fun h'' he' sb => ?_⟩
    have hT2 : h''.get? s.heap.objs.size = some { cls := .type "tuple", data := .seq #[.int i tk, y] } := (sb.2 _ (Nat.ne_of_gt hel)).trans hT
    have new : ObjOk X.prog X.w (upd H s.heap.objs.size (.tup [.int (i : Nat), x])) h'' s.heap.objs.size (.tup [.int (i : Nat), x]) :=
      ⟨by show 2 ≤ sizeLine; decide, [.int i tk, y], .cons ⟨_, rfl⟩ (.cons ru .nil), ⟨_, hT2, rfl, _, rfl⟩⟩
    have I1 : Inv X pins σ (upd H s.heap.objs.size (.tup [.int (i : Nat), x])) { s with heap := h'', toks := tk + 1 } :=
      I.turnedNew (ch := [e, it]) (fun b ob hb q => (sb.2 b (fun z => hb (by simp [z]))).trans (hk b ob (fun z => hb (by simp [z])) (fun z => hb (by simp [z])) q)) hf (Nat.le_refl _) new
    refine ⟨.ref s.heap.objs.size, _, I1, rfl, ⟨_, x, rfl, I.hok.fresh (Nat.le_refl _), rfl, fun ys hq2 => ?_⟩, ⟨⟨y, ?_⟩, st'.1.at fun o q => (sb.2 it (Ne.symm hne)).trans q, hne, n1, n2⟩, fun b hb => ?_⟩
    · rw [I.tuple_inj hq2 hq]; exact hx
    · have e1 : ((i + 1 : Nat) : Int) = (i : Int) + 1 := by omega
      rw [e1]; exact he'
    · have hb' : b < s.heap.objs.size := by
        have e' : b = e ∨ b = it := by simpa using hb
        rcases e' with z | z
        · rw [z]; exact hel
        · rw [z]; exact hil
      rw [upd_ne (Nat.ne_of_lt hb')]
      exact (hf b hb).1
  done := by
    intro X hP hw hK hc i pins s σ H E I hf st hg
    subst hP hw hK
    obtain ⟨⟨old, he⟩, hit, hne, n1, n2⟩ := st
    obtain ⟨xs, hq, hx⟩ := hg
    obtain ⟨its, rv, p, hz⟩ := I.tuple hq
    obtain ⟨f0, f1, f2, f3, f4, f5⟩ := hf it (by simp)
    have hl := rv.length
    have hT : s.TypeIs (.ref e) "enumerate" := ⟨_, he, rfl⟩
    unfold pyNext
    refine wpAny_bind (wpAny_attempt (wpAny_callSpecial?_slot (name := Str.ofString "__next__") hT F.slot_enumerate_next
      (wpAny_call_entry F.slot_enumerate_next hT F.entry_enumerate_next ?_ (F.args_enumerate_next_1 _))))
    show wpAny _ _ (field (.ref e) 2 >>= _) _ _ _
    refine wpAny_bind (wpAny_field he rfl (x := .ref it) rfl ?_)
    refine wpAny_bind (wpAny_nextOf_tuple_end (A := X.A.in1) (show X.A.in1.handled = none from I.ok.hd hc) hit p (by simp; omega) fun h' x he' hx' => ?_)
    obtain ⟨o, ho, hc2⟩ := hx'
    refine wpAny_bind (wpAny_isInstance (T := "StopIteration") (b := true) ⟨o, ho, hc2⟩ isSubtype_stop ?_)
    exact wpAny_pure ⟨rfl, I.turned (t' := s.toks) (fun b ob hb e => he' b ob hb e) f0 f1 f3 f4 f5⟩
  self := fun A i s Q E st h => let ⟨⟨_, he⟩, _⟩ := st; wpAny_pyIter_enum he h
def iEnumT (K : PySem.W.Frag) (ta : TA) : TI := fun σ H R => ta σ H fun vs H1 => ∃ a xs, vs = [.ref a] ∧ SqT K H1 a xs ∧ R (IteT K a) H1
theorem pi_enumT {X : Cx} {e : Expr} {ta : TA} {p pos tpos : Pos} {elts : List Expr} {kk : Nat} (hg : Gl X "enumerate") (hm : X.mg "enumerate" = none) (ha : PA X [e] ta) (hs : starEach [e] X.env = [(false, eval e X.env)] := by rfl) :
    PI X (.Tuple elts kk tpos) (.Call (.Name "enumerate" p) [e] [] pos) (iEnumT X.K ta) := by
  refine ⟨fun pins s σ H R I h => Call_ (ld_blt I hg hm boot_enumerate (PyProof.Rows.callWith_type1 (thn (ha.run pos pins s σ H _ I h) fun us s1 ⟨vs, H1, I1, r1, q1⟩ => ?_) hs rfl))⟩
  obtain ⟨a, xs, rfl, hq, q⟩ := q1
  obtain ⟨u, rfl, r⟩ := r1.one
  cases r
  obtain ⟨its, rv, p', hz⟩ := I1.tuple hq
  have hal : a < s1.heap.objs.size := by obtain ⟨o, ho, _⟩ := p'; exact Heap.lt_size ho
  refine et_call p' fun h' he hit hsz hk => wpAny_pyIter_enum he ?_
  have I2 : Inv X pins σ H1 { s1 with heap := h' } := I1.kept (t' := s1.toks) hk
  refine ⟨s1.heap.objs.size + 1, [s1.heap.objs.size + 1, s1.heap.objs.size], _, _, H1, rfl, I2, turn_enumT a (s1.heap.objs.size + 1) s1.heap.objs.size, ⟨⟨.none, he⟩, hit, Nat.succ_ne_self _, Nat.ne_of_lt hal, Nat.ne_of_lt (Nat.lt_succ_of_lt hal)⟩, fun b hb => ?_, q⟩
  have e' : b = s1.heap.objs.size + 1 ∨ b = s1.heap.objs.size := by simpa using hb
  have hle : s1.heap.objs.size ≤ b := by
    rcases e' with z | z
    · rw [z]; exact Nat.le_add_right _ _
    · rw [z]; exact Nat.le_refl _
  exact I1.fpOk hle (I1.hok.fresh hle)
end L2
namespace L2
open PySem PySem.Spec PyProof.Rows
theorem walk_enumT {K : PySem.W.Frag} {a : Addr} {xs : List V} : Walk (IteT K a) xs.length (fun H => SqT K H a xs) (YPair (fun i => some (.int (i : Nat))) (fun i => xs[i]?)) := by
  refine ⟨fun i _ hi q => ⟨xs, xs[i], q, List.getElem?_eq_getElem hi⟩, fun _ q => ⟨xs, q, Nat.le_refl _⟩, fun i H v H' _ q y => ?_⟩
  obtain ⟨T, x, h1, h2, h3, h4⟩ := y
  exact ⟨T, .int (i : Nat), x, h1, h2, h3, rfl, h4 xs q⟩
end L2

set_option linter.all false
set_option maxRecDepth 100000
set_option maxHeartbeats 4000000
/-! an instance made where its __init__ may refuse and the body around takes the refusal -/
namespace L2
open PySem PySem.Spec PyProof.Rows
def tMakeAt (C : Addr) (sp : Sp) (E : St → XK) (t : TA) : TE := fun σ H Q => t σ H fun vs H1 => ∀ x dx, H1 x = none → H1 dx = none → dx ≠ x →
  sp (.ref x :: vs) (upd (upd H1 dx (.own x)) x (.ins C dx [])) (fun v H2 => v = .non ∧ Q (.ref x) H2) (E σ)
section
variable {X : Cx} {CX : CXT} {k : Nat} {f C : Addr} {fd : FuncData} {ps : List Str} {sp : Sp} {E : St → XK} {x : Str} {p pos : Pos} {e : Expr} {es : List Expr} {t : TA}
theorem pe_makeAt (M : Mk X.K C f) (F : FnOk X.prog X.w X.K X.mg X.base CX k f fd ps sp) (hr : Room (k + 1) X.A) (hg : Gl X x) (hm : X.mg x = some (.ref C)) (hb : Binds X.K fd ps []) (hx : ∀ σ, PassesAt CX X σ (E σ))
    (ha : PA X (e :: es) t) (hdb : (x == ("__debug__" : Str)) = false := by decide) (he : starEach (e :: es) X.env = (false, eval e X.env) :: starEach es X.env := by rfl) (hpl : (backTo pos (starEach es X.env)).any (·.1) = false := by rfl) :
    PE X (.Call (.Name x p) (e :: es) [] pos) (tMakeAt C sp E t) := by
  refine ⟨fun pins s σ H Q I h => wpAny_Call_Name_kw (ld_glob I hg hm ?_ hdb)⟩
  refine PySem.W.callWith_K (h₀ := X.base) I.ok.mod.kin M.kp (thn (ha.run pos pins s σ H _ I h) fun us s1 ⟨vs, H1, I1, r, q⟩ => ⟨I1.kIn, ?_⟩) he hpl
  have hq := q (s1.heap.objs.size + 1) s1.heap.objs.size (I1.hok.fresh (Nat.le_succ _)) (I1.hok.fresh (Nat.le_refl _)) (Nat.ne_of_lt (Nat.lt_succ_self _))
  have I2 := Inv.made (C := C) I1
  have r2 : Vals (V.ref (s1.heap.objs.size + 1) :: vs) (Value.ref (s1.heap.objs.size + 1) :: us) := .cons rfl r
  have hl : (Value.ref (s1.heap.objs.size + 1) :: us).length = ps.length := by
    rw [← r2.length]
    exact F.len _ _ _ _ hq
  have b := hb _ (Value.ref (s1.heap.objs.size + 1) :: us) I2.kIn (by rw [List.append_nil]; exact hl)
  rw [List.append_nil] at b
  refine wpAny_call (make_map (f := f) I1.kIn M.makes M.init (beq_iff_eq.mp M.fn) (codeAny_mono (F.run _ X.stack _ _ ⟨Value.ref (s1.heap.objs.size + 1) :: us, []⟩ _ _ _ (E σ) (hr.make C us []) (I2.env0.make C us []) b r2 hq) fun r s' hq' => ?_))
  cases r with
  | error e => exact hx σ pins _ _ e s' I2 hq'
  | ok fl =>
    cases fl with
    | ret u =>
      obtain ⟨v, H', I3, rv, ev, q3⟩ := I2.after hq'
      subst ev
      exact ⟨rv, ⟨V.ref (s1.heap.objs.size + 1), H', I3, rfl, q3⟩⟩
    | next => exact False.elim hq'
    | brk => exact False.elim hq'
    | cont => exact False.elim hq'
end
end L2

set_option Elab.async false
set_option linter.all false
set_option maxRecDepth 100000
set_option maxHeartbeats 4000000
namespace Lw
open PySem L2
local macro_rules | `(tactic| walk_at "hp") => `(tactic| (repeat (first | exact upd_same | assumption | (refine (upd_ne (by first | assumption | exact Ne.symm (by assumption) | exact ne_of_none (by assumption) (by assumption) | exact Ne.symm (ne_of_none (by assumption) (by assumption)))).trans ?_))))
local macro_rules | `(tactic| walk_at "r1") => `(tactic| (first
  | (refine ⟨_, rfl, ?_⟩) | (refine ⟨_, _, rfl, rfl, ?_⟩) | (refine ⟨_, _, _, _, rfl, rfl, SqL.of (by walk_at "hp"), rfl, ?_⟩) | (refine ⟨_, _, _, _, rfl, rfl, (by walk_at "hp"), rfl, ?_⟩) | (refine ⟨rfl, ?_⟩)
  | (refine ⟨_, .inl ⟨_, SqL.of (by walk_at "hp"), rfl⟩, ?_⟩) | (refine ⟨_, _, rfl, .inl (SqL.of (by walk_at "hp")), ?_⟩) | (refine ⟨.inl ⟨rfl, _, SqL.of (by walk_at "hp")⟩, ?_⟩)
  | (refine ⟨_, _, _, _, _, rfl, (by walk_at "hp"), (by assumption), (by assumption), (by assumption), ?_⟩) | (refine ⟨_, _, _, _, rfl, (by walk_at "hp"), (by assumption), (by assumption), (by first | (show 0 < 1000; decide) | (show 1 < 1000; decide) | (show 2 < 1000; decide) | (show 3 < 1000; decide) | (show 4 < 1000; decide)), ?_⟩)
  | (refine ⟨(by show (0 : Int) < _; first | decide | omega), ?_⟩) | (refine ⟨⟨by assumption, by assumption⟩, ?_⟩) | (refine ⟨.inl ⟨by decide, by decide⟩, ?_⟩) | (refine ⟨.inr ⟨by decide, by decide⟩, ?_⟩)))
local macro_rules | `(tactic| walk_at "rd") => `(tactic| (repeat walk_at "r1"))
def top (i : Nat) : Stmt := PySem.Challenge.pw_pactford_k03_pacts_refused.main.body.getD i (.Pass ⟨0, 0, 0, 0⟩)
abbrev s_NoPact_init : Stmt := inClass (top 4) 0
theorem sc_NoPact_init : FnScope ["self", "at"] ["self", "at"] (defScope s_NoPact_init) := ⟨rfl, rfl, rfl, by decide +kernel, rfl, by decide +kernel, by decide +kernel⟩
abbrev s_is_whole : Stmt := top 9
theorem sc_is_whole : FnScope ["thing"] ["thing"] (defScope s_is_whole) := ⟨rfl, rfl, rfl, by decide +kernel, rfl, by decide +kernel, by decide +kernel⟩
abbrev s_is_side : Stmt := top 10
theorem sc_is_side : FnScope ["thing"] ["thing"] (defScope s_is_side) := ⟨rfl, rfl, rfl, by decide +kernel, rfl, by decide +kernel, by decide +kernel⟩
abbrev s_is_name : Stmt := top 11
theorem sc_is_name : FnScope ["thing", "sign"] ["thing"] (defScope s_is_name) := ⟨rfl, rfl, rfl, by decide +kernel, rfl, by decide +kernel, by decide +kernel⟩
abbrev s_Pacts_init : Stmt := inClass (top 18) 0
theorem sc_Pacts_init : FnScope ["self", "pairs", "helpers", "pair", "pact"] ["self", "pairs", "helpers"] (defScope s_Pacts_init) := ⟨rfl, rfl, rfl, by decide +kernel, rfl, by decide +kernel, by decide +kernel⟩
abbrev s_Pacts_pairs : Stmt := inClass (top 18) 1
theorem sc_Pacts_pairs : FnScope ["self"] ["self"] (defScope s_Pacts_pairs) := ⟨rfl, rfl, rfl, by decide +kernel, rfl, by decide +kernel, by decide +kernel⟩
abbrev s_Pacts_pact : Stmt := inClass (top 18) 3
theorem sc_Pacts_pact : FnScope ["self", "name", "pact"] ["self", "name"] (defScope s_Pacts_pact) := ⟨rfl, rfl, rfl, by decide +kernel, rfl, by decide +kernel, by decide +kernel⟩
abbrev s_Pacts_len : Stmt := inClass (top 18) 8
theorem sc_Pacts_len : FnScope ["self"] ["self"] (defScope s_Pacts_len) := ⟨rfl, rfl, rfl, by decide +kernel, rfl, by decide +kernel, by decide +kernel⟩
abbrev s_p_is_pair : Stmt := top 19
theorem sc_p_is_pair : FnScope ["pair", "near", "far", "laden"] ["pair"] (defScope s_p_is_pair) := ⟨rfl, rfl, rfl, by decide +kernel, rfl, by decide +kernel, by decide +kernel⟩
abbrev s_p_fits_pairs : Stmt := top 20
theorem sc_p_fits_pairs : FnScope ["pair", "ahead", "nears", "fars", "one"] ["pair", "ahead"] (defScope s_p_fits_pairs) := ⟨rfl, rfl, rfl, by decide +kernel, rfl, by decide +kernel, by decide +kernel⟩
abbrev s_p_is_pact : Stmt := top 21
theorem sc_p_is_pact : FnScope ["pact", "name", "side", "takes", "gives", "throws"] ["pact"] (defScope s_p_is_pact) := ⟨rfl, rfl, rfl, by decide +kernel, rfl, by decide +kernel, by decide +kernel⟩
abbrev s_p_are_takes : Stmt := top 22
theorem sc_p_are_takes : FnScope ["takes", "take"] ["takes"] (defScope s_p_are_takes) := ⟨rfl, rfl, rfl, by decide +kernel, rfl, by decide +kernel, by decide +kernel⟩
abbrev s_p_are_throws : Stmt := top 23
theorem sc_p_are_throws : FnScope ["throws", "word"] ["throws"] (defScope s_p_are_throws) := ⟨rfl, rfl, rfl, by decide +kernel, rfl, by decide +kernel, by decide +kernel⟩
abbrev s_p_fits_helpers : Stmt := top 24
theorem sc_p_fits_helpers : FnScope ["pact", "pairs", "ahead", "name", "side", "_", "throws", "fellows", "words", "one", "pair", "word"] ["pact", "pairs", "ahead"] (defScope s_p_fits_helpers) := ⟨rfl, rfl, rfl, by decide +kernel, rfl, by decide +kernel, by decide +kernel⟩
abbrev s_box : Stmt := top 28
theorem sc_box : FnScope ["_law_script", "_law_great", "_law_cell"] ["_law_script"] (defScope s_box) := ⟨rfl, rfl, rfl, by decide +kernel, rfl, by decide +kernel, by decide +kernel⟩
abbrev s_mixed : Stmt := top 29
theorem sc_mixed : FnScope ["_law_cell", "_law_k", "_law_whole"] ["_law_cell", "_law_k"] (defScope s_mixed) := ⟨rfl, rfl, rfl, by decide +kernel, rfl, by decide +kernel, by decide +kernel⟩
abbrev s_take : Stmt := top 30
theorem sc_take : FnScope ["_law_box_here", "_law_size", "_law_found", "_law_cell", "_law_reach"] ["_law_box_here", "_law_size"] (defScope s_take) := ⟨rfl, rfl, rfl, by decide +kernel, rfl, by decide +kernel, by decide +kernel⟩
abbrev s_name : Stmt := top 31
theorem sc_name : FnScope ["_law_box_here", "_law_many", "_law_k"] ["_law_box_here"] (defScope s_name) := ⟨rfl, rfl, rfl, by decide +kernel, rfl, by decide +kernel, by decide +kernel⟩
abbrev s_names : Stmt := top 32
theorem sc_names : FnScope ["_law_box_here", "_law_many", "_law_found", "_law_k", "_law_name_here", "_law_spare"] ["_law_box_here", "_law_many"] (defScope s_names) := ⟨rfl, rfl, rfl, by decide +kernel, rfl, by decide +kernel, by decide +kernel⟩
abbrev s_pairs : Stmt := top 33
theorem sc_pairs : FnScope ["_law_box_here", "_law_most", "_law_nears", "_law_fars", "_law_near", "_law_far"] ["_law_box_here", "_law_most"] (defScope s_pairs) := ⟨rfl, rfl, rfl, by decide +kernel, rfl, by decide +kernel, by decide +kernel⟩
abbrev s_some : Stmt := top 34
theorem sc_some : FnScope ["_law_box_here", "_law_things", "_law_most", "_law_pool", "_law_k"] ["_law_box_here", "_law_things", "_law_most"] (defScope s_some) := ⟨rfl, rfl, rfl, by decide +kernel, rfl, by decide +kernel, by decide +kernel⟩
abbrev s_helpers : Stmt := top 35
theorem sc_helpers : FnScope ["_law_box_here", "_law_pairs_here", "_law_names_here", "_law_counts", "_law_found", "_law_side", "_law_k", "_law_takes", "_law_throws", "_law_helper", "_law_j", "_law_pair"] ["_law_box_here", "_law_pairs_here"] (defScope s_helpers) := ⟨rfl, rfl, rfl, by decide +kernel, rfl, by decide +kernel, by decide +kernel⟩
abbrev s_w_is_name : Stmt := top 36
theorem sc_w_is_name : FnScope ["_law_word", "_law_sign"] ["_law_word"] (defScope s_w_is_name) := ⟨rfl, rfl, rfl, by decide +kernel, rfl, by decide +kernel, by decide +kernel⟩
abbrev s_pair_fits : Stmt := top 37
theorem sc_pair_fits : FnScope ["_law_ahead", "_law_pair", "_law_near", "_law_far", "_law_laden", "_law_one"] ["_law_ahead", "_law_pair"] (defScope s_pair_fits) := ⟨rfl, rfl, rfl, by decide +kernel, rfl, by decide +kernel, by decide +kernel⟩
abbrev s_helper_fits : Stmt := top 38
theorem sc_helper_fits : FnScope ["_law_pairs_here", "_law_ahead", "_law_helper", "_law_name_here", "_law_side", "_law_takes", "_law_gives", "_law_throws", "_law_words", "_law_at", "_law_word", "_law_one", "_law_pair", "_law_how"] ["_law_pairs_here", "_law_ahead", "_law_helper"] (defScope s_helper_fits) := ⟨rfl, rfl, rfl, by decide +kernel, rfl, by decide +kernel, by decide +kernel⟩
abbrev s_first_bad : Stmt := top 39
theorem sc_first_bad : FnScope ["_law_pairs_here", "_law_helpers_here", "_law_at", "_law_pair", "_law_helper"] ["_law_pairs_here", "_law_helpers_here"] (defScope s_first_bad) := ⟨rfl, rfl, rfl, by decide +kernel, rfl, by decide +kernel, by decide +kernel⟩
abbrev s_odd_word : Stmt := top 40
theorem sc_odd_word : FnScope ["_law_box_here", "_law_words", "_law_odd"] ["_law_box_here", "_law_words"] (defScope s_odd_word) := ⟨rfl, rfl, rfl, by decide +kernel, rfl, by decide +kernel, by decide +kernel⟩
abbrev s_pair_spoilt : Stmt := top 41
theorem sc_pair_spoilt : FnScope ["_law_box_here", "_law_pairs_here", "_law_way", "_law_at", "_law_near", "_law_far", "_law_laden", "_law_more", "_law_pair"] ["_law_box_here", "_law_pairs_here"] (defScope s_pair_spoilt) := ⟨rfl, rfl, rfl, by decide +kernel, rfl, by decide +kernel, by decide +kernel⟩
abbrev s_helper_spoilt : Stmt := top 42
theorem sc_helper_spoilt : FnScope ["_law_box_here", "_law_pairs_here", "_law_helpers_here", "_law_way", "_law_at", "_law_name_here", "_law_side", "_law_takes", "_law_gives", "_law_throws", "_law_words", "_law_more", "_law_pair", "_law_helper", "_law_spare"] ["_law_box_here", "_law_pairs_here", "_law_helpers_here"] (defScope s_helper_spoilt) := ⟨rfl, rfl, rfl, by decide +kernel, rfl, by decide +kernel, by decide +kernel⟩
abbrev s_made : Stmt := top 43
theorem sc_made : FnScope ["_law_pairs_here", "_law_helpers_here", "_law_found", "_law_pacts", "e"] ["_law_pairs_here", "_law_helpers_here"] (defScope s_made) := ⟨rfl, rfl, rfl, by decide +kernel, rfl, by decide +kernel, by decide +kernel⟩
abbrev s_law : Stmt := top 44
theorem sc_law : FnScope ["_law_script", "_law_box_here", "_law_changes", "_law_pairs_here", "_law_helpers_here", "_law_k", "_law_mine", "_law_found", "_law_pacts", "_law_helper"] ["_law_script"] (defScope s_law) := ⟨rfl, rfl, rfl, by decide +kernel, rfl, by decide +kernel, by decide +kernel⟩
/-- the addresses -/
structure Ad where
  c_Pacts : Addr
  c_NoPact : Addr
  c_PactError : Addr
  c_NoText : Addr
  t_LONGEST_NAME : Tok
  t_MOST_PAIRS : Tok
  t_MOST_HELPERS : Tok
  t_MOST_TAKES : Tok
  t_MOST_THROWS : Tok
  t_TAKES : Addr
  f_NoPact_init : Addr
  d_NoPact_init : FuncData
  f_is_whole : Addr
  d_is_whole : FuncData
  f_is_side : Addr
  d_is_side : FuncData
  f_is_name : Addr
  d_is_name : FuncData
  f_Pacts_init : Addr
  d_Pacts_init : FuncData
  f_Pacts_pairs : Addr
  d_Pacts_pairs : FuncData
  f_Pacts_pact : Addr
  d_Pacts_pact : FuncData
  f_Pacts_len : Addr
  d_Pacts_len : FuncData
  f_p_is_pair : Addr
  d_p_is_pair : FuncData
  f_p_fits_pairs : Addr
  d_p_fits_pairs : FuncData
  f_p_is_pact : Addr
  d_p_is_pact : FuncData
  f_p_are_takes : Addr
  d_p_are_takes : FuncData
  f_p_are_throws : Addr
  d_p_are_throws : FuncData
  f_p_fits_helpers : Addr
  d_p_fits_helpers : FuncData
  f_box : Addr
  d_box : FuncData
  f_mixed : Addr
  d_mixed : FuncData
  f_take : Addr
  d_take : FuncData
  f_name : Addr
  d_name : FuncData
  f_names : Addr
  d_names : FuncData
  f_pairs : Addr
  d_pairs : FuncData
  f_some : Addr
  d_some : FuncData
  f_helpers : Addr
  d_helpers : FuncData
  f_w_is_name : Addr
  d_w_is_name : FuncData
  f_pair_fits : Addr
  d_pair_fits : FuncData
  f_helper_fits : Addr
  d_helper_fits : FuncData
  f_first_bad : Addr
  d_first_bad : FuncData
  f_odd_word : Addr
  d_odd_word : FuncData
  f_pair_spoilt : Addr
  d_pair_spoilt : FuncData
  f_helper_spoilt : Addr
  d_helper_spoilt : FuncData
  f_made : Addr
  d_made : FuncData
  f_law : Addr
  d_law : FuncData
/-- what the top has written -/
structure Txt (K : PySem.W.Frag) (mg : Str → Option Value) (a : Ad) : Prop where
  cl_Pacts : Cls K a.c_Pacts
  mk_Pacts : Mk K a.c_Pacts a.f_Pacts_init
  g_Pacts : mg "Pacts" = some (.ref a.c_Pacts)
  n_Pacts__pairs : NoAttr K a.c_Pacts "_pairs"
  n_Pacts__helpers : NoAttr K a.c_Pacts "_helpers"
  x_NoPact : OexC K a.c_NoPact
  xi_NoPact : PySem.W.findIn K (.ref a.c_NoPact) "__init__" = some (some (.ref a.f_NoPact_init))
  xt_NoPact : PySem.W.typeIn K (.ref a.f_NoPact_init) = some (.type "function")
  xf_NoPact : XfC K a.c_NoPact
  g_NoPact : mg "NoPact" = some (.ref a.c_NoPact)
  n_NoPact_at : PySem.W.findIn K (.ref a.c_NoPact) "at" = some none
  md_PactError : MidC K a.c_PactError
  g_PactError : mg "PactError" = some (.ref a.c_PactError)
  g_NoText : mg "NoText" = some (.ref a.c_NoText)
  fa_NoPact : PySem.W.findIn K (.ref a.c_NoPact) "__class__" = some (some (.builtin "object.__class__"))
  fm_NoPact : PySem.W.mroIn K a.c_NoPact (.type "object") = some true
  fs_NoPact : PySem.W.kitOne K (.ref a.c_NoPact) (.ref a.c_NoPact) = some true
  fv_NoPact : PySem.W.kitOne K (.ref a.c_NoPact) (.type "ValueError") = some true
  fx_NoPact : PySem.W.kitOne K (.ref a.c_NoPact) (.ref a.c_NoText) = some false
  fe_NoPact : PySem.W.exmOne K (.ref a.c_NoPact) (.ref a.c_PactError) = some true
  fg : PySem.W.specialIn K (.builtin "object.__class__") "__get__" = some (some (.builtin "getset_descriptor.__get__"))
  ft : PySem.W.takesIn K (.builtin "object.__class__") = some true
  F_NoPact_init : Fun K "__init__" "NoPact.__init__" s_NoPact_init a.f_NoPact_init a.d_NoPact_init
  B_NoPact_init : Binds K a.d_NoPact_init ["self", "at"] []
  F_is_whole : Fun K "is_whole" "is_whole" s_is_whole a.f_is_whole a.d_is_whole
  B_is_whole : Binds K a.d_is_whole ["thing"] []
  g_is_whole : mg "is_whole" = some (.ref a.f_is_whole)
  k_is_whole : PySem.W.keepIn K (.ref a.f_is_whole) = true
  F_is_side : Fun K "is_side" "is_side" s_is_side a.f_is_side a.d_is_side
  B_is_side : Binds K a.d_is_side ["thing"] []
  g_is_side : mg "is_side" = some (.ref a.f_is_side)
  k_is_side : PySem.W.keepIn K (.ref a.f_is_side) = true
  F_is_name : Fun K "is_name" "is_name" s_is_name a.f_is_name a.d_is_name
  B_is_name : Binds K a.d_is_name ["thing"] []
  g_is_name : mg "is_name" = some (.ref a.f_is_name)
  k_is_name : PySem.W.keepIn K (.ref a.f_is_name) = true
  F_Pacts_init : Fun K "__init__" "Pacts.__init__" s_Pacts_init a.f_Pacts_init a.d_Pacts_init
  B_Pacts_init : Binds K a.d_Pacts_init ["self", "pairs", "helpers"] []
  F_Pacts_pairs : Fun K "pairs" "Pacts.pairs" s_Pacts_pairs a.f_Pacts_pairs a.d_Pacts_pairs
  B_Pacts_pairs : Binds K a.d_Pacts_pairs ["self"] []
  m_Pacts_pairs : Meth K a.c_Pacts "pairs" a.f_Pacts_pairs
  F_Pacts_pact : Fun K "pact" "Pacts.pact" s_Pacts_pact a.f_Pacts_pact a.d_Pacts_pact
  B_Pacts_pact : Binds K a.d_Pacts_pact ["self", "name"] []
  m_Pacts_pact : Meth K a.c_Pacts "pact" a.f_Pacts_pact
  F_Pacts_len : Fun K "__len__" "Pacts.__len__" s_Pacts_len a.f_Pacts_len a.d_Pacts_len
  B_Pacts_len : Binds K a.d_Pacts_len ["self"] []
  m_Pacts_len : Meth K a.c_Pacts "__len__" a.f_Pacts_len
  F_p_is_pair : Fun K "_is_pair" "_is_pair" s_p_is_pair a.f_p_is_pair a.d_p_is_pair
  B_p_is_pair : Binds K a.d_p_is_pair ["pair"] []
  g_p_is_pair : mg "_is_pair" = some (.ref a.f_p_is_pair)
  k_p_is_pair : PySem.W.keepIn K (.ref a.f_p_is_pair) = true
  F_p_fits_pairs : Fun K "_fits_pairs" "_fits_pairs" s_p_fits_pairs a.f_p_fits_pairs a.d_p_fits_pairs
  B_p_fits_pairs : Binds K a.d_p_fits_pairs ["pair", "ahead"] []
  g_p_fits_pairs : mg "_fits_pairs" = some (.ref a.f_p_fits_pairs)
  k_p_fits_pairs : PySem.W.keepIn K (.ref a.f_p_fits_pairs) = true
  F_p_is_pact : Fun K "_is_pact" "_is_pact" s_p_is_pact a.f_p_is_pact a.d_p_is_pact
  B_p_is_pact : Binds K a.d_p_is_pact ["pact"] []
  g_p_is_pact : mg "_is_pact" = some (.ref a.f_p_is_pact)
  k_p_is_pact : PySem.W.keepIn K (.ref a.f_p_is_pact) = true
  F_p_are_takes : Fun K "_are_takes" "_are_takes" s_p_are_takes a.f_p_are_takes a.d_p_are_takes
  B_p_are_takes : Binds K a.d_p_are_takes ["takes"] []
  g_p_are_takes : mg "_are_takes" = some (.ref a.f_p_are_takes)
  k_p_are_takes : PySem.W.keepIn K (.ref a.f_p_are_takes) = true
  F_p_are_throws : Fun K "_are_throws" "_are_throws" s_p_are_throws a.f_p_are_throws a.d_p_are_throws
  B_p_are_throws : Binds K a.d_p_are_throws ["throws"] []
  g_p_are_throws : mg "_are_throws" = some (.ref a.f_p_are_throws)
  k_p_are_throws : PySem.W.keepIn K (.ref a.f_p_are_throws) = true
  F_p_fits_helpers : Fun K "_fits_helpers" "_fits_helpers" s_p_fits_helpers a.f_p_fits_helpers a.d_p_fits_helpers
  B_p_fits_helpers : Binds K a.d_p_fits_helpers ["pact", "pairs", "ahead"] []
  g_p_fits_helpers : mg "_fits_helpers" = some (.ref a.f_p_fits_helpers)
  k_p_fits_helpers : PySem.W.keepIn K (.ref a.f_p_fits_helpers) = true
  F_box : Fun K "_law_box" "_law_box" s_box a.f_box a.d_box
  B_box : Binds K a.d_box ["_law_script"] []
  g_box : mg "_law_box" = some (.ref a.f_box)
  k_box : PySem.W.keepIn K (.ref a.f_box) = true
  F_mixed : Fun K "_law_mixed" "_law_mixed" s_mixed a.f_mixed a.d_mixed
  B_mixed : Binds K a.d_mixed ["_law_cell", "_law_k"] []
  g_mixed : mg "_law_mixed" = some (.ref a.f_mixed)
  k_mixed : PySem.W.keepIn K (.ref a.f_mixed) = true
  F_take : Fun K "_law_take" "_law_take" s_take a.f_take a.d_take
  B_take : Binds K a.d_take ["_law_box_here", "_law_size"] []
  g_take : mg "_law_take" = some (.ref a.f_take)
  k_take : PySem.W.keepIn K (.ref a.f_take) = true
  F_name : Fun K "_law_name" "_law_name" s_name a.f_name a.d_name
  B_name : Binds K a.d_name ["_law_box_here"] []
  g_name : mg "_law_name" = some (.ref a.f_name)
  k_name : PySem.W.keepIn K (.ref a.f_name) = true
  F_names : Fun K "_law_names" "_law_names" s_names a.f_names a.d_names
  B_names : Binds K a.d_names ["_law_box_here", "_law_many"] []
  g_names : mg "_law_names" = some (.ref a.f_names)
  k_names : PySem.W.keepIn K (.ref a.f_names) = true
  F_pairs : Fun K "_law_pairs" "_law_pairs" s_pairs a.f_pairs a.d_pairs
  B_pairs : Binds K a.d_pairs ["_law_box_here", "_law_most"] []
  g_pairs : mg "_law_pairs" = some (.ref a.f_pairs)
  k_pairs : PySem.W.keepIn K (.ref a.f_pairs) = true
  F_some : Fun K "_law_some" "_law_some" s_some a.f_some a.d_some
  B_some : Binds K a.d_some ["_law_box_here", "_law_things", "_law_most"] []
  g_some : mg "_law_some" = some (.ref a.f_some)
  k_some : PySem.W.keepIn K (.ref a.f_some) = true
  F_helpers : Fun K "_law_helpers" "_law_helpers" s_helpers a.f_helpers a.d_helpers
  B_helpers : Binds K a.d_helpers ["_law_box_here", "_law_pairs_here"] []
  g_helpers : mg "_law_helpers" = some (.ref a.f_helpers)
  k_helpers : PySem.W.keepIn K (.ref a.f_helpers) = true
  F_w_is_name : Fun K "_law_is_name" "_law_is_name" s_w_is_name a.f_w_is_name a.d_w_is_name
  B_w_is_name : Binds K a.d_w_is_name ["_law_word"] []
  g_w_is_name : mg "_law_is_name" = some (.ref a.f_w_is_name)
  k_w_is_name : PySem.W.keepIn K (.ref a.f_w_is_name) = true
  F_pair_fits : Fun K "_law_pair_fits" "_law_pair_fits" s_pair_fits a.f_pair_fits a.d_pair_fits
  B_pair_fits : Binds K a.d_pair_fits ["_law_ahead", "_law_pair"] []
  g_pair_fits : mg "_law_pair_fits" = some (.ref a.f_pair_fits)
  k_pair_fits : PySem.W.keepIn K (.ref a.f_pair_fits) = true
  F_helper_fits : Fun K "_law_helper_fits" "_law_helper_fits" s_helper_fits a.f_helper_fits a.d_helper_fits
  B_helper_fits : Binds K a.d_helper_fits ["_law_pairs_here", "_law_ahead", "_law_helper"] []
  g_helper_fits : mg "_law_helper_fits" = some (.ref a.f_helper_fits)
  k_helper_fits : PySem.W.keepIn K (.ref a.f_helper_fits) = true
  F_first_bad : Fun K "_law_first_bad" "_law_first_bad" s_first_bad a.f_first_bad a.d_first_bad
  B_first_bad : Binds K a.d_first_bad ["_law_pairs_here", "_law_helpers_here"] []
  g_first_bad : mg "_law_first_bad" = some (.ref a.f_first_bad)
  k_first_bad : PySem.W.keepIn K (.ref a.f_first_bad) = true
  F_odd_word : Fun K "_law_odd_word" "_law_odd_word" s_odd_word a.f_odd_word a.d_odd_word
  B_odd_word : Binds K a.d_odd_word ["_law_box_here", "_law_words"] []
  g_odd_word : mg "_law_odd_word" = some (.ref a.f_odd_word)
  k_odd_word : PySem.W.keepIn K (.ref a.f_odd_word) = true
  F_pair_spoilt : Fun K "_law_pair_spoilt" "_law_pair_spoilt" s_pair_spoilt a.f_pair_spoilt a.d_pair_spoilt
  B_pair_spoilt : Binds K a.d_pair_spoilt ["_law_box_here", "_law_pairs_here"] []
  g_pair_spoilt : mg "_law_pair_spoilt" = some (.ref a.f_pair_spoilt)
  k_pair_spoilt : PySem.W.keepIn K (.ref a.f_pair_spoilt) = true
  F_helper_spoilt : Fun K "_law_helper_spoilt" "_law_helper_spoilt" s_helper_spoilt a.f_helper_spoilt a.d_helper_spoilt
  B_helper_spoilt : Binds K a.d_helper_spoilt ["_law_box_here", "_law_pairs_here", "_law_helpers_here"] []
  g_helper_spoilt : mg "_law_helper_spoilt" = some (.ref a.f_helper_spoilt)
  k_helper_spoilt : PySem.W.keepIn K (.ref a.f_helper_spoilt) = true
  F_made : Fun K "_law_made" "_law_made" s_made a.f_made a.d_made
  B_made : Binds K a.d_made ["_law_pairs_here", "_law_helpers_here"] []
  g_made : mg "_law_made" = some (.ref a.f_made)
  k_made : PySem.W.keepIn K (.ref a.f_made) = true
  F_law : Fun K "law" "law" s_law a.f_law a.d_law
  B_law : Binds K a.d_law ["_law_script"] []
  g_law : mg "law" = some (.ref a.f_law)
  k_law : PySem.W.keepIn K (.ref a.f_law) = true
  v_LONGEST_NAME : mg "LONGEST_NAME" = some (.int 8 a.t_LONGEST_NAME)
  v_MOST_PAIRS : mg "MOST_PAIRS" = some (.int 6 a.t_MOST_PAIRS)
  v_MOST_HELPERS : mg "MOST_HELPERS" = some (.int 4 a.t_MOST_HELPERS)
  v_MOST_TAKES : mg "MOST_TAKES" = some (.int 3 a.t_MOST_TAKES)
  v_MOST_THROWS : mg "MOST_THROWS" = some (.int 4 a.t_MOST_THROWS)
  v_TAKES : mg "TAKES" = some (.ref a.t_TAKES)
  q_TAKES : ∀ H, SqT K H a.t_TAKES [.str "lent", .str "given"]
  z_ValueError : mg "ValueError" = none
  z_isinstance : mg "isinstance" = none
  z_int : mg "int" = none
  z_bool : mg "bool" = none
  z_tuple : mg "tuple" = none
  z_list : mg "list" = none
  z_str : mg "str" = none
  z_len : mg "len" = none
  z_all : mg "all" = none
  z_range : mg "range" = none
  z_zip : mg "zip" = none
  z_min : mg "min" = none
  z_enumerate : mg "enumerate" = none
section
variable {P : Program} {w : World} {K : PySem.W.Frag} {mg : Str → Option Value} {base : Heap} {a : Ad}
/-! ### texts and kinds -/
theorem inV_str (x : Str) : ∀ l : List Str, inV (.str x) (l.map V.str) = decide (x ∈ l)
  | [] => rfl
  | y :: l => by
    have ih := inV_str x l
    unfold inV at ih ⊢
    rw [List.map_cons, List.any_cons, ih]
    show ((y == x) || decide (x ∈ l)) = decide (x ∈ y :: l)
    by_cases e : y = x
    · subst e; simp
    · have e2 : ¬ x = y := fun z => e z.symm
      simp [e, e2]
theorem flat_str (l : List Str) : (l.map V.str).all flatV = true := List.all_eq_true.mpr fun v hv => by
  obtain ⟨s, _, rfl⟩ := List.mem_map.mp hv
  rfl
theorem strs_get {xs : List Str} {i : Nat} {y : V} (h : (xs.map V.str)[i]? = some y) : ∃ s, xs[i]? = some s ∧ y = V.str s := by
  rw [List.getElem?_map] at h
  cases e : xs[i]? with
  | none => rw [e] at h; cases h
  | some z => rw [e] at h; exact ⟨z, rfl, (Option.some.inj h).symm⟩
theorem refs_get {xs : List Addr} {i : Nat} {y : V} (h : (xs.map V.ref)[i]? = some y) : ∃ s, xs[i]? = some s ∧ y = V.ref s := by
  rw [List.getElem?_map] at h
  cases e : xs[i]? with
  | none => rw [e] at h; cases h
  | some z => rw [e] at h; exact ⟨z, rfl, (Option.some.inj h).symm⟩
theorem take_snoc {α : Type} {xs : List α} {i : Nat} {x : α} (h : xs[i]? = some x) : xs.take (i + 1) = xs.take i ++ [x] := by rw [List.take_add_one, h]; rfl
def sp_is_whole : Sp := fun vs H Q _ => ∃ i : Int, vs = [.int i] ∧ Q (.bl true) H
theorem ok_is_whole (T : Txt K mg a) : FnOk P w K mg base CX0 1 a.f_is_whole a.d_is_whole ["thing"] sp_is_whole := by
  refine T.F_is_whole.ok sc_is_whole (fun vs H Q E h => ?_) (fun cdv A outer s H vs Q E hr h => ?_)
  · obtain ⟨i, rfl, _⟩ := h
    rfl
  · obtain ⟨i, rfl, kk⟩ := h
    refine ⟨_, (pss_one (ps_ret (pe_and (pe_callB call_isi (by rfl) T.z_isinstance (by decide +kernel) (pa_cons (pv 0) (pa_cons (pe_bltn (v := .ty "int") (by rfl) T.z_int (by decide +kernel) rfl) pa_nil))) (pe_one (pe_not (pe_callB call_isi (by rfl) T.z_isinstance (by decide +kernel) (pa_cons (pv 0) (pa_cons (pe_bltn (v := .ty "bool") (by rfl) T.z_bool (by decide +kernel) rfl) pa_nil)))))))), ?_⟩
    refine ⟨_, rfl, _, _, _, _, true, rfl, .ty "int", .base (.int i), kit_ty (by decide +kernel), true, rfl, ?_⟩
    refine iteT ?_
    refine ⟨_, rfl, _, _, _, _, false, rfl, .ty "bool", .base (.int i), kit_ty (by decide +kernel), ?_⟩
    refine ⟨_, rfl, ?_⟩
    exact kk
theorem inV_01 (i : Int) : inV (.int i) [.int 0, .int 1] = decide (i = 0 ∨ i = 1) := by
  show ((0 == i) || ((1 == i) || false)) = _
  by_cases h0 : i = 0
  · subst h0; rfl
  · by_cases h1 : i = 1
    · subst h1; rfl
    · have a0 : ((0 : Int) == i) = false := beq_eq_false_iff_ne.mpr fun z => h0 z.symm
      have a1 : ((1 : Int) == i) = false := beq_eq_false_iff_ne.mpr fun z => h1 z.symm
      rw [a0, a1]
      simp [h0, h1]
def sp_is_side : Sp := fun vs H Q _ => ∃ i : Int, vs = [.int i] ∧ ∀ H', Same H H' → Q (.bl (decide (i = 0 ∨ i = 1))) H'
theorem ok_is_side (T : Txt K mg a) : FnOk P w K mg base CX0 2 a.f_is_side a.d_is_side ["thing"] sp_is_side := by
  refine T.F_is_side.ok sc_is_side (fun vs H Q E h => ?_) (fun cdv A outer s H vs Q E hr h => ?_)
  · obtain ⟨i, rfl, _⟩ := h
    rfl
  · obtain ⟨i, rfl, kk⟩ := h
    refine ⟨_, (pss_one (ps_ret (pe_and (pe_call (ok_is_whole T) (hr.mono (by decide)) rfl T.g_is_whole T.k_is_whole T.B_is_whole .nil pass0 (pa_cons (pv 0) pa_nil)) (pe_one (pe_cmpR op_in_seq (pv 0) (pe_tup (pa_cons pe_int (pa_cons pe_int pa_nil))) (by rfl)))))), ?_⟩
    refine ⟨_, rfl, i, rfl, true, rfl, ?_⟩
    refine iteT ?_
    refine ⟨_, rfl, by show 2 ≤ sizeLine; decide, fun t ht => ?_⟩
    refine ⟨t, _, rfl, .inr (SqT.of upd_same), rfl, rfl, ?_⟩
    show Q (.bl (inV (.int i) [.int 0, .int 1])) _
    rw [inV_01]
    exact kk _ ((Same.refl H).upd ht)
theorem one_lt (c d : Nat) : (([c] : List Nat) < [d]) ↔ c < d := by
  rw [List.cons_lt_cons_iff]
  simp
theorem le_a (c : Nat) : (!decide ((⟨#[c]⟩ : Str).cps.toList < ("a" : Str).cps.toList)) = decide (97 ≤ c) := by
  have e : ("a" : Str).cps.toList = [97] := by decide +kernel
  rw [e]
  show (!decide (([c] : List Nat) < [97])) = _
  rw [decide_eq_decide.mpr (one_lt c 97)]
  by_cases h : c < 97
  · rw [decide_eq_true h, decide_eq_false (by omega)]; rfl
  · rw [decide_eq_false h, decide_eq_true (by omega)]; rfl
theorem le_z (c : Nat) : (!decide (("z" : Str).cps.toList < (⟨#[c]⟩ : Str).cps.toList)) = decide (c ≤ 122) := by
  have e : ("z" : Str).cps.toList = [122] := by decide +kernel
  rw [e]
  show (!decide (([122] : List Nat) < [c])) = _
  rw [decide_eq_decide.mpr (one_lt 122 c)]
  by_cases h : 122 < c
  · rw [decide_eq_true h, decide_eq_false (by omega)]; rfl
  · rw [decide_eq_false h, decide_eq_true (by omega)]; rfl
theorem all_id (l : List Nat) : (l.map My.letter).all id = l.all My.letter := by rw [List.all_map]; rfl
def sp_is_name : Sp := fun vs H Q _ => ∃ s : Str, vs = [.str s] ∧ s.length ≤ sizeLine ∧ ∀ H', Same H H' → Q (.bl (My.nameB s)) H'
theorem ok_is_name (T : Txt K mg a) : FnOk P w K mg base CX0 1 a.f_is_name a.d_is_name ["thing"] sp_is_name := by
  refine T.F_is_name.ok sc_is_name (fun vs H Q E h => ?_) (fun cdv A outer s H vs Q E hr h => ?_)
  · obtain ⟨s, rfl, _⟩ := h
    rfl
  · obtain ⟨s, rfl, hz, kk⟩ := h
    refine ⟨_, (pss_cons (ps_if (PW.pt (pw_or (pt_not (pt_val (pe_callB call_isi (by rfl) T.z_isinstance (by decide +kernel) (pa_cons (pv 0) (pa_cons (pe_bltn (v := .ty "str") (by rfl) T.z_str (by decide +kernel) rfl) pa_nil))))) (pw_or1 (pt_not (pt_chain op_le op_le pe_int (pe_callB call_len_str (by rfl) T.z_len (by decide +kernel) (pa_cons (pv 0) pa_nil)) (pe_glob (v := .int 8) rfl T.v_LONGEST_NAME ⟨_, rfl⟩)))))) (pss_one (ps_ret pe_bl)) pss_nil)
      (pss_one (ps_ret (pe_callB (cr_all rfl) (by rfl) T.z_all (by decide +kernel) (pa_cons (pe_lc (own := [("sign", 1)]) (g := gName 1) (tt := tYes) rfl sc_is_name.nd (pi_str (pv 0)) (blkOk_by (own := [("sign", 1)]) (N := ["thing", "sign"]) (sc := defScope s_is_name) (by decide +kernel)) (fun _ _ _ _ _ => pg_name (i := 1) sc_is_name.nd rfl (Or.inl rfl)) (fun _ _ _ _ _ => pts_nil) (fun _ _ _ _ _ => by exact (pe_chain op_le_str op_le_str pe_str (pv 1) pe_str))) pa_nil))))), ?_⟩
    have no : ¬ (1 ≤ s.cps.size ∧ s.cps.size ≤ 8) → Q (.bl false) H := fun n => by
      have e : My.nameB s = false := by
        unfold My.nameB
        by_cases h1 : 1 ≤ s.cps.size
        · have h2 : ¬ s.cps.size ≤ 8 := fun z => n ⟨h1, z⟩
          rw [decide_eq_false h2]; simp
        · rw [decide_eq_false h1]; simp
      exact e ▸ kk H (Same.refl H)
    refine ⟨_, rfl, _, _, _, _, true, rfl, .ty "str", .base (.str s), kit_ty (by decide +kernel), true, rfl, ?_⟩
    refine iteF ?_
    refine ⟨_, rfl, _, rfl, hz, ?_⟩
    refine ⟨_, _, rfl, rfl, _, rfl, ?_⟩
    refine iteD (fun h1 => ?_) (fun h1 => ?_)
    · refine ⟨_, _, rfl, rfl, _, rfl, ?_⟩
      refine iteB (fun h2 => ?_) (fun h2 => ?_)
      · refine no fun z => ?_
        have z2 : ((s.length : Nat) : Int) ≤ 8 := by
          show ((s.cps.size : Nat) : Int) ≤ 8
          omega
        rw [show (!decide ((s.length : Int) ≤ 8)) = false by rw [decide_eq_true z2]; rfl] at h2
        cases h2
      · have h2' : ((s.cps.size : Nat) : Int) ≤ 8 := by
          show ((s.length : Nat) : Int) ≤ 8
          by_cases z : ((s.length : Nat) : Int) ≤ 8
          · exact z
          · rw [show (!decide ((s.length : Int) ≤ 8)) = true by rw [decide_eq_false z]; rfl] at h2
            cases h2
        have b1 : 1 ≤ s.cps.size := by
          have : (1 : Int) ≤ (s.cps.size : Int) := h1
          omega
        have b2 : s.cps.size ≤ 8 := by omega
        refine ⟨_, rfl, s, rfl, fun D hD => ?_⟩
        refine lc_it walk_str (fun i H1 => Blk (H1 = upd H D (.lst (((s.cps.toList.take i).map My.letter).map V.bl)) ∧ i ≤ s.cps.size)) (Blk.of ⟨rfl, by omega⟩) (fun i H1 _ hB => trivial) ?_ ?_
        · intro i y H1 H2 hi hB hy
          obtain ⟨rfl, hi2⟩ := hB.out
          obtain ⟨rfl, c, hc, rfl⟩ := hy
          have hc2 : s.cps.toList[i]? = some c := by rw [Array.getElem?_toList]; exact hc
          refine ⟨rfl, ?_⟩
          dsimp only [tYes]
          refine iteT ?_
          refine ⟨_, rfl, _, _, rfl, rfl, _, rfl, ?_⟩
          rw [le_a]
          have fin : ∀ b : Bool, b = My.letter c → ∃ acc, upd H D (.lst (((s.cps.toList.take i).map My.letter).map V.bl)) D = some (.lst acc) ∧ acc.length < sizeLine ∧
              Blk (upd (upd H D (.lst (((s.cps.toList.take i).map My.letter).map V.bl))) D (.lst (acc ++ [.bl b])) = upd H D (.lst (((s.cps.toList.take (i + 1)).map My.letter).map V.bl)) ∧ i + 1 ≤ s.cps.size) := by
            rintro b rfl
            refine ⟨_, upd_same, ?_, Blk.of ⟨?_, by omega⟩⟩
            · rw [List.length_map, List.length_map, List.length_take]
              exact small (by omega)
            · rw [upd_upd, take_snoc hc2, List.map_append, List.map_append]
              rfl
          refine iteD (fun ha => ?_) (fun ha => ?_)
          · refine ⟨_, _, rfl, rfl, ?_⟩
            rw [le_z]
            refine fin _ ?_
            unfold My.letter
            rw [decide_eq_true ha]
            rfl
          · refine fin false ?_
            unfold My.letter
            rw [decide_eq_false ha]
            rfl
        · intro H1 hB
          obtain ⟨rfl, _⟩ := hB.out
          refine ⟨D, _, rfl, SqL.of upd_same, ?_⟩
          have el : s.cps.toList.take s.cps.size = s.cps.toList := by rw [← Array.length_toList, List.take_length]
          rw [el, all_id]
          have en : s.cps.toList.all My.letter = My.nameB s := by
            unfold My.nameB
            rw [decide_eq_true b1, decide_eq_true b2]
            rfl
          rw [en]
          exact kk _ ((Same.refl H).upd hD)
    · refine ⟨_, rfl, ?_⟩
      refine iteT (no fun z => h1 ?_)
      show (1 : Int) ≤ (s.cps.size : Int)
      omega

/-! ### _law_mixed -/
def sp_mixed : Sp := fun vs H Q _ => ∃ (c k : Int), vs = [.int c, .int k] ∧ 0 ≤ k ∧ k < 100000000 ∧ ∀ r : Int, 0 ≤ r → r < 1000000007 → Q (.int r) H
theorem mixed_bound {c k : Int} (h0 : 0 ≤ k) (h1 : k < 100000000) : (c % 2147483647 + 1009 * k * k + 48611 * k + 17).natAbs < 2 ^ 64 := by
  have a0 := Int.emod_nonneg c (by decide : (2147483647 : Int) ≠ 0)
  have a1 := Int.emod_lt_of_pos c (by decide : (0 : Int) < 2147483647)
  have b0 : 0 ≤ 1009 * k * k := Int.mul_nonneg (by omega) h0
  have b1 : 1009 * k * k ≤ 1009 * 100000000 * 100000000 := Int.mul_le_mul (by omega) (by omega) h0 (by omega)
  have e : (2 : Nat) ^ 64 = 18446744073709551616 := by decide
  rw [e]
  omega
theorem ok_mixed (T : Txt K mg a) : FnOk P w K mg base CX0 1 a.f_mixed a.d_mixed ["_law_cell", "_law_k"] sp_mixed := by
  refine T.F_mixed.ok sc_mixed (fun vs H Q E h => ?_) (fun cdv A outer s H vs Q E hr h => ?_)
  · obtain ⟨c, k, rfl, _⟩ := h
    rfl
  · obtain ⟨c, k, rfl, h0, h1, kk⟩ := h
    refine ⟨_, (pss_cons (ps_set (i := 2) sc_mixed.nd rfl (Or.inl rfl) (pe_op op_mod (pe_op op_pow (pe_op op_add (pe_op op_add (pe_op op_add (pe_op op_mod (pv 0) pe_int) (pe_op op_mul (pe_op op_mul pe_int (pv 1)) (pv 1))) (pe_op op_mul pe_int (pv 1))) pe_int) pe_int) pe_int))
      (pss_one (ps_ret (pe_op op_mod (pe_op op_add (pe_op op_mul (pv 2) pe_int) (pe_op op_mul pe_int (pv 1))) pe_int)))), ?_⟩
    have eb := mixed_bound (c := c) h0 h1
    generalize hx : c % 2147483647 + 1009 * k * k + 48611 * k + 17 = x at eb
    refine ⟨_, rfl, _, _, rfl, rfl, (by show (0 : Int) < _; decide), _, rfl, _, _, rfl, rfl, .inl ⟨by decide, by decide⟩, _, rfl, _, _, rfl, rfl, .inl ⟨by omega, by omega⟩, _, _, rfl, rfl, _, rfl, _, _, rfl, rfl, .inl ⟨by decide, by decide⟩,
      _, _, rfl, rfl, _, _, rfl, rfl, _, _, rfl, rfl, ⟨by decide, by decide, by rw [hx]; exact eb⟩, _, _, rfl, rfl, (by show (0 : Int) < _; decide), ?_⟩
    rw [hx]
    generalize x ^ Int.toNat 5 % 2147483647 = y
    refine ⟨_, rfl, _, _, rfl, rfl, .inr ⟨by decide, by decide⟩, _, rfl, _, _, rfl, rfl, .inl ⟨by decide, by decide⟩, _, _, rfl, rfl, _, _, rfl, rfl, (by show (0 : Int) < _; decide), ?_⟩
    exact kk _ (Int.emod_nonneg _ (by decide)) (Int.emod_lt_of_pos _ (by decide))

/-! ### _law_take -/
def sp_take : Sp := fun vs H Q _ => ∃ (b g l : Addr) (n size : Int), vs = [.ref b, .int size] ∧ BoxAt H b g l n ∧ 0 ≤ n ∧ n < 10000000 ∧ 0 < size ∧ size.natAbs.log2 < 9000 ∧
  ∀ (k : Int) (H' : Hp), 0 ≤ k → k < size → BoxAt H' b g l (n + 1) → Keeps [b, g] H H' → Q (.int k) H'
theorem ok_take (T : Txt K mg a) : FnOk P w K mg base CX0 2 a.f_take a.d_take ["_law_box_here", "_law_size"] sp_take := by
  refine T.F_take.ok sc_take (fun vs H Q E h => ?_) (fun cdv A outer s H vs Q E hr h => ?_)
  · obtain ⟨b, g, l, n, size, rfl, _⟩ := h
    rfl
  · obtain ⟨b, g, l, n, size, rfl, ⟨gs, ls, cur, hb, hg, hl, nbg, nbl, ngl, zg, zl⟩, n0, n1, s0, s1, kk⟩ := h
    refine ⟨_, (pss_cons (ps_asg (pe_op op_add (pe_ix ix_list (pv 0) pe_int (fun _ _ => rfl)) pe_int) (pg_sub (pv 0) pe_int set_list))
      (C8.pss_cut (ps_if (PW.pt (pw_and (pt_cmpR op_eq (pe_ix ix_list (pv 0) pe_int (fun _ _ => rfl)) pe_int (nomark _)) (pw_and1 (pt_cmpR op_gt (pe_callB call_len_seq (by rfl) T.z_len (by decide +kernel) (pa_cons (pe_ix ix_list (pv 0) pe_int (fun _ _ => rfl)) pa_nil)) pe_int (nomark _))))) (pss_one (ps_asg (pe_bm PySem.F.plainAttrs_list PySem.F.slot_list_pop PySem.F.type_list_pop mt_popAt (pe_ix ix_list (pv 0) pe_int (fun _ _ => rfl)) (pa_cons pe_int pa_nil)) (pg_sub (pv 0) pe_int set_list))) pss_nil)
      (pss_cons (ps_if (pt_cmpR op_gt (pe_ix ix_list (pv 0) pe_int (fun _ _ => rfl)) pe_int (nomark _)) (pss_cons (ps_set (i := 2) sc_take.nd rfl (Or.inl rfl) (pe_op op_mod (pe_ix ix_list (pv 0) pe_int (fun _ _ => rfl)) (pv 1)))
      (pss_cons (ps_asg (pe_op op_fdivW (pe_ix ix_list (pv 0) pe_int (fun _ _ => rfl)) (pv 1)) (pg_sub (pv 0) pe_int set_list))
      (pss_one (ps_ret (pv 2))))) pss_nil)
      (pss_cons (ps_set (i := 3) sc_take.nd rfl (Or.inl rfl) (pe_op op_mul pe_int (pe_ix ix_list (pv 0) pe_int (fun _ _ => rfl))))
      (C8.pss_cut (ps_if (pt_cmpR op_gt (pe_callB call_len_seq (by rfl) T.z_len (by decide +kernel) (pa_cons (pe_ix ix_list (pv 0) pe_int (fun _ _ => rfl)) pa_nil)) pe_int (nomark _)) (pss_one (ps_set (i := 3) sc_take.nd rfl (Or.inl rfl) (pe_ix ix_list (pe_ix ix_list (pv 0) pe_int (fun _ _ => rfl)) (pe_op op_mod (pe_ix ix_list (pv 0) pe_int (fun _ _ => rfl)) (pe_callB call_len_seq (by rfl) T.z_len (by decide +kernel) (pa_cons (pe_ix ix_list (pv 0) pe_int (fun _ _ => rfl)) pa_nil))) (fun _ _ => rfl)))) pss_nil)
      (pss_cons (ps_set (i := 2) sc_take.nd rfl (Or.inl rfl) pe_int)
      (pss_cons (ps_set (i := 4) sc_take.nd rfl (Or.inl rfl) pe_int)
      (pss_cons (ps_while PassesOwn.never (pt_cmpR op_lt (pv 4) (pv 1) (nomark _)) (pss_cons (ps_set (i := 2) sc_take.nd rfl (Or.inl rfl) (pe_op op_add (pe_op op_mul (pv 2) pe_int) (pe_call (ok_mixed T) (hr.mono (by decide)) rfl T.g_mixed T.k_mixed T.B_mixed .nil pass0 (pa_cons (pv 3) (pa_cons (pe_op op_add (pe_ix ix_list (pv 0) pe_int (fun _ _ => rfl)) (pe_op op_mul pe_int (pe_op op_mod (pv 2) pe_int))) pa_nil)))))
      (pss_one (ps_set (i := 4) sc_take.nd rfl (Or.inl rfl) (pe_op op_mul (pv 4) pe_int)))))
      (pss_one (ps_ret (pe_op op_mod (pv 2) (pv 1)))))))))))), ?_⟩
    -- box[3] = box[3] + 1
    walk_at "rd"
    have kp0 : Keeps [b, g] H (upd H b (.lst [.ref g, .int cur, .ref l, .int (n + 1)])) := (Keeps.refl _ H).upd (.inl (List.mem_cons_self))
    refine ⟨fun σ H1 => Blk (σ = [some (.ref b), some (.int size), none, none, none] ∧ ∃ (gs : List Int) (cur : Int), H1 b = some (.lst [.ref g, .int cur, .ref l, .int (n + 1)]) ∧ H1 g = some (.lst (gs.map V.int)) ∧ gs.length ≤ 63 ∧ H1 l = some (.lst (ls.map V.int)) ∧ Keeps [b, g] H H1), ?_, ?_⟩
    · walk_at "rd"
      refine iteD (fun hc => ?_) (fun hc => ?_)
      · walk_at "rd"
        refine iteD (fun hc => ?_) (fun hc => ?_)
        · rw [List.length_map] at hc
          match gs, hc with
          | x :: gs, _ =>
            walk_at "rd"
            refine ⟨_, _, _, _, _, rfl, rfl, (by walk_at "hp"), by decide, by decide, seqIndex_of (by decide) (by simp), rfl, ?_⟩
            walk_at "rd"
            refine Blk.of ⟨rfl, gs, x, upd_same, (by walk_at "hp"), by rw [List.length_cons] at zg; omega, by walk_at "hp", ?_⟩
            exact (kp0.upd (.inl (by simp))).upd (.inl (by simp))
        · refine Blk.of ⟨rfl, gs, cur, upd_same, by walk_at "hp", zg, by walk_at "hp", kp0⟩
      · refine iteF ?_
        refine Blk.of ⟨rfl, gs, cur, upd_same, by walk_at "hp", zg, by walk_at "hp", kp0⟩
    · rintro σ H1 hB
      obtain ⟨rfl, gs, cur, hb, hg, zg, hl, kp⟩ := hB.out
      walk_at "rd"
      refine iteD (fun hc => ?_) (fun hc => ?_)
      · walk_at "rd"
        refine kk _ _ (Int.emod_nonneg _ (by omega)) (Int.emod_lt_of_pos _ s0) ⟨gs, ls, _, upd_same, by walk_at "hp", by walk_at "hp", nbg, nbl, ngl, zg, zl⟩ (kp.upd (.inl (by simp)))
      · walk_at "rd"
        refine ⟨fun σ H2 => Blk (H2 = H1 ∧ ∃ cell : Int, σ = [some (.ref b), some (.int size), none, some (.int cell), none]), ?_, ?_⟩
        · walk_at "rd"
          refine iteD (fun hc2 => ?_) (fun hc2 => ?_)
          · have hpos : (0 : Int) < ((ls.map V.int).length : Int) := hc2
            walk_at "rd"
            have i0 := Int.emod_nonneg (n + 1) (show (((ls.map V.int).length : Nat) : Int) ≠ 0 by omega)
            have i1 := Int.emod_lt_of_pos (n + 1) hpos
            have hx : (ls.map V.int)[((n + 1) % (((ls.map V.int).length : Nat) : Int)).toNat]? = some (.int (My.g ls ((n + 1) % (((ls.map V.int).length : Nat) : Int)).toNat)) := by
              rw [List.getElem?_map, My.g_lt (by rw [List.length_map] at *; omega)]; rfl
            refine ⟨_, _, _, _, rfl, rfl, SqL.of (by walk_at "hp"), at_of (j := ((n + 1) % (((ls.map V.int).length : Nat) : Int)).toNat) (by omega) hx, ?_⟩
            exact Blk.of ⟨rfl, _, rfl⟩
          · exact Blk.of ⟨rfl, _, rfl⟩
        · rintro σ H2 hB
          obtain ⟨rfl, cell, rfl⟩ := hB.out
          walk_at "rd"
          refine while_by (fun σ H1 => H1 = H2 ∧ ∃ found reach : Int, σ = [some (.ref b), some (.int size), some (.int found), some (.int cell), some (.int reach)] ∧ 0 < reach)
            (fun σ _ => match σ with | [_, _, _, _, some (.int r)] => (size - r).toNat | _ => 0) ⟨rfl, 0, 1, rfl, by decide⟩ ?_ ?_
          · rintro σ H1 ⟨rfl, found, reach, rfl, hr0⟩
            walk_at "rd"
            refine iteD (fun hlt => ?_) (fun hlt => ?_)
            · walk_at "rd"
              have f0 := Int.emod_nonneg found (show (89 : Int) ≠ 0 by decide)
              have f1 := Int.emod_lt_of_pos found (show (0 : Int) < 89 by decide)
              refine ⟨_, _, rfl, (by show 0 ≤ n + 1 + 1000 * (found % 89); omega), (by show n + 1 + 1000 * (found % 89) < 100000000; omega), fun r r0 r1 => ?_⟩
              walk_at "rd"
              refine ⟨⟨rfl, _, _, rfl, by omega⟩, ?_⟩
              show (size - reach * 1000000007).toNat < (size - reach).toNat
              omega
            · walk_at "rd"
              exact kk _ _ (Int.emod_nonneg _ (by omega)) (Int.emod_lt_of_pos _ s0) ⟨gs, ls, _, hb, hg, hl, nbg, nbl, ngl, zg, zl⟩ kp
          · intro σ H Q Q' hq h
            obtain ⟨v, h1, u, h2, i, j, e1, e2, k, e3, q⟩ := h
            exact ⟨v, h1, u, h2, i, j, e1, e2, k, e3, hq _ _ q⟩

/-! ### _law_box -/
def sp_box (K : PySem.W.Frag) : Sp := fun vs H Q _ => ∃ (s : Addr) (ns : List Int), vs = [.ref s] ∧ SqL K H s (ns.map V.int) ∧ ns.length ≤ 63 ∧
  ∀ (b g l : Addr) (H' : Hp), H b = none → H g = none → H l = none → BoxAt H' b g l 0 → Same H H' → Q (.ref b) H'
theorem ok_box (T : Txt K mg a) : FnOk P w K mg base CX0 1 a.f_box a.d_box ["_law_script"] (sp_box K) := by
  refine T.F_box.ok sc_box (fun vs H Q E h => ?_) (fun cdv A outer s H vs Q E hr h => ?_)
  · obtain ⟨s, ns, rfl, _⟩ := h
    rfl
  · obtain ⟨sc, ns, rfl, hS, hz, kk⟩ := h
    refine ⟨_, (pss_cons (ps_setLc (i := 1) (own := [("_law_cell", 2)]) (g := gName 2) rfl sc_box.nd rfl rfl (sw_true rfl rfl rfl (by decide +kernel)) (pi_list (pv 0)) (blkOk_by (own := [("_law_cell", 2)]) (N := ["_law_script", "_law_great", "_law_cell"]) (sc := defScope s_box) (by decide +kernel)) (fun _ _ _ _ _ => pg_name (i := 2) sc_box.nd rfl (Or.inl rfl)) (fun _ _ _ _ _ => pts_one (pt_cmpR op_ge (pv 2) (pe_op op_pow pe_int pe_int) (nomark _))) (fun _ _ _ _ _ => by exact (pv 2)))
      (pss_one (ps_ret (pe_lst (pa_cons (pv 1) (pa_cons pe_int (pa_cons (pe_lc (own := [("_law_cell", 2)]) (g := gName 2) rfl sc_box.nd (pi_list (pv 0)) (blkOk_by (own := [("_law_cell", 2)]) (N := ["_law_script", "_law_great", "_law_cell"]) (sc := defScope s_box) (by decide +kernel)) (fun _ _ _ _ _ => pg_name (i := 2) sc_box.nd rfl (Or.inl rfl)) (fun _ _ _ _ _ => pts_one (pt_cmpR op_lt (pv 2) (pe_op op_pow pe_int pe_int) (nomark _))) (fun _ _ _ _ _ => by exact (pv 2))) (pa_cons pe_int pa_nil)))))))), ?_⟩
    refine ⟨_, rfl, sc, rfl, ⟨_, hS⟩, fun g hg => ?_⟩
    have sG : ∀ o, Same H (upd H g o) := fun o => (Same.refl H).upd hg
    refine lc_list (K := K) (a := sc) (xs := ns.map V.int) (fun i H1 => Blk (∃ gs : List Int, H1 = upd H g (.lst (gs.map V.int)) ∧ gs.length ≤ i)) (Blk.of ⟨[], rfl, Nat.le_refl _⟩) (fun i H1 _ hB => ?_) ?_ ?_
    · obtain ⟨gs, rfl, _⟩ := hB.out
      exact (sG _).seq hS
    · intro i y H1 hi hB
      obtain ⟨gs, rfl, hl⟩ := hB.out
      obtain ⟨z, hz, rfl⟩ := ints_get hi
      have := get_lt hi
      rw [List.length_map] at this
      refine ⟨rfl, _, rfl, _, _, rfl, rfl, ⟨by decide, by decide, by decide⟩, _, _, rfl, rfl, _, rfl, iteD (fun hc => ?_) (fun hc => ?_)⟩
      · refine ⟨_, rfl, _, upd_same, by rw [List.length_map]; exact small (by omega), Blk.of ⟨gs ++ [z], ?_, by rw [List.length_append]; simp; omega⟩⟩
        rw [upd_upd, List.map_append]; rfl
      · exact Blk.of ⟨gs, rfl, by omega⟩
    · intro H1 hB
      obtain ⟨gs, rfl, hgl⟩ := hB.out
      rw [List.length_map] at hgl
      refine ⟨_, rfl, ?_⟩
      refine ⟨_, rfl, sc, rfl, ⟨_, (sG _).seq hS⟩, fun l hl => ?_⟩
      have ngl : g ≠ l := ne_of_none upd_same hl
      have hl0 : H l = none := by rw [upd_ne ngl.symm] at hl; exact hl
      refine lc_list (K := K) (a := sc) (xs := ns.map V.int) (fun i H1 => Blk (∃ ls : List Int, H1 = upd (upd H g (.lst (gs.map V.int))) l (.lst (ls.map V.int)) ∧ ls.length ≤ i)) (Blk.of ⟨[], rfl, Nat.le_refl _⟩) (fun i H1 _ hB => ?_) ?_ ?_
      · obtain ⟨ls, rfl, _⟩ := hB.out
        exact ((sG _).upd hl0).seq hS
      · intro i y H1 hi hB
        obtain ⟨ls, rfl, hl⟩ := hB.out
        obtain ⟨z, hz, rfl⟩ := ints_get hi
        have := get_lt hi
        rw [List.length_map] at this
        refine ⟨rfl, _, rfl, _, _, rfl, rfl, ⟨by decide, by decide, by decide⟩, _, _, rfl, rfl, _, rfl, iteD (fun hc => ?_) (fun hc => ?_)⟩
        · refine ⟨_, rfl, _, upd_same, by rw [List.length_map]; exact small (by omega), Blk.of ⟨ls ++ [z], ?_, by rw [List.length_append]; simp; omega⟩⟩
          rw [upd_upd, List.map_append]; rfl
        · exact Blk.of ⟨ls, rfl, by omega⟩
      · intro H1 hB
        obtain ⟨ls, rfl, hll⟩ := hB.out
        rw [List.length_map] at hll
        refine ⟨by show 4 ≤ sizeLine; decide, fun b hb => ?_⟩
        have nlb : l ≠ b := ne_of_none upd_same hb
        have hb' : upd H g (.lst (gs.map V.int)) b = none := by rw [upd_ne nlb.symm] at hb; exact hb
        have ngb : g ≠ b := ne_of_none upd_same hb'
        have hb0 : H b = none := by rw [upd_ne ngb.symm] at hb'; exact hb'
        exact kk b g l _ hb0 hg hl0 ⟨gs, ls, 0, upd_same, by rw [upd_ne ngb, upd_ne ngl, upd_same], by rw [upd_ne nlb, upd_same], ngb.symm, nlb.symm, ngl, by omega, by omega⟩ (((sG _).upd hl0).upd hb0)

/-! ### names that are drawn -/
theorem abc_at : ∀ j, j < 26 → ∃ c, ("abcdefghijklmnopqrstuvwxyz" : Str).cps.toList[j]? = some c ∧ My.letter c = true := by
  intro j hj
  have e : ("abcdefghijklmnopqrstuvwxyz" : Str).cps.toList = (List.range 26).map (· + 97) := by decide +kernel
  rw [e]
  refine ⟨j + 97, by rw [List.getElem?_map, List.getElem?_range hj]; rfl, ?_⟩
  unfold My.letter
  rw [decide_eq_true (by omega), decide_eq_true (by omega)]
  rfl
theorem abc_len : ("abcdefghijklmnopqrstuvwxyz" : Str).length ≤ sizeLine := by decide +kernel
theorem abc_ix {k : Int} (h0 : 0 ≤ k) (h1 : k < 26) : ∃ c, atI ("abcdefghijklmnopqrstuvwxyz" : Str).cps.toList k = some c ∧ My.letter c = true := by
  obtain ⟨j, rfl⟩ : ∃ j : Nat, k = j := ⟨k.toNat, by omega⟩
  obtain ⟨c, hc, l⟩ := abc_at j (by omega)
  exact ⟨c, atI_nat hc, l⟩
def sign (c : Nat) : Str := ⟨#[c]⟩
theorem join_signs (cs : List Nat) : Txt.join ("" : Str) (cs.map sign) = ⟨cs.toArray⟩ := by
  have e0 : ("" : Str) = SX.S [] := by decide +kernel
  have e1 : cs.map sign = (cs.map fun c => [c]).map SX.S := by rw [List.map_map]; rfl
  rw [e0, e1, SX.join_S]
  have e2 : ∀ l : List Nat, TL.joinL [] (l.map fun c => [c]) = l := by
    intro l
    induction l with
    | nil => rfl
    | cons x r ih =>
      cases r with
      | nil => rfl
      | cons y r =>
        show [x] ++ ([] ++ TL.joinL [] ((y :: r).map fun c => [c])) = _
        rw [ih]
        rfl
  rw [e2]
theorem name_of {cs : List Nat} (h1 : 1 ≤ cs.length) (h2 : cs.length ≤ 8) (hl : cs.all My.letter = true) : My.nameB ⟨cs.toArray⟩ = true := by
  unfold My.nameB
  have e : (cs.toArray).size = cs.length := by simp
  simp only [e]
  rw [decide_eq_true h1, decide_eq_true h2]
  simpa using hl
theorem nameB_out {s : Str} (h : My.nameB s = true) : 1 ≤ s.cps.size ∧ s.cps.size ≤ 8 ∧ s.cps.toList.all My.letter = true := by
  unfold My.nameB at h
  simp only [Bool.and_eq_true, decide_eq_true_eq] at h
  exact ⟨h.1.1, h.1.2, h.2⟩
theorem name_len {s : Str} (h : My.nameB s = true) : s.length ≤ 8 := (nameB_out h).2.1
theorem name_line {s : Str} (h : My.nameB s = true) : s.length ≤ sizeLine := Nat.le_trans (name_len h) (by rw [sizeLine_eq]; decide)
theorem cut7 (z : Str) : cutS z none (some 7) = ⟨(z.cps.toList.take 7).toArray⟩ := by
  unfold cutS
  congr 1
  congr 1
  have e0 : HT.sIx z.length 0 none = 0 := rfl
  have e1 : HT.sIx z.length z.length (some 7) = min 7 z.length := HT.sIx_nat _ _ 7
  rw [e0, e1, List.drop_zero, Nat.sub_zero]
  have hl : z.cps.toList.length = z.length := Array.length_toList
  by_cases h : 7 ≤ z.length
  · rw [Nat.min_eq_left h]
  · rw [Nat.min_eq_right (by omega), List.take_of_length_le (by omega), List.take_of_length_le (by omega)]
theorem name_cut {z : Str} {c : Nat} (h : My.nameB z = true) (hc : My.letter c = true) : My.nameB (cutS z none (some 7) ++ sign c) = true := by
  rw [cut7]
  have e : ((⟨(z.cps.toList.take 7).toArray⟩ : Str) ++ sign c) = ⟨(z.cps.toList.take 7 ++ [c]).toArray⟩ := SX.S_cat _ _
  rw [e]
  have hl := (nameB_out h).2.2
  refine name_of ?_ ?_ ?_
  · rw [List.length_append]; simp
  · rw [List.length_append, List.length_take]; simp; omega
  · rw [List.all_append]
    have : (z.cps.toList.take 7).all My.letter = true := List.all_eq_true.mpr fun x hx => (List.all_eq_true.mp hl) x (List.mem_of_mem_take hx)
    rw [this]
    simpa using hc
theorem offbox {b g l x : Addr} {n : Int} {H0 : Hp} (bx : BoxAt H0 b g l n) (hx : H0 x = none) : x ∉ [b, g] := by
  obtain ⟨gs, ls, cur, e1, e2, _⟩ := bx
  intro hq
  simp at hq
  rcases hq with rfl | rfl
  · rw [e1] at hx; cases hx
  · rw [e2] at hx; cases hx
theorem offbox3 {b g l x : Addr} {n : Int} {H0 : Hp} (bx : BoxAt H0 b g l n) (hx : H0 x = none) : x ∉ [b, g, l] := by
  obtain ⟨gs, ls, cur, e1, e2, e3, _⟩ := bx
  intro hq
  simp at hq
  rcases hq with rfl | rfl | rfl
  · rw [e1] at hx; cases hx
  · rw [e2] at hx; cases hx
  · rw [e3] at hx; cases hx
theorem box_put {H : Hp} {b g l x : Addr} {n : Int} {o : HO} (h : BoxAt H b g l n) (hx : x ∉ [b, g, l]) : BoxAt (upd H x o) b g l n := by
  obtain ⟨gs, ls, cur, e1, e2, e3, r⟩ := h
  simp at hx
  exact ⟨gs, ls, cur, by rw [upd_ne (Ne.symm hx.1)]; exact e1, by rw [upd_ne (Ne.symm hx.2.1)]; exact e2, by rw [upd_ne (Ne.symm hx.2.2)]; exact e3, r⟩
def sp_name : Sp := fun vs H Q _ => ∃ (b g l : Addr) (n : Int), vs = [.ref b] ∧ BoxAt H b g l n ∧ 0 ≤ n ∧ n < 9000000 ∧ ∀ (s : Str) (n' : Int) (H' : Hp), My.nameB s = true → n ≤ n' → n' ≤ n + 10 → BoxAt H' b g l n' → Keeps [b, g] H H' → Q (.str s) H'
theorem ok_name (T : Txt K mg a) : FnOk P w K mg base CX0 3 a.f_name a.d_name ["_law_box_here"] sp_name := by
  refine T.F_name.ok sc_name (fun vs H Q E h => ?_) (fun cdv A outer s H vs Q E hr h => ?_)
  · obtain ⟨b, g, l, n, rfl, _⟩ := h
    rfl
  · obtain ⟨b, g, l, n, rfl, bx, n0, n1, kk⟩ := h
    refine ⟨_, (pss_cons (ps_set (i := 1) sc_name.nd rfl (Or.inl rfl) (pe_op op_add pe_int (pe_call (ok_take T) (hr.mono (by decide)) rfl T.g_take T.k_take T.B_take .nil pass0 (pa_cons (pv 0) (pa_cons (pe_ix ix_list (pe_lst (pa_cons pe_int (pa_cons pe_int (pa_cons pe_int pa_nil)))) (pe_call (ok_take T) (hr.mono (by decide)) rfl T.g_take T.k_take T.B_take .nil pass0 (pa_cons (pv 0) (pa_cons pe_int pa_nil))) (fun _ _ => rfl)) pa_nil)))))
      (pss_one (ps_ret (pe_join pe_str (pe_lc (own := [("_law_k", 2)]) (g := gName 2) (tt := tYes) rfl sc_name.nd (pi_range1 (by rfl) T.z_range (pa_cons (pv 1) pa_nil)) (blkOk_by (own := [("_law_k", 2)]) (N := ["_law_box_here", "_law_many", "_law_k"]) (sc := defScope s_name) (by decide +kernel)) (fun _ _ _ _ _ => pg_name (i := 2) sc_name.nd rfl (Or.inl rfl)) (fun _ _ _ _ _ => pts_nil) (fun _ _ _ _ _ => by exact (pe_ix ix_str pe_str (pe_call (ok_take T) (hr.mono (by decide)) rfl T.g_take T.k_take T.B_take .nil pass0 (pa_cons (pv 0) (pa_cons pe_int pa_nil))) (fun _ _ => rfl)))))))), ?_⟩
    refine ⟨_, rfl, by show 3 ≤ sizeLine; decide, fun L hL => ?_⟩
    refine ⟨_, rfl, b, g, l, n, 3, rfl, bx.upd hL, n0, by omega, by decide, by decide, fun k H1 k0 k1 bx1 kp1 => ?_⟩
    have hL1 : H1 L = some (.lst [.int 1, .int 2, .int 8]) := kp1 _ _ upd_same (offbox bx hL)
    obtain ⟨z, hz, z0, z1⟩ : ∃ z : Int, atI [V.int 1, .int 2, .int 8] k = some (.int z) ∧ 0 < z ∧ z ≤ 8 := by
      have : k = 0 ∨ k = 1 ∨ k = 2 := by omega
      rcases this with rfl | rfl | rfl
      · exact ⟨_, rfl, by decide, by decide⟩
      · exact ⟨_, rfl, by decide, by decide⟩
      · exact ⟨_, rfl, by decide, by decide⟩
    have z2 : z.natAbs.log2 < 9000 := by
      have : z = 1 ∨ z = 2 ∨ z = 3 ∨ z = 4 ∨ z = 5 ∨ z = 6 ∨ z = 7 ∨ z = 8 := by omega
      rcases this with rfl | rfl | rfl | rfl | rfl | rfl | rfl | rfl <;> decide
    refine ⟨_, _, _, _, rfl, rfl, SqL.of hL1, hz, ?_⟩
    refine ⟨b, g, l, n + 1, z, rfl, bx1, by omega, by omega, z0, z2, fun m H2 m0 m1 bx2 kp2 => ?_⟩
    refine ⟨_, _, rfl, rfl, ?_⟩
    have k02 : Keeps [b, g] H H2 := (((Keeps.refl [b, g] H).upd (.inr hL)).trans kp1).trans kp2
    refine ⟨⟨_, rfl⟩, ?_⟩
    refine ⟨_, rfl, 1 + m, rfl, by omega, by omega, fun D hD => ?_⟩
    have hD0 : D ∉ [b, g] := offbox bx2 hD
    refine lc_range (lo := 0) (n := (1 + m).toNat) (fun i H3 => Blk (∃ cs : List Nat, cs.length = i ∧ cs.all My.letter = true ∧ H3 D = some (.lst ((cs.map sign).map V.str)) ∧ BoxAt H3 b g l (n + 2 + i) ∧ Keeps [b, g] H H3)) ?_ ?_ ?_
    · refine Blk.of ⟨[], rfl, rfl, upd_same, ?_, k02.upd ?_⟩
      · have e : n + 2 + ((0 : Nat) : Int) = n + 1 + 1 := by omega
        rw [e]
        exact bx2.upd hD
      · exact .inr (by
          rcases k02.fresh hD with q | q
          · exact absurd q hD0
          · exact q)
    · intro i H3 hi hB
      obtain ⟨cs, rfl, hl, h3, bx3, kp3⟩ := hB.out
      refine ⟨rfl, ?_⟩
      dsimp only [tYes]
      refine iteT ?_
      refine ⟨_, rfl, b, g, l, _, 26, rfl, bx3, by omega, by omega, by decide, by decide, fun j H4 j0 j1 bx4 kp4 => ?_⟩
      obtain ⟨c, hc, lc⟩ := abc_ix j0 j1
      refine ⟨_, _, _, rfl, rfl, abc_len, hc, ?_⟩
      have h4 := kp4 _ _ h3 hD0
      refine ⟨_, h4, ?_, Blk.of ⟨cs ++ [c], by rw [List.length_append]; rfl, by rw [List.all_append, hl]; simpa using lc, ?_, ?_, ?_⟩⟩
      · rw [List.length_map, List.length_map]
        exact small (by omega)
      · rw [upd_same, List.map_append, List.map_append]
        rfl
      · have e : n + 2 + ((cs.length + 1 : Nat) : Int) = n + 2 + (cs.length : Int) + 1 := by omega
        rw [e]
        exact box_put bx4 fun q => offbox3 bx2 hD q
      · refine (kp3.trans kp4).upd (.inr ?_)
        rcases k02.fresh hD with q | q
        · exact absurd q hD0
        · exact q
    · intro H3 hB
      obtain ⟨cs, hcl, hl, h3, bx3, kp3⟩ := hB.out
      refine ⟨_, D, cs.map sign, rfl, rfl, .inl (SqL.of h3), ?_, ?_⟩
      · have e : ((cs.map sign).map (·.length)).sum = cs.length := by
          rw [List.map_map]
          clear h3 hl hcl
          induction cs with
          | nil => rfl
          | cons x r ih => rw [List.map_cons, List.sum_cons, ih]; show 1 + r.length = _; rw [List.length_cons]; omega
        rw [e, List.length_map]
        have : ("" : Str).length = 0 := by decide +kernel
        rw [this]
        omega
      · rw [join_signs]
        exact kk _ _ _ (name_of (by omega) (by omega) hl) (by omega) (by omega) bx3 kp3

/-! ### _law_names -/
def sp_names : Sp := fun vs H Q _ => ∃ (b g l : Addr) (n m : Int), vs = [.ref b, .int m] ∧ BoxAt H b g l n ∧ 0 ≤ n ∧ n < 8000000 ∧ 0 ≤ m ∧ m ≤ 14 ∧
  ∀ (p : Addr) (ns : List Str) (n' : Int) (H' : Hp), H p = none → H' p = some (.lst (ns.map V.str)) → (ns.length : Int) = m → (∀ s, s ∈ ns → My.nameB s = true) → ns.Nodup → n ≤ n' → n' ≤ n + 12 * m → BoxAt H' b g l n' → Keeps [b, g] H H' → Q (.ref p) H'
theorem ok_names (T : Txt K mg a) : FnOk P w K mg base CX0 4 a.f_names a.d_names ["_law_box_here", "_law_many"] sp_names := by
  refine T.F_names.ok sc_names (fun vs H Q E h => ?_) (fun cdv A outer s H vs Q E hr h => ?_)
  · obtain ⟨b, g, l, n, m, rfl, _⟩ := h
    rfl
  · obtain ⟨b, g, l, n, m, rfl, bx, n0, n1, m0, m1, kk⟩ := h
    refine ⟨_, (pss_cons (ps_set (i := 2) sc_names.nd rfl (Or.inl rfl) (pe_lst pa_nil))
      (pss_cons (ps_for PassesOwn.never rfl (pi_range1 (by rfl) T.z_range (pa_cons (pv 1) pa_nil)) (pg_name (i := 3) sc_names.nd rfl (Or.inl rfl)) (pss_cons (ps_set (i := 4) sc_names.nd rfl (Or.inl rfl) (pe_call (ok_name T) (hr.mono (by decide)) rfl T.g_name T.k_name T.B_name .nil pass0 (pa_cons (pv 0) pa_nil)))
      (C8.pss_cut (ps_if (PW.pt (pw_and (pt_cmpR op_gt (pe_callB call_len_seq (by rfl) T.z_len (by decide +kernel) (pa_cons (pv 2) pa_nil)) pe_int (nomark _)) (pw_and1 (pt_cmpR op_eq (pe_call (ok_take T) (hr.mono (by decide)) rfl T.g_take T.k_take T.B_take .nil pass0 (pa_cons (pv 0) (pa_cons pe_int pa_nil))) pe_int (nomark _))))) (pss_one (ps_set (i := 4) sc_names.nd rfl (Or.inl rfl) (pe_op op_add_str (pe_slice sl_str (pe_ix ix_list (pv 2) (pe_un un_neg pe_int) (fun _ _ => rfl)) po_none (po_some pe_int)) (pe_ix ix_str pe_str (pe_call (ok_take T) (hr.mono (by decide)) rfl T.g_take T.k_take T.B_take .nil pass0 (pa_cons (pv 0) (pa_cons pe_int pa_nil))) (fun _ _ => rfl))))) pss_nil)
      (pss_cons (ps_for PassesOwn.never rfl (pi_list (pe_lst (pa_cons pe_str (pa_cons pe_str (pa_cons pe_str (pa_cons pe_str (pa_cons pe_str (pa_cons pe_str (pa_cons pe_str (pa_cons pe_str (pa_cons pe_str (pa_cons pe_str (pa_cons pe_str (pa_cons pe_str (pa_cons pe_str (pa_cons pe_str (pa_cons pe_str (pa_cons pe_str pa_nil)))))))))))))))))) (pg_name (i := 5) sc_names.nd rfl (Or.inl rfl)) (pss_one (ps_if (pt_cmpR op_in_seq (pv 4) (pv 2) (by rfl)) (pss_one (ps_set (i := 4) sc_names.nd rfl (Or.inl rfl) (pv 5))) pss_nil)))
      (pss_one (ps_expr (pe_bm PySem.F.plainAttrs_list PySem.F.slot_list_append PySem.F.type_list_append mt_append (pv 2) (pa_cons (pv 4) pa_nil))))))))
      (pss_one (ps_ret (pv 2))))), ?_⟩
    refine ⟨by show 0 ≤ sizeLine; decide, fun F hF => ?_⟩
    refine ⟨_, rfl, m, rfl, by omega, by omega, ?_⟩
    have hF0 : F ∉ [b, g, l] := offbox3 bx hF
    have hF2 : F ∉ [b, g] := offbox bx hF
    refine for_range (lo := 0) (n := m.toNat) (fun i σ H1 => Blk (∃ (v3 v4 v5 : Option V) (ns : List Str) (n1 : Int), σ = [some (.ref b), some (.int m), some (.ref F), v3, v4, v5] ∧ ns.length = i ∧ (∀ s, s ∈ ns → My.nameB s = true) ∧ ns.Nodup ∧ n ≤ n1 ∧ n1 ≤ n + 12 * i ∧
      H1 F = some (.lst (ns.map V.str)) ∧ BoxAt H1 b g l n1 ∧ Keeps [b, g] H H1)) ?_ ?_ ?_
    · exact Blk.of ⟨_, _, _, [], n, rfl, rfl, fun s hs => by simp at hs, List.nodup_nil, by omega, by omega, upd_same, bx.upd hF, (Keeps.refl [b, g] H).upd (.inr hF)⟩
    · intro i σ H1 hi hB
      obtain ⟨v3, v4, v5, ns, n2, rfl, rfl, hnm, hnd, hn1, hn2, h1, bx1, kp1⟩ := hB.out
      refine ⟨_, rfl, b, g, l, n2, rfl, bx1, by omega, by omega, fun x n3 H2 nx hn3 hn4 bx2 kp2 => ?_⟩
      have h2 := kp2 _ _ h1 hF2
      refine ⟨fun σ H3 => Blk (∃ (x : Str) (n4 : Int), σ = [some (.ref b), some (.int m), some (.ref F), some (.int (0 + (ns.length : Nat))), some (.str x), v5] ∧ My.nameB x = true ∧ n3 ≤ n4 ∧ n4 ≤ n3 + 2 ∧ H3 F = some (.lst (ns.map V.str)) ∧ BoxAt H3 b g l n4 ∧ Keeps [b, g] H H3), ?_, ?_⟩
      · refine ⟨_, rfl, _, _, rfl, .inl (SqL.of h2), _, _, rfl, rfl, _, rfl, ?_⟩
        refine iteD (fun hp => ?_) (fun hp => ?_)
        · refine ⟨_, rfl, b, g, l, n3, 3, rfl, bx2, by omega, by omega, by decide, by decide, fun k H3 k0 k1 bx3 kp3 => ?_⟩
          have h3 := kp3 _ _ h2 hF2
          refine ⟨rfl, _, rfl, ?_⟩
          refine iteB (fun hk => ?_) (fun hk => ?_)
          · have hne : ns ≠ [] := fun e => by
              subst e
              simp at hp
            obtain ⟨l0, y, rfl⟩ : ∃ l0 y, ns = l0 ++ [y] := ⟨ns.dropLast, ns.getLast hne, (List.dropLast_concat_getLast hne).symm⟩
            have hy := hnm y (by simp)
            refine ⟨_, rfl, _, rfl, _, _, _, _, rfl, rfl, SqL.of h3, (by rw [List.map_append]; exact atI_last _ _), ?_⟩
            refine ⟨_, rfl, _, rfl, name_line hy, ?_⟩
            refine ⟨_, rfl, b, g, l, n3 + 1, 26, rfl, bx3, by omega, by omega, by decide, by decide, fun j H4 j0 j1 bx4 kp4 => ?_⟩
            obtain ⟨c, hc, lc⟩ := abc_ix j0 j1
            have h4 := kp4 _ _ h3 hF2
            refine ⟨_, _, _, rfl, rfl, abc_len, hc, ?_⟩
            refine ⟨_, _, rfl, rfl, ?_, ?_⟩
            · have e1 : (cutS y none (some 7)).length ≤ 7 := by
                rw [cut7]
                show ((y.cps.toList.take 7).toArray).size ≤ 7
                simp
                omega
              have e2 : (⟨#[c]⟩ : Str).length = 1 := rfl
              rw [e2, sizeLine_eq]
              omega
            · exact Blk.of ⟨_, _, rfl, name_cut hy lc, by omega, by omega, h4, bx4, ((kp1.trans kp2).trans kp3).trans kp4⟩
          · exact Blk.of ⟨x, _, rfl, nx, by omega, by omega, h3, bx3, (kp1.trans kp2).trans kp3⟩
        · refine iteF ?_
          exact Blk.of ⟨x, n3, rfl, nx, by omega, by omega, h2, bx2, kp1.trans kp2⟩
      · rintro σ H3 hB
        obtain ⟨x, n4, rfl, nx, hn5, hn6, h3, bx3, kp3⟩ := hB.out
        refine ⟨by show 16 ≤ sizeLine; decide, fun L hL => ?_⟩
        have nFL : F ≠ L := ne_of_none h3 hL
        refine ⟨L, rfl, ⟨_, SqL.of upd_same⟩, ?_⟩
        refine for_list (K := K) (a := L) (xs := My.spares.map V.str) (fun i σ H4 => Blk (∃ (v5 : Option V) (x : Str), σ = [some (.ref b), some (.int m), some (.ref F), some (.int (0 + (ns.length : Nat))), some (.str x), v5] ∧ My.Seek ns i x ∧ H4 = upd H3 L (.lst (My.spares.map V.str)))) ?_ ?_ ?_ ?_
        · exact Blk.of ⟨_, x, rfl, My.Seek.first nx, rfl⟩
        · intro i σ H4 _ hB
          obtain ⟨v5, x, rfl, _, rfl⟩ := hB.out
          exact SqL.of upd_same
        · intro i y σ H4 hy hB
          obtain ⟨v5, x, rfl, sk, rfl⟩ := hB.out
          obtain ⟨s, hs, rfl⟩ := strs_get hy
          refine ⟨_, rfl, _, rfl, F, _, rfl, .inl (SqL.of ((upd_ne nFL).trans h3)), rfl, flat_str _, _, rfl, ?_⟩
          rw [if_neg Bool.false_ne_true, inV_str]
          refine iteD (fun hm => ?_) (fun hm => ?_)
          · exact ⟨_, rfl, Blk.of ⟨_, s, rfl, sk.next hm hs, rfl⟩⟩
          · exact Blk.of ⟨_, x, rfl, sk.keep hm, rfl⟩
        · intro σ H4 hB
          obtain ⟨v5, x, rfl, sk, rfl⟩ := hB.out
          obtain ⟨nx2, nin⟩ := sk.done (by omega)
          refine ⟨_, rfl, .inl ⟨rfl, _, SqL.of ((upd_ne nFL).trans h3)⟩, _, rfl, F, _, _, rfl, rfl, (upd_ne nFL).trans h3, by rw [List.length_map]; exact small (by omega), ?_⟩
          refine Blk.of ⟨_, _, _, ns ++ [x], n4, rfl, by rw [List.length_append]; rfl, ?_, ?_, by omega, by omega, ?_, ?_, ?_⟩
          · intro s hs
            rcases List.mem_append.mp hs with e | e
            · exact hnm s e
            · simp at e; subst e; exact nx2
          · rw [List.nodup_append]
            exact ⟨hnd, by simp, fun a ha b hb => by simp at hb; subst hb; exact fun e => nin (e ▸ ha)⟩
          · rw [upd_same, List.map_append]; rfl
          · exact box_put (bx3.upd hL) hF0
          · refine (kp3.upd (.inr ?_)).upd (.inr hF)
            rcases kp3.fresh hL with q | q
            · exact absurd q (offbox bx3 hL)
            · exact q
    · intro σ H1 hB
      obtain ⟨v3, v4, v5, ns, n2, rfl, hl, hnm, hnd, hn1, hn2, h1, bx1, kp1⟩ := hB.out
      exact ⟨_, rfl, kk F ns n2 H1 hF h1 (by omega) hnm hnd hn1 (by omega) bx1 kp1⟩

/-! ### pairs of words -/
def prO (p : My.Pr) : HO := .tup [.str p.1, .str p.2.1, .bl p.2.2]
/-- at as stand the objects of xs -/
structure Objs {α : Type} (H : Hp) (as : List Addr) (f : α → HO) (xs : List α) : Prop where
  len : as.length = xs.length
  at_ : ∀ (i : Nat) (h : Addr) (x : α), as[i]? = some h → xs[i]? = some x → H h = some (f x)
theorem Objs.keep {α : Type} {H H' : Hp} {R as : List Addr} {f : α → HO} {xs : List α} (o : Objs H as f xs) (k : Keeps R H H') (d : ∀ x, x ∈ R → x ∉ as) : Objs H' as f xs :=
  ⟨o.len, fun i h x e1 e2 => k _ _ (o.at_ i h x e1 e2) fun q => d h q (List.mem_of_getElem? e1)⟩
theorem Objs.same {α : Type} {H H' : Hp} {as : List Addr} {f : α → HO} {xs : List α} (o : Objs H as f xs) (k : Same H H') : Objs H' as f xs :=
  ⟨o.len, fun i h x e1 e2 => k _ _ (o.at_ i h x e1 e2)⟩
theorem Objs.get {α : Type} {H : Hp} {as : List Addr} {f : α → HO} {xs : List α} (o : Objs H as f xs) {i : Nat} {h : Addr} (e : as[i]? = some h) : ∃ x, xs[i]? = some x ∧ H h = some (f x) := by
  have hl := get_lt e
  rw [o.len] at hl
  have e2 : xs[i]? = some xs[i] := List.getElem?_eq_getElem hl
  exact ⟨_, e2, o.at_ i h _ e e2⟩
theorem Objs.nil {α : Type} {H : Hp} {f : α → HO} : Objs H [] f [] := ⟨rfl, fun i h x e => by simp at e⟩
theorem Objs.snoc {α : Type} {H : Hp} {as : List Addr} {f : α → HO} {xs : List α} (o : Objs H as f xs) {h : Addr} {x : α} (e : H h = some (f x)) : Objs H (as ++ [h]) f (xs ++ [x]) := by
  refine ⟨by rw [List.length_append, List.length_append, o.len]; rfl, fun i h' x' e1 e2 => ?_⟩
  by_cases hi : i < as.length
  · rw [List.getElem?_append_left hi] at e1
    rw [List.getElem?_append_left (by rw [← o.len]; exact hi)] at e2
    exact o.at_ i h' x' e1 e2
  · have hl := get_lt e1
    rw [List.length_append, List.length_singleton] at hl
    obtain rfl : i = as.length := by omega
    have e3 : as.length = xs.length := o.len
    simp at e1
    rw [e3] at e2
    simp at e2
    subst e1 e2
    exact e
theorem Objs.take {α : Type} {H : Hp} {as : List Addr} {f : α → HO} {xs : List α} (o : Objs H as f xs) (n : Nat) : Objs H (as.take n) f (xs.take n) := by
  refine ⟨by rw [List.length_take, List.length_take, o.len], fun i h x e1 e2 => ?_⟩
  by_cases hi : i < n
  · rw [List.getElem?_take, if_pos hi] at e1 e2
    exact o.at_ i h x e1 e2
  · rw [List.getElem?_take, if_neg hi] at e1
    cases e1
def sp_pairs : Sp := fun vs H Q _ => ∃ (b g l : Addr) (n m : Int), vs = [.ref b, .int m] ∧ BoxAt H b g l n ∧ 0 ≤ n ∧ n < 7000000 ∧ 0 ≤ m ∧ m ≤ 6 ∧
  ∀ (p : Addr) (as : List Addr) (ps : List My.Pr) (n' : Int) (H' : Hp), H p = none → H' p = some (.lst (as.map V.ref)) → Objs H' as prO ps → (∀ h, h ∈ as → H h = none) → My.PairsOk ps → n ≤ n' → n' ≤ n + 200 → BoxAt H' b g l n' → Keeps [b, g] H H' → Q (.ref p) H'
theorem cutV_tail (xs : List V) : cutV xs (some 1) none = xs.drop 1 := by
  unfold cutV
  have e0 : HT.sIx xs.length 0 (some 1) = min 1 xs.length := HT.sIx_nat _ _ 1
  have e1 : HT.sIx xs.length xs.length none = xs.length := rfl
  rw [e0, e1]
  cases xs with
  | nil => rfl
  | cons x r =>
    have : min 1 (x :: r).length = 1 := by rw [List.length_cons]; omega
    rw [this]
    refine List.take_of_length_le ?_
    rw [List.length_drop]
    exact Nat.le_refl _
theorem cutV_head (xs : List V) : cutV xs none (some 1) = xs.take 1 := by
  unfold cutV
  have e0 : HT.sIx xs.length 0 none = 0 := rfl
  have e1 : HT.sIx xs.length xs.length (some 1) = min 1 xs.length := HT.sIx_nat _ _ 1
  rw [e0, e1, List.drop_zero, Nat.sub_zero]
  cases xs with
  | nil => rfl
  | cons x r =>
    have : min 1 (x :: r).length = 1 := by rw [List.length_cons]; omega
    rw [this]
theorem ok_pairs (T : Txt K mg a) : FnOk P w K mg base CX0 5 a.f_pairs a.d_pairs ["_law_box_here", "_law_most"] sp_pairs := by
  refine T.F_pairs.ok sc_pairs (fun vs H Q E h => ?_) (fun cdv A outer s H vs Q E hr h => ?_)
  · obtain ⟨b, g, l, n, m, rfl, _⟩ := h
    rfl
  · obtain ⟨b, g, l, n, m, rfl, bx, n0, n1, m0, m1, kk⟩ := h
    refine ⟨_, (pss_cons (ps_set (i := 2) sc_pairs.nd rfl (Or.inl rfl) (pe_call (ok_names T) (hr.mono (by decide)) rfl T.g_names T.k_names T.B_names .nil pass0 (pa_cons (pv 0) (pa_cons (pe_call (ok_take T) (hr.mono (by decide)) rfl T.g_take T.k_take T.B_take .nil pass0 (pa_cons (pv 0) (pa_cons (pe_op op_add (pv 1) pe_int) pa_nil))) pa_nil))))
      (pss_cons (ps_set (i := 3) sc_pairs.nd rfl (Or.inl rfl) (pe_call (ok_names T) (hr.mono (by decide)) rfl T.g_names T.k_names T.B_names .nil pass0 (pa_cons (pv 0) (pa_cons (pe_callB call_len_seq (by rfl) T.z_len (by decide +kernel) (pa_cons (pv 2) pa_nil)) pa_nil))))
      (C8.pss_cut (ps_if (pt_cmpR op_eq (pe_call (ok_take T) (hr.mono (by decide)) rfl T.g_take T.k_take T.B_take .nil pass0 (pa_cons (pv 0) (pa_cons pe_int pa_nil))) pe_int (nomark _)) (pss_one (ps_set (i := 3) sc_pairs.nd rfl (Or.inl rfl) (pe_op op_cat (pe_slice sl_list (pv 2) (po_some pe_int) po_none) (pe_slice sl_list (pv 2) po_none (po_some pe_int))))) pss_nil)
      (pss_one (ps_ret (pe_lc (own := [("_law_near", 4), ("_law_far", 5)]) (g := (gTup K 2 (gCons (gName 4) (gCons (gName 5) gNil)))) (tt := tYes) rfl sc_pairs.nd (pi_zip (by rfl) T.z_zip (pa_cons (pv 2) (pa_cons (pv 3) pa_nil))) (blkOk_by (own := [("_law_near", 4), ("_law_far", 5)]) (N := ["_law_box_here", "_law_most", "_law_nears", "_law_fars", "_law_near", "_law_far"]) (sc := defScope s_pairs) (by decide +kernel)) (fun _ _ _ _ _ => by exact pg_tup rfl (pgs_cons (pg_name (i := 4) sc_pairs.nd rfl (Or.inl rfl)) (pgs_cons (pg_name (i := 5) sc_pairs.nd rfl (Or.inl rfl)) pgs_nil))) (fun _ _ _ _ _ => pts_nil) (fun _ _ _ _ _ => by exact (pe_tup (pa_cons (pv 4) (pa_cons (pv 5) (pa_cons (pe_cmpR op_eq (pe_call (ok_take T) (hr.mono (by decide)) rfl T.g_take T.k_take T.B_take .nil pass0 (pa_cons (pv 0) (pa_cons pe_int pa_nil))) pe_int (nomark _)) pa_nil))))))))))), ?_⟩
    refine ⟨_, rfl, _, rfl, _, rfl, _, _, rfl, rfl, ?_⟩
    have lm : (m + 1).natAbs.log2 < 9000 := by
      have : m = 0 ∨ m = 1 ∨ m = 2 ∨ m = 3 ∨ m = 4 ∨ m = 5 ∨ m = 6 := by omega
      rcases this with rfl | rfl | rfl | rfl | rfl | rfl | rfl <;> decide
    refine ⟨b, g, l, n, m + 1, rfl, bx, n0, by omega, by omega, lm, fun k H1 k0 k1 bx1 kp1 => ?_⟩
    refine ⟨b, g, l, n + 1, k, rfl, bx1, by omega, by omega, k0, by omega, fun N ns n2 H2 hN hN2 hl2 nm2 nd2 a2 b2 bx2 kp2 => ?_⟩
    refine ⟨_, rfl, _, rfl, N, _, rfl, .inl (SqL.of hN2), ?_⟩
    refine ⟨b, g, l, n2, _, rfl, bx2, by omega, by omega, by omega, by rw [List.length_map]; omega, fun F fs n3 H3 hF hF3 hl3 nm3 nd3 a3 b3 bx3 kp3 => ?_⟩
    rw [List.length_map] at hl3 b3
    have hN3 := kp3 _ _ hN2 (offbox bx1 hN ∘ fun q => q)
    have k03 := (kp1.trans kp2).trans kp3
    have hl32 : fs.length = ns.length := by omega
    have frN : H N = none := by
      rcases kp1.fresh hN with q | q
      · exact absurd q (offbox bx1 hN)
      · exact q
    have frF : H F = none := by
      rcases (kp1.trans kp2).fresh hF with q | q
      · exact absurd q (offbox bx2 hF)
      · exact q
    refine ⟨fun σ H4 => Blk (∃ (F : Addr) (fs : List Str) (n4 : Int), σ = [some (.ref b), some (.int m), some (.ref N), some (.ref F), none, none] ∧ fs.length = ns.length ∧ (∀ s, s ∈ fs → My.nameB s = true) ∧ fs.Nodup ∧ H4 N = some (.lst (ns.map V.str)) ∧ H4 F = some (.lst (fs.map V.str)) ∧ F ∉ [b, g] ∧
      n3 ≤ n4 ∧ n4 ≤ n3 + 1 ∧ BoxAt H4 b g l n4 ∧ Keeps [b, g] H H4), ?_, ?_⟩
    · refine ⟨_, rfl, b, g, l, n3, 3, rfl, bx3, by omega, by omega, by decide, by decide, fun k3 H4 k30 k31 bx4 kp4 => ?_⟩
      have hN4 := kp4 _ _ hN3 (offbox bx1 hN)
      have hF4 := kp4 _ _ hF3 (offbox bx2 hF)
      refine ⟨rfl, _, rfl, ?_⟩
      refine iteB (fun hk => ?_) (fun hk => ?_)
      · refine ⟨_, rfl, _, rfl, N, _, rfl, SqL.of hN4, fun p1 hp1 => ?_⟩
        have np1 : N ≠ p1 := ne_of_none hN4 hp1
        refine ⟨_, rfl, _, rfl, N, _, rfl, SqL.of ((upd_ne np1).trans hN4), fun p2 hp2 => ?_⟩
        have np2 : N ≠ p2 := ne_of_none ((upd_ne np1).trans hN4) hp2
        have n12 : p1 ≠ p2 := ne_of_none upd_same hp2
        have hp20 : H4 p2 = none := (upd_ne n12.symm).symm.trans hp2
        refine ⟨p1, p2, _, _, rfl, rfl, (upd_ne n12).trans upd_same, upd_same, ?_, fun p3 hp3 => ?_⟩
        · rw [cutV_tail, cutV_head, List.length_drop, List.length_take, List.length_map]
          exact Nat.le_of_lt (small (by omega))
        have n23 : p2 ≠ p3 := ne_of_none upd_same hp3
        have hp31 := (upd_ne n23.symm).symm.trans hp3
        have n13 : p1 ≠ p3 := ne_of_none upd_same hp31
        have hp30 : H4 p3 = none := (upd_ne n13.symm).symm.trans hp31
        have nN3 : N ≠ p3 := ne_of_none hN4 hp30
        refine Blk.of ⟨p3, ns.drop 1 ++ ns.take 1, n3 + 1, rfl, My.rot_len ns, ?_, My.rot_nodup nd2, ?_, ?_, ?_, by omega, by omega, ?_, ?_⟩
        · intro s hs
          rcases List.mem_append.mp hs with e | e
          · exact nm2 s (List.mem_of_mem_drop e)
          · exact nm2 s (List.mem_of_mem_take e)
        · rw [upd_ne nN3, upd_ne np2, upd_ne np1]
          exact hN4
        · rw [upd_same, cutV_tail, cutV_head, List.map_append, List.map_drop, List.map_take]
        · exact offbox bx4 hp30
        · exact ((bx4.upd hp1).upd hp2).upd hp3
        · have k04 := k03.trans kp4
          have fr : ∀ {x : Addr}, H4 x = none → x ∈ [b, g] ∨ H x = none := fun hx => k04.fresh hx
          exact ((k04.upd (fr hp1)).upd (fr hp20)).upd (fr hp30)
      · exact Blk.of ⟨F, fs, n3 + 1, rfl, hl32, nm3, nd3, hN4, hF4, offbox bx2 hF, by omega, by omega, bx4, k03.trans kp4⟩
    · rintro σ H4 hB
      obtain ⟨F, fs, n4, rfl, hlf, nmf, ndf, hN4, hF4, oF, a4, b4, bx4, k04⟩ := hB.out
      have frN4 : H4 N = some (.lst (ns.map V.str)) := hN4
      refine ⟨_, rfl, _, rfl, N, F, _, _, rfl, SqL.of hN4, SqL.of hF4, fun D hD => ?_⟩
      have hDo : D ∉ [b, g] := offbox bx4 hD
      have hDo3 : D ∉ [b, g, l] := offbox3 bx4 hD
      have nND : N ≠ D := ne_of_none hN4 hD
      have nFD : F ≠ D := ne_of_none hF4 hD
      have frD : H D = none := by
        rcases k04.fresh hD with q | q
        · exact absurd q hDo
        · exact q
      have oN : N ∉ [b, g] := fun q => by
        obtain ⟨gs, ls, cur, e1, e2, _⟩ := bx
        simp at q
        rcases q with rfl | rfl
        · rw [e1] at frN; cases frN
        · rw [e2] at frN; cases frN
      refine lc_it (walk_zip (K := K) (a := N) (b := F) (xs := ns.map V.str) (ys := fs.map V.str) (n := ns.length) (by rw [List.length_map, List.length_map]; omega))
        (fun i H5 => Blk (∃ (as : List Addr) (ps : List My.Pr), ps.length = i ∧ (∀ (j : Nat) (q : My.Pr), ps[j]? = some q → ns[j]? = some q.1 ∧ fs[j]? = some q.2.1) ∧ H5 D = some (.lst (as.map V.ref)) ∧ Objs H5 as prO ps ∧ (∀ h, h ∈ as → H h = none ∧ h ∉ [b, g] ∧ h ≠ D) ∧ H5 N = some (.lst (ns.map V.str)) ∧ H5 F = some (.lst (fs.map V.str)) ∧ BoxAt H5 b g l (n4 + i) ∧ Keeps [b, g] H H5)) ?_ ?_ ?_ ?_
      · refine Blk.of ⟨[], [], rfl, fun j q e => by simp at e, upd_same, Objs.nil, fun h e => by simp at e, (upd_ne nND).trans hN4, (upd_ne nFD).trans hF4, ?_, k04.upd (.inr frD)⟩
        have e : n4 + ((0 : Nat) : Int) = n4 := by omega
        rw [e]
        exact bx4.upd hD
      · intro i H5 _ hB
        obtain ⟨as, ps, _, _, _, _, _, e1, e2, _⟩ := hB.out
        exact ⟨SqL.of e1, SqL.of e2⟩
      · intro i x H5 H6 hi hB hy
        obtain ⟨as, ps, rfl, hps, h5, ob5, fr5, hN5, hF5, bx5, k05⟩ := hB.out
        obtain ⟨Tp, u, v, rfl, hT, rfl, hu, hv⟩ := hy
        obtain ⟨s1, hs1, rfl⟩ := strs_get hu
        obtain ⟨s2, hs2, rfl⟩ := strs_get hv
        have sT : Same H5 (upd H5 Tp (.tup [.str s1, .str s2])) := (Same.refl H5).upd hT
        refine ⟨Tp, _, rfl, SqT.of upd_same, rfl, _, _, rfl, _, _, rfl, rfl, ?_⟩
        refine ⟨rfl, ?_⟩
        dsimp only [tYes]
        refine iteT ?_
        refine ⟨_, rfl, _, rfl, _, rfl, b, g, l, _, 2, rfl, bx5.same sT, by omega, by omega, by decide, by decide, fun k H7 k0 k1 bx7 kp7 => ?_⟩
        refine ⟨rfl, by show 3 ≤ sizeLine; decide, fun t ht => ?_⟩
        have kT : Keeps [b, g] H5 H7 := (show Keeps [b, g] H5 _ from fun c o e _ => sT c o e).trans kp7
        have h7 := kT _ _ h5 hDo
        have hN7 := kT _ _ hN5 (offbox bx1 hN)
        have nDt : D ≠ t := ne_of_none h7 ht
        have nNt : N ≠ t := ne_of_none hN7 ht
        have hF7 := kT _ _ hF5 oF
        have nFt : F ≠ t := ne_of_none hF7 ht
        have ot := offbox bx7 ht
        have ht5 : H5 t = none := by
          rcases kT.fresh ht with q | q
          · exact absurd q ot
          · exact q
        have ht0 : H t = none := by
          rcases k05.fresh ht5 with q | q
          · exact absurd q ot
          · exact q
        have k58 : ∀ o1 o2, Keeps [b, g, D] H5 (upd (upd H7 t o1) D o2) := fun o1 o2 => ((kT.mono (fun x hx => by simp at hx ⊢; rcases hx with e | e <;> simp [e])).upd (.inr ht5)).upd (.inl (by simp))
        have asl : as.length = ps.length := ob5.len
        refine ⟨_, (upd_ne nDt).trans h7, by rw [List.length_map]; exact small (by omega), Blk.of ⟨as ++ [t], ps ++ [(s1, s2, decide (V.int k = V.int 1))], by rw [List.length_append]; rfl, ?_, ?_, ?_, ?_, ?_, ?_, ?_, ?_⟩⟩
        · intro j q e
          by_cases hj : j < ps.length
          · rw [List.getElem?_append_left hj] at e
            exact hps j q e
          · have hl := get_lt e
            rw [List.length_append, List.length_singleton] at hl
            obtain rfl : j = ps.length := by omega
            simp at e
            subst e
            exact ⟨hs1, hs2⟩
        · rw [upd_same, List.map_append]; rfl
        · refine Objs.snoc (ob5.keep (k58 _ _) fun x hx hm => ?_) ?_
          · have f := fr5 x hm
            simp at hx
            rcases hx with e | e | e
            · exact f.2.1 (by simp [e])
            · exact f.2.1 (by simp [e])
            · exact f.2.2 e
          · rw [upd_ne nDt.symm, upd_same]
            rfl
        · intro h hh
          rcases List.mem_append.mp hh with e | e
          · exact fr5 h e
          · simp at e
            subst e
            exact ⟨ht0, ot, nDt.symm⟩
        · rw [upd_ne nND, upd_ne nNt]; exact hN7
        · rw [upd_ne nFD, upd_ne nFt]; exact hF7
        · have e : n4 + ((ps.length + 1 : Nat) : Int) = n4 + (ps.length : Int) + 1 := by omega
          rw [e]
          exact box_put (bx7.upd ht) hDo3
        · exact ((k05.trans kT).upd (.inr ht0)).upd (.inr frD)
      · intro H5 hB
        obtain ⟨as, ps, hpl, hps, h5, ob5, fr5, hN5, hF5, bx5, k05⟩ := hB.out
        have e1 : ps.map (·.1) = ns := List.ext_getElem? fun j => by
          rw [List.getElem?_map]
          cases e : ps[j]? with
          | none =>
            have := List.getElem?_eq_none_iff.mp e
            rw [List.getElem?_eq_none (by omega)]
            rfl
          | some q => rw [(hps j q e).1]; rfl
        have e2 : ps.map (·.2.1) = fs := List.ext_getElem? fun j => by
          rw [List.getElem?_map]
          cases e : ps[j]? with
          | none =>
            have := List.getElem?_eq_none_iff.mp e
            rw [List.getElem?_eq_none (by omega)]
            rfl
          | some q => rw [(hps j q e).2]; rfl
        have hnl : ns.length ≤ 6 := by omega
        refine kk D as ps (n4 + (ns.length : Int)) H5 frD h5 ob5 (fun h hh => (fr5 h hh).1) ⟨by omega, fun q hq => ⟨nm2 _ ?_, nmf _ ?_⟩, by rw [e1]; exact nd2, by rw [e2]; exact ndf⟩ (by omega) (by omega) bx5 k05
        · rw [← e1]; exact List.mem_map.mpr ⟨q, hq, rfl⟩
        · rw [← e2]; exact List.mem_map.mpr ⟨q, hq, rfl⟩

/-! ### Pacts: made of pairs that fit -/
def sp_is_pair : Sp := fun vs H Q _ => ∃ (h : Addr) (q : My.Pr), vs = [.ref h] ∧ H h = some (prO q) ∧ q.1.length ≤ sizeLine ∧ q.2.1.length ≤ sizeLine ∧ ∀ H', Same H H' → Q (.bl (My.nameB q.1 && My.nameB q.2.1)) H'
theorem ok_p_is_pair (T : Txt K mg a) : FnOk P w K mg base CX0 2 a.f_p_is_pair a.d_p_is_pair ["pair"] sp_is_pair := by
  refine T.F_p_is_pair.ok sc_p_is_pair (fun vs H Q E h => ?_) (fun cdv A outer s H vs Q E hr h => ?_)
  · obtain ⟨h, q, rfl, _⟩ := h
    rfl
  · obtain ⟨h, ⟨q1, q2, q3⟩, rfl, e, z1, z2, kk⟩ := h
    refine ⟨_, (pss_cons (ps_if (PW.pt (pw_or (pt_not (pt_val (pe_callB call_isi (by rfl) T.z_isinstance (by decide +kernel) (pa_cons (pv 0) (pa_cons (pe_bltn (v := .ty "tuple") (by rfl) T.z_tuple (by decide +kernel) rfl) pa_nil))))) (pw_or1 (pt_cmpR op_ne (pe_callB call_len_seq (by rfl) T.z_len (by decide +kernel) (pa_cons (pv 0) pa_nil)) pe_int (nomark _))))) (pss_one (ps_ret pe_bl)) pss_nil)
      (pss_cons (ps_asg (pv 0) (pg_tup (by rfl) (pgs_cons (pg_name (i := 1) sc_p_is_pair.nd rfl (Or.inl rfl)) (pgs_cons (pg_name (i := 2) sc_p_is_pair.nd rfl (Or.inl rfl)) (pgs_cons (pg_name (i := 3) sc_p_is_pair.nd rfl (Or.inl rfl)) pgs_nil)))))
      (pss_one (ps_ret (pe_and (pe_call (ok_is_name T) (hr.mono (by decide)) rfl T.g_is_name T.k_is_name T.B_is_name .nil pass0 (pa_cons (pv 1) pa_nil)) (pe_and (pe_call (ok_is_name T) (hr.mono (by decide)) rfl T.g_is_name T.k_is_name T.B_is_name .nil pass0 (pa_cons (pv 2) pa_nil)) (pe_one (pe_callB call_isi (by rfl) T.z_isinstance (by decide +kernel) (pa_cons (pv 3) (pa_cons (pe_bltn (v := .ty "bool") (by rfl) T.z_bool (by decide +kernel) rfl) pa_nil)))))))))), ?_⟩
    have e' : H h = some (.tup [.str q1, .str q2, .bl q3]) := e
    refine ⟨_, rfl, _, _, _, _, true, rfl, .ty "tuple", .base (.tup e'), kit_ty (by decide +kernel), true, rfl, ?_⟩
    refine iteF ?_
    refine ⟨_, rfl, _, _, rfl, .inr (SqT.of e'), rfl, _, rfl, ?_⟩
    refine iteNS rfl ?_
    refine ⟨_, rfl, h, _, rfl, SqT.of e', rfl, ?_⟩
    refine ⟨_, _, rfl, _, _, rfl, _, _, rfl, rfl, ?_⟩
    refine ⟨_, rfl, q1, rfl, z1, fun H1 s1 => ⟨_, rfl, ?_⟩⟩
    refine iteB (fun h1 => ?_) (fun h1 => ?_)
    · refine ⟨_, rfl, q2, rfl, z2, fun H2 s2 => ⟨_, rfl, ?_⟩⟩
      refine iteB (fun h2 => ?_) (fun h2 => ?_)
      · refine ⟨_, rfl, _, _, _, _, true, rfl, .ty "bool", .base (.bl q3), kit_ty (by decide +kernel), ?_⟩
        have e3 : (My.nameB q1 && My.nameB q2) = true := by rw [h1, h2]; rfl
        exact e3 ▸ kk H2 (s1.trans s2)
      · have e3 : (My.nameB q1 && My.nameB q2) = false := by rw [h1, h2]; rfl
        exact e3 ▸ kk H2 (s1.trans s2)
    · have e3 : (My.nameB q1 && My.nameB q2) = false := by rw [h1]; rfl
      exact e3 ▸ kk H1 s1
def fitsB (q : My.Pr) (ps : List My.Pr) : Bool := decide (ps.length < 6) && !decide (q.1 ∈ ps.map (·.1)) && !decide (q.2.1 ∈ ps.map (·.2.1))
def sp_fits_pairs : Sp := fun vs H Q _ => ∃ (h l : Addr) (q : My.Pr) (as : List Addr) (ps : List My.Pr), vs = [.ref h, .ref l] ∧ H h = some (prO q) ∧ H l = some (.lst (as.map V.ref)) ∧ Objs H as prO ps ∧ ps.length ≤ 10000 ∧ ∀ H', Same H H' → Q (.bl (fitsB q ps)) H'
theorem ok_p_fits_pairs (T : Txt K mg a) : FnOk P w K mg base CX0 1 a.f_p_fits_pairs a.d_p_fits_pairs ["pair", "ahead"] sp_fits_pairs := by
  refine T.F_p_fits_pairs.ok sc_p_fits_pairs (fun vs H Q E h => ?_) (fun cdv A outer s H vs Q E hr h => ?_)
  · obtain ⟨h, l, q, as, ps, rfl, _⟩ := h
    rfl
  · obtain ⟨h, l, ⟨q1, q2, q3⟩, as, ps, rfl, e, el, ob, hz, kk⟩ := h
    have e' : H h = some (.tup [.str q1, .str q2, .bl q3]) := e
    have asl := ob.len
    refine ⟨_, (pss_cons (ps_setLc (i := 2) (own := [("one", 4)]) (g := gName 4) (te := tOp (rIxT K) (tVar 4) (tC (.int 0))) (tt := tYes) rfl sc_p_fits_pairs.nd rfl rfl (sw_true rfl rfl rfl (by decide +kernel)) (pi_list (pv 1)) (blkOk_by (own := [("one", 4)]) (N := ["pair", "ahead", "nears", "fars", "one"]) (sc := defScope s_p_fits_pairs) (by decide +kernel)) (fun _ _ _ _ _ => pg_name (i := 4) sc_p_fits_pairs.nd rfl (Or.inl rfl)) (fun _ _ _ _ _ => pts_nil) (fun _ _ _ _ _ => by exact (pe_ix ix_tup (pv 4) pe_int (fun _ _ => rfl))))
      (pss_cons (ps_setLc (i := 3) (own := [("one", 4)]) (g := gName 4) (te := tOp (rIxT K) (tVar 4) (tC (.int 1))) (tt := tYes) rfl sc_p_fits_pairs.nd rfl rfl (sw_true rfl rfl rfl (by decide +kernel)) (pi_list (pv 1)) (blkOk_by (own := [("one", 4)]) (N := ["pair", "ahead", "nears", "fars", "one"]) (sc := defScope s_p_fits_pairs) (by decide +kernel)) (fun _ _ _ _ _ => pg_name (i := 4) sc_p_fits_pairs.nd rfl (Or.inl rfl)) (fun _ _ _ _ _ => pts_nil) (fun _ _ _ _ _ => by exact (pe_ix ix_tup (pv 4) pe_int (fun _ _ => rfl))))
      (pss_one (ps_ret (pe_and (pe_cmpR op_lt (pe_callB call_len_seq (by rfl) T.z_len (by decide +kernel) (pa_cons (pv 1) pa_nil)) (pe_glob (v := .int 6) rfl T.v_MOST_PAIRS ⟨_, rfl⟩) (nomark _)) (pe_and (pe_cmpR op_notIn_seq (pe_ix ix_tup (pv 0) pe_int (fun _ _ => rfl)) (pv 2) (by rfl)) (pe_one (pe_cmpR op_notIn_seq (pe_ix ix_tup (pv 0) pe_int (fun _ _ => rfl)) (pv 3) (by rfl))))))))), ?_⟩
    refine ⟨_, rfl, l, rfl, ⟨_, SqL.of el⟩, fun D hD => ?_⟩
    have nlD : l ≠ D := ne_of_none el hD
    refine lc_list (K := K) (a := l) (xs := as.map V.ref) (fun i H1 => Blk (H1 = upd H D (.lst (((ps.take i).map (·.1)).map V.str)))) (Blk.of rfl) (fun i H1 _ hB => ?_) ?_ ?_
    · obtain rfl := hB.out
      exact SqL.of ((upd_ne nlD).trans el)
    · intro i y H1 hi hB
      obtain rfl := hB.out
      obtain ⟨x, hx, rfl⟩ := refs_get hi
      obtain ⟨r, hr1, hr2⟩ := ob.get hx
      have := get_lt hr1
      refine ⟨rfl, ?_⟩
      dsimp only [tYes]
      refine iteT ?_
      refine ⟨_, rfl, _, _, _, _, rfl, rfl, SqT.of ((upd_ne (ne_of_none hr2 hD)).trans hr2), rfl, ?_⟩
      refine ⟨_, upd_same, by rw [List.length_map, List.length_map, List.length_take]; exact small (by omega), Blk.of ?_⟩
      rw [upd_upd, take_snoc hr1, List.map_append, List.map_append]
      rfl
    · intro H1 hB
      obtain rfl := hB.out
      have e1 : ps.take (as.map V.ref).length = ps := by rw [List.length_map, asl, List.take_length]
      rw [e1]
      refine ⟨_, rfl, l, rfl, ⟨_, SqL.of ((upd_ne nlD).trans el)⟩, fun G hG => ?_⟩
      have nDG : D ≠ G := ne_of_none upd_same hG
      have hG0 : H G = none := (upd_ne nDG.symm).symm.trans hG
      have nlG : l ≠ G := ne_of_none el hG0
      refine lc_list (K := K) (a := l) (xs := as.map V.ref) (fun i H1 => Blk (H1 = upd (upd H D (.lst ((ps.map (·.1)).map V.str))) G (.lst (((ps.take i).map (·.2.1)).map V.str)))) (Blk.of rfl) (fun i H1 _ hB => ?_) ?_ ?_
      · obtain rfl := hB.out
        exact SqL.of ((upd_ne nlG).trans ((upd_ne nlD).trans el))
      · intro i y H1 hi hB
        obtain rfl := hB.out
        obtain ⟨x, hx, rfl⟩ := refs_get hi
        obtain ⟨r, hr1, hr2⟩ := ob.get hx
        have := get_lt hr1
        refine ⟨rfl, ?_⟩
        dsimp only [tYes]
        refine iteT ?_
        refine ⟨_, rfl, _, _, _, _, rfl, rfl, SqT.of ((upd_ne (ne_of_none hr2 hG0)).trans ((upd_ne (ne_of_none hr2 hD)).trans hr2)), rfl, ?_⟩
        refine ⟨_, upd_same, by rw [List.length_map, List.length_map, List.length_take]; exact small (by omega), Blk.of ?_⟩
        rw [upd_upd, take_snoc hr1, List.map_append, List.map_append]
        rfl
      · intro H1 hB
        obtain rfl := hB.out
        rw [e1]
        have sH : Same H (upd (upd H D (.lst ((ps.map (·.1)).map V.str))) G (.lst ((ps.map (·.2.1)).map V.str))) := ((Same.refl H).upd hD).upd hG0
        have hq := sH _ _ e'
        have hDl : (upd (upd H D (.lst ((ps.map (·.1)).map V.str))) G (.lst ((ps.map (·.2.1)).map V.str))) D = some (.lst ((ps.map (·.1)).map V.str)) := (upd_ne nDG).trans upd_same
        have hGl : (upd (upd H D (.lst ((ps.map (·.1)).map V.str))) G (.lst ((ps.map (·.2.1)).map V.str))) G = some (.lst ((ps.map (·.2.1)).map V.str)) := upd_same
        have fin := kk _ sH
        generalize (upd (upd H D (.lst ((ps.map (·.1)).map V.str))) G (.lst ((ps.map (·.2.1)).map V.str))) = H2 at sH hq hDl hGl fin
        have el2 := sH _ _ el
        refine ⟨_, rfl, l, _, rfl, .inl (SqL.of el2), _, _, rfl, rfl, _, rfl, ?_⟩
        have ec : (((as.map V.ref).length : Nat) : Int) = (ps.length : Int) := by rw [List.length_map, asl]
        rw [ec]
        refine iteD (fun c1 => ?_) (fun c1 => ?_)
        · refine ⟨_, rfl, _, _, _, _, rfl, rfl, SqT.of hq, rfl, ?_⟩
          refine ⟨_, rfl, D, _, rfl, .inl (SqL.of hDl), rfl, flat_str _, _, rfl, ?_⟩
          rw [if_pos rfl, inV_str]
          refine iteB (fun c2 => ?_) (fun c2 => ?_)
          · refine ⟨_, rfl, _, _, _, _, rfl, rfl, SqT.of hq, rfl, ?_⟩
            refine ⟨_, rfl, G, _, rfl, .inl (SqL.of hGl), rfl, flat_str _, ?_⟩
            rw [if_pos rfl, inV_str]
            have e3 : fitsB (q1, q2, q3) ps = !decide (q2 ∈ ps.map (·.2.1)) := by
              unfold fitsB
              rw [c2, decide_eq_true (by omega : ps.length < 6)]
              rfl
            exact e3 ▸ fin
          · have e3 : fitsB (q1, q2, q3) ps = false := by
              unfold fitsB
              rw [c2]
              simp
            exact e3 ▸ fin
        · have e3 : fitsB (q1, q2, q3) ps = false := by
            unfold fitsB
            rw [decide_eq_false (by omega : ¬ ps.length < 6)]
            simp
          exact e3 ▸ fin

/-! ### helpers' pacts -/
open My (Hr)
/-- at as stand things of which R speaks -/
structure AllAt {α : Type} (R : Addr → α → Prop) (as : List Addr) (xs : List α) : Prop where
  len : as.length = xs.length
  at_ : ∀ (i : Nat) (h : Addr) (x : α), as[i]? = some h → xs[i]? = some x → R h x
theorem AllAt.imp {α : Type} {R R' : Addr → α → Prop} {as : List Addr} {xs : List α} (o : AllAt R as xs) (h : ∀ a x, R a x → R' a x) : AllAt R' as xs := ⟨o.len, fun i a x e1 e2 => h a x (o.at_ i a x e1 e2)⟩
theorem AllAt.get {α : Type} {R : Addr → α → Prop} {as : List Addr} {xs : List α} (o : AllAt R as xs) {i : Nat} {h : Addr} (e : as[i]? = some h) : ∃ x, xs[i]? = some x ∧ R h x := by
  have hl := get_lt e
  rw [o.len] at hl
  have e2 : xs[i]? = some xs[i] := List.getElem?_eq_getElem hl
  exact ⟨_, e2, o.at_ i h _ e e2⟩
theorem AllAt.nil {α : Type} {R : Addr → α → Prop} : AllAt R [] [] := ⟨rfl, fun i h x e => by simp at e⟩
theorem AllAt.snoc {α : Type} {R : Addr → α → Prop} {as : List Addr} {xs : List α} (o : AllAt R as xs) {h : Addr} {x : α} (e : R h x) : AllAt R (as ++ [h]) (xs ++ [x]) := by
  refine ⟨by rw [List.length_append, List.length_append, o.len]; rfl, fun i h' x' e1 e2 => ?_⟩
  by_cases hi : i < as.length
  · rw [List.getElem?_append_left hi] at e1
    rw [List.getElem?_append_left (by rw [← o.len]; exact hi)] at e2
    exact o.at_ i h' x' e1 e2
  · have hl := get_lt e1
    rw [List.length_append, List.length_singleton] at hl
    obtain rfl : i = as.length := by omega
    have e3 : as.length = xs.length := o.len
    simp at e1
    rw [e3] at e2
    simp at e2
    subst e1 e2
    exact e
theorem AllAt.take {α : Type} {R : Addr → α → Prop} {as : List Addr} {xs : List α} (o : AllAt R as xs) (n : Nat) : AllAt R (as.take n) (xs.take n) := by
  refine ⟨by rw [List.length_take, List.length_take, o.len], fun i h x e1 e2 => ?_⟩
  by_cases hi : i < n
  · rw [List.getElem?_take, if_pos hi] at e1 e2
    exact o.at_ i h x e1 e2
  · rw [List.getElem?_take, if_neg hi] at e1
    cases e1
/-- the tuple of a helper's pact -/
def HrAt (H : Hp) (h : Addr) (x : Hr) : Prop := ∃ tk th : Addr, H h = some (.tup [.str x.name, .int x.side, .ref tk, .bl x.gives, .ref th]) ∧ TupF H tk (x.takes.map V.str) ∧ TupF H th (x.throws.map V.str)
theorem _root_.L2.TupF.same {H H' : Hp} {h : Addr} {xs : List V} (e : TupF H h xs) (s : Same H H') : TupF H' h xs := let ⟨o, ho, q⟩ := e; ⟨o, ho, s _ _ q⟩
theorem HrAt.same {H H' : Hp} {h : Addr} {x : Hr} (e : HrAt H h x) (s : Same H H') : HrAt H' h x := by
  obtain ⟨tk, th, e1, e2, e3⟩ := e
  exact ⟨tk, th, s _ _ e1, e2.same s, e3.same s⟩
def NoTup (H : Hp) (R : List Addr) : Prop := ∀ x, x ∈ R → ∀ ys, H x ≠ some (.tup ys) ∧ ∀ o, H x ≠ some (.frz o (.tup ys))
theorem NoTup.one {H : Hp} {x : Addr} {o : HO} (h : H x = some o) (n1 : ∀ ys, o ≠ .tup ys) (n2 : ∀ b ys, o ≠ .frz b (.tup ys)) : NoTup H [x] := fun y hy ys => by
  simp at hy
  subst hy
  rw [h]
  exact ⟨fun e => n1 ys (Option.some.inj e), fun b e => n2 b ys (Option.some.inj e)⟩
theorem NoTup.lst {H : Hp} {x : Addr} {xs : List V} (h : H x = some (.lst xs)) : NoTup H [x] := NoTup.one h (fun _ e => by cases e) fun _ _ e => by cases e
theorem tupF_keep {H H' : Hp} {R : List Addr} {h : Addr} {xs : List V} (e : TupF H h xs) (k : Keeps R H H') (n : NoTup H R) : TupF H' h xs := let ⟨o, ho, q⟩ := e; ⟨o, ho, k _ _ q fun z => (n _ z _).2 o q⟩
theorem HrAt.keep {H H' : Hp} {R : List Addr} {h : Addr} {x : Hr} (e : HrAt H h x) (k : Keeps R H H') (n : NoTup H R) : HrAt H' h x := by
  obtain ⟨tk, th, e1, e2, e3⟩ := e
  exact ⟨tk, th, k _ _ e1 fun q => (n _ q _).1 e1, tupF_keep e2 k n, tupF_keep e3 k n⟩
theorem Objs.keepN {H H' : Hp} {R as : List Addr} {ps : List My.Pr} (o : Objs H as prO ps) (k : Keeps R H H') (n : NoTup H R) : Objs H' as prO ps :=
  ⟨o.len, fun i h x e1 e2 => by
    have e := o.at_ i h x e1 e2
    exact k _ _ e fun q => (n _ q _).1 e⟩
abbrev Crew (H : Hp) (as : List Addr) (xs : List Hr) : Prop := AllAt (HrAt H) as xs
theorem Crew.same {H H' : Hp} {as : List Addr} {xs : List Hr} (o : Crew H as xs) (s : Same H H') : Crew H' as xs := o.imp fun _ _ e => e.same s
theorem Crew.keep {H H' : Hp} {R as : List Addr} {xs : List Hr} (o : Crew H as xs) (k : Keeps R H H') (n : NoTup H R) : Crew H' as xs := o.imp fun _ _ e => e.keep k n
theorem bools_step {α : Type} {D : Addr} {H : Hp} {xs : List α} {f : α → Bool} {i : Nat} {x : α} (h : xs[i]? = some x) (hz : xs.length ≤ 10000) :
    ∃ acc, upd H D (.lst (((xs.take i).map f).map V.bl)) D = some (.lst acc) ∧ acc.length < sizeLine ∧ upd (upd H D (.lst (((xs.take i).map f).map V.bl))) D (.lst (acc ++ [.bl (f x)])) = upd H D (.lst (((xs.take (i + 1)).map f).map V.bl)) := by
  refine ⟨_, upd_same, ?_, ?_⟩
  · rw [List.length_map, List.length_map, List.length_take]
    have := get_lt h
    exact small (by omega)
  · rw [upd_upd, take_snoc h, List.map_append, List.map_append]
    rfl
theorem all_map_id {α : Type} (l : List α) (f : α → Bool) : (l.map f).all id = l.all f := by rw [List.all_map]; rfl
def sp_are_takes : Sp := fun vs H Q _ => ∃ (t : Addr) (ts : List Str), vs = [.ref t] ∧ TupF H t (ts.map V.str) ∧ ts.length ≤ 10000 ∧ ∀ H', Same H H' → Q (.bl (My.takesB ts)) H'
theorem ok_p_are_takes (T : Txt K mg a) : FnOk P w K mg base CX0 1 a.f_p_are_takes a.d_p_are_takes ["takes"] sp_are_takes := by
  refine T.F_p_are_takes.ok sc_p_are_takes (fun vs H Q E h => ?_) (fun cdv A outer s H vs Q E hr h => ?_)
  · obtain ⟨t, ts, rfl, _⟩ := h
    rfl
  · obtain ⟨t, ts, rfl, ⟨ob, hob, e⟩, hz, kk⟩ := h
    have eq : ∀ {H' : Hp}, H' t = some (.frz ob (.tup (ts.map V.str))) → SqT K H' t (ts.map V.str) := fun e => .inl (.inr ⟨ob, e⟩)
    refine ⟨_, (pss_cons (ps_if (PW.pt (pw_or (pt_not (pt_val (pe_callB call_isi (by rfl) T.z_isinstance (by decide +kernel) (pa_cons (pv 0) (pa_cons (pe_bltn (v := .ty "tuple") (by rfl) T.z_tuple (by decide +kernel) rfl) pa_nil))))) (pw_or1 (pt_cmpR op_gt (pe_callB call_len_seq (by rfl) T.z_len (by decide +kernel) (pa_cons (pv 0) pa_nil)) (pe_glob (v := .int 3) rfl T.v_MOST_TAKES ⟨_, rfl⟩) (nomark _))))) (pss_one (ps_ret pe_bl)) pss_nil)
      (pss_one (ps_ret (pe_callB (cr_all rfl) (by rfl) T.z_all (by decide +kernel) (pa_cons (pe_lc (own := [("take", 1)]) (g := gName 1) (te := tOp (rIn K false) (tVar 1) (tC (.ref a.t_TAKES))) (tt := tYes) rfl sc_p_are_takes.nd (pi_tup (pv 0)) (blkOk_by (own := [("take", 1)]) (N := ["takes", "take"]) (sc := defScope s_p_are_takes) (by decide +kernel)) (fun _ _ _ _ _ => pg_name (i := 1) sc_p_are_takes.nd rfl (Or.inl rfl)) (fun _ _ _ _ _ => pts_nil) (fun _ _ _ _ _ => by exact (pe_cmpR op_in_seq (pv 1) (pe_glob (v := .ref a.t_TAKES) rfl T.v_TAKES rfl) (by rfl)))) pa_nil))))), ?_⟩
    refine ⟨_, rfl, _, _, _, _, true, rfl, .ty "tuple", .fTuple e, kit_ty (by decide +kernel), true, rfl, ?_⟩
    refine iteF ?_
    refine ⟨_, rfl, t, _, rfl, .inr (eq e), _, _, rfl, rfl, _, rfl, ?_⟩
    have el : (((ts.map V.str).length : Nat) : Int) = (ts.length : Int) := by rw [List.length_map]
    rw [el]
    refine iteD (fun c => ?_) (fun c => ?_)
    · have eb : My.takesB ts = false := by
        unfold My.takesB
        rw [decide_eq_false (by omega)]
        rfl
      exact eb ▸ kk H (Same.refl H)
    · refine ⟨_, rfl, t, rfl, ⟨_, eq e⟩, fun D hD => ?_⟩
      have nD : t ≠ D := ne_of_none e hD
      refine lc_tup (K := K) (a := t) (xs := ts.map V.str) (fun i H1 => Blk (H1 = upd H D (.lst (((ts.take i).map fun t => decide (t ∈ (["lent", "given"] : List Str))).map V.bl)))) (Blk.of rfl) (fun i H1 _ hB => ?_) ?_ ?_
      · obtain rfl := hB.out
        exact eq ((upd_ne nD).trans e)
      · intro i y H1 hi hB
        obtain rfl := hB.out
        obtain ⟨x, hx, rfl⟩ := strs_get hi
        refine ⟨rfl, ?_⟩
        dsimp only [tYes]
        refine iteT ?_
        refine ⟨_, rfl, _, _, rfl, .inr (T.q_TAKES _), rfl, rfl, ?_⟩
        rw [if_neg Bool.false_ne_true]
        have ei : inV (.str x) [.str "lent", .str "given"] = decide (x ∈ (["lent", "given"] : List Str)) := inV_str x ["lent", "given"]
        rw [ei]
        obtain ⟨acc, h1, h2, h3⟩ := bools_step (D := D) (H := H) (f := fun t => decide (t ∈ (["lent", "given"] : List Str))) hx hz
        exact ⟨acc, h1, h2, Blk.of h3⟩
      · intro H1 hB
        obtain rfl := hB.out
        refine ⟨D, _, rfl, SqL.of upd_same, ?_⟩
        rw [List.length_map, List.take_length, all_map_id]
        have eb : ts.all (fun t => decide (t ∈ (["lent", "given"] : List Str))) = My.takesB ts := by
          unfold My.takesB
          rw [decide_eq_true (by omega : ts.length ≤ 3)]
          rfl
        rw [eb]
        exact kk _ ((Same.refl H).upd hD)
def sp_are_throws : Sp := fun vs H Q _ => ∃ (t : Addr) (ts : List Str), vs = [.ref t] ∧ TupF H t (ts.map V.str) ∧ ts.length ≤ 10000 ∧ ∀ H', Same H H' → Q (.bl (My.throwsB ts)) H'
theorem ok_p_are_throws (T : Txt K mg a) : FnOk P w K mg base CX0 1 a.f_p_are_throws a.d_p_are_throws ["throws"] sp_are_throws := by
  refine T.F_p_are_throws.ok sc_p_are_throws (fun vs H Q E h => ?_) (fun cdv A outer s H vs Q E hr h => ?_)
  · obtain ⟨t, ts, rfl, _⟩ := h
    rfl
  · obtain ⟨t, ts, rfl, ⟨ob, hob, e⟩, hz, kk⟩ := h
    have eq : ∀ {H' : Hp}, H' t = some (.frz ob (.tup (ts.map V.str))) → SqT K H' t (ts.map V.str) := fun e => .inl (.inr ⟨ob, e⟩)
    refine ⟨_, (pss_cons (ps_if (PW.pt (pw_or (pt_not (pt_val (pe_callB call_isi (by rfl) T.z_isinstance (by decide +kernel) (pa_cons (pv 0) (pa_cons (pe_bltn (v := .ty "tuple") (by rfl) T.z_tuple (by decide +kernel) rfl) pa_nil))))) (pw_or1 (pt_cmpR op_gt (pe_callB call_len_seq (by rfl) T.z_len (by decide +kernel) (pa_cons (pv 0) pa_nil)) (pe_glob (v := .int 4) rfl T.v_MOST_THROWS ⟨_, rfl⟩) (nomark _))))) (pss_one (ps_ret pe_bl)) pss_nil)
      (pss_one (ps_ret (pe_callB (cr_all rfl) (by rfl) T.z_all (by decide +kernel) (pa_cons (pe_lc (own := [("word", 1)]) (g := gName 1) (te := tOp rEq (tBMF (rCntS K) (tVar 0) (tCons (tVar 1) tNil)) (tC (.int 1))) (tt := tYes) rfl sc_p_are_throws.nd (pi_tup (pv 0)) (blkOk_by (own := [("word", 1)]) (N := ["throws", "word"]) (sc := defScope s_p_are_throws) (by decide +kernel)) (fun _ _ _ _ _ => pg_name (i := 1) sc_p_are_throws.nd rfl (Or.inl rfl)) (fun _ _ _ _ _ => pts_nil) (fun _ _ _ _ _ => by exact (pe_cmpR op_eq (pe_bmF PySem.F.plainAttrs_tuple PySem.F.slot_tuple_count PySem.F.type_tuple_count mt_tcount (pv 0) (pa_cons (pv 1) pa_nil)) pe_int (nomark _)))) pa_nil))))), ?_⟩
    refine ⟨_, rfl, _, _, _, _, true, rfl, .ty "tuple", .fTuple e, kit_ty (by decide +kernel), true, rfl, ?_⟩
    refine iteF ?_
    refine ⟨_, rfl, t, _, rfl, .inr (eq e), _, _, rfl, rfl, _, rfl, ?_⟩
    have el : (((ts.map V.str).length : Nat) : Int) = (ts.length : Int) := by rw [List.length_map]
    rw [el]
    refine iteD (fun c => ?_) (fun c => ?_)
    · have eb : My.throwsB ts = false := by
        unfold My.throwsB
        rw [decide_eq_false (by omega)]
        rfl
      exact eb ▸ kk H (Same.refl H)
    · refine ⟨_, rfl, t, rfl, ⟨_, eq e⟩, fun D hD => ?_⟩
      have nD : t ≠ D := ne_of_none e hD
      refine lc_tup (K := K) (a := t) (xs := ts.map V.str) (fun i H1 => Blk (H1 = upd H D (.lst (((ts.take i).map fun t => decide (ts.count t = 1)).map V.bl)))) (Blk.of rfl) (fun i H1 _ hB => ?_) ?_ ?_
      · obtain rfl := hB.out
        exact eq ((upd_ne nD).trans e)
      · intro i y H1 hi hB
        obtain rfl := hB.out
        obtain ⟨x, hx, rfl⟩ := strs_get hi
        refine ⟨rfl, ?_⟩
        dsimp only [tYes]
        refine iteT ?_
        have e2 : ∀ o, upd H D o t = some (.frz ob (.tup (ts.map V.str))) := fun o => (upd_ne nD).trans e
        refine ⟨_, rfl, ⟨t, _, rfl, ob, hob, e2 _⟩, _, rfl, t, ts, x, rfl, rfl, eq (e2 _), rfl, ?_⟩
        have ed : decide (V.int ((ts.count x : Nat) : Int) = V.int 1) = decide (ts.count x = 1) := by
          by_cases h : ts.count x = 1
          · rw [h]; rfl
          · rw [decide_eq_false h, decide_eq_false fun z => h (by have := V.int.inj z; omega)]
        rw [ed]
        obtain ⟨acc, h1, h2, h3⟩ := bools_step (D := D) (H := H) (f := fun t => decide (ts.count t = 1)) hx hz
        exact ⟨acc, h1, h2, Blk.of h3⟩
      · intro H1 hB
        obtain rfl := hB.out
        refine ⟨D, _, rfl, SqL.of upd_same, ?_⟩
        rw [List.length_map, List.take_length, all_map_id]
        have eb : ts.all (fun t => decide (ts.count t = 1)) = My.throwsB ts := by
          unfold My.throwsB
          rw [decide_eq_true (by omega : ts.length ≤ 4)]
          rfl
        rw [eb]
        exact kk _ ((Same.refl H).upd hD)

open My (Hr)
theorem lenI (n : Nat) (xs : List V) (h : xs.length = n) : ((xs.length : Nat) : Int) = (n : Int) := by rw [h]
def sp_is_pact : Sp := fun vs H Q _ => ∃ (h : Addr) (x : Hr), vs = [.ref h] ∧ HrAt H h x ∧ x.name.length ≤ sizeLine ∧ x.takes.length ≤ 10000 ∧ x.throws.length ≤ 10000 ∧ ∀ H', Same H H' → Q (.bl (My.pactB x)) H'
theorem ok_p_is_pact (T : Txt K mg a) : FnOk P w K mg base CX0 3 a.f_p_is_pact a.d_p_is_pact ["pact"] sp_is_pact := by
  refine T.F_p_is_pact.ok sc_p_is_pact (fun vs H Q E h => ?_) (fun cdv A outer s H vs Q E hr h => ?_)
  · obtain ⟨h, x, rfl, _⟩ := h
    rfl
  · obtain ⟨h, x, rfl, ⟨tk, th, e, etk, eth⟩, z1, z2, z3, kk⟩ := h
    refine ⟨_, (pss_cons (ps_if (PW.pt (pw_or (pt_not (pt_val (pe_callB call_isi (by rfl) T.z_isinstance (by decide +kernel) (pa_cons (pv 0) (pa_cons (pe_bltn (v := .ty "tuple") (by rfl) T.z_tuple (by decide +kernel) rfl) pa_nil))))) (pw_or1 (pt_cmpR op_ne (pe_callB call_len_seq (by rfl) T.z_len (by decide +kernel) (pa_cons (pv 0) pa_nil)) pe_int (nomark _))))) (pss_one (ps_ret pe_bl)) pss_nil)
      (pss_cons (ps_asg (pv 0) (pg_tup (by rfl) (pgs_cons (pg_name (i := 1) sc_p_is_pact.nd rfl (Or.inl rfl)) (pgs_cons (pg_name (i := 2) sc_p_is_pact.nd rfl (Or.inl rfl)) (pgs_cons (pg_name (i := 3) sc_p_is_pact.nd rfl (Or.inl rfl)) (pgs_cons (pg_name (i := 4) sc_p_is_pact.nd rfl (Or.inl rfl)) (pgs_cons (pg_name (i := 5) sc_p_is_pact.nd rfl (Or.inl rfl)) pgs_nil)))))))
      (pss_cons (ps_if (PW.pt (pw_or (pt_not (pt_val (pe_call (ok_is_name T) (hr.mono (by decide)) rfl T.g_is_name T.k_is_name T.B_is_name .nil pass0 (pa_cons (pv 1) pa_nil)))) (pw_or (pt_not (pt_val (pe_call (ok_is_side T) (hr.mono (by decide)) rfl T.g_is_side T.k_is_side T.B_is_side .nil pass0 (pa_cons (pv 2) pa_nil)))) (pw_or1 (pt_not (pt_val (pe_callB call_isi (by rfl) T.z_isinstance (by decide +kernel) (pa_cons (pv 4) (pa_cons (pe_bltn (v := .ty "bool") (by rfl) T.z_bool (by decide +kernel) rfl) pa_nil))))))))) (pss_one (ps_ret pe_bl)) pss_nil)
      (pss_one (ps_ret (pe_and (pe_call (ok_p_are_takes T) (hr.mono (by decide)) rfl T.g_p_are_takes T.k_p_are_takes T.B_p_are_takes .nil pass0 (pa_cons (pv 3) pa_nil)) (pe_one (pe_call (ok_p_are_throws T) (hr.mono (by decide)) rfl T.g_p_are_throws T.k_p_are_throws T.B_p_are_throws .nil pass0 (pa_cons (pv 5) pa_nil))))))))), ?_⟩
    refine ⟨_, rfl, _, _, _, _, true, rfl, .ty "tuple", .base (.tup e), kit_ty (by decide +kernel), true, rfl, ?_⟩
    refine iteF ?_
    refine ⟨_, rfl, _, _, rfl, .inr (SqT.of e), rfl, _, rfl, ?_⟩
    refine iteNS rfl ?_
    refine ⟨_, rfl, h, _, rfl, SqT.of e, rfl, ?_⟩
    refine ⟨_, _, rfl, _, _, rfl, _, _, rfl, _, _, rfl, _, _, rfl, rfl, ?_⟩
    have no : ∀ {H1 : Hp}, Same H H1 → (My.nameB x.name && My.sideB x.side) = false → Q (.bl false) H1 := fun s c => by
      have e2 : My.pactB x = false := by unfold My.pactB; rw [c]; rfl
      exact e2 ▸ kk _ s
    refine ⟨_, rfl, x.name, rfl, z1, fun H1 s1 => ⟨_, rfl, ?_⟩⟩
    refine iteB (fun c1 => ?_) (fun c1 => ?_)
    · have c : My.nameB x.name = false := by simpa using c1
      exact iteT (no s1 (by rw [c]; rfl))
    · have c1' : My.nameB x.name = true := by simpa using c1
      refine ⟨_, rfl, x.side, rfl, fun H2 s2 => ⟨_, rfl, ?_⟩⟩
      refine iteB (fun c2 => ?_) (fun c2 => ?_)
      · have c : My.sideB x.side = false := by
          show decide (x.side = 0 ∨ x.side = 1) = false
          cases hq : decide (x.side = 0 ∨ x.side = 1) with
          | true => rw [hq] at c2; cases c2
          | false => rfl
        exact iteT (no (s1.trans s2) (by rw [c, Bool.and_false]))
      · have c2' : My.sideB x.side = true := by
          show decide (x.side = 0 ∨ x.side = 1) = true
          cases hq : decide (x.side = 0 ∨ x.side = 1) with
          | true => rfl
          | false => rw [hq] at c2; cases c2
        refine ⟨_, rfl, _, _, _, _, true, rfl, .ty "bool", .base (.bl x.gives), kit_ty (by decide +kernel), true, rfl, ?_⟩
        refine iteF ?_
        have s12 := s1.trans s2
        refine ⟨_, rfl, tk, x.takes, rfl, etk.same s12, z2, fun H3 s3 => ⟨_, rfl, ?_⟩⟩
        obtain ⟨ob, hob, eth2⟩ := eth
        refine iteB (fun c3 => ?_) (fun c3 => ?_)
        · refine ⟨_, rfl, th, x.throws, rfl, ⟨ob, hob, s3 _ _ (s12 _ _ eth2)⟩, z3, fun H4 s4 => ?_⟩
          have e2 : My.pactB x = My.throwsB x.throws := by unfold My.pactB; rw [c1', c2', c3]; rfl
          exact e2 ▸ kk _ ((s12.trans s3).trans s4)
        · have e2 : My.pactB x = false := by unfold My.pactB; rw [c3]; simp
          exact e2 ▸ kk _ (s12.trans s3)
def sp_fits_helpers : Sp := fun vs H Q _ => ∃ (h l L : Addr) (x : Hr) (as has : List Addr) (ps : List My.Pr) (hs : List Hr), vs = [.ref h, .ref l, .ref L] ∧ HrAt H h x ∧ (x.side = 0 ∨ x.side = 1) ∧ H l = some (.lst (as.map V.ref)) ∧ Objs H as prO ps ∧ H L = some (.lst (has.map V.ref)) ∧ Crew H has hs ∧
  ps.length ≤ 10000 ∧ hs.length ≤ 10000 ∧ x.throws.length ≤ 10000 ∧ ∀ H', Same H H' → Q (.bl (My.fitsHB x ps hs)) H'
theorem wd_at2 {i : Int} (hi : i = 0 ∨ i = 1) (p : My.Pr) : atI [V.str p.1, .str p.2.1, .bl p.2.2] i = some (.str (My.wd i p)) := by
  rcases hi with rfl | rfl <;> rfl
theorem ok_p_fits_helpers (T : Txt K mg a) : FnOk P w K mg base CX0 1 a.f_p_fits_helpers a.d_p_fits_helpers ["pact", "pairs", "ahead"] sp_fits_helpers := by
  refine T.F_p_fits_helpers.ok sc_p_fits_helpers (fun vs H Q E h => ?_) (fun cdv A outer s H vs Q E hr h => ?_)
  · obtain ⟨h, l, L, x, as, has, ps, hs, rfl, _⟩ := h
    rfl
  · obtain ⟨h, l, L, x, as, has, ps, hs, rfl, ⟨tk, th, e, etk, ob, hob, eth⟩, hside, el, obs, eL, crew, hz1, hz2, hz3, kk⟩ := h
    refine ⟨_, (pss_cons (ps_asg (pv 0) (pg_tup (by rfl) (pgs_cons (pg_name (i := 3) sc_p_fits_helpers.nd rfl (Or.inl rfl)) (pgs_cons (pg_name (i := 4) sc_p_fits_helpers.nd rfl (Or.inr rfl)) (pgs_cons (pg_name (i := 5) sc_p_fits_helpers.nd rfl (Or.inl rfl)) (pgs_cons (pg_name (i := 5) sc_p_fits_helpers.nd rfl (Or.inl rfl)) (pgs_cons (pg_name (i := 6) sc_p_fits_helpers.nd rfl (Or.inl rfl)) pgs_nil)))))))
      (pss_cons (ps_setLc (i := 7) (own := [("one", 9)]) (g := gName 9) (te := tVar 9) (tt := tTest (tOp rEq (tOp (rIxT K) (tVar 9) (tC (.int 1))) (tVar 4))) rfl sc_p_fits_helpers.nd rfl rfl (sw_true rfl rfl rfl (by decide +kernel)) (pi_list (pv 2)) (blkOk_by (own := [("one", 9)]) (N := ["pact", "pairs", "ahead", "name", "side", "_", "throws", "fellows", "words", "one", "pair", "word"]) (sc := defScope s_p_fits_helpers) (by decide +kernel)) (fun _ _ _ _ _ => pg_name (i := 9) sc_p_fits_helpers.nd rfl (Or.inl rfl)) (fun _ _ _ _ _ => pts_one (pt_cmpR op_eq (pe_ix ix_tup (pv 9) pe_int (fun _ _ => rfl)) (pv 4) (nomark _))) (fun _ _ _ _ _ => by exact (pv 9)))
      (pss_cons (ps_if (PW.pt (pw_or (pt_cmpR op_eq (pe_callB call_len_seq (by rfl) T.z_len (by decide +kernel) (pa_cons (pv 7) pa_nil)) (pe_glob (v := .int 4) rfl T.v_MOST_HELPERS ⟨_, rfl⟩) (nomark _)) (pw_or1 (pt_cmpR op_in_seq (pv 3) (pe_lc (own := [("one", 9)]) (g := gName 9) (te := tOp (rIxT K) (tVar 9) (tC (.int 0))) (tt := tYes) rfl sc_p_fits_helpers.nd (pi_list (pv 2)) (blkOk_by (own := [("one", 9)]) (N := ["pact", "pairs", "ahead", "name", "side", "_", "throws", "fellows", "words", "one", "pair", "word"]) (sc := defScope s_p_fits_helpers) (by decide +kernel)) (fun _ _ _ _ _ => pg_name (i := 9) sc_p_fits_helpers.nd rfl (Or.inl rfl)) (fun _ _ _ _ _ => pts_nil) (fun _ _ _ _ _ => by exact (pe_ix ix_tup (pv 9) pe_int (fun _ _ => rfl)))) (by rfl))))) (pss_one (ps_ret pe_bl)) pss_nil)
      (pss_cons (ps_set (i := 8) sc_p_fits_helpers.nd rfl (Or.inr rfl) (pe_lc (own := [("pair", 10)]) (g := gName 10) (te := tOp (rIxT K) (tVar 10) (tVar 4)) (tt := tYes) rfl sc_p_fits_helpers.nd (pi_list (pv 1)) (blkOk_by (own := [("pair", 10)]) (N := ["pact", "pairs", "ahead", "name", "side", "_", "throws", "fellows", "words", "one", "pair", "word"]) (sc := defScope s_p_fits_helpers) (by decide +kernel)) (fun _ _ _ _ _ => pg_name (i := 10) sc_p_fits_helpers.nd rfl (Or.inl rfl)) (fun _ _ _ _ _ => pts_nil) (fun _ _ _ _ _ => by exact (pe_ix ix_tup (pv 10) (pv 4) (fun _ _ => rfl)))))
      (pss_one (ps_ret (pe_callB (cr_all rfl) (by rfl) T.z_all (by decide +kernel) (pa_cons (pe_lc (own := [("word", 11)]) (g := gName 11) (te := tOp (rIn K false) (tVar 11) (tVar 8)) (tt := tYes) rfl sc_p_fits_helpers.nd (pi_tup (pv 6)) (blkOk_by (own := [("word", 11)]) (N := ["pact", "pairs", "ahead", "name", "side", "_", "throws", "fellows", "words", "one", "pair", "word"]) (sc := defScope s_p_fits_helpers) (by decide +kernel)) (fun _ _ _ _ _ => pg_name (i := 11) sc_p_fits_helpers.nd rfl (Or.inl rfl)) (fun _ _ _ _ _ => pts_nil) (fun _ _ _ _ _ => by exact (pe_cmpR op_in_seq (pv 11) (pv 8) (by rfl)))) pa_nil)))))))), ?_⟩
    refine ⟨_, rfl, h, _, rfl, SqT.of e, rfl, ?_⟩
    refine ⟨_, _, rfl, _, _, rfl, _, _, rfl, _, _, rfl, _, _, rfl, rfl, ?_⟩
    have asl := obs.len
    have hasl := crew.len
    -- fellows
    refine ⟨_, rfl, L, rfl, ⟨_, SqL.of eL⟩, fun D hD => ?_⟩
    have nLD : L ≠ D := ne_of_none eL hD
    refine lc_list (K := K) (a := L) (xs := has.map V.ref) (fun i H1 => Blk (∃ fs : List Addr, H1 = upd H D (.lst (fs.map V.ref)) ∧ fs.length = ((hs.take i).filter fun z => decide (z.side = x.side)).length)) (Blk.of ⟨[], rfl, rfl⟩) (fun i H1 _ hB => ?_) ?_ ?_
    · obtain ⟨fs, rfl, _⟩ := hB.out
      exact SqL.of ((upd_ne nLD).trans eL)
    · intro i y H1 hi hB
      obtain ⟨fs, rfl, hf⟩ := hB.out
      obtain ⟨b, hb, rfl⟩ := refs_get hi
      obtain ⟨z, hz, tk2, th2, ez, _⟩ := crew.get hb
      have hil := get_lt hz
      refine ⟨rfl, ?_⟩
      refine ⟨_, rfl, _, _, _, _, rfl, rfl, SqT.of ((upd_ne (ne_of_none ez hD)).trans ez), rfl, _, rfl, rfl, _, rfl, ?_⟩
      have ed : decide (V.int z.side = V.int x.side) = decide (z.side = x.side) := by
        by_cases c : z.side = x.side
        · rw [c]; simp
        · rw [decide_eq_false c, decide_eq_false fun q => c (V.int.inj q)]
      rw [ed]
      have et : (hs.take (i + 1)).filter (fun z => decide (z.side = x.side)) = (hs.take i).filter (fun z => decide (z.side = x.side)) ++ (if z.side = x.side then [z] else []) := by
        rw [take_snoc hz, List.filter_append]
        by_cases c : z.side = x.side
        · simp [c]
        · simp [c]
      have hfl : fs.length ≤ i := by
        rw [hf]
        refine Nat.le_trans (List.length_filter_le _ _) ?_
        rw [List.length_take]
        omega
      refine iteD (fun c => ?_) (fun c => ?_)
      · refine ⟨_, rfl, _, upd_same, by rw [List.length_map]; exact small (by omega), Blk.of ⟨fs ++ [b], ?_, ?_⟩⟩
        · rw [upd_upd, List.map_append]; rfl
        · rw [et, if_pos c, List.length_append, List.length_append, hf]; rfl
      · exact Blk.of ⟨fs, rfl, by rw [et, if_neg c, List.append_nil, hf]⟩
    · intro H1 hB
      obtain ⟨fs, rfl, hf⟩ := hB.out
      rw [List.length_map, hasl, List.take_length] at hf
      have sD : Same H (upd H D (.lst (fs.map V.ref))) := (Same.refl H).upd hD
      have hD1 : (upd H D (.lst (fs.map V.ref))) D = some (.lst (fs.map V.ref)) := upd_same
      show _
      generalize (upd H D (.lst (fs.map V.ref))) = H1 at sD hD1
      have eL1 := sD _ _ eL
      have no : ∀ {H2 : Hp}, Same H H2 → (decide ((hs.filter fun z => decide (z.side = x.side)).length = 4) || decide (x.name ∈ hs.map (·.name))) = true → Q (.bl false) H2 := fun s c => by
        have e2 : My.fitsHB x ps hs = false := by unfold My.fitsHB; rw [c]; rfl
        exact e2 ▸ kk _ s
      refine ⟨_, rfl, D, _, rfl, .inl (SqL.of hD1), rfl, _, rfl, ?_⟩
      have el1 : decide (V.int (((fs.map V.ref).length : Nat) : Int) = V.int 4) = decide ((hs.filter fun z => decide (z.side = x.side)).length = 4) := by
        rw [List.length_map, hf]
        by_cases c : (hs.filter fun z => decide (z.side = x.side)).length = 4
        · rw [c]; rfl
        · rw [decide_eq_false c, decide_eq_false fun q => c (by have := V.int.inj q; omega)]
      rw [el1]
      refine iteB (fun c1 => iteT (no sD (by rw [c1]; rfl))) (fun c1 => ?_)
      refine ⟨_, rfl, _, rfl, L, rfl, ⟨_, SqL.of eL1⟩, fun G hG => ?_⟩
      have nLG : L ≠ G := ne_of_none eL1 hG
      refine lc_list (K := K) (a := L) (xs := has.map V.ref) (fun i H2 => Blk (H2 = upd H1 G (.lst (((hs.take i).map (·.name)).map V.str)))) (Blk.of rfl) (fun i H2 _ hB => ?_) ?_ ?_
      · obtain rfl := hB.out
        exact SqL.of ((upd_ne nLG).trans eL1)
      · intro i y H2 hi hB
        obtain rfl := hB.out
        obtain ⟨b, hb, rfl⟩ := refs_get hi
        obtain ⟨z, hz, tk2, th2, ez, _⟩ := crew.get hb
        have ez1 := sD _ _ ez
        have hil := get_lt hz
        refine ⟨rfl, ?_⟩
        dsimp only [tYes]
        refine iteT ?_
        refine ⟨_, rfl, _, _, _, _, rfl, rfl, SqT.of ((upd_ne (ne_of_none ez1 hG)).trans ez1), rfl, ?_⟩
        refine ⟨_, upd_same, by rw [List.length_map, List.length_map, List.length_take]; exact small (by omega), Blk.of ?_⟩
        rw [upd_upd, take_snoc hz, List.map_append, List.map_append]
        rfl
      · intro H2 hB
        obtain rfl := hB.out
        have e1 : hs.take (has.map V.ref).length = hs := by rw [List.length_map, hasl, List.take_length]
        rw [e1]
        have sG : Same H (upd H1 G (.lst ((hs.map (·.name)).map V.str))) := sD.trans ((Same.refl H1).upd hG)
        refine ⟨G, _, rfl, .inl (SqL.of upd_same), rfl, flat_str _, _, rfl, ?_⟩
        rw [if_neg Bool.false_ne_true, inV_str]
        refine iteB (fun c2 => no sG (by rw [c2, Bool.or_true])) (fun c2 => ?_)
        show _
        generalize (upd H1 G (.lst ((hs.map (·.name)).map V.str))) = H2 at sG
        have el2 := sG _ _ el
        refine ⟨_, rfl, l, rfl, ⟨_, SqL.of el2⟩, fun J hJ => ?_⟩
        have nlJ : l ≠ J := ne_of_none el2 hJ
        refine lc_list (K := K) (a := l) (xs := as.map V.ref) (fun i H3 => Blk (H3 = upd H2 J (.lst (((ps.take i).map (My.wd x.side)).map V.str)))) (Blk.of rfl) (fun i H3 _ hB => ?_) ?_ ?_
        · obtain rfl := hB.out
          exact SqL.of ((upd_ne nlJ).trans el2)
        · intro i y H3 hi hB
          obtain rfl := hB.out
          obtain ⟨b, hb, rfl⟩ := refs_get hi
          obtain ⟨z, hz, ez⟩ := obs.get hb
          have ez1 := sG _ _ ez
          have hil := get_lt hz
          refine ⟨rfl, ?_⟩
          dsimp only [tYes]
          refine iteT ?_
          refine ⟨_, rfl, _, rfl, _, _, _, _, rfl, rfl, SqT.of ((upd_ne (ne_of_none ez1 hJ)).trans ez1), wd_at2 hside z, ?_⟩
          refine ⟨_, upd_same, by rw [List.length_map, List.length_map, List.length_take]; exact small (by omega), Blk.of ?_⟩
          rw [upd_upd, take_snoc hz, List.map_append, List.map_append]
          rfl
        · intro H3 hB
          obtain rfl := hB.out
          have e2 : ps.take (as.map V.ref).length = ps := by rw [List.length_map, asl, List.take_length]
          rw [e2]
          have sJ : Same H (upd H2 J (.lst ((ps.map (My.wd x.side)).map V.str))) := sG.trans ((Same.refl H2).upd hJ)
          have hJ3 : (upd H2 J (.lst ((ps.map (My.wd x.side)).map V.str))) J = some (.lst ((ps.map (My.wd x.side)).map V.str)) := upd_same
          show _
          generalize (upd H2 J (.lst ((ps.map (My.wd x.side)).map V.str))) = H3 at sJ hJ3
          have eth3 := sJ _ _ eth
          have eqT : ∀ {H' : Hp}, H' th = some (.frz ob (.tup (x.throws.map V.str))) → SqT K H' th (x.throws.map V.str) := fun e => .inl (.inr ⟨ob, e⟩)
          refine ⟨_, rfl, th, rfl, ⟨_, eqT eth3⟩, fun M hM => ?_⟩
          have ntM : th ≠ M := ne_of_none eth3 hM
          have nJM : J ≠ M := ne_of_none hJ3 hM
          refine lc_tup (K := K) (a := th) (xs := x.throws.map V.str) (fun i H4 => Blk (H4 = upd H3 M (.lst (((x.throws.take i).map fun t => decide (t ∈ ps.map (My.wd x.side))).map V.bl)))) (Blk.of rfl) (fun i H4 _ hB => ?_) ?_ ?_
          · obtain rfl := hB.out
            exact eqT ((upd_ne ntM).trans eth3)
          · intro i y H4 hi hB
            obtain rfl := hB.out
            obtain ⟨t, ht, rfl⟩ := strs_get hi
            refine ⟨rfl, ?_⟩
            dsimp only [tYes]
            refine iteT ?_
            refine ⟨_, rfl, _, rfl, J, _, rfl, .inl (SqL.of ((upd_ne nJM).trans hJ3)), rfl, flat_str _, ?_⟩
            rw [if_neg Bool.false_ne_true, inV_str]
            obtain ⟨acc, h1, h2, h3⟩ := bools_step (D := M) (H := H3) (f := fun t => decide (t ∈ ps.map (My.wd x.side))) ht hz3
            exact ⟨acc, h1, h2, Blk.of h3⟩
          · intro H4 hB
            obtain rfl := hB.out
            refine ⟨M, _, rfl, SqL.of upd_same, ?_⟩
            rw [List.length_map, List.take_length, all_map_id]
            have eb : x.throws.all (fun t => decide (t ∈ ps.map (My.wd x.side))) = My.fitsHB x ps hs := by
              unfold My.fitsHB
              rw [c1, c2]
              rfl
            rw [eb]
            exact kk _ (sJ.trans ((Same.refl H3).upd hM))

open My (Hr)
/-! ### helpers that are drawn -/
theorem AllAt.append {α : Type} {R : Addr → α → Prop} {as bs : List Addr} {xs ys : List α} (o : AllAt R as xs) (q : AllAt R bs ys) : AllAt R (as ++ bs) (xs ++ ys) := by
  refine ⟨by rw [List.length_append, List.length_append, o.len, q.len], fun i h x e1 e2 => ?_⟩
  by_cases hi : i < as.length
  · rw [List.getElem?_append_left hi] at e1
    rw [List.getElem?_append_left (by rw [← o.len]; exact hi)] at e2
    exact o.at_ i h x e1 e2
  · rw [List.getElem?_append_right (by omega)] at e1
    rw [List.getElem?_append_right (by rw [← o.len]; omega), ← o.len] at e2
    exact q.at_ _ h x e1 e2
theorem AllAt.drop {α : Type} {R : Addr → α → Prop} {as : List Addr} {xs : List α} (o : AllAt R as xs) (n : Nat) : AllAt R (as.drop n) (xs.drop n) := by
  refine ⟨by rw [List.length_drop, List.length_drop, o.len], fun i h x e1 e2 => ?_⟩
  rw [List.getElem?_drop] at e1 e2
  exact o.at_ _ h x e1 e2
theorem AllAt.one {α : Type} {R : Addr → α → Prop} {h : Addr} {x : α} (e : R h x) : AllAt R [h] [x] := AllAt.nil.snoc e
/-- a text that may be told -/
def WOk (s : Str) : Prop := s.length ≤ 20 ∧ PyData.strOk s = true
theorem letters_ok {s : Str} (h : s.cps.toList.all My.letter = true) : PyData.strOk s = true := by
  unfold PyData.strOk
  rw [← Array.all_toList]
  refine List.all_eq_true.mpr fun c hc => ?_
  have h4 := (List.all_eq_true.mp h) c hc
  unfold My.letter at h4
  simp only [Bool.and_eq_true, decide_eq_true_eq] at h4
  exact decide_eq_true (by omega)
theorem name_wok {s : Str} (h : My.nameB s = true) : WOk s := ⟨by have := name_len h; omega, letters_ok (nameB_out h).2.2⟩
structure HrOk (x : Hr) : Prop where
  nm : WOk x.name
  tl : x.takes.length ≤ 8
  tk : ∀ t, t ∈ x.takes → WOk t
  hl : x.throws.length ≤ 8
  th : ∀ t, t ∈ x.throws → WOk t
def rLenK (K : PySem.W.Frag) : List V → Hp → VK → Prop := fun xs H Q => ∃ p ys, xs = [V.ref p] ∧ (SqL K H p ys ∨ SqT K H p ys) ∧ Q (.int ys.length) H
theorem erase_map {α β : Type} (f : α → β) : ∀ (l : List α) (n : Nat), (l.map f).eraseIdx n = (l.eraseIdx n).map f
  | [], _ => rfl
  | _ :: _, 0 => rfl
  | x :: l, n + 1 => by
    show f x :: (l.map f).eraseIdx n = f x :: (l.eraseIdx n).map f
    rw [erase_map f l n]
theorem drop_le {α : Type} {xs : List α} {n : Nat} {x : α} (h : x ∈ xs.drop n) : x ∈ xs := List.mem_of_mem_drop h
def sp_some : Sp := fun vs H Q _ => ∃ (b g l L : Addr) (n m : Int) (xs : List Str), vs = [.ref b, .ref L, .int m] ∧ BoxAt H b g l n ∧ 0 ≤ n ∧ n < 8000000 ∧ H L = some (.lst (xs.map V.str)) ∧ xs.length ≤ 1000 ∧ 0 ≤ m ∧ m ≤ 4 ∧
  ∀ (p : Addr) (ys : List Str) (n' : Int) (H' : Hp), H p = none → H' p = some (.lst (ys.map V.str)) → ys.length ≤ 4 → (∀ y, y ∈ ys → y ∈ xs) → n ≤ n' → n' ≤ n + 5 → BoxAt H' b g l n' → Keeps [b, g] H H' → Q (.ref p) H'
theorem min_two (m k : Int) : (if k < m then k else m) ≤ m ∧ (if k < m then k else m) ≤ k := by
  split <;> omega
theorem ok_some (T : Txt K mg a) : FnOk P w K mg base CX0 3 a.f_some a.d_some ["_law_box_here", "_law_things", "_law_most"] sp_some := by
  refine T.F_some.ok sc_some (fun vs H Q E h => ?_) (fun cdv A outer s H vs Q E hr h => ?_)
  · obtain ⟨b, g, l, L, n, m, xs, rfl, _⟩ := h
    rfl
  · obtain ⟨b, g, l, L, n, m, xs, rfl, bx, n0, n1, hL, hz, m0, m1, kk⟩ := h
    refine ⟨_, (pss_cons (ps_set (i := 3) sc_some.nd rfl (Or.inr rfl) (pe_callTy call_list_of (by rfl) T.z_list (by decide +kernel) (pa_cons (pv 1) pa_nil)))
      (pss_one (ps_ret (pe_lc (own := [("_law_k", 4)]) (g := gName 4) (te := tBM K "list" rPopAt (tVar 3) (tCons (tCall sp_take [] (fun _ _ _ => False) (tCons (tVar 0) (tCons (tCB (rLenK K) (tCons (tVar 3) tNil)) tNil))) tNil)) (tt := tYes) rfl sc_some.nd (pi_range1 (by rfl) T.z_range (pa_cons (pe_call (ok_take T) (hr.mono (by decide)) rfl T.g_take T.k_take T.B_take .nil pass0 (pa_cons (pv 0) (pa_cons (pe_op op_add (pe_callB (call_min2 rfl) (by rfl) T.z_min (by decide +kernel) (pa_cons (pv 2) (pa_cons (pe_callB call_len_seq (by rfl) T.z_len (by decide +kernel) (pa_cons (pv 3) pa_nil)) pa_nil))) pe_int) pa_nil))) pa_nil)) (blkOk_by (own := [("_law_k", 4)]) (N := ["_law_box_here", "_law_things", "_law_most", "_law_pool", "_law_k"]) (sc := defScope s_some) (by decide +kernel)) (fun _ _ _ _ _ => pg_name (i := 4) sc_some.nd rfl (Or.inl rfl)) (fun _ _ _ _ _ => pts_nil) (fun _ _ _ _ _ => by exact (pe_bm PySem.F.plainAttrs_list PySem.F.slot_list_pop PySem.F.type_list_pop mt_popAt (pv 3) (pa_cons (pe_call (ok_take T) (hr.mono (by decide)) rfl T.g_take T.k_take T.B_take .nil pass0 (pa_cons (pv 0) (pa_cons (pe_callB call_len_seq (by rfl) T.z_len (by decide +kernel) (pa_cons (pv 3) pa_nil)) pa_nil))) pa_nil))))))), ?_⟩
    refine ⟨_, rfl, L, _, rfl, .inl (SqL.of hL), fun p hp => ?_⟩
    have hp1 : (upd H p (.lst (xs.map V.str))) p = some (.lst (xs.map V.str)) := upd_same
    have bx1 := bx.upd (o := .lst (xs.map V.str)) hp
    have hpo := offbox bx hp
    have hpo3 := offbox3 bx hp
    have k01 : Keeps [b, g] H (upd H p (.lst (xs.map V.str))) := (Keeps.refl [b, g] H).upd (.inr hp)
    show _
    generalize (upd H p (.lst (xs.map V.str))) = H1 at hp1 bx1 k01
    refine ⟨_, rfl, _, rfl, _, rfl, p, _, rfl, .inl (SqL.of hp1), _, _, rfl, ?_⟩
    have el : (((xs.map V.str).length : Nat) : Int) = (xs.length : Int) := by rw [List.length_map]
    rw [el]
    have mt := min_two m (xs.length : Int)
    have mp : 0 ≤ (if (xs.length : Int) < m then (xs.length : Int) else m) := by split <;> omega
    generalize (if (xs.length : Int) < m then (xs.length : Int) else m) = c at mt mp
    refine ⟨_, _, rfl, rfl, ?_⟩
    have lc : (c + 1).natAbs.log2 < 9000 := by
      have : c = 0 ∨ c = 1 ∨ c = 2 ∨ c = 3 ∨ c = 4 := by omega
      rcases this with rfl | rfl | rfl | rfl | rfl <;> decide
    refine ⟨b, g, l, n, c + 1, rfl, bx1, n0, by omega, by omega, lc, fun k H2 k0 k1 bx2 kp2 => ?_⟩
    have hp2 := kp2 _ _ hp1 hpo
    have k02 := k01.trans kp2
    refine ⟨k, rfl, by omega, by omega, fun D hD => ?_⟩
    have npD : p ≠ D := ne_of_none hp2 hD
    have hDo := offbox bx2 hD
    have hDo3 := offbox3 bx2 hD
    have hD0 : H D = none := by
      rcases k02.fresh hD with q | q
      · exact absurd q hDo
      · exact q
    refine lc_range (lo := 0) (n := k.toNat) (fun i H3 => Blk (∃ zs ys : List Str, zs.length + i = xs.length ∧ (∀ z, z ∈ zs → z ∈ xs) ∧ ys.length = i ∧ (∀ y, y ∈ ys → y ∈ xs) ∧ H3 p = some (.lst (zs.map V.str)) ∧ H3 D = some (.lst (ys.map V.str)) ∧ BoxAt H3 b g l (n + 1 + i) ∧ Keeps [b, g] H H3)) ?_ ?_ ?_
    · refine Blk.of ⟨xs, [], rfl, fun z hz => hz, rfl, fun y hy => by simp at hy, (upd_ne npD).trans hp2, upd_same, ?_, k02.upd (.inr hD0)⟩
      have e : n + 1 + ((0 : Nat) : Int) = n + 1 := by omega
      rw [e]
      exact bx2.upd hD
    · intro i H3 hi hB
      obtain ⟨zs, ys, hzl, hzs, rfl, hys, h3p, h3D, bx3, k03⟩ := hB.out
      have zpos : 0 < zs.length := by omega
      refine ⟨rfl, ?_⟩
      dsimp only [tYes]
      refine iteT ?_
      have elz : (((zs.map V.str).length : Nat) : Int) = (zs.length : Int) := by rw [List.length_map]
      refine ⟨_, rfl, .inl ⟨rfl, _, SqL.of h3p⟩, ?_⟩
      refine ⟨_, rfl, _, rfl, p, _, rfl, .inl (SqL.of h3p), ?_⟩
      rw [elz]
      have lz : ((zs.length : Nat) : Int).natAbs.log2 < 9000 := by
        rw [Int.natAbs_natCast]
        by_cases h0 : zs.length = 0
        · rw [h0]; decide
        · have : zs.length.log2 < 17 := (Nat.log2_lt h0).mpr (by omega)
          omega
      refine ⟨b, g, l, _, _, rfl, bx3, by omega, by omega, by omega, lz, fun j H4 j0 j1 bx4 kp4 => ?_⟩
      have h4p := kp4 _ _ h3p hpo
      have h4D := kp4 _ _ h3D hDo
      obtain ⟨jn, rfl⟩ : ∃ m : Nat, j = m := ⟨j.toNat, by omega⟩
      have hj : jn < zs.length := by omega
      have hzj : zs[jn]? = some zs[jn] := List.getElem?_eq_getElem hj
      have hmem := List.mem_of_getElem? hzj
      generalize zs[jn] = z at hzj hmem
      refine ⟨p, _, _, jn, .str z, rfl, rfl, h4p, by omega, by omega, seqIndex_of (by omega) (by rw [List.length_map]; omega), by rw [List.getElem?_map, hzj]; rfl, ?_⟩
      have e1 : (zs.map V.str).eraseIdx jn = (zs.eraseIdx jn).map V.str := erase_map V.str zs jn
      rw [e1]
      refine ⟨_, (upd_ne npD.symm).trans h4D, by rw [List.length_map]; exact small (by omega), Blk.of ⟨zs.eraseIdx jn, ys ++ [z], ?_, ?_, by rw [List.length_append]; rfl, ?_, ?_, ?_, ?_, ?_⟩⟩
      · rw [List.length_eraseIdx, if_pos hj]
        omega
      · intro y hy
        exact hzs y (List.mem_of_mem_eraseIdx hy)
      · intro y hy
        rcases List.mem_append.mp hy with e | e
        · exact hys y e
        · simp at e; subst e; exact hzs _ hmem
      · rw [upd_ne npD, upd_same]
      · rw [upd_same, List.map_append]; rfl
      · have e : n + 1 + ((ys.length + 1 : Nat) : Int) = n + 1 + (ys.length : Int) + 1 := by omega
        rw [e]
        exact box_put (box_put bx4 hpo3) hDo3
      · exact ((k03.trans kp4).upd (.inr hp)).upd (.inr hD0)
    · intro H3 hB
      obtain ⟨zs, ys, hzl, hzs, hyl, hys, h3p, h3D, bx3, k03⟩ := hB.out
      exact kk D ys _ H3 hD0 h3D (by omega) hys (by omega) (by omega) bx3 k03

open My (Hr)
theorem box_notup {b g l : Addr} {n : Int} {H : Hp} (bx : BoxAt H b g l n) : NoTup H [b, g] := by
  obtain ⟨gs, ls, cur, e1, e2, _⟩ := bx
  intro x hx ys
  simp at hx
  rcases hx with rfl | rfl
  · rw [e1]; exact ⟨fun e => (by cases e), fun o e => (by cases e)⟩
  · rw [e2]; exact ⟨fun e => (by cases e), fun o e => (by cases e)⟩
/-- the words of a side, as they are read off the pairs: the comprehension's own name in slot sl -/
theorem words_comp {K : PySem.W.Frag} {L : Addr} {as : List Addr} {ps : List My.Pr} {H1 : Hp} {i : Int} {te : TE} {σ : L2.St} {D : Addr} {Qd : Hp → Prop} {sl : Nat} (ob : Objs H1 as prO ps) (hL : H1 L = some (.lst (as.map V.ref))) (hD : H1 D = none) (hz : ps.length ≤ 1000)
    (hw : ∀ x : Option V, wipe ((wipe σ [sl]).set sl x) [sl] = wipe σ [sl])
    (ht : ∀ (h : Addr) (q : My.Pr) (H2 : Hp) (R : VK), H2 h = some (prO q) → R (.str (My.wd i q)) H2 → te ((wipe σ [sl]).set sl (some (.ref h))) H2 R)
    (hd : ∀ H2 : Hp, Same H1 H2 → H2 D = some (.lst ((ps.map (My.wd i)).map V.str)) → Qd H2) :
    ∃ W : Nat → Nat → Hp → Prop, (∃ m, W 0 m (upd H1 D (.lst []))) ∧ ∀ i m H, W i m H →
      ((Itl K L).stop i H ∧ Qd H) ∨ ((Itl K L).go i H ∧ ∃ Nx : Hp → Prop, (∀ H', Nx H' → ∃ m', m' < m ∧ W (i + 1) m' H') ∧ ∀ x H', (Itl K L).yld i H x H' → gName sl x (wipe σ [sl]) H' fun σ2 H2 => wipe σ2 [sl] = wipe σ [sl] ∧ tYes σ2 H2 fun b H3 =>
        if b = true then te σ2 H3 fun y H4 => ∃ acc, H4 D = some (.lst acc) ∧ acc.length < sizeLine ∧ Nx (upd H4 D (.lst (acc ++ [y]))) else Nx H3) := by
  have nLD : L ≠ D := ne_of_none hL hD
  have asl := ob.len
  refine lc_list (K := K) (a := L) (xs := as.map V.ref) (fun k H2 => Blk (H2 = upd H1 D (.lst (((ps.take k).map (My.wd i)).map V.str)))) (Blk.of rfl) (fun k H2 _ hB => ?_) ?_ ?_
  · obtain rfl := hB.out
    exact SqL.of ((upd_ne nLD).trans hL)
  · intro k y H2 hy hB
    obtain rfl := hB.out
    obtain ⟨h, hh, rfl⟩ := refs_get hy
    obtain ⟨q, hq, hq2⟩ := ob.get hh
    have hk := get_lt hq
    refine ⟨hw _, ?_⟩
    dsimp only [tYes]
    refine iteT ?_
    refine ht h q _ _ ((upd_ne (ne_of_none hq2 hD)).trans hq2) ⟨_, upd_same, by rw [List.length_map, List.length_map, List.length_take]; exact small (by omega), Blk.of ?_⟩
    rw [upd_upd, take_snoc hq, List.map_append, List.map_append]
    rfl
  · intro H2 hB
    obtain rfl := hB.out
    have e : ps.take (as.map V.ref).length = ps := by rw [List.length_map, asl, List.take_length]
    rw [e]
    exact hd _ ((Same.refl H1).upd hD) upd_same
structure HelpSt (H0 H : Hp) (b g l L N Cn F : Addr) (as : List Addr) (ps : List My.Pr) (c0 c1 n : Int) (has : List Addr) (hs : List Hr) (ns : List Str) (tot : Nat) : Prop where
  bx : BoxAt H b g l n
  hF : H F = some (.lst (has.map V.ref))
  cr : Crew H has hs
  ok : ∀ x, x ∈ hs → HrOk x ∧ (x.side = 0 ∨ x.side = 1) ∧ x.throws.length ≤ 4
  hN : H N = some (.lst (ns.map V.str))
  nl : ns.length + hs.length = tot
  nm : ∀ s, s ∈ ns → My.nameB s = true
  hC : H Cn = some (.lst [.int c0, .int c1])
  hL : H L = some (.lst (as.map V.ref))
  ob : Objs H as prO ps
  kp : Keeps [b, g] H0 H
theorem HelpSt.box {H0 H H' : Hp} {b g l L N Cn F : Addr} {as : List Addr} {ps : List My.Pr} {c0 c1 n n' : Int} {has : List Addr} {hs : List Hr} {ns : List Str} {tot : Nat} (s : HelpSt H0 H b g l L N Cn F as ps c0 c1 n has hs ns tot)
    (bx : BoxAt H' b g l n') (k : Keeps [b, g] H H') (o : ∀ x, x ∈ [L, N, Cn, F] → x ∉ [b, g]) : HelpSt H0 H' b g l L N Cn F as ps c0 c1 n' has hs ns tot :=
  ⟨bx, k _ _ s.hF (o F (by simp)), Crew.keep s.cr k (box_notup s.bx), s.ok, k _ _ s.hN (o N (by simp)), s.nl, s.nm, k _ _ s.hC (o Cn (by simp)), k _ _ s.hL (o L (by simp)), s.ob.keepN k (box_notup s.bx), s.kp.trans k⟩
theorem Same.keeps {R : List Addr} {H H' : Hp} (s : Same H H') : Keeps R H H' := fun c o e _ => s c o e
theorem HelpSt.same {H0 H H' : Hp} {b g l L N Cn F : Addr} {as : List Addr} {ps : List My.Pr} {c0 c1 n : Int} {has : List Addr} {hs : List Hr} {ns : List Str} {tot : Nat} (s : HelpSt H0 H b g l L N Cn F as ps c0 c1 n has hs ns tot)
    (k : Same H H') : HelpSt H0 H' b g l L N Cn F as ps c0 c1 n has hs ns tot :=
  ⟨s.bx.same k, k _ _ s.hF, Crew.same s.cr k, s.ok, k _ _ s.hN, s.nl, s.nm, k _ _ s.hC, k _ _ s.hL, s.ob.same k, s.kp.trans (Same.keeps k)⟩
theorem lent_wok : ∀ t, t ∈ (["lent", "given"] : List Str) → WOk t := by
  intro t ht
  have : t = "lent" ∨ t = "given" := by simpa using ht
  rcases this with rfl | rfl
  · exact ⟨by decide +kernel, by decide +kernel⟩
  · exact ⟨by decide +kernel, by decide +kernel⟩
theorem log_le {n : Nat} (h : n ≤ 100000) : ((n : Nat) : Int).natAbs.log2 < 9000 := by
  rw [Int.natAbs_natCast]
  by_cases h0 : n = 0
  · subst h0; decide
  · have : n.log2 < 17 := (Nat.log2_lt h0).mpr (by omega)
    omega
def sp_helpers : Sp := fun vs H Q _ => ∃ (b g l L : Addr) (n : Int) (as : List Addr) (ps : List My.Pr), vs = [.ref b, .ref L] ∧ BoxAt H b g l n ∧ 0 ≤ n ∧ n < 6000000 ∧ H L = some (.lst (as.map V.ref)) ∧ L ∉ [b, g] ∧ Objs H as prO ps ∧ ps.length ≤ 100 ∧ (∀ q, q ∈ ps → WOk q.1 ∧ WOk q.2.1) ∧
  ∀ (p : Addr) (has : List Addr) (hs : List Hr) (n' : Int) (H' : Hp), H p = none → H' p = some (.lst (has.map V.ref)) → Crew H' has hs → hs.length ≤ 8 → (∀ x, x ∈ hs → HrOk x ∧ (x.side = 0 ∨ x.side = 1) ∧ x.throws.length ≤ 4) → n ≤ n' → n' ≤ n + 400 → BoxAt H' b g l n' → Keeps [b, g] H H' → Q (.ref p) H'
theorem ok_helpers (T : Txt K mg a) : FnOk P w K mg base CX0 5 a.f_helpers a.d_helpers ["_law_box_here", "_law_pairs_here"] sp_helpers := by
  refine T.F_helpers.ok sc_helpers (fun vs H Q E h => ?_) (fun cdv A outer s H vs Q E hr h => ?_)
  · obtain ⟨b, g, l, L, n, as, ps, rfl, _⟩ := h
    rfl
  · obtain ⟨b, g, l, L, n, as, ps, rfl, bx, n0, n1, hL, oL, ob, hz, hw, kk⟩ := h
    refine ⟨_, (pss_cons (ps_set (i := 2) sc_helpers.nd rfl (Or.inl rfl) (pe_call (ok_names T) (hr.mono (by decide)) rfl T.g_names T.k_names T.B_names .nil pass0 (pa_cons (pv 0) (pa_cons pe_int pa_nil))))
      (pss_cons (ps_set (i := 3) sc_helpers.nd rfl (Or.inl rfl) (pe_lst (pa_cons (pe_call (ok_take T) (hr.mono (by decide)) rfl T.g_take T.k_take T.B_take .nil pass0 (pa_cons (pv 0) (pa_cons pe_int pa_nil))) (pa_cons (pe_call (ok_take T) (hr.mono (by decide)) rfl T.g_take T.k_take T.B_take .nil pass0 (pa_cons (pv 0) (pa_cons pe_int pa_nil))) pa_nil))))
      (pss_cons (ps_set (i := 4) sc_helpers.nd rfl (Or.inl rfl) (pe_lst pa_nil))
      (pss_cons (ps_for PassesOwn.never rfl (pi_range1 (by rfl) T.z_range (pa_cons pe_int pa_nil)) (pg_name (i := 5) sc_helpers.nd rfl (Or.inr rfl)) (pss_one (ps_for PassesOwn.never rfl (pi_range1 (by rfl) T.z_range (pa_cons (pe_ix ix_list (pv 3) (pv 5) (fun _ _ => rfl)) pa_nil)) (pg_name (i := 6) sc_helpers.nd rfl (Or.inl rfl)) (pss_cons (ps_set (i := 7) sc_helpers.nd rfl (Or.inl rfl) (pe_callTy call_tupleF (by rfl) T.z_tuple (by decide +kernel) (pa_cons (pe_lc (own := [("_law_j", 10)]) (g := gName 10) (te := tOp (rIxL K) (tLst (tCons (tC (.str "lent")) (tCons (tC (.str "given")) tNil))) (tCall sp_take [] (fun _ _ _ => False) (tCons (tVar 0) (tCons (tC (.int 2)) tNil)))) (tt := tYes) rfl sc_helpers.nd (pi_range1 (by rfl) T.z_range (pa_cons (pe_call (ok_take T) (hr.mono (by decide)) rfl T.g_take T.k_take T.B_take .nil pass0 (pa_cons (pv 0) (pa_cons pe_int pa_nil))) pa_nil)) (blkOk_by (own := [("_law_j", 10)]) (N := ["_law_box_here", "_law_pairs_here", "_law_names_here", "_law_counts", "_law_found", "_law_side", "_law_k", "_law_takes", "_law_throws", "_law_helper", "_law_j", "_law_pair"]) (sc := defScope s_helpers) (by decide +kernel)) (fun _ _ _ _ _ => pg_name (i := 10) sc_helpers.nd rfl (Or.inl rfl)) (fun _ _ _ _ _ => pts_nil) (fun _ _ _ _ _ => by exact (pe_ix ix_list (pe_lst (pa_cons pe_str (pa_cons pe_str pa_nil))) (pe_call (ok_take T) (hr.mono (by decide)) rfl T.g_take T.k_take T.B_take .nil pass0 (pa_cons (pv 0) (pa_cons pe_int pa_nil))) (fun _ _ => rfl)))) pa_nil)))
      (pss_cons (ps_set (i := 8) sc_helpers.nd rfl (Or.inl rfl) (pe_callTy call_tupleF (by rfl) T.z_tuple (by decide +kernel) (pa_cons (pe_call (ok_some T) (hr.mono (by decide)) rfl T.g_some T.k_some T.B_some .nil pass0 (pa_cons (pv 0) (pa_cons (pe_lc (own := [("_law_pair", 11)]) (g := gName 11) (te := tOp (rIxT K) (tVar 11) (tVar 5)) (tt := tYes) rfl sc_helpers.nd (pi_list (pv 1)) (blkOk_by (own := [("_law_pair", 11)]) (N := ["_law_box_here", "_law_pairs_here", "_law_names_here", "_law_counts", "_law_found", "_law_side", "_law_k", "_law_takes", "_law_throws", "_law_helper", "_law_j", "_law_pair"]) (sc := defScope s_helpers) (by decide +kernel)) (fun _ _ _ _ _ => pg_name (i := 11) sc_helpers.nd rfl (Or.inl rfl)) (fun _ _ _ _ _ => pts_nil) (fun _ _ _ _ _ => by exact (pe_ix ix_tup (pv 11) (pv 5) (fun _ _ => rfl)))) (pa_cons pe_int pa_nil)))) pa_nil)))
      (pss_cons (ps_set (i := 9) sc_helpers.nd rfl (Or.inl rfl) (pe_tup (pa_cons (pe_bm0 PySem.F.plainAttrs_list PySem.F.slot_list_pop PySem.F.type_list_pop mt_pop (pv 2)) (pa_cons (pv 5) (pa_cons (pv 7) (pa_cons (pe_cmpR op_eq (pe_call (ok_take T) (hr.mono (by decide)) rfl T.g_take T.k_take T.B_take .nil pass0 (pa_cons (pv 0) (pa_cons pe_int pa_nil))) pe_int (nomark _)) (pa_cons (pv 8) pa_nil)))))))
      (pss_one (ps_expr (pe_bm PySem.F.plainAttrs_list PySem.F.slot_list_insert PySem.F.type_list_insert mt_insert (pv 4) (pa_cons (pe_call (ok_take T) (hr.mono (by decide)) rfl T.g_take T.k_take T.B_take .nil pass0 (pa_cons (pv 0) (pa_cons (pe_op op_add (pe_callB call_len_seq (by rfl) T.z_len (by decide +kernel) (pa_cons (pv 4) pa_nil)) pe_int) pa_nil))) (pa_cons (pv 9) pa_nil)))))))))))
      (pss_one (ps_ret (pv 4))))))), ?_⟩
    refine ⟨_, rfl, b, g, l, n, 8, rfl, bx, n0, by omega, by omega, by omega, fun N ns n2 H2 hN hN2 hl2 nm2 nd2 a2 b2 bx2 kp2 => ?_⟩
    refine ⟨_, rfl, b, g, l, n2, 5, rfl, bx2, by omega, by omega, by decide, by decide, fun c0 H3 c00 c01 bx3 kp3 => ?_⟩
    refine ⟨_, rfl, b, g, l, n2 + 1, 5, rfl, bx3, by omega, by omega, by decide, by decide, fun c1 H4 c10 c11 bx4 kp4 => ?_⟩
    have k04 := (kp2.trans kp3).trans kp4
    have oN := offbox bx hN
    have oN3 := offbox3 bx hN
    have hN4 := kp4 _ _ (kp3 _ _ hN2 oN) oN
    refine ⟨by show 2 ≤ sizeLine; decide, fun Cn hCn => ?_⟩
    have oC := offbox bx4 hCn
    have oC3 := offbox3 bx4 hCn
    have nNC : N ≠ Cn := ne_of_none hN4 hCn
    refine ⟨by show 0 ≤ sizeLine; decide, fun F hF => ?_⟩
    have nCF : Cn ≠ F := ne_of_none upd_same hF
    have hF4 : H4 F = none := (upd_ne nCF.symm).symm.trans hF
    have nNF : N ≠ F := ne_of_none hN4 hF4
    have oF := offbox bx4 hF4
    have oF3 := offbox3 bx4 hF4
    have hF0 : H F = none := by
      rcases k04.fresh hF4 with q | q
      · exact absurd q oF
      · exact q
    have nLF : L ≠ F := ne_of_none hL hF0
    have nLN : L ≠ N := ne_of_none hL hN
    have hC0 : H Cn = none := by
      rcases k04.fresh hCn with q | q
      · exact absurd q oC
      · exact q
    have off : ∀ x, x ∈ [L, N, Cn, F] → x ∉ [b, g] := fun x hx => by
      simp at hx
      rcases hx with rfl | rfl | rfl | rfl
      · exact oL
      · exact oN
      · exact oC
      · exact oF
    have st5 : HelpSt H (upd (upd H4 Cn (.lst [.int c0, .int c1])) F (.lst [])) b g l L N Cn F as ps c0 c1 (n2 + 1 + 1) [] [] ns 8 := by
      have s45 : Same H4 (upd (upd H4 Cn (.lst [.int c0, .int c1])) F (.lst [])) := ((Same.refl H4).upd hCn).upd hF4
      exact ⟨bx4.same s45, upd_same, AllAt.nil, fun x hx => by simp at hx, s45 _ _ hN4, by simp; omega, nm2, (upd_ne nCF).trans upd_same, s45 _ _ (k04 _ _ hL oL), (ob.keepN k04 (box_notup bx)).same s45, k04.trans (Same.keeps s45)⟩
    show _
    generalize (upd (upd H4 Cn (.lst [.int c0, .int c1])) F (.lst [])) = H5 at st5
    refine ⟨2, rfl, by decide, by decide, ?_⟩
    refine for_range (lo := 0) (n := 2) (fun i σ H6 => Blk (∃ v5 v6 v7 v8 v9 n6 has hs ns, σ = [some (.ref b), some (.ref L), some (.ref N), some (.ref Cn), some (.ref F), v5, v6, v7, v8, v9, none, none] ∧ HelpSt H H6 b g l L N Cn F as ps c0 c1 n6 has hs ns 8 ∧ n ≤ n6 ∧ n6 ≤ n + 100 + 20 * hs.length ∧ hs.length ≤ 4 * i)) ?_ ?_ ?_
    · exact Blk.of ⟨_, _, _, _, _, _, _, _, _, rfl, st5, by omega, by simp; omega, by simp⟩
    · intro i σ H6 hi hB
      obtain ⟨v5, v6, v7, v8, v9, n6, has, hs, ns, rfl, st6, a6, b6, l6⟩ := hB.out
      have si : (0 : Int) + (i : Nat) = 0 ∨ (0 : Int) + (i : Nat) = 1 := by omega
      have cnt : ∃ c : Int, atI [V.int c0, .int c1] (0 + (i : Nat)) = some (.int c) ∧ 0 ≤ c ∧ c ≤ 4 := by
        have : i = 0 ∨ i = 1 := by omega
        rcases this with rfl | rfl
        · exact ⟨c0, rfl, by omega, by omega⟩
        · exact ⟨c1, rfl, by omega, by omega⟩
      obtain ⟨c, hc, hc0, hc4⟩ := cnt
      generalize (0 : Int) + (i : Nat) = sd at hc si
      refine ⟨_, rfl, _, rfl, _, _, _, _, rfl, rfl, SqL.of st6.hC, hc, c, rfl, by omega, by omega, ?_⟩
      refine for_range (lo := 0) (n := c.toNat) (fun k σ H7 => Blk (∃ v6 v7 v8 v9 n7 has hs ns, σ = [some (.ref b), some (.ref L), some (.ref N), some (.ref Cn), some (.ref F), some (.int sd), v6, v7, v8, v9, none, none] ∧ HelpSt H H7 b g l L N Cn F as ps c0 c1 n7 has hs ns 8 ∧ n ≤ n7 ∧ n7 ≤ n + 100 + 20 * hs.length ∧ hs.length ≤ 4 * i + k)) ?_ ?_ ?_
      · exact Blk.of ⟨_, _, _, _, _, _, _, _, rfl, st6, a6, b6, by omega⟩
      · intro k σ H7 hk hB
        obtain ⟨v6, v7, v8, v9, n7, has, hs, ns, rfl, st, a7, b7, l7⟩ := hB.out
        have hs7 : hs.length ≤ 7 := by omega
        -- takes
        refine ⟨_, rfl, b, g, l, n7, 4, rfl, st.bx, by omega, by omega, by decide, by decide, fun m H8 m0 m1 bx8 kp8 => ?_⟩
        have st8 := st.box bx8 kp8 off
        refine ⟨m, rfl, by omega, by omega, fun D hD => ?_⟩
        have oD := offbox bx8 hD
        have oD3 := offbox3 bx8 hD
        refine lc_range (lo := 0) (n := m.toNat) (fun j H9 => Blk (∃ (ts : List Str), ts.length = j ∧ (∀ t, t ∈ ts → t ∈ (["lent", "given"] : List Str)) ∧ H9 D = some (.lst (ts.map V.str)) ∧ HelpSt H H9 b g l L N Cn F as ps c0 c1 (n7 + 1 + j) has hs ns 8)) ?_ ?_ ?_
        · refine Blk.of ⟨[], rfl, fun t ht => by simp at ht, upd_same, ?_⟩
          have e : n7 + 1 + ((0 : Nat) : Int) = n7 + 1 := by omega
          rw [e]
          exact st8.same ((Same.refl H8).upd hD)
        · intro j H9 hj hB
          obtain ⟨ts, rfl, hts, h9D, st9⟩ := hB.out
          refine ⟨rfl, ?_⟩
          dsimp only [tYes]
          refine iteT ?_
          refine ⟨by show 2 ≤ sizeLine; decide, fun G hG => ?_⟩
          have nDG : D ≠ G := ne_of_none h9D hG
          have oG := offbox st9.bx hG
          refine ⟨_, rfl, b, g, l, _, 2, rfl, st9.bx.upd hG, by omega, by omega, by decide, by decide, fun z H10 z0 z1 bx10 kp10 => ?_⟩
          have hG10 := kp10 _ _ upd_same oG
          have h10D := kp10 _ _ ((upd_ne nDG).trans h9D) oD
          have st10 := (st9.same ((Same.refl H9).upd (o := .lst [.str "lent", .str "given"]) hG)).box bx10 kp10 off
          obtain ⟨t, ht, htm⟩ : ∃ t : Str, atI [V.str "lent", .str "given"] z = some (.str t) ∧ t ∈ (["lent", "given"] : List Str) := by
            have : z = 0 ∨ z = 1 := by omega
            rcases this with rfl | rfl
            · exact ⟨_, rfl, by simp⟩
            · exact ⟨_, rfl, by simp⟩
          refine ⟨_, _, _, _, rfl, rfl, SqL.of hG10, ht, ?_⟩
          have hDn : NoTup H10 [D] := NoTup.lst h10D
          have kD : ∀ o, Keeps [D] H10 (upd H10 D o) := fun o => (Keeps.refl _ H10).upd (.inl (by simp))
          have nDx : ∀ x, x ∈ [L, N, Cn, F] → x ≠ D := fun x hx q => by
            subst q
            simp at hx
            rcases hx with rfl | rfl | rfl | rfl
            · rw [st8.hL] at hD; cases hD
            · rw [st8.hN] at hD; cases hD
            · rw [st8.hC] at hD; cases hD
            · rw [st8.hF] at hD; cases hD
          have hD0 : H D = none := by
            rcases st8.kp.fresh hD with q | q
            · exact absurd q oD
            · exact q
          refine ⟨_, h10D, by rw [List.length_map]; exact small (by omega), Blk.of ⟨ts ++ [t], by rw [List.length_append]; rfl, ?_, ?_, ?_⟩⟩
          · intro y hy
            rcases List.mem_append.mp hy with e | e
            · exact hts y e
            · simp at e; subst e; exact htm
          · rw [upd_same, List.map_append]; rfl
          · have e : n7 + 1 + ((ts.length + 1 : Nat) : Int) = n7 + 1 + (ts.length : Int) + 1 := by omega
            rw [e]
            exact ⟨box_put bx10 oD3, (upd_ne (nDx F (by simp))).trans st10.hF, Crew.keep st10.cr (kD _) hDn, st10.ok, (upd_ne (nDx N (by simp))).trans st10.hN, st10.nl, st10.nm, (upd_ne (nDx Cn (by simp))).trans st10.hC, (upd_ne (nDx L (by simp))).trans st10.hL, st10.ob.keepN (kD _) hDn, st10.kp.upd (.inr hD0)⟩
        · intro H9 hB
          obtain ⟨ts, htl, hts, h9D, st9⟩ := hB.out
          refine ⟨D, _, rfl, SqL.of h9D, fun tk ob1 htk hob1 => ?_⟩
          have sA : Same H9 (upd H9 tk (.frz ob1 (.tup (ts.map V.str)))) := (Same.refl H9).upd htk
          have stA := st9.same sA
          have tkA : TupF (upd H9 tk (.frz ob1 (.tup (ts.map V.str)))) tk (ts.map V.str) := ⟨ob1, hob1, upd_same⟩
          show _
          generalize (upd H9 tk (.frz ob1 (.tup (ts.map V.str)))) = HA at stA tkA
          -- throws
          refine ⟨_, rfl, _, rfl, L, rfl, ⟨_, SqL.of stA.hL⟩, fun W hW => ?_⟩
          refine words_comp (i := sd) (sl := 11) stA.ob stA.hL hW (by omega) (fun _ => rfl) (fun h q H2 R hq hR => ⟨_, rfl, _, rfl, _, _, _, _, rfl, rfl, SqT.of hq, wd_at2 si q, hR⟩) fun HB sB hWB => ?_
          have stB := stA.same sB
          have tkB := tkA.same sB
          have oW := offbox stA.bx hW
          refine ⟨b, g, l, W, _, 4, ps.map (My.wd sd), rfl, stB.bx, by omega, by omega, hWB, by rw [List.length_map]; omega, by omega, by omega, fun Y ys n9 HC hY hYC yl ym an bn bxC kpC => ?_⟩
          have stC := stB.box bxC kpC off
          have tkC := tupF_keep tkB kpC (box_notup stB.bx)
          refine ⟨Y, _, rfl, SqL.of hYC, fun th ob2 hth hob2 => ?_⟩
          have sD : Same HC (upd HC th (.frz ob2 (.tup (ys.map V.str)))) := (Same.refl HC).upd hth
          have stD := stC.same sD
          have tkD := tkC.same sD
          have thD : TupF (upd HC th (.frz ob2 (.tup (ys.map V.str)))) th (ys.map V.str) := ⟨ob2, hob2, upd_same⟩
          show _
          generalize (upd HC th (.frz ob2 (.tup (ys.map V.str)))) = HD at stD tkD thD
          -- the helper
          obtain ⟨nl, s, rfl⟩ : ∃ nl s, ns = nl ++ [s] := by
            have hne : ns ≠ [] := fun e => by
              have := st.nl
              rw [e] at this
              simp at this
              omega
            exact ⟨ns.dropLast, ns.getLast hne, (List.dropLast_concat_getLast hne).symm⟩
          have hsn := st.nm s (by simp)
          refine ⟨_, rfl, .inl ⟨rfl, _, SqL.of stD.hN⟩, N, _, .str s, rfl, rfl, stD.hN, ?_, ?_⟩
          · rw [List.map_append, List.length_append, List.map_singleton, List.length_singleton, Nat.add_sub_cancel, List.getElem?_append_right (Nat.le_refl _)]
            simp
          have edl : ((nl ++ [s]).map V.str).dropLast = nl.map V.str := by rw [List.map_append]; simp
          rw [edl]
          have nLN' : L ≠ N := nLN
          have nNn : NoTup HD [N] := NoTup.lst stD.hN
          have kN : ∀ o, Keeps [N] HD (upd HD N o) := fun o => (Keeps.refl _ HD).upd (.inl (by simp))
          have stE : HelpSt H (upd HD N (.lst (nl.map V.str))) b g l L N Cn F as ps c0 c1 n9 has hs nl 7 :=
            ⟨box_put stD.bx oN3, (upd_ne nNF.symm).trans stD.hF, Crew.keep stD.cr (kN _) nNn, stD.ok, upd_same, by have := stD.nl; rw [List.length_append, List.length_singleton] at this; omega, fun x hx => stD.nm x (by simp [hx]), (upd_ne nNC.symm).trans stD.hC, (upd_ne nLN).trans stD.hL, stD.ob.keepN (kN _) nNn, stD.kp.upd (.inr hN)⟩
          have tkE := tupF_keep tkD (kN (.lst (nl.map V.str))) nNn
          have thE := tupF_keep thD (kN (.lst (nl.map V.str))) nNn
          show _
          generalize (upd HD N (.lst (nl.map V.str))) = HE at stE tkE thE
          refine ⟨_, rfl, _, rfl, _, rfl, b, g, l, n9, 2, rfl, stE.bx, by omega, by omega, by decide, by decide, fun z HG z0 z1 bxG kpG => ?_⟩
          have stG := stE.box bxG kpG off
          have tkG := tupF_keep tkE kpG (box_notup stE.bx)
          have thG := tupF_keep thE kpG (box_notup stE.bx)
          refine ⟨rfl, _, rfl, by show 5 ≤ sizeLine; decide, fun hp hhp => ?_⟩
          have sH : Same HG (upd HG hp (.tup [.str s, .int sd, .ref tk, .bl (decide (V.int z = V.int 1)), .ref th])) := (Same.refl HG).upd hhp
          have stH := stG.same sH
          have hrH : HrAt (upd HG hp (.tup [.str s, .int sd, .ref tk, .bl (decide (V.int z = V.int 1)), .ref th])) hp ⟨s, sd, ts, decide (V.int z = V.int 1), ys⟩ := ⟨tk, th, upd_same, tkG.same sH, thG.same sH⟩
          show _
          generalize (upd HG hp (.tup [.str s, .int sd, .ref tk, .bl (decide (V.int z = V.int 1)), .ref th])) = HH at stH hrH
          have hrk : HrOk ⟨s, sd, ts, decide (V.int z = V.int 1), ys⟩ := ⟨name_wok hsn, by show ts.length ≤ 8; omega, fun t ht => lent_wok t (hts t ht), by show ys.length ≤ 8; omega, fun t ht => by
            obtain ⟨q, hq, e⟩ := List.mem_map.mp (ym t ht)
            subst e
            obtain ⟨w1, w2⟩ := hw q hq
            unfold My.wd
            split
            · exact w1
            · exact w2⟩
          have asl : has.length = hs.length := AllAt.len stH.cr
          have elF : (((has.map V.ref).length : Nat) : Int) = (hs.length : Int) := by rw [List.length_map, asl]
          refine ⟨_, rfl, .inl ⟨rfl, _, SqL.of stH.hF⟩, ?_⟩
          refine ⟨_, rfl, _, rfl, F, _, rfl, .inl (SqL.of stH.hF), _, _, rfl, rfl, ?_⟩
          rw [elF]
          refine ⟨b, g, l, n9 + 1, _, rfl, stH.bx, by omega, by omega, by omega, log_le (n := hs.length + 1) (by omega), fun at_ HJ at0 at1 bxJ kpJ => ?_⟩
          have stJ := stH.box bxJ kpJ off
          have hrJ := hrH.keep kpJ (box_notup stH.bx)
          refine ⟨_, rfl, F, _, at_, _, rfl, rfl, stJ.hF, by rw [List.length_map]; exact small (by omega), at0, by omega, ?_⟩
          have nFn : NoTup HJ [F] := NoTup.lst stJ.hF
          have kF : ∀ o, Keeps [F] HJ (upd HJ F o) := fun o => (Keeps.refl _ HJ).upd (.inl (by simp))
          refine Blk.of ⟨_, _, _, _, n9 + 1 + 1, has.take at_.toNat ++ [hp] ++ has.drop at_.toNat, hs.take at_.toNat ++ [⟨s, sd, ts, decide (V.int z = V.int 1), ys⟩] ++ hs.drop at_.toNat, nl, rfl, ?_, by omega, ?_, ?_⟩
          · refine ⟨box_put stJ.bx oF3, ?_, ?_, ?_, (upd_ne nNF).trans stJ.hN, ?_, stJ.nm, (upd_ne nCF).trans stJ.hC, (upd_ne nLF).trans stJ.hL, stJ.ob.keepN (kF _) nFn, stJ.kp.upd (.inr hF0)⟩
            · rw [upd_same, List.map_append, List.map_append, List.map_take, List.map_drop]
              rfl
            · exact ((AllAt.take (Crew.keep stJ.cr (kF _) nFn) _).append (AllAt.one (hrJ.keep (kF _) nFn))).append (AllAt.drop (Crew.keep stJ.cr (kF _) nFn) _)
            · intro x hx
              simp only [List.mem_append, List.mem_singleton] at hx
              rcases hx with (hx | rfl) | hx
              · exact stJ.ok x (List.mem_of_mem_take hx)
              · exact ⟨hrk, si, by show ys.length ≤ 4; omega⟩
              · exact stJ.ok x (List.mem_of_mem_drop hx)
            · have := stJ.nl
              rw [List.length_append, List.length_append, List.length_take, List.length_drop, List.length_singleton]
              omega
          · rw [List.length_append, List.length_append, List.length_take, List.length_drop, List.length_singleton]
            omega
          · rw [List.length_append, List.length_append, List.length_take, List.length_drop, List.length_singleton]
            omega
      · intro σ H7 hB
        obtain ⟨v6, v7, v8, v9, n7, has, hs, ns, rfl, st, a7, b7, l7⟩ := hB.out
        exact Blk.of ⟨_, _, _, _, _, _, _, _, _, rfl, st, a7, b7, by omega⟩
    · intro σ H6 hB
      obtain ⟨v5, v6, v7, v8, v9, n6, has, hs, ns, rfl, st6, a6, b6, l6⟩ := hB.out
      exact ⟨_, rfl, kk F has hs n6 H6 hF0 st6.hF st6.cr (by omega) st6.ok a6 (by omega) st6.bx st6.kp⟩

/-! ### the law's own looks -/
def abc : Str := "abcdefghijklmnopqrstuvwxyz"
theorem in_abc (c : Nat) : decide (c ∈ abc.cps.toList) = My.letter c := by
  have e : abc.cps.toList = (List.range 26).map (97 + ·) := by decide +kernel
  rw [e]
  unfold My.letter
  by_cases h : 97 ≤ c ∧ c ≤ 122
  · rw [decide_eq_true h.1, decide_eq_true h.2]
    refine decide_eq_true (List.mem_map.mpr ⟨c - 97, List.mem_range.mpr (by omega), by omega⟩)
  · have h2 : (decide (97 ≤ c) && decide (c ≤ 122)) = false := by
      by_cases h1 : 97 ≤ c
      · rw [decide_eq_false (by omega : ¬ c ≤ 122)]; simp
      · rw [decide_eq_false h1]; rfl
    rw [h2]
    refine decide_eq_false fun z => h ?_
    obtain ⟨k, hk, rfl⟩ := List.mem_map.mp z
    have := List.mem_range.mp hk
    omega
theorem ok_w_is_name (T : Txt K mg a) : FnOk P w K mg base CX0 1 a.f_w_is_name a.d_w_is_name ["_law_word"] sp_is_name := by
  refine T.F_w_is_name.ok sc_w_is_name (fun vs H Q E h => ?_) (fun cdv A outer s H vs Q E hr h => ?_)
  · obtain ⟨s, rfl, _⟩ := h
    rfl
  · obtain ⟨s, rfl, hz, kk⟩ := h
    refine ⟨_, (pss_one (ps_ret (pe_and (pe_chain op_lt op_lt pe_int (pe_callB call_len_str (by rfl) T.z_len (by decide +kernel) (pa_cons (pv 0) pa_nil)) pe_int) (pe_one (pe_callB (cr_all rfl) (by rfl) T.z_all (by decide +kernel) (pa_cons (pe_lc (own := [("_law_sign", 1)]) (g := gName 1) (tt := tYes) rfl sc_w_is_name.nd (pi_str (pv 0)) (blkOk_by (own := [("_law_sign", 1)]) (N := ["_law_word", "_law_sign"]) (sc := defScope s_w_is_name) (by decide +kernel)) (fun _ _ _ _ _ => pg_name (i := 1) sc_w_is_name.nd rfl (Or.inl rfl)) (fun _ _ _ _ _ => pts_nil) (fun _ _ _ _ _ => by exact (pe_cmpR op_in_sign (pv 1) pe_str (by rfl)))) pa_nil)))))), ?_⟩
    have no : ¬ (1 ≤ s.cps.size ∧ s.cps.size ≤ 8) → Q (.bl false) H := fun n => by
      have e : My.nameB s = false := by
        unfold My.nameB
        by_cases h1 : 1 ≤ s.cps.size
        · rw [decide_eq_false fun z => n ⟨h1, z⟩]; simp
        · rw [decide_eq_false h1]; simp
      exact e ▸ kk H (Same.refl H)
    refine ⟨_, rfl, s, rfl, hz, _, _, rfl, rfl, _, rfl, ?_⟩
    refine iteD (fun h1 => ?_) (fun h1 => ?_)
    · refine ⟨_, _, rfl, rfl, _, rfl, ?_⟩
      refine iteD (fun h2 => ?_) (fun h2 => ?_)
      · have b1 : 1 ≤ s.cps.size := by
          have : (0 : Int) < (s.cps.size : Int) := h1
          omega
        have b2 : s.cps.size ≤ 8 := by
          have : (s.cps.size : Int) < 9 := h2
          omega
        refine ⟨_, rfl, s, rfl, fun D hD => ?_⟩
        refine lc_it walk_str (fun i H1 => Blk (H1 = upd H D (.lst (((s.cps.toList.take i).map My.letter).map V.bl)) ∧ i ≤ s.cps.size)) (Blk.of ⟨rfl, by omega⟩) (fun i H1 _ hB => trivial) ?_ ?_
        · intro i y H1 H2 hi hB hy
          obtain ⟨rfl, hi2⟩ := hB.out
          obtain ⟨rfl, c, hc, rfl⟩ := hy
          have hc2 : s.cps.toList[i]? = some c := by rw [Array.getElem?_toList]; exact hc
          refine ⟨rfl, ?_⟩
          dsimp only [tYes]
          refine iteT ?_
          refine ⟨_, rfl, c, abc, rfl, rfl, ?_⟩
          rw [in_abc]
          refine ⟨_, upd_same, ?_, Blk.of ⟨?_, by omega⟩⟩
          · rw [List.length_map, List.length_map, List.length_take]
            exact small (by omega)
          · rw [upd_upd, take_snoc hc2, List.map_append, List.map_append]
            rfl
        · intro H1 hB
          obtain ⟨rfl, _⟩ := hB.out
          refine ⟨D, _, rfl, SqL.of upd_same, ?_⟩
          have el : s.cps.toList.take s.cps.size = s.cps.toList := by rw [← Array.length_toList, List.take_length]
          rw [el, all_id]
          have en : s.cps.toList.all My.letter = My.nameB s := by
            unfold My.nameB
            rw [decide_eq_true b1, decide_eq_true b2]
            rfl
          rw [en]
          exact kk _ ((Same.refl H).upd hD)
      · refine no fun z => h2 ?_
        show (s.cps.size : Int) < 9
        omega
    · refine ⟨_, rfl, ?_⟩
      refine iteF (no fun z => h1 ?_)
      show (0 : Int) < (s.cps.size : Int)
      omega
def pairB (q : My.Pr) (ps : List My.Pr) : Bool := (My.nameB q.1 && My.nameB q.2.1) && fitsB q ps
def sp_pair_fits : Sp := fun vs H Q _ => ∃ (h l : Addr) (q : My.Pr) (as : List Addr) (ps : List My.Pr), vs = [.ref l, .ref h] ∧ H h = some (prO q) ∧ H l = some (.lst (as.map V.ref)) ∧ Objs H as prO ps ∧ ps.length ≤ 1000 ∧ q.1.length ≤ sizeLine ∧ q.2.1.length ≤ sizeLine ∧ ∀ H', Same H H' → Q (.bl (pairB q ps)) H'
theorem ok_pair_fits (T : Txt K mg a) : FnOk P w K mg base CX0 2 a.f_pair_fits a.d_pair_fits ["_law_ahead", "_law_pair"] sp_pair_fits := by
  refine T.F_pair_fits.ok sc_pair_fits (fun vs H Q E h => ?_) (fun cdv A outer s H vs Q E hr h => ?_)
  · obtain ⟨h, l, q, as, ps, rfl, _⟩ := h
    rfl
  · obtain ⟨h, l, ⟨q1, q2, q3⟩, as, ps, rfl, e, el, ob, hz, z1, z2, kk⟩ := h
    have e' : H h = some (.tup [.str q1, .str q2, .bl q3]) := e
    have asl := ob.len
    refine ⟨_, (pss_cons (ps_asg (pv 1) (pg_tup (by rfl) (pgs_cons (pg_name (i := 2) sc_pair_fits.nd rfl (Or.inl rfl)) (pgs_cons (pg_name (i := 3) sc_pair_fits.nd rfl (Or.inl rfl)) (pgs_cons (pg_name (i := 4) sc_pair_fits.nd rfl (Or.inl rfl)) pgs_nil)))))
      (pss_cons (ps_if (PW.pt (pw_or (pt_cmpR op_gt (pe_callB call_len_seq (by rfl) T.z_len (by decide +kernel) (pa_cons (pv 0) pa_nil)) pe_int (nomark _)) (pw_or (pt_not (pt_val (pe_call (ok_w_is_name T) (hr.mono (by decide)) rfl T.g_w_is_name T.k_w_is_name T.B_w_is_name .nil pass0 (pa_cons (pv 2) pa_nil)))) (pw_or1 (pt_not (pt_val (pe_call (ok_w_is_name T) (hr.mono (by decide)) rfl T.g_w_is_name T.k_w_is_name T.B_w_is_name .nil pass0 (pa_cons (pv 3) pa_nil)))))))) (pss_one (ps_ret pe_bl)) pss_nil)
      (pss_one (ps_ret (pe_and (pe_cmpR op_notIn_seq (pv 2) (pe_lc (own := [("_law_one", 5)]) (g := gName 5) (te := tOp (rIxT K) (tVar 5) (tC (.int 0))) (tt := tYes) rfl sc_pair_fits.nd (pi_list (pv 0)) (blkOk_by (own := [("_law_one", 5)]) (N := ["_law_ahead", "_law_pair", "_law_near", "_law_far", "_law_laden", "_law_one"]) (sc := defScope s_pair_fits) (by decide +kernel)) (fun _ _ _ _ _ => pg_name (i := 5) sc_pair_fits.nd rfl (Or.inl rfl)) (fun _ _ _ _ _ => pts_nil) (fun _ _ _ _ _ => by exact (pe_ix ix_tup (pv 5) pe_int (fun _ _ => rfl)))) (by rfl)) (pe_one (pe_cmpR op_notIn_seq (pv 3) (pe_lc (own := [("_law_one", 5)]) (g := gName 5) (te := tOp (rIxT K) (tVar 5) (tC (.int 1))) (tt := tYes) rfl sc_pair_fits.nd (pi_list (pv 0)) (blkOk_by (own := [("_law_one", 5)]) (N := ["_law_ahead", "_law_pair", "_law_near", "_law_far", "_law_laden", "_law_one"]) (sc := defScope s_pair_fits) (by decide +kernel)) (fun _ _ _ _ _ => pg_name (i := 5) sc_pair_fits.nd rfl (Or.inl rfl)) (fun _ _ _ _ _ => pts_nil) (fun _ _ _ _ _ => by exact (pe_ix ix_tup (pv 5) pe_int (fun _ _ => rfl)))) (by rfl)))))))), ?_⟩
    refine ⟨_, rfl, h, _, rfl, SqT.of e', rfl, ?_⟩
    refine ⟨_, _, rfl, _, _, rfl, _, _, rfl, rfl, ?_⟩
    have no : ∀ {H1 : Hp}, Same H H1 → pairB (q1, q2, q3) ps = false → Q (.bl false) H1 := fun s c => c ▸ kk _ s
    refine ⟨_, rfl, l, _, rfl, .inl (SqL.of el), _, _, rfl, rfl, _, rfl, ?_⟩
    have ec : (((as.map V.ref).length : Nat) : Int) = (ps.length : Int) := by rw [List.length_map, asl]
    rw [ec]
    refine iteD (fun c1 => ?_) (fun c1 => ?_)
    · refine iteT (no (Same.refl H) ?_)
      unfold pairB fitsB
      rw [decide_eq_false (by omega : ¬ ps.length < 6)]
      simp
    · refine ⟨_, rfl, q1, rfl, z1, fun H1 s1 => ⟨_, rfl, ?_⟩⟩
      refine iteB (fun c2 => ?_) (fun c2 => ?_)
      · have c2' : My.nameB q1 = false := by simpa using c2
        refine iteT (no s1 ?_)
        unfold pairB
        rw [c2']; rfl
      · have c2' : My.nameB q1 = true := by simpa using c2
        refine ⟨_, rfl, q2, rfl, z2, fun H2 s2 => ⟨_, rfl, ?_⟩⟩
        refine iteB (fun c3 => ?_) (fun c3 => ?_)
        · have c3' : My.nameB q2 = false := by simpa using c3
          refine no (s1.trans s2) ?_
          unfold pairB
          rw [c2', c3']; rfl
        · have c3' : My.nameB q2 = true := by simpa using c3
          have s12 := s1.trans s2
          refine ⟨_, rfl, _, rfl, l, rfl, ⟨_, SqL.of (s12 _ _ el)⟩, fun D hD => ?_⟩
          refine words_comp (i := 0) (ob.same s12) (s12 _ _ el) hD hz (fun _ => rfl) (fun h q H3 R hq hR => ?_) fun H3 s3 hD3 => ?_
          · exact ⟨_, rfl, _, _, _, _, rfl, rfl, SqT.of hq, rfl, hR⟩
          refine ⟨D, _, rfl, .inl (SqL.of hD3), rfl, flat_str _, _, rfl, ?_⟩
          rw [if_pos rfl, inV_str]
          have s13 := s12.trans s3
          have eN : ps.map (My.wd 0) = ps.map (·.1) := rfl
          have eF : ps.map (My.wd 1) = ps.map (·.2.1) := rfl
          have eq : pairB (q1, q2, q3) ps = (!decide (q1 ∈ ps.map (My.wd 0)) && !decide (q2 ∈ ps.map (My.wd 1))) := by
            unfold pairB fitsB
            rw [c2', c3', decide_eq_true (by omega : ps.length < 6), eN, eF]
            rfl
          refine iteB (fun c4 => ?_) (fun c4 => ?_)
          · refine ⟨_, rfl, _, rfl, l, rfl, ⟨_, SqL.of (s13 _ _ el)⟩, fun G hG => ?_⟩
            refine words_comp (i := 1) (ob.same s13) (s13 _ _ el) hG hz (fun _ => rfl) (fun h q H4 R hq hR => ?_) fun H4 s4 hG4 => ?_
            · exact ⟨_, rfl, _, _, _, _, rfl, rfl, SqT.of hq, rfl, hR⟩
            refine ⟨G, _, rfl, .inl (SqL.of hG4), rfl, flat_str _, ?_⟩
            rw [if_pos rfl, inV_str]
            rw [c4, Bool.true_and] at eq
            have fin := kk _ (s13.trans s4)
            rw [eq] at fin
            exact fin
          · rw [c4] at eq
            exact no s13 eq

open My (Hr)
theorem nodup_ahead {α : Type} {xs : List α} (h : ∀ (i : Nat) (t : α), xs[i]? = some t → t ∉ xs.take i) : xs.Nodup := by
  refine List.pairwise_iff_getElem.mpr fun i j hi hj hij e => ?_
  refine h j xs[j] (List.getElem?_eq_getElem hj) ?_
  rw [← e]
  exact List.mem_take_iff_getElem.mpr ⟨i, by omega, rfl⟩
theorem cut_to (xs : List V) (i : Nat) : cutV xs none (some (i : Int)) = xs.take i := by
  unfold cutV
  rw [HT.sIx_nat, HT.sIx_none, List.drop_zero, Nat.sub_zero]
  by_cases h : i ≤ xs.length
  · rw [Nat.min_eq_left h]
  · rw [Nat.min_eq_right (by omega), List.take_length, List.take_of_length_le (by omega)]
theorem cut_from (xs : List V) (i : Nat) : cutV xs (some (i : Int)) none = xs.drop i := by
  unfold cutV
  rw [HT.sIx_nat, HT.sIx_none]
  by_cases h : i ≤ xs.length
  · rw [Nat.min_eq_left h, List.take_of_length_le (by rw [List.length_drop]; omega)]
  · rw [Nat.min_eq_right (by omega), List.drop_length, List.drop_of_length_le (by omega), List.take_nil]
theorem cut_upto {xs : List Str} {i : Nat} : cutV (xs.map V.str) none (some (i : Int)) = (xs.take i).map V.str := by rw [cut_to, List.map_take]
theorem nodup_nin {xs : List Str} (nd : xs.Nodup) {i : Nat} {t : Str} (h : xs[i]? = some t) : t ∉ xs.take i := fun hc => by
  have := My.nin_take (f := id) (xs := xs) (by simpa using nd) h
  exact this (by simpa using hc)
def sp_helper_fits : Sp := fun vs H Q _ => ∃ (h l L : Addr) (x : Hr) (as has : List Addr) (ps : List My.Pr) (hs : List Hr), vs = [.ref l, .ref L, .ref h] ∧ HrAt H h x ∧ H l = some (.lst (as.map V.ref)) ∧ Objs H as prO ps ∧ H L = some (.lst (has.map V.ref)) ∧ Crew H has hs ∧
  ps.length ≤ 1000 ∧ hs.length ≤ 1000 ∧ x.name.length ≤ sizeLine ∧ x.takes.length ≤ 1000 ∧ x.throws.length ≤ 1000 ∧ (hs.filter fun z => decide (z.side = x.side)).length ≤ 4 ∧ ∀ H', Same H H' → Q (.bl (My.pactB x && My.fitsHB x ps hs)) H'
theorem ok_helper_fits (T : Txt K mg a) : FnOk P w K mg base CX0 2 a.f_helper_fits a.d_helper_fits ["_law_pairs_here", "_law_ahead", "_law_helper"] sp_helper_fits := by
  refine T.F_helper_fits.ok sc_helper_fits (fun vs H Q E h => ?_) (fun cdv A outer s H vs Q E hr h => ?_)
  · obtain ⟨h, l, L, x, as, has, ps, hs, rfl, _⟩ := h
    rfl
  · obtain ⟨h, l, L, x, as, has, ps, hs, rfl, ⟨tk, th, e, etk, eth⟩, el, obs, eL, crew, hz1, hz2, z1, z2, z3, few, kk⟩ := h
    refine ⟨_, (pss_cons (ps_asg (pv 2) (pg_tup (by rfl) (pgs_cons (pg_name (i := 3) sc_helper_fits.nd rfl (Or.inl rfl)) (pgs_cons (pg_name (i := 4) sc_helper_fits.nd rfl (Or.inr rfl)) (pgs_cons (pg_name (i := 5) sc_helper_fits.nd rfl (Or.inl rfl)) (pgs_cons (pg_name (i := 6) sc_helper_fits.nd rfl (Or.inl rfl)) (pgs_cons (pg_name (i := 7) sc_helper_fits.nd rfl (Or.inl rfl)) pgs_nil)))))))
      (pss_cons (ps_if (PW.pt (pw_or (pt_not (pt_val (pe_call (ok_w_is_name T) (hr.mono (by decide)) rfl T.g_w_is_name T.k_w_is_name T.B_w_is_name .nil pass0 (pa_cons (pv 3) pa_nil)))) (pw_or (pt_cmpR op_in_seq (pv 3) (pe_lc (own := [("_law_one", 11)]) (g := gName 11) (te := tOp (rIxT K) (tVar 11) (tC (.int 0))) (tt := tYes) rfl sc_helper_fits.nd (pi_list (pv 1)) (blkOk_by (own := [("_law_one", 11)]) (N := ["_law_pairs_here", "_law_ahead", "_law_helper", "_law_name_here", "_law_side", "_law_takes", "_law_gives", "_law_throws", "_law_words", "_law_at", "_law_word", "_law_one", "_law_pair", "_law_how"]) (sc := defScope s_helper_fits) (by decide +kernel)) (fun _ _ _ _ _ => pg_name (i := 11) sc_helper_fits.nd rfl (Or.inl rfl)) (fun _ _ _ _ _ => pts_nil) (fun _ _ _ _ _ => by exact (pe_ix ix_tup (pv 11) pe_int (fun _ _ => rfl)))) (by rfl)) (pw_or (pt_cmpR op_lt (pv 4) pe_int (nomark _)) (pw_or1 (pt_cmpR op_gt (pv 4) pe_int (nomark _))))))) (pss_one (ps_ret pe_bl)) pss_nil)
      (pss_cons (ps_if (PW.pt (pw_or (pt_cmpR op_gt (pe_callB call_len_seq (by rfl) T.z_len (by decide +kernel) (pa_cons (pe_lc (own := [("_law_one", 11)]) (g := gName 11) (te := tVar 11) (tt := tTest (tOp rEq (tOp (rIxT K) (tVar 11) (tC (.int 1))) (tVar 4))) rfl sc_helper_fits.nd (pi_list (pv 1)) (blkOk_by (own := [("_law_one", 11)]) (N := ["_law_pairs_here", "_law_ahead", "_law_helper", "_law_name_here", "_law_side", "_law_takes", "_law_gives", "_law_throws", "_law_words", "_law_at", "_law_word", "_law_one", "_law_pair", "_law_how"]) (sc := defScope s_helper_fits) (by decide +kernel)) (fun _ _ _ _ _ => pg_name (i := 11) sc_helper_fits.nd rfl (Or.inl rfl)) (fun _ _ _ _ _ => pts_one (pt_cmpR op_eq (pe_ix ix_tup (pv 11) pe_int (fun _ _ => rfl)) (pv 4) (nomark _))) (fun _ _ _ _ _ => by exact (pv 11))) pa_nil)) pe_int (nomark _)) (pw_or (pt_cmpR op_gt (pe_callB call_len_seq (by rfl) T.z_len (by decide +kernel) (pa_cons (pv 5) pa_nil)) pe_int (nomark _)) (pw_or1 (pt_cmpR op_gt (pe_callB call_len_seq (by rfl) T.z_len (by decide +kernel) (pa_cons (pv 7) pa_nil)) pe_int (nomark _)))))) (pss_one (ps_ret pe_bl)) pss_nil)
      (pss_cons (ps_setLc (i := 8) (own := [("_law_pair", 12)]) (g := gName 12) (te := tOp (rIxT K) (tVar 12) (tVar 4)) (tt := tYes) rfl sc_helper_fits.nd rfl rfl (sw_true rfl rfl rfl (by decide +kernel)) (pi_list (pv 0)) (blkOk_by (own := [("_law_pair", 12)]) (N := ["_law_pairs_here", "_law_ahead", "_law_helper", "_law_name_here", "_law_side", "_law_takes", "_law_gives", "_law_throws", "_law_words", "_law_at", "_law_word", "_law_one", "_law_pair", "_law_how"]) (sc := defScope s_helper_fits) (by decide +kernel)) (fun _ _ _ _ _ => pg_name (i := 12) sc_helper_fits.nd rfl (Or.inl rfl)) (fun _ _ _ _ _ => pts_nil) (fun _ _ _ _ _ => by exact (pe_ix ix_tup (pv 12) (pv 4) (fun _ _ => rfl))))
      (pss_cons (ps_for PassesOwn.never rfl (pi_enumT (by rfl) T.z_enumerate (pa_cons (pv 7) pa_nil)) (pg_tup rfl (pgs_cons (pg_name (i := 9) sc_helper_fits.nd rfl (Or.inl rfl)) (pgs_cons (pg_name (i := 10) sc_helper_fits.nd rfl (Or.inl rfl)) pgs_nil))) (pss_one (ps_if (PW.pt (pw_or (pt_cmpR op_notIn_seq (pv 10) (pv 8) (by rfl)) (pw_or1 (pt_cmpR op_in_seq (pv 10) (pe_slice sl_tupF (pv 7) po_none (po_some (pv 9))) (by rfl))))) (pss_one (ps_ret pe_bl)) pss_nil)))
      (pss_one (ps_ret (pe_callB (cr_all rfl) (by rfl) T.z_all (by decide +kernel) (pa_cons (pe_lc (own := [("_law_how", 13)]) (g := gName 13) (te := tOp (rIn K false) (tVar 13) (tLst (tCons (tC (.str "lent")) (tCons (tC (.str "given")) tNil)))) (tt := tYes) rfl sc_helper_fits.nd (pi_tup (pv 5)) (blkOk_by (own := [("_law_how", 13)]) (N := ["_law_pairs_here", "_law_ahead", "_law_helper", "_law_name_here", "_law_side", "_law_takes", "_law_gives", "_law_throws", "_law_words", "_law_at", "_law_word", "_law_one", "_law_pair", "_law_how"]) (sc := defScope s_helper_fits) (by decide +kernel)) (fun _ _ _ _ _ => pg_name (i := 13) sc_helper_fits.nd rfl (Or.inl rfl)) (fun _ _ _ _ _ => pts_nil) (fun _ _ _ _ _ => by exact (pe_cmpR op_in_seq (pv 13) (pe_lst (pa_cons pe_str (pa_cons pe_str pa_nil))) (by rfl)))) pa_nil))))))))), ?_⟩
    have asl := obs.len
    have hasl := crew.len
    have no : ∀ {H1 : Hp}, Same H H1 → (My.pactB x && My.fitsHB x ps hs) = false → Q (.bl false) H1 := fun s c => c ▸ kk _ s
    refine ⟨_, rfl, h, _, rfl, SqT.of e, rfl, ?_⟩
    refine ⟨_, _, rfl, _, _, rfl, _, _, rfl, _, _, rfl, _, _, rfl, rfl, ?_⟩
    refine ⟨_, rfl, x.name, rfl, z1, fun H1 s1 => ⟨_, rfl, ?_⟩⟩
    refine iteB (fun c1 => ?_) (fun c1 => ?_)
    · have c : My.nameB x.name = false := by simpa using c1
      refine iteT (no s1 ?_)
      unfold My.pactB
      rw [c]; rfl
    have c1' : My.nameB x.name = true := by simpa using c1
    refine ⟨_, rfl, _, rfl, L, rfl, ⟨_, SqL.of (s1 _ _ eL)⟩, fun D hD => ?_⟩
    have eL1 := s1 _ _ eL
    have crew1 := Crew.same crew s1
    have nLD : L ≠ D := ne_of_none eL1 hD
    refine lc_list (K := K) (a := L) (xs := has.map V.ref) (fun i H2 => Blk (H2 = upd H1 D (.lst (((hs.take i).map (·.name)).map V.str)))) (Blk.of rfl) (fun i H2 _ hB => ?_) ?_ ?_
    · obtain rfl := hB.out
      exact SqL.of ((upd_ne nLD).trans eL1)
    · intro i y H2 hi hB
      obtain rfl := hB.out
      obtain ⟨b, hb, rfl⟩ := refs_get hi
      obtain ⟨z, hz, tk2, th2, ez, _⟩ := crew1.get hb
      have hil := get_lt hz
      refine ⟨rfl, ?_⟩
      dsimp only [tYes]
      refine iteT ?_
      refine ⟨_, rfl, _, _, _, _, rfl, rfl, SqT.of ((upd_ne (ne_of_none ez hD)).trans ez), rfl, ?_⟩
      refine ⟨_, upd_same, by rw [List.length_map, List.length_map, List.length_take]; exact small (by omega), Blk.of ?_⟩
      rw [upd_upd, take_snoc hz, List.map_append, List.map_append]
      rfl
    intro H2 hB
    obtain rfl := hB.out
    have e1 : hs.take (has.map V.ref).length = hs := by rw [List.length_map, hasl, List.take_length]
    rw [e1]
    have sD : Same H (upd H1 D (.lst ((hs.map (·.name)).map V.str))) := s1.trans ((Same.refl H1).upd hD)
    have hDl : (upd H1 D (.lst ((hs.map (·.name)).map V.str))) D = some (.lst ((hs.map (·.name)).map V.str)) := upd_same
    show _
    generalize (upd H1 D (.lst ((hs.map (·.name)).map V.str))) = H2 at sD hDl
    refine ⟨D, _, rfl, .inl (SqL.of hDl), rfl, flat_str _, _, rfl, ?_⟩
    rw [if_neg Bool.false_ne_true, inV_str]
    refine iteD (fun c2 => ?_) (fun c2 => ?_)
    · refine iteT (no sD ?_)
      unfold My.fitsHB
      rw [decide_eq_true c2]
      simp
    refine ⟨_, rfl, _, _, rfl, rfl, _, rfl, ?_⟩
    refine iteD (fun c3 => ?_) (fun c3 => ?_)
    · refine iteT (no sD ?_)
      unfold My.pactB My.sideB
      rw [decide_eq_false (by omega : ¬ (x.side = 0 ∨ x.side = 1))]
      simp
    refine ⟨_, rfl, _, _, rfl, rfl, _, rfl, ?_⟩
    refine iteD (fun c4 => ?_) (fun c4 => ?_)
    · refine no sD ?_
      unfold My.pactB My.sideB
      rw [decide_eq_false (by omega : ¬ (x.side = 0 ∨ x.side = 1))]
      simp
    have hside : x.side = 0 ∨ x.side = 1 := by omega
    -- fellows
    have eL2 := sD _ _ eL
    have crew2 := Crew.same crew sD
    refine ⟨_, rfl, L, rfl, ⟨_, SqL.of eL2⟩, fun G hG => ?_⟩
    have nLG : L ≠ G := ne_of_none eL2 hG
    refine lc_list (K := K) (a := L) (xs := has.map V.ref) (fun i H1 => Blk (∃ fs : List Addr, H1 = upd H2 G (.lst (fs.map V.ref)) ∧ fs.length = ((hs.take i).filter fun z => decide (z.side = x.side)).length)) (Blk.of ⟨[], rfl, rfl⟩) (fun i H1 _ hB => ?_) ?_ ?_
    · obtain ⟨fs, rfl, _⟩ := hB.out
      exact SqL.of ((upd_ne nLG).trans eL2)
    · intro i y H1 hi hB
      obtain ⟨fs, rfl, hf⟩ := hB.out
      obtain ⟨b, hb, rfl⟩ := refs_get hi
      obtain ⟨z, hz, tk2, th2, ez, _⟩ := crew2.get hb
      have hil := get_lt hz
      refine ⟨rfl, ?_⟩
      refine ⟨_, rfl, _, _, _, _, rfl, rfl, SqT.of ((upd_ne (ne_of_none ez hG)).trans ez), rfl, _, rfl, rfl, _, rfl, ?_⟩
      have ed : decide (V.int z.side = V.int x.side) = decide (z.side = x.side) := by
        by_cases c : z.side = x.side
        · rw [c]; simp
        · rw [decide_eq_false c, decide_eq_false fun q => c (V.int.inj q)]
      rw [ed]
      have et : (hs.take (i + 1)).filter (fun z => decide (z.side = x.side)) = (hs.take i).filter (fun z => decide (z.side = x.side)) ++ (if z.side = x.side then [z] else []) := by
        rw [take_snoc hz, List.filter_append]
        by_cases c : z.side = x.side
        · simp [c]
        · simp [c]
      have hfl : fs.length ≤ i := by
        rw [hf]
        refine Nat.le_trans (List.length_filter_le _ _) ?_
        rw [List.length_take]
        omega
      refine iteD (fun c => ?_) (fun c => ?_)
      · refine ⟨_, rfl, _, upd_same, by rw [List.length_map]; exact small (by omega), Blk.of ⟨fs ++ [b], ?_, ?_⟩⟩
        · rw [upd_upd, List.map_append]; rfl
        · rw [et, if_pos c, List.length_append, List.length_append, hf]; rfl
      · exact Blk.of ⟨fs, rfl, by rw [et, if_neg c, List.append_nil, hf]⟩
    intro H3 hB
    obtain ⟨fs, rfl, hf⟩ := hB.out
    rw [List.length_map, hasl, List.take_length] at hf
    have sG : Same H (upd H2 G (.lst (fs.map V.ref))) := sD.trans ((Same.refl H2).upd hG)
    have hG1 : (upd H2 G (.lst (fs.map V.ref))) G = some (.lst (fs.map V.ref)) := upd_same
    show _
    generalize (upd H2 G (.lst (fs.map V.ref))) = H3 at sG hG1
    refine ⟨G, _, rfl, .inl (SqL.of hG1), _, _, rfl, rfl, _, rfl, ?_⟩
    have el1 : (((fs.map V.ref).length : Nat) : Int) = (((hs.filter fun z => decide (z.side = x.side)).length : Nat) : Int) := by rw [List.length_map, hf]
    rw [el1]
    refine iteD (fun c5 => ?_) (fun c5 => ?_)
    · refine iteT (no sG ?_)
      unfold My.fitsHB
      rw [decide_eq_true (by omega : (hs.filter fun z => decide (z.side = x.side)).length = 4)]
      simp
    have etk3 := etk.same sG
    have eth3 := eth.same sG
    refine ⟨_, rfl, tk, _, rfl, .inr etk3.seq, _, _, rfl, rfl, _, rfl, ?_⟩
    have etl : (((x.takes.map V.str).length : Nat) : Int) = (x.takes.length : Int) := by rw [List.length_map]
    rw [etl]
    refine iteD (fun c6 => ?_) (fun c6 => ?_)
    · refine iteT (no sG ?_)
      unfold My.pactB My.takesB
      rw [decide_eq_false (by omega : ¬ x.takes.length ≤ 3)]
      simp
    refine ⟨_, rfl, th, _, rfl, .inr eth3.seq, _, _, rfl, rfl, _, rfl, ?_⟩
    have ehl : (((x.throws.map V.str).length : Nat) : Int) = (x.throws.length : Int) := by rw [List.length_map]
    rw [ehl]
    refine iteD (fun c7 => ?_) (fun c7 => ?_)
    · refine no sG ?_
      unfold My.pactB My.throwsB
      rw [decide_eq_false (by omega : ¬ x.throws.length ≤ 4)]
      simp
    -- words
    refine ⟨_, rfl, l, rfl, ⟨_, SqL.of (sG _ _ el)⟩, fun J hJ => ?_⟩
    refine words_comp (i := x.side) (obs.same sG) (sG _ _ el) hJ hz1 (fun _ => rfl) (fun h q H4 R hq hR => ?_) fun H4 s4 hJ4 => ?_
    · exact ⟨_, rfl, _, rfl, _, _, _, _, rfl, rfl, SqT.of hq, wd_at2 hside q, hR⟩
    have sJ := sG.trans s4
    have eth4 := eth.same sJ
    refine ⟨_, rfl, th, _, rfl, eth4.seq, ?_⟩
    refine for_it (walk_enumT (K := K) (a := th) (xs := x.throws.map V.str)) (fun i σ H5 => Blk (∃ v9 v10, σ = [some (.ref l), some (.ref L), some (.ref h), some (.str x.name), some (.int x.side), some (.ref tk), some (.bl x.gives), some (.ref th), some (.ref J), v9, v10, none, none, none] ∧ Same H4 H5 ∧ ∀ (j : Nat) (t : Str), j < i → x.throws[j]? = some t → t ∈ ps.map (My.wd x.side) ∧ t ∉ x.throws.take j)) ?_ ?_ ?_ ?_
    · exact Blk.of ⟨_, _, rfl, Same.refl H4, fun j t hj => absurd hj (by omega)⟩
    · intro i σ H5 _ hB
      obtain ⟨v9, v10, _, s5, _⟩ := hB.out
      exact (eth4.same s5).seq
    · intro i y σ H5 H6 hi hB hy
      obtain ⟨v9, v10, rfl, s5, ahead⟩ := hB.out
      obtain ⟨Tt, u, v, rfl, hT, rfl, hu, hv⟩ := hy
      obtain rfl := Option.some.inj hu
      obtain ⟨t, ht, rfl⟩ := strs_get hv
      have s6 : Same H4 (upd H5 Tt (.tup [.int (i : Nat), .str t])) := s5.trans ((Same.refl H5).upd hT)
      have hT6 : (upd H5 Tt (.tup [.int (i : Nat), .str t])) Tt = some (.tup [.int (i : Nat), .str t]) := upd_same
      show _
      generalize (upd H5 Tt (.tup [.int (i : Nat), .str t])) = H6 at s6 hT6
      refine ⟨Tt, _, rfl, SqT.of hT6, rfl, _, _, rfl, _, _, rfl, rfl, ?_⟩
      have hJ6 := s6 _ _ hJ4
      have eth6 := eth4.same s6
      have bad : (t ∈ ps.map (My.wd x.side) ∧ t ∉ x.throws.take i → False) → (My.pactB x && My.fitsHB x ps hs) = false := fun n => by
        cases hb : (My.pactB x && My.fitsHB x ps hs) with
        | false => rfl
        | true =>
          exfalso
          rw [Bool.and_eq_true] at hb
          obtain ⟨b1, b2⟩ := hb
          unfold My.pactB at b1
          unfold My.fitsHB at b2
          rw [Bool.and_eq_true] at b1 b2
          exact n ⟨of_decide_eq_true (List.all_eq_true.mp b2.2 t (List.mem_of_getElem? ht)), nodup_nin (My.throwsB_nodup b1.2).2 ht⟩
      refine ⟨_, rfl, _, rfl, J, _, rfl, .inl (SqL.of hJ6), rfl, flat_str _, _, rfl, ?_⟩
      rw [if_pos rfl, inV_str]
      refine iteB (fun d1 => ?_) (fun d1 => ?_)
      · have d1' : t ∉ ps.map (My.wd x.side) := by simpa using d1
        exact no (sJ.trans s6) (bad fun z => d1' z.1)
      have d1' : t ∈ ps.map (My.wd x.side) := by simpa using d1
      walk_at "rd"
      refine ⟨th, _, rfl, eth6, fun p H7 s7 e7 => ?_⟩
      rw [cut_upto] at e7
      refine ⟨p, _, rfl, .inr e7.seq, rfl, flat_str _, ?_⟩
      rw [if_neg Bool.false_ne_true, inV_str]
      refine ⟨_, rfl, ?_⟩
      have s67 := s6.trans s7
      refine iteD (fun d2 => ?_) (fun d2 => ?_)
      · exact no (sJ.trans s67) (bad fun z => z.2 d2)
      · refine Blk.of ⟨_, _, rfl, s67, fun j t2 hj e2 => ?_⟩
        by_cases c : j = i
        · subst c
          rw [ht] at e2
          obtain rfl := Option.some.inj e2
          exact ⟨d1', d2⟩
        · exact ahead j t2 (by omega) e2
    · intro σ H5 hB
      obtain ⟨v9, v10, rfl, s5, ahead⟩ := hB.out
      have e1 : (x.throws.map V.str).length = x.throws.length := List.length_map ..
      have good : (My.pactB x && My.fitsHB x ps hs) = x.takes.all fun t => decide (t ∈ (["lent", "given"] : List Str)) := by
        have nd : x.throws.Nodup := nodup_ahead fun j t hj => (ahead j t (by rw [e1]; exact get_lt hj) hj).2
        have al : x.throws.all (fun t => decide (t ∈ ps.map (My.wd x.side))) = true := List.all_eq_true.mpr fun t ht => by
          obtain ⟨j, hj⟩ := List.getElem?_of_mem ht
          exact decide_eq_true (ahead j t (by rw [e1]; exact get_lt hj) hj).1
        unfold My.pactB My.fitsHB My.takesB My.sideB
        rw [c1', My.throwsB_of (by omega) nd, al, decide_eq_true hside, decide_eq_false c2, decide_eq_false (by omega : ¬ (hs.filter fun z => decide (z.side = x.side)).length = 4), decide_eq_true (by omega : x.takes.length ≤ 3)]
        simp
      have sF := sJ.trans s5
      have etk5 := etk.same sF
      refine ⟨_, rfl, tk, rfl, ⟨_, etk5.seq⟩, fun N hN => ?_⟩
      obtain ⟨ob, hob, etk6⟩ := etk5
      have nN : tk ≠ N := ne_of_none etk6 hN
      refine lc_tup (K := K) (a := tk) (xs := x.takes.map V.str) (fun i H6 => Blk (Same H5 H6 ∧ H6 N = some (.lst (((x.takes.take i).map fun t => decide (t ∈ (["lent", "given"] : List Str))).map V.bl)))) (Blk.of ⟨(Same.refl H5).upd hN, upd_same⟩) (fun i H6 _ hB => ?_) ?_ ?_
      · obtain ⟨s6, _⟩ := hB.out
        exact .inl (.inr ⟨ob, s6 _ _ etk6⟩)
      · intro i y H6 hi hB
        obtain ⟨s6, hN6⟩ := hB.out
        obtain ⟨t, ht, rfl⟩ := strs_get hi
        refine ⟨rfl, ?_⟩
        dsimp only [tYes]
        refine iteT ?_
        refine ⟨_, rfl, by show 2 ≤ sizeLine; decide, fun M hM => ?_⟩
        refine ⟨M, _, rfl, .inl (SqL.of upd_same), rfl, rfl, ?_⟩
        rw [if_neg Bool.false_ne_true]
        have ei : inV (.str t) [.str "lent", .str "given"] = decide (t ∈ (["lent", "given"] : List Str)) := inV_str t ["lent", "given"]
        rw [ei]
        have nNM : N ≠ M := ne_of_none hN6 hM
        refine ⟨_, (upd_ne nNM).trans hN6, by rw [List.length_map, List.length_map, List.length_take]; exact small (by omega), Blk.of ⟨?_, ?_⟩⟩
        · exact (s6.trans ((Same.refl H6).upd hM)).upd hN
        · rw [upd_same, take_snoc ht, List.map_append, List.map_append]
          rfl
      · intro H6 hB
        obtain ⟨s6, hN6⟩ := hB.out
        refine ⟨N, _, rfl, SqL.of hN6, ?_⟩
        rw [List.length_map, List.take_length, all_map_id, ← good]
        exact kk _ (sF.trans s6)

open My (Hr)
theorem of_not {b : Bool} (h : (!b) = true) : b = false := by cases b with | false => rfl | true => cases h
theorem of_notF {b : Bool} (h : (!b) = false) : b = true := by cases b with | true => rfl | false => cases h
/-! ### the first that does not fit -/
def okPB (ps : List My.Pr) (i : Nat) : Prop := ∀ q, ps[i]? = some q → pairB q (ps.take i) = true
def okHB (ps : List My.Pr) (hs : List Hr) (i : Nat) : Prop := ∀ x, hs[i]? = some x → (My.pactB x && My.fitsHB x ps (hs.take i)) = true
/-- n is the number of the first that does not fit -/
def Bad (ps : List My.Pr) (hs : List Hr) (n : Nat) : Prop :=
  (n < ps.length ∧ (∀ j, j < n → okPB ps j) ∧ ¬ okPB ps n) ∨ ((∀ j, okPB ps j) ∧ ∃ k, n = ps.length + k ∧ k < hs.length ∧ (∀ j, j < k → okHB ps hs j) ∧ ¬ okHB ps hs k)
def Good (ps : List My.Pr) (hs : List Hr) : Prop := (∀ j, okPB ps j) ∧ ∀ j, okHB ps hs j
theorem okPB_out {ps : List My.Pr} {i : Nat} (h : ps.length ≤ i) : okPB ps i := fun q e => by
  have := get_lt e
  omega
theorem okHB_out {ps : List My.Pr} {hs : List Hr} {i : Nat} (h : hs.length ≤ i) : okHB ps hs i := fun q e => by
  have := get_lt e
  omega
/-- ahead of the first that does not fit no side has more than four -/
theorem few_ahead {ps : List My.Pr} {hs : List Hr} {s : Int} : ∀ {i : Nat}, (∀ j, j < i → okHB ps hs j) → ((hs.take i).filter fun z => decide (z.side = s)).length ≤ 4
  | 0, _ => by simp
  | i + 1, h => by
    have ih := few_ahead (s := s) fun j (hj : j < i) => h j (by omega)
    by_cases c : i < hs.length
    · have e : hs[i]? = some hs[i] := List.getElem?_eq_getElem c
      have b := h i (by omega) _ e
      rw [take_snoc e, List.filter_append, List.length_append]
      generalize hs[i] = x at e b
      by_cases d : x.side = s
      · rw [Bool.and_eq_true] at b
        have b2 := b.2
        unfold My.fitsHB at b2
        rw [Bool.and_eq_true] at b2
        have b3 := b2.1
        rw [d] at b3
        have b4 : ¬ ((hs.take i).filter fun z => decide (z.side = s)).length = 4 := fun e => by
          rw [decide_eq_true e] at b3
          simp at b3
        have : ([x].filter fun z => decide (z.side = s)).length ≤ 1 := List.length_filter_le _ _
        omega
      · rw [List.filter_cons, if_neg (by simpa using d)]
        simpa using ih
    · rw [List.take_of_length_le (by omega)] at ih ⊢
      exact ih
def badI (o : Option Nat) : Int := match o with | some n => (n : Int) | none => -1
def BadIs (ps : List My.Pr) (hs : List Hr) : Option Nat → Prop
  | some n => Bad ps hs n
  | none => Good ps hs
theorem bad_lt {ps : List My.Pr} {hs : List Hr} {n : Nat} (h : Bad ps hs n) : n < ps.length + hs.length := by
  rcases h with h | ⟨_, k, rfl, hk, _⟩
  · omega
  · omega
theorem bad_one {ps : List My.Pr} {hs : List Hr} {n m : Nat} (h : Bad ps hs n) (h2 : Bad ps hs m) : n = m := by
  rcases h with ⟨a1, a2, a3⟩ | ⟨a1, k, rfl, a2, a3, a4⟩
  · rcases h2 with ⟨b1, b2, b3⟩ | ⟨b1, _⟩
    · rcases Nat.lt_trichotomy n m with c | c | c
      · exact absurd (b2 n c) a3
      · exact c
      · exact absurd (a2 m c) b3
    · exact absurd (b1 n) a3
  · rcases h2 with ⟨b1, b2, b3⟩ | ⟨b1, k2, rfl, b2, b3, b4⟩
    · exact absurd (a1 m) b3
    · rcases Nat.lt_trichotomy k k2 with c | c | c
      · exact absurd (b3 k c) a4
      · rw [c]
      · exact absurd (a3 k2 c) b4
theorem bad_not {ps : List My.Pr} {hs : List Hr} {n : Nat} (h : Bad ps hs n) (g : Good ps hs) : False := by
  rcases h with ⟨a1, a2, a3⟩ | ⟨a1, k, rfl, a2, a3, a4⟩
  · exact a3 (g.1 n)
  · exact a4 (g.2 k)
theorem bad_is {ps : List My.Pr} {hs : List Hr} {o p : Option Nat} (h : BadIs ps hs o) (h2 : BadIs ps hs p) : o = p := by
  cases o with
  | none =>
    cases p with
    | none => rfl
    | some m => exact (bad_not h2 h).elim
  | some n =>
    cases p with
    | none => exact (bad_not h h2).elim
    | some m => exact congrArg some (bad_one h h2)
/-- helpers and pairs as they are drawn, spoilt or not -/
structure Drawn (ps : List My.Pr) (hs : List Hr) : Prop where
  pl : ps.length ≤ 100
  pw : ∀ q, q ∈ ps → WOk q.1 ∧ WOk q.2.1
  hl : hs.length ≤ 100
  hw : ∀ x, x ∈ hs → HrOk x
def sp_first_bad : Sp := fun vs H Q _ => ∃ (l L : Addr) (as has : List Addr) (ps : List My.Pr) (hs : List Hr), vs = [.ref l, .ref L] ∧ H l = some (.lst (as.map V.ref)) ∧ Objs H as prO ps ∧ H L = some (.lst (has.map V.ref)) ∧ Crew H has hs ∧ Drawn ps hs ∧
  ∀ (o : Option Nat) (H' : Hp), BadIs ps hs o → Same H H' → Q (.int (badI o)) H'
theorem ok_first_bad (T : Txt K mg a) : FnOk P w K mg base CX0 3 a.f_first_bad a.d_first_bad ["_law_pairs_here", "_law_helpers_here"] sp_first_bad := by
  refine T.F_first_bad.ok sc_first_bad (fun vs H Q E h => ?_) (fun cdv A outer s H vs Q E hr h => ?_)
  · obtain ⟨l, L, as, has, ps, hs, rfl, _⟩ := h
    rfl
  · obtain ⟨l, L, as, has, ps, hs, rfl, el, ob, eL, crew, dr, kk⟩ := h
    have asl := ob.len
    have hasl := crew.len
    have zl := sizeLine_eq
    have pl := dr.pl
    have hl := dr.hl
    refine ⟨_, (pss_cons (ps_for PassesOwn.never rfl (pi_enum (by rfl) T.z_enumerate (pa_cons (pv 0) pa_nil)) (pg_tup rfl (pgs_cons (pg_name (i := 2) sc_first_bad.nd rfl (Or.inl rfl)) (pgs_cons (pg_name (i := 3) sc_first_bad.nd rfl (Or.inl rfl)) pgs_nil))) (pss_one (ps_if (pt_not (pt_val (pe_call (ok_pair_fits T) (hr.mono (by decide)) rfl T.g_pair_fits T.k_pair_fits T.B_pair_fits .nil pass0 (pa_cons (pe_slice sl_list (pv 0) po_none (po_some (pv 2))) (pa_cons (pv 3) pa_nil))))) (pss_one (ps_ret (pv 2))) pss_nil)))
      (pss_cons (ps_for PassesOwn.never rfl (pi_enum (by rfl) T.z_enumerate (pa_cons (pv 1) pa_nil)) (pg_tup rfl (pgs_cons (pg_name (i := 2) sc_first_bad.nd rfl (Or.inl rfl)) (pgs_cons (pg_name (i := 4) sc_first_bad.nd rfl (Or.inl rfl)) pgs_nil))) (pss_one (ps_if (pt_not (pt_val (pe_call (ok_helper_fits T) (hr.mono (by decide)) rfl T.g_helper_fits T.k_helper_fits T.B_helper_fits .nil pass0 (pa_cons (pv 0) (pa_cons (pe_slice sl_list (pv 1) po_none (po_some (pv 2))) (pa_cons (pv 4) pa_nil)))))) (pss_one (ps_ret (pe_op op_add (pe_callB call_len_seq (by rfl) T.z_len (by decide +kernel) (pa_cons (pv 0) pa_nil)) (pv 2)))) pss_nil)))
      (pss_one (ps_ret (pe_un un_neg pe_int))))), ?_⟩
    refine ⟨_, rfl, l, _, rfl, SqL.of el, ?_⟩
    refine for_it (walk_enum (K := K) (a := l) (xs := as.map V.ref)) (fun i σ H1 => Blk (∃ v2 v3, σ = [some (.ref l), some (.ref L), v2, v3, none] ∧ Same H H1 ∧ ∀ j, j < i → okPB ps j)) ?_ ?_ ?_ ?_
    · exact Blk.of ⟨_, _, rfl, Same.refl H, fun j hj => absurd hj (by omega)⟩
    · intro i σ H1 _ hB
      obtain ⟨v2, v3, _, s1, _⟩ := hB.out
      exact SqL.of (s1 _ _ el)
    · intro i y σ H1 H2 hi hB hy
      obtain ⟨v2, v3, rfl, s1, ahead⟩ := hB.out
      obtain ⟨Tt, u, v, rfl, hT, rfl, hu, hv⟩ := hy
      obtain rfl := Option.some.inj hu
      obtain ⟨h, hh, rfl⟩ := refs_get hv
      have s2 : Same H (upd H1 Tt (.tup [.int (i : Nat), .ref h])) := s1.trans ((Same.refl H1).upd hT)
      have hT2 : (upd H1 Tt (.tup [.int (i : Nat), .ref h])) Tt = some (.tup [.int (i : Nat), .ref h]) := upd_same
      show _
      generalize (upd H1 Tt (.tup [.int (i : Nat), .ref h])) = H2 at s2 hT2
      refine ⟨Tt, _, rfl, SqT.of hT2, rfl, _, _, rfl, _, _, rfl, rfl, ?_⟩
      have ob2 := ob.same s2
      obtain ⟨q, hq, hq2⟩ := ob2.get hh
      obtain ⟨w1, w2⟩ := dr.pw q (List.mem_of_getElem? hq)
      have wl1 := w1.1
      have wl2 := w2.1
      walk_at "rd"
      refine ⟨l, _, rfl, SqL.of (s2 _ _ el), fun p hp => ?_⟩
      rw [cut_to, ← List.map_take]
      have s3 : Same H (upd H2 p (.lst ((as.take i).map V.ref))) := s2.trans ((Same.refl H2).upd hp)
      have hp3 : (upd H2 p (.lst ((as.take i).map V.ref))) p = some (.lst ((as.take i).map V.ref)) := upd_same
      have hq3 : (upd H2 p (.lst ((as.take i).map V.ref))) h = some (prO q) := (upd_ne (ne_of_none hq2 hp)).trans hq2
      show _
      generalize (upd H2 p (.lst ((as.take i).map V.ref))) = H3 at s3 hp3 hq3
      refine ⟨_, rfl, h, p, q, as.take i, ps.take i, rfl, hq3, hp3, (ob.same s3).take i, by rw [List.length_take]; omega, by omega, by omega, fun H4 s4 => ⟨_, rfl, ?_⟩⟩
      have s04 := s3.trans s4
      refine iteB (fun c => ?_) (fun c => ?_)
      · have c' : pairB q (ps.take i) = false := of_not c
        refine ⟨_, rfl, kk (some i) H4 (.inl ⟨get_lt hq, ahead, fun z => ?_⟩) s04⟩
        have := z q hq
        rw [c'] at this
        cases this
      · have c' : pairB q (ps.take i) = true := of_notF c
        refine Blk.of ⟨_, _, rfl, s04, fun j hj => ?_⟩
        by_cases d : j = i
        · subst d
          intro q2 e2
          rw [hq] at e2
          obtain rfl := Option.some.inj e2
          exact c'
        · exact ahead j (by omega)
    · intro σ H1 hB
      obtain ⟨v2, v3, rfl, s1, ahead⟩ := hB.out
      rw [List.length_map, asl] at ahead
      have allp : ∀ j, okPB ps j := fun j => by
        by_cases c : j < ps.length
        · exact ahead j c
        · exact okPB_out (by omega)
      refine ⟨_, rfl, L, _, rfl, SqL.of (s1 _ _ eL), ?_⟩
      refine for_it (walk_enum (K := K) (a := L) (xs := has.map V.ref)) (fun i σ H2 => Blk (∃ v2 v3 v4, σ = [some (.ref l), some (.ref L), v2, v3, v4] ∧ Same H H2 ∧ ∀ j, j < i → okHB ps hs j)) ?_ ?_ ?_ ?_
      · exact Blk.of ⟨_, _, _, rfl, s1, fun j hj => absurd hj (by omega)⟩
      · intro i σ H2 _ hB
        obtain ⟨v2, v3, v4, _, s2, _⟩ := hB.out
        exact SqL.of (s2 _ _ eL)
      · intro i y σ H2 H3 hi hB hy
        obtain ⟨v2, v3, v4, rfl, s2, ahead⟩ := hB.out
        obtain ⟨Tt, u, v, rfl, hT, rfl, hu, hv⟩ := hy
        obtain rfl := Option.some.inj hu
        obtain ⟨h, hh, rfl⟩ := refs_get hv
        have s3 : Same H (upd H2 Tt (.tup [.int (i : Nat), .ref h])) := s2.trans ((Same.refl H2).upd hT)
        have hT3 : (upd H2 Tt (.tup [.int (i : Nat), .ref h])) Tt = some (.tup [.int (i : Nat), .ref h]) := upd_same
        show _
        generalize (upd H2 Tt (.tup [.int (i : Nat), .ref h])) = H3 at s3 hT3
        refine ⟨Tt, _, rfl, SqT.of hT3, rfl, _, _, rfl, _, _, rfl, rfl, ?_⟩
        have crew3 := Crew.same crew s3
        obtain ⟨x, hx, hx2⟩ := AllAt.get crew3 hh
        have xw := dr.hw x (List.mem_of_getElem? hx)
        walk_at "rd"
        refine ⟨L, _, rfl, SqL.of (s3 _ _ eL), fun p hp => ?_⟩
        rw [cut_to, ← List.map_take]
        have s4 : Same H (upd H3 p (.lst ((has.take i).map V.ref))) := s3.trans ((Same.refl H3).upd hp)
        have hp4 : (upd H3 p (.lst ((has.take i).map V.ref))) p = some (.lst ((has.take i).map V.ref)) := upd_same
        have hx4 : HrAt (upd H3 p (.lst ((has.take i).map V.ref))) h x := hx2.same ((Same.refl H3).upd hp)
        show _
        generalize (upd H3 p (.lst ((has.take i).map V.ref))) = H4 at s4 hp4 hx4
        have nmz := xw.nm.1
        refine ⟨_, rfl, h, l, p, x, as, has.take i, ps, hs.take i, rfl, hx4, s4 _ _ el, ob.same s4, hp4, AllAt.take (Crew.same crew s4) i, by omega, by rw [List.length_take]; omega, by omega, by have := xw.tl; omega, by have := xw.hl; omega, few_ahead ahead, fun H5 s5 => ⟨_, rfl, ?_⟩⟩
        have s05 := s4.trans s5
        refine iteB (fun c => ?_) (fun c => ?_)
        · have c' : (My.pactB x && My.fitsHB x ps (hs.take i)) = false := of_not c
          refine ⟨_, rfl, l, _, rfl, .inl (SqL.of (s05 _ _ el)), _, rfl, _, _, rfl, rfl, ?_⟩
          have bad : Bad ps hs (ps.length + i) := .inr ⟨allp, i, rfl, get_lt hx, ahead, fun z => by
            have := z x hx
            rw [c'] at this
            cases this⟩
          have fin := kk (some (ps.length + i)) H5 bad s05
          have e : badI (some (ps.length + i)) = (((as.map V.ref).length : Nat) : Int) + (i : Int) := by
            rw [List.length_map, asl]
            show (((ps.length + i : Nat) : Int)) = _
            omega
          rw [e] at fin
          exact fin
        · have c' : (My.pactB x && My.fitsHB x ps (hs.take i)) = true := of_notF c
          refine Blk.of ⟨_, _, _, rfl, s05, fun j hj => ?_⟩
          by_cases d : j = i
          · subst d
            intro q2 e2
            rw [hx] at e2
            obtain rfl := Option.some.inj e2
            exact c'
          · exact ahead j (by omega)
      · intro σ H2 hB
        obtain ⟨v2, v3, v4, rfl, s2, ahead⟩ := hB.out
        rw [List.length_map, hasl] at ahead
        walk_at "rd"
        refine kk none H2 ⟨allp, fun j => ?_⟩ s2
        by_cases c : j < hs.length
        · exact ahead j c
        · exact okHB_out (by omega)

open My (Hr)
abbrev pfs (pl hl : Addr) : List (Str × V) := [("_pairs", .ref pl), ("_helpers", .ref hl)]
theorem pfs_p {pl hl : Addr} : (pfs pl hl).lookup ("_pairs" : Str) = some (.ref pl) := by kernel_rfl
theorem pfs_h {pl hl : Addr} : (pfs pl hl).lookup ("_helpers" : Str) = some (.ref hl) := by kernel_rfl
theorem pfs_make {pl hl : Addr} : putF "_helpers" (.ref hl) (putF "_pairs" (.ref pl) []) = pfs pl hl := by kernel_rfl
theorem fits_next {ps : List My.Pr} (ok : My.PairsOk ps) {i : Nat} {q : My.Pr} (h : ps[i]? = some q) : fitsB q (ps.take i) = true := by
  have hl := get_lt h
  have hm := ok.many
  unfold fitsB
  rw [decide_eq_true (by rw [List.length_take]; omega), decide_eq_false (My.nin_take (f := fun z : My.Pr => z.1) ok.nears h), decide_eq_false (My.nin_take (f := fun z : My.Pr => z.2.1) ok.fars h)]
  rfl
/-- the Pacts at p: its lists at pl and hl; the pairs -/
structure PactsAt (C : Addr) (H : Hp) (p pl hl : Addr) (as : List Addr) (ps : List My.Pr) : Prop where
  ob : ∃ dx, H p = some (.ins C dx (pfs pl hl))
  lp : H pl = some (.lst (as.map V.ref))
  ps : Objs H as prO ps
theorem PactsAt.same {C : Addr} {H H' : Hp} {p pl hl : Addr} {as : List Addr} {ps : List My.Pr} (h : PactsAt C H p pl hl as ps) (k : Same H H') : PactsAt C H' p pl hl as ps := by
  obtain ⟨⟨dx, e⟩, e1, e3⟩ := h
  exact ⟨⟨dx, k _ _ e⟩, k _ _ e1, e3.same k⟩
/-- .. the helpers -/
structure CrewAt (H : Hp) (hl : Addr) (has : List Addr) (hs : List Hr) : Prop where
  lh : H hl = some (.lst (has.map V.ref))
  hs : Crew H has hs
theorem CrewAt.same {H H' : Hp} {hl : Addr} {has : List Addr} {hs : List Hr} (h : CrewAt H hl has hs) (k : Same H H') : CrewAt H' hl has hs := ⟨k _ _ h.lh, h.hs.same k⟩
theorem filter_sides {hs : List Hr} (h : ∀ x, x ∈ hs → x.side = 0 ∨ x.side = 1) : hs.length = (hs.filter fun z => decide (z.side = 0)).length + (hs.filter fun z => decide (z.side = 1)).length := by
  induction hs with
  | nil => rfl
  | cons x r ih =>
    have h2 := ih fun z hz => h z (List.mem_cons_of_mem _ hz)
    rcases h x List.mem_cons_self with e | e
    · rw [List.filter_cons, if_pos (by simp [e]), List.filter_cons, if_neg (by simp [e]), List.length_cons, List.length_cons]
      omega
    · rw [List.filter_cons, if_neg (by simp [e]), List.filter_cons, if_pos (by simp [e]), List.length_cons, List.length_cons]
      omega
theorem pactB_out {x : Hr} (h : My.pactB x = true) : My.nameB x.name = true ∧ (x.side = 0 ∨ x.side = 1) ∧ My.takesB x.takes = true ∧ My.throwsB x.throws = true := by
  unfold My.pactB at h
  simp only [Bool.and_eq_true] at h
  exact ⟨h.1.1.1, of_decide_eq_true h.1.1.2, h.1.2, h.2⟩
theorem takesB_len {ts : List Str} (h : My.takesB ts = true) : ts.length ≤ 3 := by
  unfold My.takesB at h
  simp only [Bool.and_eq_true, decide_eq_true_eq] at h
  exact h.1
theorem crew_many {ps : List My.Pr} {hs : List Hr} (ok : My.CrewOk ps hs) : hs.length ≤ 8 := by
  have h1 := ok.few 0
  have h2 := ok.few 1
  have := filter_sides fun x hx => (pactB_out (ok.one x hx).1).2.1
  omega
/-- a refusal that bears a number is being made -/
def sp_at (C : Addr) : Sp := fun vs H Q _ => ∃ (e : Addr) (n : Nat), vs = [.ref e, .int n] ∧ H e = some (exo e C none) ∧ n ≤ 1000 ∧
  ∀ (d : Addr) (H' : Hp), H d = none → d ≠ e → H' e = some (exo e C (some d)) → H' d = some (exd d [("at", .int n)]) → Keeps [e] H H' → Q .non H'
theorem num_small {m k : Str} {n : Nat} (h : m.length ≤ 40000) (hk : k.length = n) (hn : n ≤ 1000) : (k ++ m).length ≤ sizeLine := by
  rw [strLen_append, hk, sizeLine_eq]
  omega
theorem nat_log {n : Nat} (h : n ≤ 1000) : ((n : Nat) : Int).natAbs.log2 < 1920 := by
  rw [Int.natAbs_natCast]
  by_cases h0 : n = 0
  · subst h0; decide
  · have : n.log2 < 10 := (Nat.log2_lt h0).mpr (by omega)
    omega
theorem ok_NoPact_init (T : Txt K mg a) : FnOk P w K mg base CX0 1 a.f_NoPact_init a.d_NoPact_init ["self", "at"] (sp_at a.c_NoPact) := by
  refine T.F_NoPact_init.ok sc_NoPact_init (fun vs H Q E h => ?_) (fun cdv A outer s H vs Q E hr h => ?_)
  · obtain ⟨e, n, rfl, _⟩ := h
    rfl
  · obtain ⟨e, n, rfl, he, hn, kk⟩ := h
    refine ⟨_, (pss_cons (ps_expr (pe_midInit T.md_PactError (by rfl) T.g_PactError (pa_cons (pv 0) (pa_cons (pe_joined (.cons pe_str (.cons (pe_fmt (pv 1)) .nil))) pa_nil))))
      (pss_one (ps_ost (pv 0) (pv 1) rfl))), ?_⟩
    refine ⟨_, rfl, _, rfl, by rw [sizeLine_eq]; decide +kernel, ?_⟩
    refine ⟨_, rfl, .inr ⟨n, rfl, nat_log hn, ?_⟩⟩
    have tl := PyProof.Rows.int_text_len_1921 (nat_log hn)
    refine ⟨_, rfl, num_small (by omega) (by decide +kernel : _ = 24) (by decide), ?_⟩
    refine ⟨e, a.c_NoPact, _, rfl, by show 1 ≤ 1000; decide, T.x_NoPact, he, ?_⟩
    refine ⟨_, rfl, _, rfl, e, a.c_NoPact, rfl, T.x_NoPact, T.n_NoPact_at, .inl ⟨he, fun d hd nd => ?_⟩⟩
    refine kk d _ hd nd upd_same ?_ ?_
    · rw [upd_ne nd, upd_same]
    · exact ((Keeps.refl [e] H).upd (.inr hd)).upd (.inl (by simp))
def OutP (CN : Addr) (R : List Addr) (n : Nat) (H : Hp) (E : XK) : Prop := ∀ (d : Addr) (H' : Hp), Keeps R H H' → H' d = some (.xd [("at", .int n)]) → E (.ref CN) (some d) H'
theorem mk_num {C : Addr} {R : List Addr} {H H1 : Hp} {n : Nat} {m : Int} {E : XK} (em : m = (n : Int)) (k1 : Keeps R H H1) (hn : n ≤ 1000) (kk : OutP C R n H E) (e : Addr) (he : H1 e = none) :
    sp_at C (.ref e :: ([.int m] ++ [])) (upd H1 e (exo e C none)) (fun v H2 => v = .non ∧ ∃ (d : Addr) (fs : List (Str × V)), H2 e = some (exo e C (some d)) ∧ H2 d = some (exd d fs) ∧ H1 d = none ∧ E (.ref C) (some d) (upd (del H2 e) d (.xd fs))) (fun _ _ _ => False) := by
  subst em
  refine ⟨e, n, rfl, upd_same, hn, fun d H2 hd nde h1 h2 kp => ⟨rfl, d, _, h1, h2, ?_, ?_⟩⟩
  · exact (upd_ne nde).symm.trans hd
  · have hd1 : H1 d = none := (upd_ne nde).symm.trans hd
    refine kk d _ (fun c o ec hc => ?_) upd_same
    have e1 := k1 _ _ ec hc
    have n1 : c ≠ e := ne_of_none e1 he
    have n2 : c ≠ d := ne_of_none e1 hd1
    rw [upd_ne n2, del_ne n1]
    exact kp c o ((upd_ne n1).trans e1) (by simp [n1])
def sp_PinitX (C CN : Addr) : Sp := fun vs H Q E => ∃ (p dx L Lh : Addr) (as has : List Addr) (ps : List My.Pr) (hs : List Hr), vs = [.ref p, .ref L, .ref Lh] ∧ H p = some (.ins C dx []) ∧ H L = some (.lst (as.map V.ref)) ∧ H Lh = some (.lst (has.map V.ref)) ∧ Objs H as prO ps ∧ Crew H has hs ∧ Drawn ps hs ∧
  (Good ps hs → ∀ (pl hl : Addr) (H' : Hp), H pl = none → H hl = none → PactsAt C H' p pl hl as ps → CrewAt H' hl has hs → Keeps [p] H H' → Q .non H') ∧ ∀ n, Bad ps hs n → OutP CN [p] n H E
theorem ok_Pacts_initX (T : Txt K mg a) : FnOk P w K mg base (L2.CX P w) 4 a.f_Pacts_init a.d_Pacts_init ["self", "pairs", "helpers"] (sp_PinitX a.c_Pacts a.c_NoPact) := by
  refine T.F_Pacts_init.okX sc_Pacts_init (fun vs H Q E h => ?_) (fun cdv A outer s H vs Q E hr h => ?_)
  · obtain ⟨p, dx, L, Lh, as, has, ps, hs, rfl, _⟩ := h
    rfl
  · obtain ⟨p, dx, L, Lh, as, has, ps, hs, rfl, hp, hL, hLh, ob, crew, dr, kk, ek⟩ := h
    refine ⟨_, (pss_cons (ps_fld (pv 0) (pe_lst pa_nil) rfl)
      (pss_cons (ps_fld (pv 0) (pe_lst pa_nil) rfl)
      (pss_cons (ps_for (passes_of rfl) rfl (pi_list (pv 1)) (pg_name (i := 3) sc_Pacts_init.nd rfl (Or.inl rfl)) (pss_cons (ps_if (PW.pt (pw_or (pt_not (pt_val (pe_call (ok_p_is_pair T) (hr.mono (by decide)) rfl T.g_p_is_pair T.k_p_is_pair T.B_p_is_pair .nil pass0 (pa_cons (pv 3) pa_nil)))) (pw_or1 (pt_not (pt_val (pe_call (ok_p_fits_pairs T) (hr.mono (by decide)) rfl T.g_p_fits_pairs T.k_p_fits_pairs T.B_p_fits_pairs .nil pass0 (pa_cons (pv 3) (pa_cons (pe_fld (pv 0) rfl) pa_nil)))))))) (pss_one (ps_raise rfl (W := fun cls d _ H => E cls d H) (takes_of rfl rfl rfl rfl) (pmk_oex T.x_NoPact T.xi_NoPact T.xt_NoPact (ok_NoPact_init T) (hr.mono (by decide)) T.B_NoPact_init .nil pass0 (by rfl) T.g_NoPact (pa_cons (pe_callB call_len_seq (by rfl) T.z_len (by decide +kernel) (pa_cons (pe_fld (pv 0) rfl) pa_nil)) pa_nil)))) pss_nil)
      (pss_one (ps_expr (pe_bm PySem.F.plainAttrs_list PySem.F.slot_list_append PySem.F.type_list_append mt_append (pe_fld (pv 0) rfl) (pa_cons (pv 3) pa_nil))))))
      (pss_one (ps_for (passes_of rfl) rfl (pi_list (pv 2)) (pg_name (i := 4) sc_Pacts_init.nd rfl (Or.inl rfl)) (pss_cons (ps_if (PW.pt (pw_or (pt_not (pt_val (pe_call (ok_p_is_pact T) (hr.mono (by decide)) rfl T.g_p_is_pact T.k_p_is_pact T.B_p_is_pact .nil pass0 (pa_cons (pv 4) pa_nil)))) (pw_or1 (pt_not (pt_val (pe_call (ok_p_fits_helpers T) (hr.mono (by decide)) rfl T.g_p_fits_helpers T.k_p_fits_helpers T.B_p_fits_helpers .nil pass0 (pa_cons (pv 4) (pa_cons (pe_fld (pv 0) rfl) (pa_cons (pe_fld (pv 0) rfl) pa_nil))))))))) (pss_one (ps_raise rfl (W := fun cls d _ H => E cls d H) (takes_of rfl rfl rfl rfl) (pmk_oex T.x_NoPact T.xi_NoPact T.xt_NoPact (ok_NoPact_init T) (hr.mono (by decide)) T.B_NoPact_init .nil pass0 (by rfl) T.g_NoPact (pa_cons (pe_op op_add (pe_callB call_len_seq (by rfl) T.z_len (by decide +kernel) (pa_cons (pe_fld (pv 0) rfl) pa_nil)) (pe_callB call_len_seq (by rfl) T.z_len (by decide +kernel) (pa_cons (pe_fld (pv 0) rfl) pa_nil))) pa_nil)))) pss_nil)
      (pss_one (ps_expr (pe_bm PySem.F.plainAttrs_list PySem.F.slot_list_append PySem.F.type_list_append mt_append (pe_fld (pv 0) rfl) (pa_cons (pv 4) pa_nil)))))))))), ?_⟩
    have c0 := T.cl_Pacts
    have c1 := T.n_Pacts__pairs
    have c2 := T.n_Pacts__helpers
    have asl := ob.len
    have many := dr.pl
    have hmany := dr.hl
    have zl := sizeLine_eq
    refine ⟨by show 0 ≤ sizeLine; decide, fun pl hpl => ?_⟩
    have n1 : p ≠ pl := ne_of_none hp hpl
    walk_at "rd"
    refine ⟨by show 0 ≤ sizeLine; decide, fun hl hhl => ?_⟩
    have n2 : p ≠ hl := fun e => by subst e; rw [upd_same] at hhl; cases hhl
    have hhl1 := (upd_ne n2.symm).symm.trans hhl
    have n3 : pl ≠ hl := ne_of_none upd_same hhl1
    have hhl0 : H hl = none := (upd_ne n3.symm).symm.trans hhl1
    refine ⟨_, rfl, _, _, _, _, rfl, (by walk_at "hp"), c0, c2, (by show 1 < 1000; decide), ?_⟩
    have nLp : L ≠ p := ne_of hL hp (fun q => by cases q)
    have nHp : Lh ≠ p := ne_of hLh hp (fun q => by cases q)
    have k0 : Keeps [p] H (upd (upd (upd (upd H pl (.lst [])) p (.ins a.c_Pacts dx (putF "_pairs" (.ref pl) []))) hl (.lst [])) p (.ins a.c_Pacts dx (putF "_helpers" (.ref hl) (putF "_pairs" (.ref pl) [])))) :=
      ((((Keeps.refl [p] H).upd (.inr hpl)).upd (.inl (by simp))).upd (.inr hhl0)).upd (.inl (by simp))
    have e0 : (upd (upd (upd (upd H pl (.lst [])) p (.ins a.c_Pacts dx (putF "_pairs" (.ref pl) []))) hl (.lst [])) p (.ins a.c_Pacts dx (putF "_helpers" (.ref hl) (putF "_pairs" (.ref pl) [])))) p = some (.ins a.c_Pacts dx (pfs pl hl)) := by
      rw [upd_same]
      exact congrArg (fun q => some (HO.ins a.c_Pacts dx q)) pfs_make
    have e1 : (upd (upd (upd (upd H pl (.lst [])) p (.ins a.c_Pacts dx (putF "_pairs" (.ref pl) []))) hl (.lst [])) p (.ins a.c_Pacts dx (putF "_helpers" (.ref hl) (putF "_pairs" (.ref pl) [])))) pl = some (.lst []) := by
      walk_at "hp"
    have e2 : (upd (upd (upd (upd H pl (.lst [])) p (.ins a.c_Pacts dx (putF "_pairs" (.ref pl) []))) hl (.lst [])) p (.ins a.c_Pacts dx (putF "_helpers" (.ref hl) (putF "_pairs" (.ref pl) [])))) hl = some (.lst []) := by
      walk_at "hp"
    generalize (upd (upd (upd (upd H pl (.lst [])) p (.ins a.c_Pacts dx (putF "_pairs" (.ref pl) []))) hl (.lst [])) p (.ins a.c_Pacts dx (putF "_helpers" (.ref hl) (putF "_pairs" (.ref pl) [])))) = H1 at k0 e0 e1 e2
    have np : NoTup H [p] := NoTup.one hp (fun _ e => by cases e) fun _ _ e => by cases e
    have ob1 : Objs H1 as prO ps := ob.keepN k0 np
    have crew1 : Crew H1 has hs := Crew.keep crew k0 np
    refine ⟨_, rfl, L, rfl, ⟨_, SqL.of (k0 _ _ hL (by simp [nLp]))⟩, ?_⟩
    refine for_list (K := K) (a := L) (xs := as.map V.ref) (fun i σ H2 => Blk (∃ v3, σ = [some (.ref p), some (.ref L), some (.ref Lh), v3, none] ∧ H2 p = some (.ins a.c_Pacts dx (pfs pl hl)) ∧ H2 pl = some (.lst ((as.take i).map V.ref)) ∧ H2 hl = some (.lst []) ∧ Objs H2 as prO ps ∧ Crew H2 has hs ∧ Keeps [p] H H2 ∧ ∀ j, j < i → okPB ps j)) ?_ ?_ ?_ ?_
    · exact Blk.of ⟨_, rfl, e0, e1, e2, ob1, crew1, k0, fun j hj => absurd hj (by omega)⟩
    · intro i σ H2 _ hB
      obtain ⟨v3, _, _, _, _, _, _, k2, _⟩ := hB.out
      exact SqL.of (k2 _ _ hL (by simp [nLp]))
    · intro i y σ H2 hi hB
      obtain ⟨v3, rfl, f0, f1, f2, ob2, cr2, k2, ahead⟩ := hB.out
      obtain ⟨h, hh, rfl⟩ := refs_get hi
      obtain ⟨q, hq, hq2⟩ := ob2.get hh
      have hil := get_lt hq
      obtain ⟨w1, w2⟩ := dr.pw q (List.mem_of_getElem? hq)
      have wl1 := w1.1
      have wl2 := w2.1
      refine ⟨_, rfl, h, q, rfl, hq2, by omega, by omega, fun H3 s3 => ⟨_, rfl, ?_⟩⟩
      have bad : pairB q (ps.take i) = false → Bad ps hs i := fun c => .inl ⟨hil, ahead, fun z => by
        have := z q hq
        rw [c] at this
        cases this⟩
      refine iteB (fun c => ?_) (fun c => ?_)
      · have f03 := s3 _ _ f0
        have f13 := s3 _ _ f1
        refine ⟨_, rfl, _, _, _, _, _, rfl, f03, c0, c1, @pfs_p pl hl, pl, _, rfl, .inl (SqL.of f13), by show 1 ≤ 1000; decide, ?_⟩
        have el : ((((as.take i).map V.ref).length : Nat) : Int) = (i : Int) := by rw [List.length_map, List.length_take]; omega
        have kr : Keeps [p] H H3 := k2.trans (fun c o e _ => s3 c o e)
        refine mk_num el kr (by omega) (ek i (bad ?_))
        unfold pairB
        rw [of_not c]
        rfl
      have nm := of_notF c
      have f03 := s3 _ _ f0
      have f13 := s3 _ _ f1
      have k1 := @pfs_p pl hl
      refine ⟨_, rfl, ?_⟩
      refine ⟨_, rfl, _, _, _, _, _, rfl, f03, c0, c1, k1, ?_⟩
      refine ⟨h, pl, q, as.take i, ps.take i, rfl, s3 _ _ hq2, f13, (ob2.same s3).take i, by rw [List.length_take]; omega, fun H4 s4 => ⟨_, rfl, ?_⟩⟩
      refine iteB (fun d => ?_) (fun d => ?_)
      · have f14 := s4 _ _ f13
        have f04 := s4 _ _ f03
        refine ⟨_, rfl, _, _, _, _, _, rfl, f04, c0, c1, @pfs_p pl hl, pl, _, rfl, .inl (SqL.of f14), by show 1 ≤ 1000; decide, ?_⟩
        have el : ((((as.take i).map V.ref).length : Nat) : Int) = (i : Int) := by rw [List.length_map, List.length_take]; omega
        have kr : Keeps [p] H H4 := (k2.trans (fun c o e _ => s3 c o e)).trans (fun c o e _ => s4 c o e)
        refine mk_num el kr (by omega) (ek i (bad ?_))
        unfold pairB
        rw [of_not d, Bool.and_false]
      have ft := of_notF d
      have f04 := s4 _ _ f03
      have f14 := s4 _ _ f13
      have f24 := s4 _ _ (s3 _ _ f2)
      refine ⟨_, rfl, _, _, _, _, _, rfl, f04, c0, c1, k1, ?_⟩
      refine ⟨.inl ⟨rfl, _, SqL.of f14⟩, _, rfl, pl, _, _, rfl, rfl, f14, by rw [List.length_map, List.length_take]; exact small (by omega), ?_⟩
      have kpl : ∀ o, Keeps [pl] H4 (upd H4 pl o) := fun o => (Keeps.refl _ H4).upd (.inl (by simp))
      have npl : NoTup H4 [pl] := NoTup.lst f14
      refine Blk.of ⟨_, rfl, (upd_ne n1).trans f04, ?_, (upd_ne n3.symm).trans f24, ?_, ?_, ?_⟩
      · rw [upd_same, take_snoc hh, List.map_append]; rfl
      · exact ((ob2.same s3).same s4).keepN (kpl _) npl
      · exact Crew.keep ((Crew.same cr2 s3).same s4) (kpl _) npl
      · have k4 : Keeps [p] H H4 := (k2.trans (fun c o e _ => s3 c o e)).trans (fun c o e _ => s4 c o e)
        exact ⟨k4.upd (.inr hpl), fun j hj => by
          by_cases e : j = i
          · subst e
            intro q2 e2
            rw [hq] at e2
            obtain rfl := Option.some.inj e2
            unfold pairB
            rw [nm, ft]
            rfl
          · exact ahead j (by omega)⟩
    · intro σ H2 hB
      obtain ⟨v3, rfl, f0, f1, f2, ob2, cr2, k2, ahead⟩ := hB.out
      have et : as.take (as.map V.ref).length = as := by rw [List.length_map, List.take_length]
      rw [et] at f1
      have allp : ∀ j, okPB ps j := fun j => by
        by_cases c : j < ps.length
        · exact ahead j (by rw [List.length_map, asl]; exact c)
        · exact okPB_out (by omega)
      refine ⟨_, rfl, Lh, rfl, ⟨_, SqL.of (k2 _ _ hLh (by simp [nHp]))⟩, ?_⟩
      refine for_list (K := K) (a := Lh) (xs := has.map V.ref) (fun i σ H3 => Blk (∃ v3 v4, σ = [some (.ref p), some (.ref L), some (.ref Lh), v3, v4] ∧ H3 p = some (.ins a.c_Pacts dx (pfs pl hl)) ∧ H3 pl = some (.lst (as.map V.ref)) ∧ H3 hl = some (.lst ((has.take i).map V.ref)) ∧ Objs H3 as prO ps ∧ Crew H3 has hs ∧ Keeps [p] H H3 ∧ ∀ j, j < i → okHB ps hs j)) ?_ ?_ ?_ ?_
      · exact Blk.of ⟨_, _, rfl, f0, f1, f2, ob2, cr2, k2, fun j hj => absurd hj (by omega)⟩
      · intro i σ H3 _ hB
        obtain ⟨v3, v4, _, _, _, _, _, _, k3, _⟩ := hB.out
        exact SqL.of (k3 _ _ hLh (by simp [nHp]))
      · intro i y σ H3 hi hB
        obtain ⟨v3, v4, rfl, f0, f1, f2, ob3, cr3, k3, aheadH⟩ := hB.out
        obtain ⟨h, hh, rfl⟩ := refs_get hi
        obtain ⟨x, hx, hx2⟩ := AllAt.get cr3 hh
        have hil := get_lt hx
        have xw := dr.hw x (List.mem_of_getElem? hx)
        have t0 := xw.nm.1
        have t1 := xw.tl
        have t2 := xw.hl
        have badH : (My.pactB x && My.fitsHB x ps (hs.take i)) = false → Bad ps hs (ps.length + i) := fun c => .inr ⟨allp, i, rfl, hil, aheadH, fun z => by
          have := z x hx
          rw [c] at this
          cases this⟩
        have k1 := @pfs_p pl hl
        have k4 := @pfs_h pl hl
        refine ⟨_, rfl, h, x, rfl, hx2, by omega, by omega, by omega, fun H4 s4 => ⟨_, rfl, ?_⟩⟩
        refine iteB (fun c => ?_) (fun c => ?_)
        · have f04 := s4 _ _ f0
          have f14 := s4 _ _ f1
          have f24 := s4 _ _ f2
          refine ⟨_, rfl, _, _, _, _, _, rfl, f04, c0, c1, @pfs_p pl hl, pl, _, rfl, .inl (SqL.of f14), _, rfl, _, _, _, _, _, rfl, f04, c0, c2, @pfs_h pl hl, hl, _, rfl, .inl (SqL.of f24), _, _, rfl, rfl, by show 1 ≤ 1000; decide, ?_⟩
          have el : (((as.map V.ref).length : Nat) : Int) + ((((has.take i).map V.ref).length : Nat) : Int) = ((ps.length + i : Nat) : Int) := by
            rw [List.length_map, asl, List.length_map, List.length_take, AllAt.len cr3]
            omega
          have kr : Keeps [p] H H4 := k3.trans (fun c o e _ => s4 c o e)
          refine mk_num el kr (by omega) (ek _ (badH ?_))
          rw [of_not c]
          rfl
        have b1 := of_notF c
        obtain ⟨nm, sd, tkb, thb⟩ := pactB_out b1
        have f04 := s4 _ _ f0
        refine ⟨_, rfl, _, rfl, _, _, _, _, _, rfl, f04, c0, c1, k1, _, rfl, _, _, _, _, _, rfl, f04, c0, c2, k4, ?_⟩
        refine ⟨h, pl, hl, x, as, has.take i, ps, hs.take i, rfl, hx2.same s4, sd, s4 _ _ f1, ob3.same s4, s4 _ _ f2, AllAt.take (Crew.same cr3 s4) i, by omega, by rw [List.length_take]; omega, by omega, fun H5 s5 => ⟨_, rfl, ?_⟩⟩
        refine iteB (fun d => ?_) (fun d => ?_)
        · have f05 := s5 _ _ f04
          have f15 := s5 _ _ (s4 _ _ f1)
          have f25 := s5 _ _ (s4 _ _ f2)
          refine ⟨_, rfl, _, _, _, _, _, rfl, f05, c0, c1, @pfs_p pl hl, pl, _, rfl, .inl (SqL.of f15), _, rfl, _, _, _, _, _, rfl, f05, c0, c2, @pfs_h pl hl, hl, _, rfl, .inl (SqL.of f25), _, _, rfl, rfl, by show 1 ≤ 1000; decide, ?_⟩
          have el : (((as.map V.ref).length : Nat) : Int) + ((((has.take i).map V.ref).length : Nat) : Int) = ((ps.length + i : Nat) : Int) := by
            rw [List.length_map, asl, List.length_map, List.length_take, AllAt.len cr3]
            omega
          have kr : Keeps [p] H H5 := (k3.trans (fun c o e _ => s4 c o e)).trans (fun c o e _ => s5 c o e)
          refine mk_num el kr (by omega) (ek _ (badH ?_))
          rw [of_not d, Bool.and_false]
        have b2 := of_notF d
        have f05 := s5 _ _ f04
        have f15 := s5 _ _ (s4 _ _ f1)
        have f25 := s5 _ _ (s4 _ _ f2)
        refine ⟨_, rfl, _, _, _, _, _, rfl, f05, c0, c2, k4, ?_⟩
        refine ⟨.inl ⟨rfl, _, SqL.of f25⟩, _, rfl, hl, _, _, rfl, rfl, f25, by rw [List.length_map, List.length_take]; exact small (by omega), ?_⟩
        have khl : ∀ o, Keeps [hl] H5 (upd H5 hl o) := fun o => (Keeps.refl _ H5).upd (.inl (by simp))
        have nhl : NoTup H5 [hl] := NoTup.lst f25
        refine Blk.of ⟨_, _, rfl, (upd_ne n2).trans f05, (upd_ne n3).trans f15, ?_, ?_, ?_, ?_⟩
        · rw [upd_same, take_snoc hh, List.map_append]; rfl
        · exact ((ob3.same s4).same s5).keepN (khl _) nhl
        · exact Crew.keep ((Crew.same cr3 s4).same s5) (khl _) nhl
        · have k5 : Keeps [p] H H5 := (k3.trans (fun c o e _ => s4 c o e)).trans (fun c o e _ => s5 c o e)
          exact ⟨k5.upd (.inr hhl0), fun j hj => by
            by_cases e : j = i
            · subst e
              intro q2 e2
              rw [hx] at e2
              obtain rfl := Option.some.inj e2
              rw [b1, b2]
              rfl
            · exact aheadH j (by omega)⟩
      · intro σ H3 hB
        obtain ⟨v3, v4, rfl, f0, f1, f2, ob3, cr3, k3, aheadH⟩ := hB.out
        have et2 : has.take (has.map V.ref).length = has := by rw [List.length_map, List.take_length]
        rw [et2] at f2
        refine kk ⟨allp, fun j => ?_⟩ pl hl _ hpl hhl0 ⟨⟨dx, f0⟩, f1, ob3⟩ ⟨f2, cr3⟩ k3
        by_cases c : j < hs.length
        · exact aheadH j (by rw [List.length_map, AllAt.len crew]; exact c)
        · exact okHB_out (by omega)

open My (Hr wd)
/-! ### what is told of the helpers -/
def sp_Ppairs (C : Addr) : Sp := fun vs H Q _ => ∃ (p pl hl : Addr) (as : List Addr) (ps : List My.Pr), vs = [.ref p] ∧ PactsAt C H p pl hl as ps ∧ ∀ (r : Addr) (H' : Hp), H r = none → H' r = some (.lst (as.map V.ref)) → Same H H' → Q (.ref r) H'
theorem ok_Pacts_pairs (T : Txt K mg a) : FnOk P w K mg base CX0 1 a.f_Pacts_pairs a.d_Pacts_pairs ["self"] (sp_Ppairs a.c_Pacts) := by
  refine T.F_Pacts_pairs.ok sc_Pacts_pairs (fun vs H Q E h => ?_) (fun cdv A outer s H vs Q E hr h => ?_)
  · obtain ⟨p, pl, hl, as, ps, rfl, _⟩ := h
    rfl
  · obtain ⟨p, pl, hl, as, ps, rfl, pa, kk⟩ := h
    refine ⟨_, (pss_one (ps_ret (pe_callTy call_list_of (by rfl) T.z_list (by decide +kernel) (pa_cons (pe_fld (pv 0) rfl) pa_nil)))), ?_⟩
    obtain ⟨dx, e0⟩ := pa.ob
    refine ⟨_, rfl, _, _, _, _, _, rfl, e0, T.cl_Pacts, T.n_Pacts__pairs, pfs_p, ?_⟩
    exact ⟨pl, _, rfl, .inl (SqL.of pa.lp), fun r hr => kk r _ hr upd_same ((Same.refl H).upd hr)⟩
def sp_Plen (C : Addr) : Sp := fun vs H Q _ => ∃ (p pl hl : Addr) (as has : List Addr) (ps : List My.Pr) (hs : List Hr), vs = [.ref p] ∧ PactsAt C H p pl hl as ps ∧ CrewAt H hl has hs ∧ Q (.int hs.length) H
theorem ok_Pacts_len (T : Txt K mg a) : FnOk P w K mg base CX0 1 a.f_Pacts_len a.d_Pacts_len ["self"] (sp_Plen a.c_Pacts) := by
  refine T.F_Pacts_len.ok sc_Pacts_len (fun vs H Q E h => ?_) (fun cdv A outer s H vs Q E hr h => ?_)
  · obtain ⟨p, pl, hl, as, has, ps, hs, rfl, _⟩ := h
    rfl
  · obtain ⟨p, pl, hl, as, has, ps, hs, rfl, pa, cr, kk⟩ := h
    refine ⟨_, (pss_one (ps_ret (pe_callB call_len_seq (by rfl) T.z_len (by decide +kernel) (pa_cons (pe_fld (pv 0) rfl) pa_nil)))), ?_⟩
    obtain ⟨dx, e0⟩ := pa.ob
    refine ⟨_, rfl, _, _, _, _, _, rfl, e0, T.cl_Pacts, T.n_Pacts__helpers, pfs_h, ?_⟩
    have hl := AllAt.len cr.hs
    refine ⟨_, _, rfl, .inl (SqL.of cr.lh), ?_⟩
    rw [List.length_map, hl]
    exact kk
theorem find_first {α : Type} {P : α → Prop} [DecidablePred P] : ∀ {xs : List α} {k : Nat} {q : α}, (∀ (j : Nat) (z : α), j < k → xs[j]? = some z → ¬ P z) → xs[k]? = some q → P q → xs.find? (fun z => decide (P z)) = some q
  | [], k, q, _, h, _ => by simp at h
  | x :: r, 0, q, _, h, hp => by
    obtain rfl := Option.some.inj (show some x = some q from h)
    rw [List.find?_cons, decide_eq_true hp]
  | x :: r, k + 1, q, hn, h, hp => by
    rw [List.find?_cons, decide_eq_false (hn 0 x (by omega) rfl)]
    exact find_first (k := k) (fun j z hj e => hn (j + 1) z (by omega) e) h hp
theorem find_no {α : Type} {P : α → Prop} [DecidablePred P] {xs : List α} (hn : ∀ (j : Nat) (z : α), j < xs.length → xs[j]? = some z → ¬ P z) : xs.find? (fun z => decide (P z)) = none := by
  rw [List.find?_eq_none]
  intro x hx
  obtain ⟨j, hj⟩ := List.getElem?_of_mem hx
  simpa using hn j x (get_lt hj) hj
def crewOf (w : Str) (hs : List Hr) : Option Hr := hs.find? fun z => decide (z.name = w)
def sp_Ppact (C : Addr) : Sp := fun vs H Q _ => ∃ (p pl hl : Addr) (as has : List Addr) (ps : List My.Pr) (hs : List Hr) (w : Str) (x : Hr), vs = [.ref p, .str w] ∧ PactsAt C H p pl hl as ps ∧ CrewAt H hl has hs ∧ crewOf w hs = some x ∧
  ∀ (h : Addr), HrAt H h x → Q (.ref h) H
theorem ok_Pacts_pact (T : Txt K mg a) : FnOk P w K mg base CX0 1 a.f_Pacts_pact a.d_Pacts_pact ["self", "name"] (sp_Ppact a.c_Pacts) := by
  refine T.F_Pacts_pact.ok sc_Pacts_pact (fun vs H Q E h => ?_) (fun cdv A outer s H vs Q E hr h => ?_)
  · obtain ⟨p, pl, hl, as, has, ps, hs, w, x, rfl, _⟩ := h
    rfl
  · obtain ⟨p, pl, hl, as, has, ps, hs, w, x, rfl, pa, cr, hx, kk⟩ := h
    refine ⟨_, (pss_cons (ps_for PassesOwn.never rfl (pi_list (pe_fld (pv 0) rfl)) (pg_name (i := 2) sc_Pacts_pact.nd rfl (Or.inl rfl)) (pss_one (ps_if (pt_cmpR op_eq (pe_ix ix_tup (pv 2) pe_int (fun _ _ => rfl)) (pv 1) (nomark _)) (pss_one (ps_ret (pv 2))) pss_nil)))
      (pss_one ps_never)), ?_⟩
    obtain ⟨dx, e0⟩ := pa.ob
    have eL := cr.lh
    refine ⟨_, rfl, _, _, _, _, _, rfl, e0, T.cl_Pacts, T.n_Pacts__helpers, pfs_h, hl, rfl, ⟨_, SqL.of eL⟩, ?_⟩
    refine for_list (K := K) (a := hl) (xs := has.map V.ref) (fun k σ H2 => Blk (∃ v2, σ = [some (.ref p), some (.str w), v2] ∧ H2 = H ∧ ∀ (j : Nat) (z : Hr), j < k → hs[j]? = some z → ¬ z.name = w)) ?_ ?_ ?_ ?_
    · exact Blk.of ⟨_, rfl, rfl, fun j z h => absurd h (by omega)⟩
    · intro k σ H2 _ hB
      obtain ⟨v2, _, rfl, _⟩ := hB.out
      exact SqL.of eL
    · intro k y σ H2 hy hB
      obtain ⟨v2, rfl, rfl, no⟩ := hB.out
      obtain ⟨h, hh, rfl⟩ := refs_get hy
      obtain ⟨z, hz, hz2⟩ := AllAt.get cr.hs hh
      obtain ⟨tk2, th2, ez, _⟩ := id hz2
      refine ⟨_, rfl, _, _, _, _, rfl, rfl, SqT.of ez, rfl, ?_⟩
      refine ⟨_, rfl, rfl, _, rfl, ?_⟩
      refine iteD (fun c => ?_) (fun c => ?_)
      · have c' : z.name = w := V.str.inj c
        have := find_first (P := fun z : Hr => z.name = w) no hz c'
        have e : some z = some x := this.symm.trans hx
        obtain rfl := Option.some.inj e
        exact ⟨_, rfl, kk h hz2⟩
      · refine Blk.of ⟨_, rfl, rfl, fun j z' hj e => ?_⟩
        by_cases e2 : j = k
        · subst e2
          rw [hz] at e
          obtain rfl := Option.some.inj e
          exact fun c2 => c (congrArg V.str c2)
        · exact no j z' (by omega) e
    · intro σ H2 hB
      obtain ⟨v2, rfl, rfl, no⟩ := hB.out
      rw [List.length_map, AllAt.len cr.hs] at no
      have : crewOf w hs = none := find_no no
      rw [hx] at this
      cases this
theorem pfs_no1 {pl hl : Addr} : (pfs pl hl).lookup ("pairs" : Str) = none := by kernel_rfl
theorem pfs_no4 {pl hl : Addr} : (pfs pl hl).lookup ("pact" : Str) = none := by kernel_rfl

open My (Hr)
def odds : List Str := ["", "abcdefghi", "Ab", "a1", "a b", "-", "lent", "q"]
theorem wok_of {s : Str} (h : (decide (s.length ≤ 20) && PyData.strOk s) = true) : WOk s := by
  rw [Bool.and_eq_true] at h
  exact ⟨of_decide_eq_true h.1, h.2⟩
theorem odds_wok : ∀ s, s ∈ odds → WOk s := by
  have h : odds.all (fun s => decide (s.length ≤ 20) && PyData.strOk s) = true := by decide +kernel
  exact fun s hs => wok_of (List.all_eq_true.mp h s hs)
theorem pick_str {ws : List Str} {k : Int} (h0 : 0 ≤ k) (h1 : k < ws.length) : ∃ s, atI (ws.map V.str) k = some (.str s) ∧ s ∈ ws := by
  obtain ⟨n, rfl⟩ : ∃ n : Nat, k = n := ⟨k.toNat, by omega⟩
  have hl : n < ws.length := by omega
  refine ⟨ws[n], atI_nat ?_, List.getElem_mem hl⟩
  rw [List.getElem?_map, List.getElem?_eq_getElem hl]
  rfl
def sp_odd : Sp := fun vs H Q _ => ∃ (b g l L : Addr) (n : Int) (ws : List Str), vs = [.ref b, .ref L] ∧ BoxAt H b g l n ∧ 0 ≤ n ∧ n < 8000000 ∧ H L = some (.lst (ws.map V.str)) ∧ L ∉ [b, g] ∧ ws.length ≤ 1000 ∧ (∀ s, s ∈ ws → WOk s) ∧
  ∀ (s : Str) (n' : Int) (H' : Hp), WOk s → n ≤ n' → n' ≤ n + 2 → BoxAt H' b g l n' → Keeps [b, g] H H' → Q (.str s) H'
theorem ok_odd_word (T : Txt K mg a) : FnOk P w K mg base CX0 3 a.f_odd_word a.d_odd_word ["_law_box_here", "_law_words"] sp_odd := by
  refine T.F_odd_word.ok sc_odd_word (fun vs H Q E h => ?_) (fun cdv A outer s H vs Q E hr h => ?_)
  · obtain ⟨b, g, l, L, n, ws, rfl, _⟩ := h
    rfl
  · obtain ⟨b, g, l, L, n, ws, rfl, bx, n0, n1, hL, oL, hz, hw, kk⟩ := h
    refine ⟨_, (pss_cons (ps_set (i := 2) sc_odd_word.nd rfl (Or.inl rfl) (pe_lst (pa_cons pe_str (pa_cons pe_str (pa_cons pe_str (pa_cons pe_str (pa_cons pe_str (pa_cons pe_str (pa_cons pe_str (pa_cons pe_str pa_nil))))))))))
      (pss_cons (ps_if (PW.pt (pw_and (pt_cmpR op_gt (pe_callB call_len_seq (by rfl) T.z_len (by decide +kernel) (pa_cons (pv 1) pa_nil)) pe_int (nomark _)) (pw_and1 (pt_cmpR op_eq (pe_call (ok_take T) (hr.mono (by decide)) rfl T.g_take T.k_take T.B_take .nil pass0 (pa_cons (pv 0) (pa_cons pe_int pa_nil))) pe_int (nomark _))))) (pss_one (ps_ret (pe_ix ix_list (pv 1) (pe_call (ok_take T) (hr.mono (by decide)) rfl T.g_take T.k_take T.B_take .nil pass0 (pa_cons (pv 0) (pa_cons (pe_callB call_len_seq (by rfl) T.z_len (by decide +kernel) (pa_cons (pv 1) pa_nil)) pa_nil))) (fun _ _ => rfl)))) pss_nil)
      (pss_one (ps_ret (pe_ix ix_list (pv 2) (pe_call (ok_take T) (hr.mono (by decide)) rfl T.g_take T.k_take T.B_take .nil pass0 (pa_cons (pv 0) (pa_cons pe_int pa_nil))) (fun _ _ => rfl)))))), ?_⟩
    refine ⟨by show 8 ≤ sizeLine; decide, fun O hO => ?_⟩
    have hO1 : (upd H O (.lst [.str "", .str "abcdefghi", .str "Ab", .str "a1", .str "a b", .str "-", .str "lent", .str "q"])) O = some (.lst (odds.map V.str)) := upd_same
    have s1 : Same H (upd H O (.lst [.str "", .str "abcdefghi", .str "Ab", .str "a1", .str "a b", .str "-", .str "lent", .str "q"])) := (Same.refl H).upd hO
    have bx1 := bx.same s1
    have oO := offbox bx hO
    show _
    generalize (upd H O (.lst [.str "", .str "abcdefghi", .str "Ab", .str "a1", .str "a b", .str "-", .str "lent", .str "q"])) = H1 at hO1 s1 bx1
    have hz' : (odds.length : Int) = 8 := by decide +kernel
    refine ⟨_, rfl, L, _, rfl, .inl (SqL.of (s1 _ _ hL)), _, _, rfl, rfl, _, rfl, ?_⟩
    have el : (((ws.map V.str).length : Nat) : Int) = (ws.length : Int) := by rw [List.length_map]
    rw [el]
    have k01 : Keeps [b, g] H H1 := Same.keeps s1
    have last : ∀ {n2 : Int} {H2 : Hp}, BoxAt H2 b g l n2 → Keeps [b, g] H H2 → H2 O = some (.lst (odds.map V.str)) → n ≤ n2 → n2 ≤ n + 1 →
        sp_take [.ref b, .int 8] H2 (fun y H3 => rIxL K (.ref O) y H3 Q) (fun _ _ _ => False) := by
      intro n2 H2 bx2 k02 hO2 a1 a2
      refine ⟨b, g, l, n2, 8, rfl, bx2, by omega, by omega, by decide, by decide, fun k H3 k0 k1 bx3 kp3 => ?_⟩
      obtain ⟨s, hs, hm⟩ := pick_str (ws := odds) k0 (by omega)
      exact ⟨O, _, _, _, rfl, rfl, SqL.of (kp3 _ _ hO2 oO), hs, kk s _ _ (odds_wok s hm) (by omega) (by omega) bx3 (k02.trans kp3)⟩
    refine iteD (fun c => ?_) (fun c => ?_)
    · refine ⟨_, rfl, b, g, l, n, 2, rfl, bx1, n0, by omega, by omega, by decide, fun k H2 k0 k1 bx2 kp2 => ?_⟩
      refine ⟨rfl, _, rfl, ?_⟩
      have hO2 := kp2 _ _ hO1 oO
      have k02 := k01.trans kp2
      refine iteD (fun d => ?_) (fun d => ?_)
      · have hL2 := kp2 _ _ (s1 _ _ hL) oL
        refine ⟨_, rfl, _, rfl, _, rfl, L, _, rfl, .inl (SqL.of hL2), ?_⟩
        rw [el]
        refine ⟨b, g, l, _, _, rfl, bx2, by omega, by omega, by omega, log_le (by omega), fun j H3 j0 j1 bx3 kp3 => ?_⟩
        obtain ⟨s, hs, hm⟩ := pick_str (ws := ws) j0 (by omega)
        exact ⟨L, _, _, _, rfl, rfl, SqL.of (kp3 _ _ hL2 oL), hs, kk s _ _ (hw s hm) (by omega) (by omega) bx3 (k02.trans kp3)⟩
      · exact ⟨_, rfl, _, rfl, last bx2 k02 hO2 (by omega) (by omega)⟩
    · exact ⟨_, rfl, _, rfl, last bx1 k01 hO1 (by omega) (by omega)⟩

open My (Hr)
theorem Objs.append {α : Type} {O : α → HO} {H : Hp} {as bs : List Addr} {xs ys : List α} (o : Objs H as O xs) (q : Objs H bs O ys) : Objs H (as ++ bs) O (xs ++ ys) := by
  refine ⟨by rw [List.length_append, List.length_append, o.len, q.len], fun i h x e1 e2 => ?_⟩
  by_cases hi : i < as.length
  · rw [List.getElem?_append_left hi] at e1
    rw [List.getElem?_append_left (by rw [← o.len]; exact hi)] at e2
    exact o.at_ i h x e1 e2
  · rw [List.getElem?_append_right (by omega)] at e1
    rw [List.getElem?_append_right (by rw [← o.len]; omega), ← o.len] at e2
    exact q.at_ _ h x e1 e2
theorem Objs.drop {α : Type} {O : α → HO} {H : Hp} {as : List Addr} {xs : List α} (o : Objs H as O xs) (n : Nat) : Objs H (as.drop n) O (xs.drop n) := by
  refine ⟨by rw [List.length_drop, List.length_drop, o.len], fun i h x e1 e2 => ?_⟩
  rw [List.getElem?_drop] at e1 e2
  exact o.at_ _ h x e1 e2
theorem Objs.one {α : Type} {O : α → HO} {H : Hp} {h : Addr} {x : α} (e : H h = some (O x)) : Objs H [h] O [x] := ⟨rfl, fun i h' x' e1 e2 => by
  cases i with
  | zero => simp at e1 e2; subst e1 e2; exact e
  | succ i => simp at e1⟩
theorem Objs.cons {α : Type} {O : α → HO} {H : Hp} {h : Addr} {x : α} {as : List Addr} {xs : List α} (e : H h = some (O x)) (o : Objs H as O xs) : Objs H (h :: as) O (x :: xs) := Objs.append (Objs.one e) o
theorem small1 {n : Nat} (h : n ≤ 10000) : n ≤ sizeLine := Nat.le_of_lt (small (by omega))
def mores : List My.Pr := [("qa", "qb", true), ("qc", "qd", false), ("qe", "qf", true), ("qg", "qh", false)]
theorem mores_wok : ∀ q, q ∈ mores → WOk q.1 ∧ WOk q.2.1 := by
  have h : mores.all (fun q => (decide (q.1.length ≤ 20) && PyData.strOk q.1) && (decide (q.2.1.length ≤ 20) && PyData.strOk q.2.1)) = true := by decide +kernel
  intro q hq
  have h2 := List.all_eq_true.mp h q hq
  rw [Bool.and_eq_true] at h2
  exact ⟨wok_of h2.1, wok_of h2.2⟩
def sp_pair_spoilt : Sp := fun vs H Q _ => ∃ (b g l L : Addr) (n : Int) (as : List Addr) (ps : List My.Pr), vs = [.ref b, .ref L] ∧ BoxAt H b g l n ∧ 0 ≤ n ∧ n < 7000000 ∧ H L = some (.lst (as.map V.ref)) ∧ L ∉ [b, g] ∧ Objs H as prO ps ∧ 0 < ps.length ∧ ps.length ≤ 90 ∧ (∀ q, q ∈ ps → WOk q.1 ∧ WOk q.2.1) ∧
  ∀ (p : Addr) (as2 : List Addr) (ps2 : List My.Pr) (n' : Int) (H' : Hp), H p = none → H' p = some (.lst (as2.map V.ref)) → Objs H' as2 prO ps2 → ps2.length ≤ ps.length + 4 → (∀ q, q ∈ ps2 → WOk q.1 ∧ WOk q.2.1) → n ≤ n' → n' ≤ n + 10 → BoxAt H' b g l n' → Keeps [b, g] H H' → Q (.ref p) H'
theorem ok_pair_spoilt (T : Txt K mg a) : FnOk P w K mg base CX0 4 a.f_pair_spoilt a.d_pair_spoilt ["_law_box_here", "_law_pairs_here"] sp_pair_spoilt := by
  refine T.F_pair_spoilt.ok sc_pair_spoilt (fun vs H Q E h => ?_) (fun cdv A outer s H vs Q E hr h => ?_)
  · obtain ⟨b, g, l, L, n, as, ps, rfl, _⟩ := h
    rfl
  · obtain ⟨b, g, l, L, n, as, ps, rfl, bx, n0, n1, hL, oL, ob, hpos, hz, hw, kk⟩ := h
    have asl := ob.len
    have nt := box_notup bx
    refine ⟨_, (pss_cons (ps_set (i := 2) sc_pair_spoilt.nd rfl (Or.inl rfl) (pe_call (ok_take T) (hr.mono (by decide)) rfl T.g_take T.k_take T.B_take .nil pass0 (pa_cons (pv 0) (pa_cons pe_int pa_nil))))
      (pss_cons (ps_set (i := 3) sc_pair_spoilt.nd rfl (Or.inl rfl) (pe_call (ok_take T) (hr.mono (by decide)) rfl T.g_take T.k_take T.B_take .nil pass0 (pa_cons (pv 0) (pa_cons (pe_callB call_len_seq (by rfl) T.z_len (by decide +kernel) (pa_cons (pv 1) pa_nil)) pa_nil))))
      (pss_cons (ps_asg (pe_ix ix_list (pv 1) (pv 3) (fun _ _ => rfl)) (pg_tup (by rfl) (pgs_cons (pg_name (i := 4) sc_pair_spoilt.nd rfl (Or.inl rfl)) (pgs_cons (pg_name (i := 5) sc_pair_spoilt.nd rfl (Or.inl rfl)) (pgs_cons (pg_name (i := 6) sc_pair_spoilt.nd rfl (Or.inl rfl)) pgs_nil)))))
      (C8.pss_cut (ps_if (pt_cmpR op_eq (pv 2) pe_int (nomark _)) (pss_one (ps_set (i := 4) sc_pair_spoilt.nd rfl (Or.inl rfl) (pe_call (ok_odd_word T) (hr.mono (by decide)) rfl T.g_odd_word T.k_odd_word T.B_odd_word .nil pass0 (pa_cons (pv 0) (pa_cons (pe_lc (own := [("_law_pair", 8)]) (g := gName 8) (te := tOp (rIxT K) (tVar 8) (tC (.int 0))) (tt := tYes) rfl sc_pair_spoilt.nd (pi_list (pv 1)) (blkOk_by (own := [("_law_pair", 8)]) (N := ["_law_box_here", "_law_pairs_here", "_law_way", "_law_at", "_law_near", "_law_far", "_law_laden", "_law_more", "_law_pair"]) (sc := defScope s_pair_spoilt) (by decide +kernel)) (fun _ _ _ _ _ => pg_name (i := 8) sc_pair_spoilt.nd rfl (Or.inl rfl)) (fun _ _ _ _ _ => pts_nil) (fun _ _ _ _ _ => by exact (pe_ix ix_tup (pv 8) pe_int (fun _ _ => rfl)))) pa_nil))))) pss_nil)
      (C8.pss_cut (ps_if (pt_cmpR op_eq (pv 2) pe_int (nomark _)) (pss_one (ps_set (i := 5) sc_pair_spoilt.nd rfl (Or.inl rfl) (pe_call (ok_odd_word T) (hr.mono (by decide)) rfl T.g_odd_word T.k_odd_word T.B_odd_word .nil pass0 (pa_cons (pv 0) (pa_cons (pe_lc (own := [("_law_pair", 8)]) (g := gName 8) (te := tOp (rIxT K) (tVar 8) (tC (.int 1))) (tt := tYes) rfl sc_pair_spoilt.nd (pi_list (pv 1)) (blkOk_by (own := [("_law_pair", 8)]) (N := ["_law_box_here", "_law_pairs_here", "_law_way", "_law_at", "_law_near", "_law_far", "_law_laden", "_law_more", "_law_pair"]) (sc := defScope s_pair_spoilt) (by decide +kernel)) (fun _ _ _ _ _ => pg_name (i := 8) sc_pair_spoilt.nd rfl (Or.inl rfl)) (fun _ _ _ _ _ => pts_nil) (fun _ _ _ _ _ => by exact (pe_ix ix_tup (pv 8) pe_int (fun _ _ => rfl)))) pa_nil))))) pss_nil)
      (pss_cons (ps_if (pt_cmpR op_eq (pv 2) pe_int (nomark _)) (pss_one (ps_ret (pe_op op_cat (pe_op op_cat (pe_slice sl_list (pv 1) po_none (po_some (pv 3))) (pe_lst (pa_cons (pe_ix ix_list (pv 1) (pv 3) (fun _ _ => rfl)) pa_nil))) (pe_slice sl_list (pv 1) (po_some (pv 3)) po_none)))) pss_nil)
      (pss_cons (ps_if (pt_cmpR op_eq (pv 2) pe_int (nomark _)) (pss_cons (ps_set (i := 7) sc_pair_spoilt.nd rfl (Or.inl rfl) (pe_lst (pa_cons (pe_tup (pa_cons pe_str (pa_cons pe_str (pa_cons pe_bl pa_nil)))) (pa_cons (pe_tup (pa_cons pe_str (pa_cons pe_str (pa_cons pe_bl pa_nil)))) (pa_cons (pe_tup (pa_cons pe_str (pa_cons pe_str (pa_cons pe_bl pa_nil)))) (pa_cons (pe_tup (pa_cons pe_str (pa_cons pe_str (pa_cons pe_bl pa_nil)))) pa_nil))))))
      (pss_one (ps_ret (pe_op op_cat (pe_op op_cat (pe_slice sl_list (pv 1) po_none (po_some (pv 3))) (pe_slice sl_list (pv 7) po_none (po_some (pe_op op_add pe_int (pe_call (ok_take T) (hr.mono (by decide)) rfl T.g_take T.k_take T.B_take .nil pass0 (pa_cons (pv 0) (pa_cons pe_int pa_nil))))))) (pe_slice sl_list (pv 1) (po_some (pv 3)) po_none))))) pss_nil)
      (pss_one (ps_ret (pe_op op_cat (pe_op op_cat (pe_slice sl_list (pv 1) po_none (po_some (pv 3))) (pe_lst (pa_cons (pe_tup (pa_cons (pv 4) (pa_cons (pv 5) (pa_cons (pv 6) pa_nil)))) pa_nil))) (pe_slice sl_list (pv 1) (po_some (pe_op op_add (pv 3) pe_int)) po_none))))))))))), ?_⟩
    refine ⟨_, rfl, b, g, l, n, 4, rfl, bx, n0, by omega, by omega, by decide, fun way H1 k0 k1 bx1 kp1 => ?_⟩
    have hL1 := kp1 _ _ hL oL
    refine ⟨_, rfl, _, rfl, L, _, rfl, .inl (SqL.of hL1), ?_⟩
    have el : (((as.map V.ref).length : Nat) : Int) = (ps.length : Int) := by rw [List.length_map, asl]
    rw [el]
    refine ⟨b, g, l, _, _, rfl, bx1, by omega, by omega, by omega, log_le (by omega), fun at_ H2 j0 j1 bx2 kp2 => ?_⟩
    have k2 := kp1.trans kp2
    have hL2 := kp2 _ _ hL1 oL
    have ob2 := ob.keepN k2 nt
    obtain ⟨i, rfl⟩ : ∃ i : Nat, at_ = i := ⟨at_.toNat, by omega⟩
    have hi : i < ps.length := by omega
    have ha : as[i]? = some as[i] := List.getElem?_eq_getElem (by omega)
    obtain ⟨⟨near, far, lad⟩, hq, hq2⟩ := ob2.get ha
    generalize as[i] = h at ha hq2
    have hq2' : H2 h = some (.tup [.str near, .str far, .bl lad]) := hq2
    obtain ⟨w1, w2⟩ := hw _ (List.mem_of_getElem? hq)
    have hat : atI (as.map V.ref) (i : Int) = some (.ref h) := atI_nat (by rw [List.getElem?_map, ha]; rfl)
    refine ⟨_, rfl, _, rfl, _, _, _, _, rfl, rfl, SqL.of hL2, hat, h, _, rfl, SqT.of hq2', rfl, ?_⟩
    refine ⟨_, _, rfl, _, _, rfl, _, _, rfl, rfl, ?_⟩
    -- the near word
    refine ⟨fun σ H3 => Blk (∃ (near3 : Str) (n3 : Int), σ = [some (.ref b), some (.ref L), some (.int way), some (.int (i : Nat)), some (.str near3), some (.str far), some (.bl lad), none, none] ∧ WOk near3 ∧ BoxAt H3 b g l n3 ∧ n + 2 ≤ n3 ∧ n3 ≤ n + 4 ∧ Keeps [b, g] H H3), ?_, ?_⟩
    · refine ⟨_, rfl, rfl, _, rfl, ?_⟩
      refine iteD (fun c => ?_) (fun c => ?_)
      · refine ⟨_, rfl, _, rfl, L, rfl, ⟨_, SqL.of hL2⟩, fun D hD => ?_⟩
        refine words_comp (i := 0) ob2 hL2 hD (by omega) (fun _ => rfl) (fun h q H3 R hq hR => ⟨_, rfl, _, _, _, _, rfl, rfl, SqT.of hq, rfl, hR⟩) fun H3 s3 hD3 => ?_
        have bx3 := bx2.same s3
        refine ⟨b, g, l, D, _, _, rfl, bx3, by omega, by omega, hD3, offbox bx2 hD, by rw [List.length_map]; omega, fun s hs => ?_, fun s n' H4 ws a1 a2 bx4 kp4 => ?_⟩
        · obtain ⟨q, hq, rfl⟩ := List.mem_map.mp hs
          exact (hw q hq).1
        · exact Blk.of ⟨s, n', rfl, ws, bx4, by omega, by omega, (k2.trans (Same.keeps s3)).trans kp4⟩
      · exact Blk.of ⟨near, _, rfl, w1, bx2, by omega, by omega, k2⟩
    rintro σ H3 hB
    obtain ⟨near3, n3, rfl, wn3, bx3, a3, b3, k3⟩ := hB.out
    have hL3 := k3 _ _ hL oL
    have ob3 := ob.keepN k3 nt
    clear hq2' hq2 ob2 hL2 hL1
    -- the far word
    refine ⟨fun σ H4 => Blk (∃ (far4 : Str) (n4 : Int), σ = [some (.ref b), some (.ref L), some (.int way), some (.int (i : Nat)), some (.str near3), some (.str far4), some (.bl lad), none, none] ∧ WOk far4 ∧ BoxAt H4 b g l n4 ∧ n + 2 ≤ n4 ∧ n4 ≤ n + 6 ∧ Keeps [b, g] H H4), ?_, ?_⟩
    · refine ⟨_, rfl, rfl, _, rfl, ?_⟩
      refine iteD (fun c => ?_) (fun c => ?_)
      · refine ⟨_, rfl, _, rfl, L, rfl, ⟨_, SqL.of hL3⟩, fun D hD => ?_⟩
        refine words_comp (i := 1) ob3 hL3 hD (by omega) (fun _ => rfl) (fun h q H3 R hq hR => ⟨_, rfl, _, _, _, _, rfl, rfl, SqT.of hq, rfl, hR⟩) fun H4 s4 hD4 => ?_
        have bx4 := bx3.same s4
        refine ⟨b, g, l, D, _, _, rfl, bx4, by omega, by omega, hD4, offbox bx3 hD, by rw [List.length_map]; omega, fun s hs => ?_, fun s n' H5 ws a1 a2 bx5 kp5 => ?_⟩
        · obtain ⟨q, hq, rfl⟩ := List.mem_map.mp hs
          exact (hw q hq).2
        · exact Blk.of ⟨s, n', rfl, ws, bx5, by omega, by omega, (k3.trans (Same.keeps s4)).trans kp5⟩
      · exact Blk.of ⟨far, _, rfl, w2, bx3, by omega, by omega, k3⟩
    rintro σ H4 hB
    obtain ⟨far4, n4, rfl, wf4, bx4, a4, b4, k4⟩ := hB.out
    have hL4 := k4 _ _ hL oL
    have ob4 := ob.keepN k4 nt
    have hh4 := ob4.at_ i h _ ha hq
    clear hL3 ob3
    have mem_take : ∀ q, q ∈ ps.take i → WOk q.1 ∧ WOk q.2.1 := fun q hq => hw q (List.mem_of_mem_take hq)
    have mem_drop : ∀ (k : Nat) q, q ∈ ps.drop k → WOk q.1 ∧ WOk q.2.1 := fun k q hq => hw q (List.mem_of_mem_drop hq)
    refine ⟨_, rfl, rfl, _, rfl, ?_⟩
    refine iteD (fun c => ?_) (fun c => ?_)
    · -- twice
      walk_at "rd"
      refine ⟨L, _, rfl, SqL.of hL4, fun p1 hp1 => ?_⟩
      rw [cut_to, ← List.map_take]
      have s5 : Same H4 (upd H4 p1 (.lst ((as.take i).map V.ref))) := (Same.refl H4).upd hp1
      have e1 : (upd H4 p1 (.lst ((as.take i).map V.ref))) p1 = some (.lst ((as.take i).map V.ref)) := upd_same
      show _
      generalize (upd H4 p1 (.lst ((as.take i).map V.ref))) = H5 at s5 e1
      refine ⟨_, rfl, _, rfl, _, _, _, _, rfl, rfl, SqL.of (s5 _ _ hL4), hat, by show 1 ≤ sizeLine; decide, fun p2 hp2 => ?_⟩
      have s6 : Same H4 (upd H5 p2 (.lst [.ref h])) := s5.trans ((Same.refl H5).upd hp2)
      have e2 : (upd H5 p2 (.lst [.ref h])) p2 = some (.lst ([h].map V.ref)) := upd_same
      have e1' : (upd H5 p2 (.lst [.ref h])) p1 = some (.lst ((as.take i).map V.ref)) := (upd_ne (ne_of_none e1 hp2)).trans e1
      show _
      generalize (upd H5 p2 (.lst [.ref h])) = H6 at s6 e2 e1'
      refine ⟨p1, p2, _, _, rfl, rfl, e1', e2, by rw [List.length_map, List.length_map, List.length_take]; exact small1 (by simp; omega), fun p3 hp3 => ?_⟩
      rw [← List.map_append]
      have s7 : Same H4 (upd H6 p3 (.lst ((as.take i ++ [h]).map V.ref))) := s6.trans ((Same.refl H6).upd hp3)
      have e3 : (upd H6 p3 (.lst ((as.take i ++ [h]).map V.ref))) p3 = some (.lst ((as.take i ++ [h]).map V.ref)) := upd_same
      show _
      generalize (upd H6 p3 (.lst ((as.take i ++ [h]).map V.ref))) = H7 at s7 e3
      walk_at "rd"
      refine ⟨L, _, rfl, SqL.of (s7 _ _ hL4), fun p4 hp4 => ?_⟩
      rw [cut_from, ← List.map_drop]
      have s8 : Same H4 (upd H7 p4 (.lst ((as.drop i).map V.ref))) := s7.trans ((Same.refl H7).upd hp4)
      have e4 : (upd H7 p4 (.lst ((as.drop i).map V.ref))) p4 = some (.lst ((as.drop i).map V.ref)) := upd_same
      have e3' : (upd H7 p4 (.lst ((as.drop i).map V.ref))) p3 = some (.lst ((as.take i ++ [h]).map V.ref)) := (upd_ne (ne_of_none e3 hp4)).trans e3
      show _
      generalize (upd H7 p4 (.lst ((as.drop i).map V.ref))) = H8 at s8 e4 e3'
      refine ⟨p3, p4, _, _, rfl, rfl, e3', e4, by rw [List.length_map, List.length_map, List.length_append, List.length_take, List.length_drop]; exact small1 (by simp; omega), fun p5 hp5 => ?_⟩
      rw [← List.map_append]
      have s9 : Same H4 (upd H8 p5 (.lst ((as.take i ++ [h] ++ as.drop i).map V.ref))) := s8.trans ((Same.refl H8).upd hp5)
      have ob9 := ob4.same s9
      have o9 := offbox bx4 (s8.free hp5)
      refine kk p5 (as.take i ++ [h] ++ as.drop i) (ps.take i ++ [(near, far, lad)] ++ ps.drop i) n4 _ ?_ upd_same (((Objs.take ob9 i).append (Objs.one (s9 _ _ hh4))).append (Objs.drop ob9 i)) ?_ ?_ (by omega) (by omega) (bx4.same s9) (k4.trans (Same.keeps s9))
      · rcases k4.fresh (s8.free hp5) with q | q
        · exact absurd q o9
        · exact q
      · rw [List.length_append, List.length_append, List.length_take, List.length_drop]
        simp
        omega
      · intro q hq
        rcases List.mem_append.mp hq with hq | hq
        · rcases List.mem_append.mp hq with hq | hq
          · exact mem_take q hq
          · simp at hq; subst hq; exact ⟨w1, w2⟩
        · exact mem_drop i q hq
    refine ⟨_, rfl, rfl, _, rfl, ?_⟩
    refine iteD (fun d => ?_) (fun d => ?_)
    · -- some more ahead of it
      refine ⟨by show 3 ≤ sizeLine; decide, fun t1 ht1 => ?_⟩
      have x1 : (upd H4 t1 (.tup [.str "qa", .str "qb", .bl true])) t1 = some (prO ("qa", "qb", true)) := upd_same
      have s1 : Same H4 (upd H4 t1 (.tup [.str "qa", .str "qb", .bl true])) := (Same.refl H4).upd ht1
      show _
      generalize (upd H4 t1 (.tup [.str "qa", .str "qb", .bl true])) = G1 at x1 s1
      refine ⟨by show 3 ≤ sizeLine; decide, fun t2 ht2 => ?_⟩
      have x2 : (upd G1 t2 (.tup [.str "qc", .str "qd", .bl false])) t2 = some (prO ("qc", "qd", false)) := upd_same
      have s12 : Same G1 (upd G1 t2 (.tup [.str "qc", .str "qd", .bl false])) := (Same.refl G1).upd ht2
      show _
      generalize (upd G1 t2 (.tup [.str "qc", .str "qd", .bl false])) = G2 at x2 s12
      refine ⟨by show 3 ≤ sizeLine; decide, fun t3 ht3 => ?_⟩
      have x3 : (upd G2 t3 (.tup [.str "qe", .str "qf", .bl true])) t3 = some (prO ("qe", "qf", true)) := upd_same
      have s23 : Same G2 (upd G2 t3 (.tup [.str "qe", .str "qf", .bl true])) := (Same.refl G2).upd ht3
      show _
      generalize (upd G2 t3 (.tup [.str "qe", .str "qf", .bl true])) = G3 at x3 s23
      refine ⟨by show 3 ≤ sizeLine; decide, fun t4 ht4 => ?_⟩
      have x4 : (upd G3 t4 (.tup [.str "qg", .str "qh", .bl false])) t4 = some (prO ("qg", "qh", false)) := upd_same
      have s34 : Same G3 (upd G3 t4 (.tup [.str "qg", .str "qh", .bl false])) := (Same.refl G3).upd ht4
      show _
      generalize (upd G3 t4 (.tup [.str "qg", .str "qh", .bl false])) = G4 at x4 s34
      refine ⟨by show 4 ≤ sizeLine; decide, fun M hM => ?_⟩
      have s45 : Same G4 (upd G4 M (.lst [.ref t1, .ref t2, .ref t3, .ref t4])) := (Same.refl G4).upd hM
      have eM : (upd G4 M (.lst [.ref t1, .ref t2, .ref t3, .ref t4])) M = some (.lst ([t1, t2, t3, t4].map V.ref)) := upd_same
      show _
      generalize (upd G4 M (.lst [.ref t1, .ref t2, .ref t3, .ref t4])) = H5 at s45 eM
      have y3 := s34 _ _ x3
      have y2 := s34 _ _ (s23 _ _ x2)
      have y1 := s34 _ _ (s23 _ _ (s12 _ _ x1))
      have obM : Objs H5 [t1, t2, t3, t4] prO mores := Objs.cons (s45 _ _ y1) (Objs.cons (s45 _ _ y2) (Objs.cons (s45 _ _ y3) (Objs.one (s45 _ _ x4))))
      have s5 : Same H4 H5 := (((s1.trans s12).trans s23).trans s34).trans s45
      clear y1 y2 y3 x1 x2 x3 x4
      have oM : M ∉ [b, g] := offbox bx4 ((((s1.trans s12).trans s23).trans s34).free hM)
      walk_at "rd"
      refine ⟨L, _, rfl, SqL.of (s5 _ _ hL4), fun p1 hp1 => ?_⟩
      rw [cut_to, ← List.map_take]
      have s56 : Same H5 (upd H5 p1 (.lst ((as.take i).map V.ref))) := (Same.refl H5).upd hp1
      have e1 : (upd H5 p1 (.lst ((as.take i).map V.ref))) p1 = some (.lst ((as.take i).map V.ref)) := upd_same
      show _
      generalize (upd H5 p1 (.lst ((as.take i).map V.ref))) = H6 at s56 e1
      have s6 := s5.trans s56
      have o1 := offbox bx4 (s5.free hp1)
      have bx6 := bx4.same s6
      have nt6 := box_notup bx6
      refine ⟨_, rfl, _, rfl, b, g, l, n4, 4, rfl, bx6, by omega, by omega, by decide, by decide, fun kk2 H7 k0 k1 bx7 kp7 => ?_⟩
      have ob7 := (ob4.same s6).keepN kp7 nt6
      have obM7 := (obM.same s56).keepN kp7 nt6
      have hL7 := kp7 _ _ (s6 _ _ hL4) oL
      have hM7 := kp7 _ _ (s56 _ _ eM) oM
      have e17 := kp7 _ _ e1 o1
      have k7 := (k4.trans (Same.keeps s6)).trans kp7
      obtain ⟨m, rfl⟩ : ∃ m : Nat, kk2 = m := ⟨kk2.toNat, by omega⟩
      walk_at "rd"
      refine ⟨M, _, rfl, SqL.of hM7, fun p2 hp2 => ?_⟩
      have em : (1 : Int) + (m : Int) = ((m + 1 : Nat) : Int) := by omega
      rw [em, cut_to, ← List.map_take]
      have s78 : Same H7 (upd H7 p2 (.lst (([t1, t2, t3, t4].take (m + 1)).map V.ref))) := (Same.refl H7).upd hp2
      have e2 : (upd H7 p2 (.lst (([t1, t2, t3, t4].take (m + 1)).map V.ref))) p2 = some (.lst (([t1, t2, t3, t4].take (m + 1)).map V.ref)) := upd_same
      show _
      generalize (upd H7 p2 (.lst (([t1, t2, t3, t4].take (m + 1)).map V.ref))) = H8 at s78 e2
      have e18 := s78 _ _ e17
      have tl : ([t1, t2, t3, t4].take (m + 1)).length ≤ 4 := by rw [List.length_take]; exact Nat.min_le_right _ _
      have obM8 := Objs.take (obM7.same s78) (m + 1)
      have ml : (mores.take (m + 1)).length ≤ 4 := by rw [List.length_take]; exact Nat.min_le_right _ _
      have mw : ∀ q, q ∈ mores.take (m + 1) → WOk q.1 ∧ WOk q.2.1 := fun q hq => mores_wok q (List.mem_of_mem_take hq)
      generalize [t1, t2, t3, t4].take (m + 1) = ms at e2 tl obM8
      generalize mores.take (m + 1) = qs at ml mw obM8
      refine ⟨p1, p2, _, _, rfl, rfl, e18, e2, by rw [List.length_map, List.length_map, List.length_take]; exact small1 (by omega), fun p3 hp3 => ?_⟩
      rw [← List.map_append]
      have s89 : Same H8 (upd H8 p3 (.lst ((as.take i ++ ms).map V.ref))) := (Same.refl H8).upd hp3
      have e3 : (upd H8 p3 (.lst ((as.take i ++ ms).map V.ref))) p3 = some (.lst ((as.take i ++ ms).map V.ref)) := upd_same
      show _
      generalize (upd H8 p3 (.lst ((as.take i ++ ms).map V.ref))) = H9 at s89 e3
      have s79 := s78.trans s89
      walk_at "rd"
      refine ⟨L, _, rfl, SqL.of (s79 _ _ hL7), fun p4 hp4 => ?_⟩
      rw [cut_from, ← List.map_drop]
      have s9a : Same H9 (upd H9 p4 (.lst ((as.drop i).map V.ref))) := (Same.refl H9).upd hp4
      have e4 : (upd H9 p4 (.lst ((as.drop i).map V.ref))) p4 = some (.lst ((as.drop i).map V.ref)) := upd_same
      show _
      generalize (upd H9 p4 (.lst ((as.drop i).map V.ref))) = HA at s9a e4
      have s7a := s79.trans s9a
      refine ⟨p3, p4, _, _, rfl, rfl, s9a _ _ e3, e4, by rw [List.length_map, List.length_map, List.length_append, List.length_take, List.length_drop]; exact small1 (by omega), fun p5 hp5 => ?_⟩
      rw [← List.map_append]
      have sab : Same HA (upd HA p5 (.lst ((as.take i ++ ms ++ as.drop i).map V.ref))) := (Same.refl HA).upd hp5
      have s7b := s7a.trans sab
      have obb := ob7.same s7b
      have o9 := offbox bx7 (s7a.free hp5)
      refine kk p5 (as.take i ++ ms ++ as.drop i) (ps.take i ++ qs ++ ps.drop i) (n4 + 1) _ ?_ upd_same (((Objs.take obb i).append (obM8.same ((s89.trans s9a).trans sab))).append (Objs.drop obb i)) ?_ ?_ (by omega) (by omega) (bx7.same s7b) (k7.trans (Same.keeps s7b))
      · rcases k7.fresh (s7a.free hp5) with q | q
        · exact absurd q o9
        · exact q
      · rw [List.length_append, List.length_append, List.length_take, List.length_drop]
        omega
      · intro q hq
        rcases List.mem_append.mp hq with hq | hq
        · rcases List.mem_append.mp hq with hq | hq
          · exact mem_take q hq
          · exact mw q hq
        · exact mem_drop i q hq
    walk_at "rd"
    refine ⟨L, _, rfl, SqL.of hL4, fun p1 hp1 => ?_⟩
    rw [cut_to, ← List.map_take]
    have s5 : Same H4 (upd H4 p1 (.lst ((as.take i).map V.ref))) := (Same.refl H4).upd hp1
    have e1 : (upd H4 p1 (.lst ((as.take i).map V.ref))) p1 = some (.lst ((as.take i).map V.ref)) := upd_same
    show _
    generalize (upd H4 p1 (.lst ((as.take i).map V.ref))) = H5 at s5 e1
    refine ⟨_, rfl, _, rfl, _, rfl, by show 3 ≤ sizeLine; decide, fun t1 ht1 => ?_⟩
    have s5b : Same H4 (upd H5 t1 (.tup [.str near3, .str far4, .bl lad])) := s5.trans ((Same.refl H5).upd ht1)
    have et1 : (upd H5 t1 (.tup [.str near3, .str far4, .bl lad])) t1 = some (prO (near3, far4, lad)) := upd_same
    have e1b : (upd H5 t1 (.tup [.str near3, .str far4, .bl lad])) p1 = some (.lst ((as.take i).map V.ref)) := (upd_ne (ne_of_none e1 ht1)).trans e1
    show _
    generalize (upd H5 t1 (.tup [.str near3, .str far4, .bl lad])) = H5b at s5b et1 e1b
    refine ⟨by show 1 ≤ sizeLine; decide, fun p2 hp2 => ?_⟩
    have s6 : Same H4 (upd H5b p2 (.lst [.ref t1])) := s5b.trans ((Same.refl H5b).upd hp2)
    have e2 : (upd H5b p2 (.lst [.ref t1])) p2 = some (.lst ([t1].map V.ref)) := upd_same
    have e1' : (upd H5b p2 (.lst [.ref t1])) p1 = some (.lst ((as.take i).map V.ref)) := (upd_ne (ne_of_none e1b hp2)).trans e1b
    have et2 : (upd H5b p2 (.lst [.ref t1])) t1 = some (prO (near3, far4, lad)) := (upd_ne (ne_of_none et1 hp2)).trans et1
    show _
    generalize (upd H5b p2 (.lst [.ref t1])) = H6 at s6 e2 e1' et2
    refine ⟨p1, p2, _, _, rfl, rfl, e1', e2, by rw [List.length_map, List.length_map, List.length_take]; exact small1 (by simp; omega), fun p3 hp3 => ?_⟩
    rw [← List.map_append]
    have s67 : Same H6 (upd H6 p3 (.lst ((as.take i ++ [t1]).map V.ref))) := (Same.refl H6).upd hp3
    have e3 : (upd H6 p3 (.lst ((as.take i ++ [t1]).map V.ref))) p3 = some (.lst ((as.take i ++ [t1]).map V.ref)) := upd_same
    show _
    generalize (upd H6 p3 (.lst ((as.take i ++ [t1]).map V.ref))) = H7 at s67 e3
    have s7 := s6.trans s67
    walk_at "rd"
    refine ⟨L, _, rfl, SqL.of (s7 _ _ hL4), fun p4 hp4 => ?_⟩
    have ei : (i : Int) + 1 = ((i + 1 : Nat) : Int) := by omega
    rw [ei, cut_from, ← List.map_drop]
    have s78 : Same H7 (upd H7 p4 (.lst ((as.drop (i + 1)).map V.ref))) := (Same.refl H7).upd hp4
    have e4 : (upd H7 p4 (.lst ((as.drop (i + 1)).map V.ref))) p4 = some (.lst ((as.drop (i + 1)).map V.ref)) := upd_same
    show _
    generalize (upd H7 p4 (.lst ((as.drop (i + 1)).map V.ref))) = H8 at s78 e4
    have e3' := s78 _ _ e3
    have s8 := s7.trans s78
    refine ⟨p3, p4, _, _, rfl, rfl, e3', e4, by rw [List.length_map, List.length_map, List.length_append, List.length_take, List.length_drop]; exact small1 (by simp; omega), fun p5 hp5 => ?_⟩
    rw [← List.map_append]
    have s89 : Same H8 (upd H8 p5 (.lst ((as.take i ++ [t1] ++ as.drop (i + 1)).map V.ref))) := (Same.refl H8).upd hp5
    have s9 := s8.trans s89
    have ob9 := ob4.same s9
    have o9 := offbox bx4 (s8.free hp5)
    refine kk p5 (as.take i ++ [t1] ++ as.drop (i + 1)) (ps.take i ++ [(near3, far4, lad)] ++ ps.drop (i + 1)) n4 _ ?_ upd_same (((Objs.take ob9 i).append (Objs.one (s89 _ _ (s78 _ _ (s67 _ _ et2))))).append (Objs.drop ob9 (i + 1))) ?_ ?_ (by omega) (by omega) (bx4.same s9) (k4.trans (Same.keeps s9))
    · rcases k4.fresh (s8.free hp5) with q | q
      · exact absurd q o9
      · exact q
    · rw [List.length_append, List.length_append, List.length_take, List.length_drop]
      simp
      omega
    · intro q hq
      rcases List.mem_append.mp hq with hq | hq
      · rcases List.mem_append.mp hq with hq | hq
        · exact mem_take q hq
        · simp at hq; subst hq; exact ⟨wn3, wf4⟩
      · exact mem_drop (i + 1) q hq

open My (Hr)
/-- the names, as they are read off the helpers -/
theorem names_comp {K : PySem.W.Frag} {L : Addr} {as : List Addr} {hs : List Hr} {H1 : Hp} {te : TE} {σ : L2.St} {D : Addr} {Qd : Hp → Prop} {sl : Nat} (ob : Crew H1 as hs) (hL : H1 L = some (.lst (as.map V.ref))) (hD : H1 D = none) (hz : hs.length ≤ 1000)
    (hw : ∀ x : Option V, wipe ((wipe σ [sl]).set sl x) [sl] = wipe σ [sl])
    (ht : ∀ (h : Addr) (x : Hr) (H2 : Hp) (R : VK), HrAt H2 h x → R (.str x.name) H2 → te ((wipe σ [sl]).set sl (some (.ref h))) H2 R)
    (hd : ∀ H2 : Hp, Same H1 H2 → H2 D = some (.lst ((hs.map (·.name)).map V.str)) → Qd H2) :
    ∃ W : Nat → Nat → Hp → Prop, (∃ m, W 0 m (upd H1 D (.lst []))) ∧ ∀ i m H, W i m H →
      ((Itl K L).stop i H ∧ Qd H) ∨ ((Itl K L).go i H ∧ ∃ Nx : Hp → Prop, (∀ H', Nx H' → ∃ m', m' < m ∧ W (i + 1) m' H') ∧ ∀ x H', (Itl K L).yld i H x H' → gName sl x (wipe σ [sl]) H' fun σ2 H2 => wipe σ2 [sl] = wipe σ [sl] ∧ tYes σ2 H2 fun b H3 =>
        if b = true then te σ2 H3 fun y H4 => ∃ acc, H4 D = some (.lst acc) ∧ acc.length < sizeLine ∧ Nx (upd H4 D (.lst (acc ++ [y]))) else Nx H3) := by
  have nLD : L ≠ D := ne_of_none hL hD
  have asl := AllAt.len ob
  refine lc_list (K := K) (a := L) (xs := as.map V.ref) (fun k H2 => Blk (H2 = upd H1 D (.lst (((hs.take k).map (·.name)).map V.str)))) (Blk.of rfl) (fun k H2 _ hB => ?_) ?_ ?_
  · obtain rfl := hB.out
    exact SqL.of ((upd_ne nLD).trans hL)
  · intro k y H2 hy hB
    obtain rfl := hB.out
    obtain ⟨h, hh, rfl⟩ := refs_get hy
    obtain ⟨q, hq, hq2⟩ := AllAt.get ob hh
    have hk := get_lt hq
    refine ⟨hw _, ?_⟩
    dsimp only [tYes]
    refine iteT ?_
    refine ht h q _ _ (hq2.same ((Same.refl H1).upd hD)) ⟨_, upd_same, by rw [List.length_map, List.length_map, List.length_take]; exact small (by omega), Blk.of ?_⟩
    rw [upd_upd, take_snoc hq, List.map_append, List.map_append]
    rfl
  · intro H2 hB
    obtain rfl := hB.out
    have e : hs.take (as.map V.ref).length = hs := by rw [List.length_map, asl, List.take_length]
    rw [e]
    exact hd _ ((Same.refl H1).upd hD) upd_same
theorem cut_part (ts : List Str) (lo hi : Option Int) : ∃ us : List Str, cutV (ts.map V.str) lo hi = us.map V.str ∧ us.length ≤ ts.length ∧ ∀ u, u ∈ us → u ∈ ts := by
  refine ⟨(ts.drop (HT.sIx (ts.map V.str).length 0 lo)).take (HT.sIx (ts.map V.str).length (ts.map V.str).length hi - HT.sIx (ts.map V.str).length 0 lo), ?_, ?_, fun u hu => List.mem_of_mem_drop (List.mem_of_mem_take hu)⟩
  · unfold cutV
    rw [List.map_take, List.map_drop]
  · rw [List.length_take, List.length_drop]
    omega
theorem cut_last (ts : List Str) (k : Nat) (hk : 0 < k) : (cutV (ts.map V.str) (some (-(k : Int))) none).length ≤ k := by
  unfold cutV
  rw [List.length_take, List.length_drop, HT.sIx_none]
  have e : HT.sIx (ts.map V.str).length 0 (some (-(k : Int))) = (-(k : Int) + ((ts.map V.str).length : Int)).toNat := by
    show (if -(k : Int) < 0 then _ else _) = _
    rw [if_pos (by omega)]
  rw [e]
  omega
def lg4 : List Str := ["lent", "given", "lent", "given"]
theorem lg4_wok : ∀ s, s ∈ lg4 → WOk s := by
  have h : lg4.all (fun s => decide (s.length ≤ 20) && PyData.strOk s) = true := by decide +kernel
  exact fun s hs => wok_of (List.all_eq_true.mp h s hs)
def odd4 : List Str := ["Lent", "", "give", "gives"]
theorem odd4_wok : ∀ s, s ∈ odd4 → WOk s := by
  have h : odd4.all (fun s => decide (s.length ≤ 20) && PyData.strOk s) = true := by decide +kernel
  exact fun s hs => wok_of (List.all_eq_true.mp h s hs)
def sp4 : List Str := ["qp", "qr", "qs", "qt"]
theorem sp4_wok : ∀ s, s ∈ sp4 → WOk s := by
  have h : sp4.all (fun s => decide (s.length ≤ 20) && PyData.strOk s) = true := by decide +kernel
  exact fun s hs => wok_of (List.all_eq_true.mp h s hs)
structure SpoilSt (H0 H : Hp) (b g l tk th : Addr) (n : Int) (x : Hr) : Prop where
  bx : BoxAt H b g l n
  kp : Keeps [b, g] H0 H
  tk : TupF H tk (x.takes.map V.str)
  th : TupF H th (x.throws.map V.str)
  ok : HrOk x
theorem SpoilSt.same {H0 H H' : Hp} {b g l tk th : Addr} {n : Int} {x : Hr} (s : SpoilSt H0 H b g l tk th n x) (k : Same H H') : SpoilSt H0 H' b g l tk th n x :=
  ⟨s.bx.same k, s.kp.trans (Same.keeps k), s.tk.same k, s.th.same k, s.ok⟩
theorem SpoilSt.box {H0 H H' : Hp} {b g l tk th : Addr} {n n' : Int} {x : Hr} (s : SpoilSt H0 H b g l tk th n x) (bx : BoxAt H' b g l n') (k : Keeps [b, g] H H') : SpoilSt H0 H' b g l tk th n' x :=
  ⟨bx, s.kp.trans k, tupF_keep s.tk k (box_notup s.bx), tupF_keep s.th k (box_notup s.bx), s.ok⟩
def SpMid (H0 : Hp) (b g l L Lh W : Addr) (way : Int) (i : Nat) (n c : Int) (k : Nat) : L2.St → Hp → Prop := fun σ H => Blk (∃ (x : Hr) (tk th : Addr) (n' : Int),
  σ = [some (.ref b), some (.ref L), some (.ref Lh), some (.int way), some (.int (i : Nat)), some (.str x.name), some (.int x.side), some (.ref tk), some (.bl x.gives), some (.ref th), some (.ref W), none, none, none, none] ∧
  SpoilSt H0 H b g l tk th n' x ∧ x.throws.length ≤ k ∧ n ≤ n' ∧ n' ≤ n + c)
def sp_helper_spoilt : Sp := fun vs H Q _ => ∃ (b g l L Lh : Addr) (n : Int) (k : Nat) (as has : List Addr) (ps : List My.Pr) (hs : List Hr), vs = [.ref b, .ref L, .ref Lh] ∧ BoxAt H b g l n ∧ 0 ≤ n ∧ n < 7000000 ∧ H L = some (.lst (as.map V.ref)) ∧ L ∉ [b, g] ∧ Objs H as prO ps ∧ ps.length ≤ 90 ∧ (∀ q, q ∈ ps → WOk q.1 ∧ WOk q.2.1) ∧
  H Lh = some (.lst (has.map V.ref)) ∧ Lh ∉ [b, g] ∧ Crew H has hs ∧ 0 < hs.length ∧ hs.length ≤ 90 ∧ 4 ≤ k ∧ k ≤ 7 ∧ (∀ x, x ∈ hs → HrOk x ∧ x.throws.length ≤ k) ∧
  ∀ (p : Addr) (has2 : List Addr) (hs2 : List Hr) (n' : Int) (H' : Hp), H p = none → H' p = some (.lst (has2.map V.ref)) → Crew H' has2 hs2 → hs2.length ≤ hs.length + 4 → (∀ x, x ∈ hs2 → HrOk x ∧ x.throws.length ≤ k + 1) → n ≤ n' → n' ≤ n + 30 → BoxAt H' b g l n' → Keeps [b, g] H H' → Q (.ref p) H'
theorem ok_helper_spoilt (T : Txt K mg a) : FnOk P w K mg base CX0 4 a.f_helper_spoilt a.d_helper_spoilt ["_law_box_here", "_law_pairs_here", "_law_helpers_here"] sp_helper_spoilt := by
  refine T.F_helper_spoilt.ok sc_helper_spoilt (fun vs H Q E h => ?_) (fun cdv A outer s H vs Q E hr h => ?_)
  · obtain ⟨b, g, l, L, Lh, n, k, as, has, ps, hs, rfl, _⟩ := h
    rfl
  · obtain ⟨b, g, l, L, Lh, n, k, as, has, ps, hs, rfl, bx, n0, n1, hL, oL, ob, hz, hw, hLh, oLh, crew, hpos, hzh, k4, k7, hhw, kk⟩ := h
    have asl := ob.len
    have hasl := AllAt.len crew
    have nt := box_notup bx
    refine ⟨_, (pss_cons (ps_set (i := 3) sc_helper_spoilt.nd rfl (Or.inl rfl) (pe_call (ok_take T) (hr.mono (by decide)) rfl T.g_take T.k_take T.B_take .nil pass0 (pa_cons (pv 0) (pa_cons pe_int pa_nil))))
      (pss_cons (ps_set (i := 4) sc_helper_spoilt.nd rfl (Or.inl rfl) (pe_call (ok_take T) (hr.mono (by decide)) rfl T.g_take T.k_take T.B_take .nil pass0 (pa_cons (pv 0) (pa_cons (pe_callB call_len_seq (by rfl) T.z_len (by decide +kernel) (pa_cons (pv 2) pa_nil)) pa_nil))))
      (pss_cons (ps_asg (pe_ix ix_list (pv 2) (pv 4) (fun _ _ => rfl)) (pg_tup (by rfl) (pgs_cons (pg_name (i := 5) sc_helper_spoilt.nd rfl (Or.inl rfl)) (pgs_cons (pg_name (i := 6) sc_helper_spoilt.nd rfl (Or.inr rfl)) (pgs_cons (pg_name (i := 7) sc_helper_spoilt.nd rfl (Or.inl rfl)) (pgs_cons (pg_name (i := 8) sc_helper_spoilt.nd rfl (Or.inl rfl)) (pgs_cons (pg_name (i := 9) sc_helper_spoilt.nd rfl (Or.inl rfl)) pgs_nil)))))))
      (pss_cons (ps_set (i := 10) sc_helper_spoilt.nd rfl (Or.inl rfl) (pe_op op_cat (pe_lc (own := [("_law_pair", 12)]) (g := gName 12) (te := tOp (rIxT K) (tVar 12) (tC (.int 0))) (tt := tYes) rfl sc_helper_spoilt.nd (pi_list (pv 1)) (blkOk_by (own := [("_law_pair", 12)]) (N := ["_law_box_here", "_law_pairs_here", "_law_helpers_here", "_law_way", "_law_at", "_law_name_here", "_law_side", "_law_takes", "_law_gives", "_law_throws", "_law_words", "_law_more", "_law_pair", "_law_helper", "_law_spare"]) (sc := defScope s_helper_spoilt) (by decide +kernel)) (fun _ _ _ _ _ => pg_name (i := 12) sc_helper_spoilt.nd rfl (Or.inl rfl)) (fun _ _ _ _ _ => pts_nil) (fun _ _ _ _ _ => by exact (pe_ix ix_tup (pv 12) pe_int (fun _ _ => rfl)))) (pe_lc (own := [("_law_pair", 12)]) (g := gName 12) (te := tOp (rIxT K) (tVar 12) (tC (.int 1))) (tt := tYes) rfl sc_helper_spoilt.nd (pi_list (pv 1)) (blkOk_by (own := [("_law_pair", 12)]) (N := ["_law_box_here", "_law_pairs_here", "_law_helpers_here", "_law_way", "_law_at", "_law_name_here", "_law_side", "_law_takes", "_law_gives", "_law_throws", "_law_words", "_law_more", "_law_pair", "_law_helper", "_law_spare"]) (sc := defScope s_helper_spoilt) (by decide +kernel)) (fun _ _ _ _ _ => pg_name (i := 12) sc_helper_spoilt.nd rfl (Or.inl rfl)) (fun _ _ _ _ _ => pts_nil) (fun _ _ _ _ _ => by exact (pe_ix ix_tup (pv 12) pe_int (fun _ _ => rfl))))))
      (C8.pss_cut (ps_if (pt_cmpR op_eq (pv 3) pe_int (nomark _)) (pss_one (ps_set (i := 5) sc_helper_spoilt.nd rfl (Or.inl rfl) (pe_call (ok_odd_word T) (hr.mono (by decide)) rfl T.g_odd_word T.k_odd_word T.B_odd_word .nil pass0 (pa_cons (pv 0) (pa_cons (pe_lc (own := [("_law_helper", 13)]) (g := gName 13) (te := tOp (rIxT K) (tVar 13) (tC (.int 0))) (tt := tYes) rfl sc_helper_spoilt.nd (pi_list (pv 2)) (blkOk_by (own := [("_law_helper", 13)]) (N := ["_law_box_here", "_law_pairs_here", "_law_helpers_here", "_law_way", "_law_at", "_law_name_here", "_law_side", "_law_takes", "_law_gives", "_law_throws", "_law_words", "_law_more", "_law_pair", "_law_helper", "_law_spare"]) (sc := defScope s_helper_spoilt) (by decide +kernel)) (fun _ _ _ _ _ => pg_name (i := 13) sc_helper_spoilt.nd rfl (Or.inl rfl)) (fun _ _ _ _ _ => pts_nil) (fun _ _ _ _ _ => by exact (pe_ix ix_tup (pv 13) pe_int (fun _ _ => rfl)))) pa_nil))))) pss_nil)
      (C8.pss_cut (ps_if (pt_cmpR op_eq (pv 3) pe_int (nomark _)) (pss_one (ps_set (i := 6) sc_helper_spoilt.nd rfl (Or.inr rfl) (pe_ix ix_list (pe_lst (pa_cons pe_int (pa_cons (pe_un un_neg pe_int) (pa_cons (pe_op op_sub pe_int (pv 6)) (pa_cons (pe_op op_pow pe_int pe_int) pa_nil))))) (pe_call (ok_take T) (hr.mono (by decide)) rfl T.g_take T.k_take T.B_take .nil pass0 (pa_cons (pv 0) (pa_cons pe_int pa_nil))) (fun _ _ => rfl)))) pss_nil)
      (C8.pss_cut (ps_if (pt_cmpR op_eq (pv 3) pe_int (nomark _)) (pss_one (ps_set (i := 7) sc_helper_spoilt.nd rfl (Or.inl rfl) (pe_slice sl_tupF (pe_op op_catF (pv 7) (pe_tupF (pa_cons pe_str (pa_cons pe_str (pa_cons pe_str (pa_cons pe_str pa_nil)))))) po_none (po_some pe_int)))) pss_nil)
      (C8.pss_cut (ps_if (pt_cmpR op_eq (pv 3) pe_int (nomark _)) (pss_one (ps_set (i := 7) sc_helper_spoilt.nd rfl (Or.inl rfl) (pe_slice sl_tupF (pe_op op_catF (pv 7) (pe_tupF (pa_cons (pe_ix ix_list (pe_lst (pa_cons pe_str (pa_cons pe_str (pa_cons pe_str (pa_cons pe_str pa_nil))))) (pe_call (ok_take T) (hr.mono (by decide)) rfl T.g_take T.k_take T.B_take .nil pass0 (pa_cons (pv 0) (pa_cons pe_int pa_nil))) (fun _ _ => rfl)) pa_nil))) (po_some (pe_un un_neg pe_int)) po_none))) pss_nil)
      (C8.pss_cut (ps_if (PW.pt (pw_and (pt_cmpR op_eq (pv 3) pe_int (nomark _)) (pw_and1 (pt_cmpR op_gt (pe_callB call_len_seq (by rfl) T.z_len (by decide +kernel) (pa_cons (pv 9) pa_nil)) pe_int (nomark _))))) (pss_one (ps_set (i := 9) sc_helper_spoilt.nd rfl (Or.inl rfl) (pe_op op_catF (pv 9) (pe_slice sl_tupF (pv 9) po_none (po_some pe_int))))) pss_nil)
      (C8.pss_cut (ps_if (pt_cmpR op_eq (pv 3) pe_int (nomark _)) (pss_one (ps_set (i := 9) sc_helper_spoilt.nd rfl (Or.inl rfl) (pe_slice sl_tupF (pe_op op_catF (pv 9) (pe_tupF (pa_cons (pe_call (ok_odd_word T) (hr.mono (by decide)) rfl T.g_odd_word T.k_odd_word T.B_odd_word .nil pass0 (pa_cons (pv 0) (pa_cons (pv 10) pa_nil))) pa_nil))) (po_some (pe_un un_neg pe_int)) po_none))) pss_nil)
      (C8.pss_cut (ps_if (pt_cmpR op_eq (pv 3) pe_int (nomark _)) (pss_one (ps_set (i := 9) sc_helper_spoilt.nd rfl (Or.inl rfl) (pe_callTy call_tupleF (by rfl) T.z_tuple (by decide +kernel) (pa_cons (pe_lc (own := [("_law_pair", 12)]) (g := gName 12) (te := tOp (rIxT K) (tVar 12) (tOp (rI (fun _ j => 0 < j) fun i j => .int (i % j)) (tVar 6) (tC (.int 2)))) (tt := tYes) rfl sc_helper_spoilt.nd (pi_list (pe_slice sl_list (pv 1) po_none (po_some pe_int))) (blkOk_by (own := [("_law_pair", 12)]) (N := ["_law_box_here", "_law_pairs_here", "_law_helpers_here", "_law_way", "_law_at", "_law_name_here", "_law_side", "_law_takes", "_law_gives", "_law_throws", "_law_words", "_law_more", "_law_pair", "_law_helper", "_law_spare"]) (sc := defScope s_helper_spoilt) (by decide +kernel)) (fun _ _ _ _ _ => pg_name (i := 12) sc_helper_spoilt.nd rfl (Or.inl rfl)) (fun _ _ _ _ _ => pts_nil) (fun _ _ _ _ _ => by exact (pe_ix ix_tup (pv 12) (pe_op op_mod (pv 6) pe_int) (fun _ _ => rfl)))) pa_nil)))) pss_nil)
      (pss_cons (ps_if (pt_cmpR op_eq (pv 3) pe_int (nomark _)) (pss_cons (ps_setLc (i := 11) (own := [("_law_spare", 14)]) (g := gName 14) (te := tTup (tCons (tVar 14) (tCons (tVar 6) (tCons (tTupF tNil) (tCons (tC (.bl false)) (tCons (tTupF tNil) tNil)))))) (tt := tYes) rfl sc_helper_spoilt.nd rfl rfl (sw_true rfl rfl rfl (by decide +kernel)) (pi_list (pe_lst (pa_cons pe_str (pa_cons pe_str (pa_cons pe_str (pa_cons pe_str pa_nil)))))) (blkOk_by (own := [("_law_spare", 14)]) (N := ["_law_box_here", "_law_pairs_here", "_law_helpers_here", "_law_way", "_law_at", "_law_name_here", "_law_side", "_law_takes", "_law_gives", "_law_throws", "_law_words", "_law_more", "_law_pair", "_law_helper", "_law_spare"]) (sc := defScope s_helper_spoilt) (by decide +kernel)) (fun _ _ _ _ _ => pg_name (i := 14) sc_helper_spoilt.nd rfl (Or.inl rfl)) (fun _ _ _ _ _ => pts_nil) (fun _ _ _ _ _ => by exact (pe_tup (pa_cons (pv 14) (pa_cons (pv 6) (pa_cons (pe_tupF pa_nil) (pa_cons pe_bl (pa_cons (pe_tupF pa_nil) pa_nil))))))))
      (pss_one (ps_ret (pe_op op_cat (pe_op op_cat (pe_slice sl_list (pv 2) po_none (po_some (pv 4))) (pe_slice sl_list (pv 11) po_none (po_some (pe_op op_add pe_int (pe_call (ok_take T) (hr.mono (by decide)) rfl T.g_take T.k_take T.B_take .nil pass0 (pa_cons (pv 0) (pa_cons pe_int pa_nil))))))) (pe_slice sl_list (pv 2) (po_some (pv 4)) po_none))))) pss_nil)
      (pss_one (ps_ret (pe_op op_cat (pe_op op_cat (pe_slice sl_list (pv 2) po_none (po_some (pv 4))) (pe_lst (pa_cons (pe_tup (pa_cons (pv 5) (pa_cons (pv 6) (pa_cons (pv 7) (pa_cons (pv 8) (pa_cons (pv 9) pa_nil)))))) pa_nil))) (pe_slice sl_list (pv 2) (po_some (pe_op op_add (pv 4) pe_int)) po_none)))))))))))))))), ?_⟩
    refine ⟨_, rfl, b, g, l, n, 8, rfl, bx, n0, by omega, by omega, by decide, fun way H1 w0 w1 bx1 kp1 => ?_⟩
    have hLh1 := kp1 _ _ hLh oLh
    refine ⟨_, rfl, _, rfl, Lh, _, rfl, .inl (SqL.of hLh1), ?_⟩
    have el : (((has.map V.ref).length : Nat) : Int) = (hs.length : Int) := by rw [List.length_map, hasl]
    rw [el]
    refine ⟨b, g, l, _, _, rfl, bx1, by omega, by omega, by omega, log_le (by omega), fun at_ H2 j0 j1 bx2 kp2 => ?_⟩
    have k2 := kp1.trans kp2
    have hLh2 := kp2 _ _ hLh1 oLh
    have hL2 := k2 _ _ hL oL
    have ob2 := ob.keepN k2 nt
    have crew2 := Crew.keep crew k2 nt
    obtain ⟨i, rfl⟩ : ∃ i : Nat, at_ = i := ⟨at_.toNat, by omega⟩
    have ha : has[i]? = some has[i] := List.getElem?_eq_getElem (by omega)
    obtain ⟨x, hx, hx2⟩ := AllAt.get crew2 ha
    generalize has[i] = h at ha hx2
    obtain ⟨tk, th, ex, etk, eth⟩ := id hx2
    obtain ⟨okx, xl⟩ := hhw _ (List.mem_of_getElem? hx)
    have hat : atI (has.map V.ref) (i : Int) = some (.ref h) := atI_nat (by rw [List.getElem?_map, ha]; rfl)
    refine ⟨_, rfl, _, rfl, _, _, _, _, rfl, rfl, SqL.of hLh2, hat, h, _, rfl, SqT.of ex, rfl, ?_⟩
    refine ⟨_, _, rfl, _, _, rfl, _, _, rfl, _, _, rfl, _, _, rfl, rfl, ?_⟩
    -- words
    refine ⟨_, rfl, L, rfl, ⟨_, SqL.of hL2⟩, fun D hD => ?_⟩
    refine words_comp (i := 0) ob2 hL2 hD (by omega) (fun _ => rfl) (fun h q H3 R hq hR => ⟨_, rfl, _, _, _, _, rfl, rfl, SqT.of hq, rfl, hR⟩) fun H3 s3 hD3 => ?_
    refine ⟨_, rfl, L, rfl, ⟨_, SqL.of (s3 _ _ hL2)⟩, fun G hG => ?_⟩
    refine words_comp (i := 1) (ob2.same s3) (s3 _ _ hL2) hG (by omega) (fun _ => rfl) (fun h q H3 R hq hR => ⟨_, rfl, _, _, _, _, rfl, rfl, SqT.of hq, rfl, hR⟩) fun H4 s4 hG4 => ?_
    refine ⟨D, G, _, _, rfl, rfl, s4 _ _ hD3, hG4, by rw [List.length_map, List.length_map, List.length_map, List.length_map]; exact small1 (by omega), fun W hW => ?_⟩
    rw [← List.map_append]
    have hwW : ∀ s, s ∈ ps.map (My.wd 0) ++ ps.map (My.wd 1) → WOk s := fun s hs => by
      rcases List.mem_append.mp hs with e | e
      · obtain ⟨q, hq, rfl⟩ := List.mem_map.mp e
        exact (hw q hq).1
      · obtain ⟨q, hq, rfl⟩ := List.mem_map.mp e
        exact (hw q hq).2
    have lW : (ps.map (My.wd 0) ++ ps.map (My.wd 1)).length ≤ 180 := by
      rw [List.length_append, List.length_map, List.length_map]
      omega
    generalize ps.map (My.wd 0) ++ ps.map (My.wd 1) = ws at hwW lW
    have s24 : Same H2 (upd H4 W (.lst (ws.map V.str))) := (s3.trans s4).trans ((Same.refl H4).upd hW)
    have oW := offbox bx2 ((s3.trans s4).free hW)
    have hW5 : (upd H4 W (.lst (ws.map V.str))) W = some (.lst (ws.map V.str)) := upd_same
    show _
    generalize (upd H4 W (.lst (ws.map V.str))) = H5 at s24 hW5
    have k5 : Keeps [b, g] H H5 := k2.trans (Same.keeps s24)
    have hL5 := s24 _ _ hL2
    have hLh5 := s24 _ _ hLh2
    have ob5 := ob2.same s24
    have crew5 := Crew.same crew2 s24
    have nt5 := box_notup (bx2.same s24)
    have st : SpoilSt H5 H5 b g l tk th (n + 1 + 1) x := ⟨bx2.same s24, Keeps.refl _ _, etk.same s24, eth.same s24, okx⟩
    clear hW hD hG hD3 hG4 s3 s4 ex etk eth hx2 hL2 hLh2 hLh1
    refine ⟨SpMid H5 b g l L Lh W way i (n + 1 + 1) 2 k, ?_, ?_⟩
    · refine ⟨_, rfl, rfl, _, rfl, ?_⟩
      refine iteD (fun c => ?_) (fun c => ?_)
      · refine ⟨_, rfl, _, rfl, Lh, rfl, ⟨_, SqL.of hLh5⟩, fun D hD => ?_⟩
        refine names_comp crew5 hLh5 hD (by omega) (fun _ => rfl) (fun h x H3 R hx hR => by
          obtain ⟨tk, th, e, _⟩ := hx
          exact ⟨_, rfl, _, _, _, _, rfl, rfl, SqT.of e, rfl, hR⟩) fun H6 s6 hD6 => ?_
        have st6 := st.same s6
        refine ⟨b, g, l, D, _, _, rfl, st6.bx, by omega, by omega, hD6, offbox st.bx hD, by rw [List.length_map]; omega, fun s hs => ?_, fun s n' H7 ws a1 a2 bx7 kp7 => ?_⟩
        · obtain ⟨q, hq, rfl⟩ := List.mem_map.mp hs
          exact (hhw q hq).1.nm
        · have st7 := st6.box bx7 kp7
          exact Blk.of ⟨{ x with name := s }, tk, th, n', rfl, ⟨st7.bx, st7.kp, st7.tk, st7.th, { st.ok with nm := ws }⟩, xl, by omega, by omega⟩
      · exact Blk.of ⟨x, tk, th, _, rfl, st, by omega, by omega, by omega⟩
    clear st xl
    rintro σ H6 hB
    obtain ⟨x, tk, th, n6, rfl, st, xl, a6, b6⟩ := Blk.out hB
    have hL6 := st.kp _ _ hL5 oL
    have hLh6 := st.kp _ _ hLh5 oLh
    have hW6 := st.kp _ _ hW5 oW
    have ob6 := ob5.keepN st.kp nt5
    have crew6 := Crew.keep crew5 st.kp nt5
    refine ⟨SpMid H5 b g l L Lh W way i (n + 1 + 1) 4 k, ?_, ?_⟩
    · refine ⟨_, rfl, rfl, _, rfl, ?_⟩
      refine iteD (fun c => ?_) (fun c => ?_)
      · walk_at "rd"
        refine ⟨⟨by decide, by decide, by decide⟩, ?_⟩
        refine ⟨by show 4 ≤ sizeLine; decide, fun M hM => ?_⟩
        have stM := st.same ((Same.refl H6).upd (o := .lst [.int 2, .int (-1), .int (1 - x.side), .int (10 ^ Int.toNat 39)]) hM)
        have oM := offbox st.bx hM
        refine ⟨_, rfl, b, g, l, n6, 4, rfl, stM.bx, by omega, by omega, by decide, by decide, fun k2 H7 k0 k1 bx7 kp7 => ?_⟩
        have st7 := stM.box bx7 kp7
        have hM7 := kp7 _ _ upd_same oM
        have ok7 : ∀ z : Int, HrOk { x with side := z } := fun z => ⟨st.ok.nm, st.ok.tl, st.ok.tk, st.ok.hl, st.ok.th⟩
        have cs : k2 = 0 ∨ k2 = 1 ∨ k2 = 2 ∨ k2 = 3 := by omega
        rcases cs with rfl | rfl | rfl | rfl
        · exact ⟨M, _, _, _, rfl, rfl, SqL.of hM7, rfl, Blk.of ⟨{ x with side := 2 }, tk, th, _, rfl, ⟨st7.bx, st7.kp, st7.tk, st7.th, ok7 _⟩, xl, by omega, by omega⟩⟩
        · exact ⟨M, _, _, _, rfl, rfl, SqL.of hM7, rfl, Blk.of ⟨{ x with side := -1 }, tk, th, _, rfl, ⟨st7.bx, st7.kp, st7.tk, st7.th, ok7 _⟩, xl, by omega, by omega⟩⟩
        · exact ⟨M, _, _, _, rfl, rfl, SqL.of hM7, rfl, Blk.of ⟨{ x with side := 1 - x.side }, tk, th, _, rfl, ⟨st7.bx, st7.kp, st7.tk, st7.th, ok7 _⟩, xl, by omega, by omega⟩⟩
        · exact ⟨M, _, _, _, rfl, rfl, SqL.of hM7, rfl, Blk.of ⟨{ x with side := 10 ^ Int.toNat 39 }, tk, th, _, rfl, ⟨st7.bx, st7.kp, st7.tk, st7.th, ok7 _⟩, xl, by omega, by omega⟩⟩
      · exact Blk.of ⟨x, tk, th, n6, rfl, st, by omega, by omega, by omega⟩
    clear st xl
    rintro σ H6 hB
    obtain ⟨x, tk, th, n6, rfl, st, xl, a6, b6⟩ := Blk.out hB
    have hL6 := st.kp _ _ hL5 oL
    have hLh6 := st.kp _ _ hLh5 oLh
    have hW6 := st.kp _ _ hW5 oW
    have ob6 := ob5.keepN st.kp nt5
    have crew6 := Crew.keep crew5 st.kp nt5
    refine ⟨SpMid H5 b g l L Lh W way i (n + 1 + 1) 6 k, ?_, ?_⟩
    · refine ⟨_, rfl, rfl, _, rfl, ?_⟩
      refine iteD (fun c => ?_) (fun c => ?_)
      · have tl := st.ok.tl
        refine ⟨_, rfl, by show 4 ≤ sizeLine; decide, fun t1 ob1 ht1 hd1 => ?_⟩
        have s7 : Same H6 (upd H6 t1 (.frz ob1 (.tup [.str "lent", .str "given", .str "lent", .str "given"]))) := (Same.refl H6).upd ht1
        refine ⟨tk, t1, _, _, rfl, rfl, (st.same s7).tk, ⟨ob1, hd1, upd_same⟩, by rw [List.length_map]; exact small1 (by simp; omega), fun p H8 s8 e8 => ?_⟩
        have e8' : TupF H8 p ((x.takes ++ lg4).map V.str) := by rw [List.map_append]; exact e8
        walk_at "rd"
        refine ⟨p, _, rfl, e8', fun p2 H9 s9 e9 => ?_⟩
        have e9' : TupF H9 p2 (((x.takes ++ lg4).take 4).map V.str) := by
          rw [← cut_upto]
          exact e9
        have st9 := (((st.same s7).same s8).same s9)
        refine Blk.of ⟨{ x with takes := (x.takes ++ lg4).take 4 }, p2, th, n6, rfl, ⟨st9.bx, st9.kp, e9', st9.th, ⟨st.ok.nm, ?_, ?_, st.ok.hl, st.ok.th⟩⟩, xl, by omega, by omega⟩
        · show ((x.takes ++ lg4).take 4).length ≤ 8
          rw [List.length_take]
          omega
        · intro u hu
          rcases List.mem_append.mp (List.mem_of_mem_take hu) with e | e
          · exact st.ok.tk u e
          · exact lg4_wok u e
      · exact Blk.of ⟨x, tk, th, n6, rfl, st, by omega, by omega, by omega⟩
    clear st xl
    rintro σ H6 hB
    obtain ⟨x, tk, th, n6, rfl, st, xl, a6, b6⟩ := Blk.out hB
    have hL6 := st.kp _ _ hL5 oL
    have hLh6 := st.kp _ _ hLh5 oLh
    have hW6 := st.kp _ _ hW5 oW
    have ob6 := ob5.keepN st.kp nt5
    have crew6 := Crew.keep crew5 st.kp nt5
    refine ⟨SpMid H5 b g l L Lh W way i (n + 1 + 1) 8 k, ?_, ?_⟩
    · refine ⟨_, rfl, rfl, _, rfl, ?_⟩
      refine iteD (fun c => ?_) (fun c => ?_)
      · have tl := st.ok.tl
        refine ⟨_, rfl, by show 4 ≤ sizeLine; decide, fun M hM => ?_⟩
        have stM := st.same ((Same.refl H6).upd (o := .lst (odd4.map V.str)) hM)
        have oM := offbox st.bx hM
        refine ⟨_, rfl, b, g, l, n6, 4, rfl, stM.bx, by omega, by omega, by decide, by decide, fun k2 H7 k0 k1 bx7 kp7 => ?_⟩
        have st7 := stM.box bx7 kp7
        have hM7 : H7 M = some (.lst (odd4.map V.str)) := kp7 _ _ upd_same oM
        obtain ⟨s, hs, hm⟩ := pick_str (ws := odd4) k0 (by have : (odd4.length : Int) = 4 := by decide +kernel
                                                           omega)
        refine ⟨M, _, _, _, rfl, rfl, SqL.of hM7, hs, by show 1 ≤ sizeLine; decide, fun t1 ob1 ht1 hd1 => ?_⟩
        have s8 : Same H7 (upd H7 t1 (.frz ob1 (.tup [.str s]))) := (Same.refl H7).upd ht1
        refine ⟨tk, t1, _, _, rfl, rfl, (st7.same s8).tk, ⟨ob1, hd1, upd_same⟩, by rw [List.length_map]; exact small1 (by simp; omega), fun p H9 s9 e9 => ?_⟩
        have e9' : TupF H9 p ((x.takes ++ [s]).map V.str) := by rw [List.map_append]; exact e9
        walk_at "rd"
        refine ⟨p, _, rfl, e9', fun p2 HA sA eA => ?_⟩
        obtain ⟨us, eu, ul, um⟩ := cut_part (x.takes ++ [s]) (some (-3)) none
        have lu := cut_last (x.takes ++ [s]) 3 (by decide)
        have eA' : TupF HA p2 (us.map V.str) := by rw [← eu]; exact eA
        have lu' : us.length ≤ 3 := by
          have : (cutV ((x.takes ++ [s]).map V.str) (some (-3)) none).length ≤ 3 := lu
          rw [eu, List.length_map] at this
          exact this
        have stA := (((st7.same s8).same s9).same sA)
        refine Blk.of ⟨{ x with takes := us }, p2, th, _, rfl, ⟨stA.bx, stA.kp, eA', stA.th, ⟨st.ok.nm, ?_, ?_, st.ok.hl, st.ok.th⟩⟩, xl, by omega, by omega⟩
        · show us.length ≤ 8
          omega
        · intro u hu
          rcases List.mem_append.mp (um u hu) with e | e
          · exact st.ok.tk u e
          · simp at e; subst e; exact odd4_wok _ hm
      · exact Blk.of ⟨x, tk, th, n6, rfl, st, by omega, by omega, by omega⟩
    clear st xl
    rintro σ H6 hB
    obtain ⟨x, tk, th, n6, rfl, st, xl, a6, b6⟩ := Blk.out hB
    have hL6 := st.kp _ _ hL5 oL
    have hLh6 := st.kp _ _ hLh5 oLh
    have hW6 := st.kp _ _ hW5 oW
    have ob6 := ob5.keepN st.kp nt5
    have crew6 := Crew.keep crew5 st.kp nt5
    refine ⟨SpMid H5 b g l L Lh W way i (n + 1 + 1) 8 (k + 1), ?_, ?_⟩
    · refine ⟨_, rfl, rfl, _, rfl, ?_⟩
      refine iteD (fun c => ?_) (fun c => ?_)
      · refine ⟨_, rfl, th, _, rfl, .inr st.th.seq, _, _, rfl, rfl, _, rfl, ?_⟩
        refine iteD (fun d => ?_) (fun d => ?_)
        · walk_at "rd"
          refine ⟨th, _, rfl, st.th, fun p1 H7 s7 e7 => ?_⟩
          have e7' : TupF H7 p1 ((x.throws.take 1).map V.str) := by
            rw [← cut_upto]
            exact e7
          refine ⟨th, p1, _, _, rfl, rfl, (st.same s7).th, e7', by rw [List.length_map, List.length_map, List.length_take]; exact small1 (by omega), fun p H8 s8 e8 => ?_⟩
          have e8' : TupF H8 p ((x.throws ++ x.throws.take 1).map V.str) := by rw [List.map_append]; exact e8
          have st8 := (st.same s7).same s8
          have hlen : (x.throws ++ x.throws.take 1).length ≤ k + 1 := by
            rw [List.length_append, List.length_take]
            omega
          refine Blk.of ⟨{ x with throws := x.throws ++ x.throws.take 1 }, tk, p, n6, rfl, ⟨st8.bx, st8.kp, st8.tk, e8', ⟨st.ok.nm, st.ok.tl, st.ok.tk, ?_, ?_⟩⟩, hlen, by omega, by omega⟩
          · show (x.throws ++ x.throws.take 1).length ≤ 8
            omega
          · intro u hu
            rcases List.mem_append.mp hu with e | e
            · exact st.ok.th u e
            · exact st.ok.th u (List.mem_of_mem_take e)
        · exact Blk.of ⟨x, tk, th, n6, rfl, st, by omega, by omega, by omega⟩
      · exact Blk.of ⟨x, tk, th, n6, rfl, st, by omega, by omega, by omega⟩
    clear st xl
    rintro σ H6 hB
    obtain ⟨x, tk, th, n6, rfl, st, xl, a6, b6⟩ := Blk.out hB
    have hL6 := st.kp _ _ hL5 oL
    have hLh6 := st.kp _ _ hLh5 oLh
    have hW6 := st.kp _ _ hW5 oW
    have ob6 := ob5.keepN st.kp nt5
    have crew6 := Crew.keep crew5 st.kp nt5
    refine ⟨SpMid H5 b g l L Lh W way i (n + 1 + 1) 12 (k + 1), ?_, ?_⟩
    · refine ⟨_, rfl, rfl, _, rfl, ?_⟩
      refine iteD (fun c => ?_) (fun c => ?_)
      · have tl := st.ok.hl
        refine ⟨_, rfl, _, rfl, _, rfl, b, g, l, W, n6, ws, rfl, st.bx, by omega, by omega, hW6, oW, by omega, hwW, fun s n7 H7 wsok a1 a2 bx7 kp7 => ?_⟩
        have st7 := st.box bx7 kp7
        refine ⟨by show 1 ≤ sizeLine; decide, fun t1 ob1 ht1 hd1 => ?_⟩
        have s8 : Same H7 (upd H7 t1 (.frz ob1 (.tup [.str s]))) := (Same.refl H7).upd ht1
        refine ⟨th, t1, _, _, rfl, rfl, (st7.same s8).th, ⟨ob1, hd1, upd_same⟩, by rw [List.length_map]; exact small1 (by simp; omega), fun p H9 s9 e9 => ?_⟩
        have e9' : TupF H9 p ((x.throws ++ [s]).map V.str) := by rw [List.map_append]; exact e9
        walk_at "rd"
        refine ⟨p, _, rfl, e9', fun p2 HA sA eA => ?_⟩
        obtain ⟨us, eu, ul, um⟩ := cut_part (x.throws ++ [s]) (some (-4)) none
        have lu := cut_last (x.throws ++ [s]) 4 (by decide)
        have eA' : TupF HA p2 (us.map V.str) := by rw [← eu]; exact eA
        have lu' : us.length ≤ 4 := by
          have : (cutV ((x.throws ++ [s]).map V.str) (some (-4)) none).length ≤ 4 := lu
          rw [eu, List.length_map] at this
          exact this
        have stA := (((st7.same s8).same s9).same sA)
        have hlen : us.length ≤ k + 1 := by omega
        refine Blk.of ⟨{ x with throws := us }, tk, p2, _, rfl, ⟨stA.bx, stA.kp, stA.tk, eA', ⟨st.ok.nm, st.ok.tl, st.ok.tk, ?_, ?_⟩⟩, hlen, by omega, by omega⟩
        · show us.length ≤ 8
          omega
        · intro u hu
          rcases List.mem_append.mp (um u hu) with e | e
          · exact st.ok.th u e
          · simp at e; subst e; exact wsok
      · exact Blk.of ⟨x, tk, th, n6, rfl, st, by omega, by omega, by omega⟩
    clear st xl
    rintro σ H6 hB
    obtain ⟨x, tk, th, n6, rfl, st, xl, a6, b6⟩ := Blk.out hB
    have hL6 := st.kp _ _ hL5 oL
    have hLh6 := st.kp _ _ hLh5 oLh
    have hW6 := st.kp _ _ hW5 oW
    have ob6 := ob5.keepN st.kp nt5
    have crew6 := Crew.keep crew5 st.kp nt5
    refine ⟨SpMid H5 b g l L Lh W way i (n + 1 + 1) 14 (k + 1), ?_, ?_⟩
    · refine ⟨_, rfl, rfl, _, rfl, ?_⟩
      refine iteD (fun c => ?_) (fun c => ?_)
      · walk_at "rd"
        refine ⟨L, _, rfl, SqL.of hL6, fun p1 hp1 => ?_⟩
        rw [show (some (5 : Int)) = some ((5 : Nat) : Int) from rfl, cut_to, ← List.map_take]
        have s7 : Same H6 (upd H6 p1 (.lst ((as.take 5).map V.ref))) := (Same.refl H6).upd hp1
        have e1 : (upd H6 p1 (.lst ((as.take 5).map V.ref))) p1 = some (.lst ((as.take 5).map V.ref)) := upd_same
        show _
        generalize (upd H6 p1 (.lst ((as.take 5).map V.ref))) = H7 at s7 e1
        have si : x.side % 2 = 0 ∨ x.side % 2 = 1 := by omega
        refine ⟨p1, rfl, ⟨_, SqL.of e1⟩, fun D hD => ?_⟩
        refine words_comp (i := x.side % 2) ((ob6.same s7).take 5) e1 hD (by rw [List.length_take]; omega) (fun _ => rfl) (fun h q H8 R hq hR => ⟨_, rfl, _, rfl, _, _, rfl, rfl, (by show (0 : Int) < 2; decide), _, _, _, _, rfl, rfl, SqT.of hq, wd_at2 si q, hR⟩) fun H8 s8 hD8 => ?_
        refine ⟨D, _, rfl, SqL.of hD8, fun th2 ob2 hth hd2 => ?_⟩
        have st9 := ((st.same s7).same s8).same ((Same.refl H8).upd (o := .frz ob2 (.tup (((ps.take 5).map (My.wd (x.side % 2))).map V.str))) hth)
        have hlen : ((ps.take 5).map (My.wd (x.side % 2))).length ≤ k + 1 := by
          rw [List.length_map, List.length_take]
          omega
        refine Blk.of ⟨{ x with throws := (ps.take 5).map (My.wd (x.side % 2)) }, tk, th2, n6, rfl, ⟨st9.bx, st9.kp, st9.tk, ⟨ob2, hd2, upd_same⟩, ⟨st.ok.nm, st.ok.tl, st.ok.tk, ?_, ?_⟩⟩, hlen, by omega, by omega⟩
        · show ((ps.take 5).map (My.wd (x.side % 2))).length ≤ 8
          omega
        · intro u hu
          obtain ⟨q, hq, rfl⟩ := List.mem_map.mp hu
          have := hw q (List.mem_of_mem_take hq)
          unfold My.wd
          split
          · exact this.1
          · exact this.2
      · exact Blk.of ⟨x, tk, th, n6, rfl, st, by omega, by omega, by omega⟩
    clear st xl
    rintro σ H6 hB
    obtain ⟨x, tk, th, n6, rfl, st, xl, a6, b6⟩ := Blk.out hB
    have hL6 := st.kp _ _ hL5 oL
    have hLh6 := st.kp _ _ hLh5 oLh
    have hW6 := st.kp _ _ hW5 oW
    have ob6 := ob5.keepN st.kp nt5
    have crew6 := Crew.keep crew5 st.kp nt5
    refine ⟨_, rfl, rfl, _, rfl, ?_⟩
    refine iteD (fun c => ?_) (fun c => ?_)
    · -- some more ahead of it
      refine ⟨by show 4 ≤ sizeLine; decide, fun M hM => ?_⟩
      have s7 : Same H6 (upd H6 M (.lst [.str "qp", .str "qr", .str "qs", .str "qt"])) := (Same.refl H6).upd hM
      have hM7 : (upd H6 M (.lst [.str "qp", .str "qr", .str "qs", .str "qt"])) M = some (.lst (sp4.map V.str)) := upd_same
      refine ⟨M, rfl, ⟨_, SqL.of hM7⟩, fun D hD => ?_⟩
      have hDu : (upd H6 M (.lst [.str "qp", .str "qr", .str "qs", .str "qt"])) D = none := hD
      show _
      have st7 := st.same s7
      generalize (upd H6 M (.lst [.str "qp", .str "qr", .str "qs", .str "qt"])) = H7 at s7 hM7 hDu st7
      have nMD : M ≠ D := ne_of_none hM7 hDu
      refine lc_list (K := K) (a := M) (xs := sp4.map V.str) (fun j H8 => Blk (∃ ms : List Addr, H8 D = some (.lst (ms.map V.ref)) ∧ Crew H8 ms ((sp4.take j).map fun s => (⟨s, x.side, [], false, []⟩ : Hr)) ∧ Same H7 H8)) (Blk.of ⟨[], upd_same, AllAt.nil, (Same.refl H7).upd hDu⟩) (fun j H8 _ hB => ?_) ?_ ?_
      · obtain ⟨ms, _, _, s8⟩ := hB.out
        exact SqL.of (s8 _ _ hM7)
      · intro j y H8 hj hB
        obtain ⟨ms, hD8, cr8, s8⟩ := hB.out
        obtain ⟨s, hs, rfl⟩ := strs_get hj
        have hj4 : j < 4 := get_lt hs
        refine ⟨rfl, ?_⟩
        dsimp only [tYes]
        refine iteT ?_
        refine ⟨_, rfl, _, rfl, by show 0 ≤ sizeLine; decide, fun t1 o1 ht1 hd1 => ?_⟩
        have a1 : Same H8 (upd H8 t1 (.frz o1 (.tup []))) := (Same.refl H8).upd ht1
        have x1 : TupF (upd H8 t1 (.frz o1 (.tup []))) t1 [] := ⟨o1, hd1, upd_same⟩
        show _
        generalize (upd H8 t1 (.frz o1 (.tup []))) = G1 at a1 x1
        refine ⟨by show 0 ≤ sizeLine; decide, fun t2 o2 ht2 hd2 => ?_⟩
        have a2 : Same G1 (upd G1 t2 (.frz o2 (.tup []))) := (Same.refl G1).upd ht2
        have x2 : TupF (upd G1 t2 (.frz o2 (.tup []))) t2 [] := ⟨o2, hd2, upd_same⟩
        show _
        generalize (upd G1 t2 (.frz o2 (.tup []))) = G2 at a2 x2
        refine ⟨by show 5 ≤ sizeLine; decide, fun t3 ht3 => ?_⟩
        have a3 : Same G2 (upd G2 t3 (.tup [.str s, .int x.side, .ref t1, .bl false, .ref t2])) := (Same.refl G2).upd ht3
        have x3 : HrAt (upd G2 t3 (.tup [.str s, .int x.side, .ref t1, .bl false, .ref t2])) t3 ⟨s, x.side, [], false, []⟩ := ⟨t1, t2, upd_same, (x1.same a2).same a3, x2.same a3⟩
        show _
        generalize (upd G2 t3 (.tup [.str s, .int x.side, .ref t1, .bl false, .ref t2])) = G3 at a3 x3
        have a13 := (a1.trans a2).trans a3
        have hD9 := a13 _ _ hD8
        have ml : ms.length ≤ 4 := by
          have := AllAt.len cr8
          rw [List.length_map, List.length_take] at this
          omega
        refine ⟨_, hD9, by rw [List.length_map]; exact small (by omega), Blk.of ⟨ms ++ [t3], ?_, ?_, ?_⟩⟩
        · rw [upd_same, List.map_append]; rfl
        · rw [take_snoc hs, List.map_append]
          have kD : ∀ o, Keeps [D] G3 (upd G3 D o) := fun o => (Keeps.refl _ G3).upd (.inl (by simp))
          exact (Crew.keep (Crew.same cr8 a13) (kD _) (NoTup.lst hD9)).append (AllAt.one (x3.keep (kD _) (NoTup.lst hD9)))
        · exact (s8.trans a13).upd hDu
      intro H8 hB
      obtain ⟨ms, hD8, cr8, s8⟩ := hB.out
      have e4 : (sp4.map V.str).length = 4 := rfl
      rw [e4, List.take_of_length_le (by show 4 ≤ 4; omega)] at cr8
      have st8 := st7.same s8
      have mlen := AllAt.len cr8
      have mok : ∀ z, z ∈ sp4.map (fun s => (⟨s, x.side, [], false, []⟩ : Hr)) → HrOk z ∧ z.throws.length ≤ k + 1 := fun z hz => by
        obtain ⟨s, hs, rfl⟩ := List.mem_map.mp hz
        exact ⟨⟨sp4_wok s hs, by show 0 ≤ 8; omega, fun t ht => absurd ht (by simp), by show 0 ≤ 8; omega, fun t ht => absurd ht (by simp)⟩, by show 0 ≤ k + 1; omega⟩
      have mlen2 : (sp4.map (fun s => (⟨s, x.side, [], false, []⟩ : Hr))).length = 4 := rfl
      generalize sp4.map (fun s => (⟨s, x.side, [], false, []⟩ : Hr)) = zs at cr8 mlen mok mlen2
      have oD := offbox st7.bx hDu
      have s68 := s7.trans s8
      walk_at "rd"
      refine ⟨Lh, _, rfl, SqL.of (s68 _ _ hLh6), fun p1 hp1 => ?_⟩
      rw [cut_to, ← List.map_take]
      have s89 : Same H8 (upd H8 p1 (.lst ((has.take i).map V.ref))) := (Same.refl H8).upd hp1
      have e1 : (upd H8 p1 (.lst ((has.take i).map V.ref))) p1 = some (.lst ((has.take i).map V.ref)) := upd_same
      have o1 := offbox st8.bx hp1
      show _
      generalize (upd H8 p1 (.lst ((has.take i).map V.ref))) = H9 at s89 e1
      have st9 := st8.same s89
      have nt9 := box_notup st9.bx
      refine ⟨_, rfl, _, rfl, b, g, l, n6, 4, rfl, st9.bx, by omega, by omega, by decide, by decide, fun k2 HA k0 k1 bxA kpA => ?_⟩
      have stA := st9.box bxA kpA
      have crA := Crew.keep (Crew.same crew6 (s68.trans s89)) kpA nt9
      have crMA := Crew.keep (Crew.same cr8 s89) kpA nt9
      have hLhA := kpA _ _ ((s68.trans s89) _ _ hLh6) oLh
      have hDA := kpA _ _ (s89 _ _ hD8) oD
      have e1A := kpA _ _ e1 o1
      obtain ⟨m, rfl⟩ : ∃ m : Nat, k2 = m := ⟨k2.toNat, by omega⟩
      walk_at "rd"
      refine ⟨D, _, rfl, SqL.of hDA, fun p2 hp2 => ?_⟩
      have em : (1 : Int) + (m : Int) = ((m + 1 : Nat) : Int) := by omega
      rw [em, cut_to, ← List.map_take]
      have sAB : Same HA (upd HA p2 (.lst ((ms.take (m + 1)).map V.ref))) := (Same.refl HA).upd hp2
      have e2 : (upd HA p2 (.lst ((ms.take (m + 1)).map V.ref))) p2 = some (.lst ((ms.take (m + 1)).map V.ref)) := upd_same
      show _
      generalize (upd HA p2 (.lst ((ms.take (m + 1)).map V.ref))) = HB at sAB e2
      have tl : (ms.take (m + 1)).length ≤ 4 := by rw [List.length_take]; omega
      have crMB := AllAt.take (Crew.same crMA sAB) (m + 1)
      have zl : (zs.take (m + 1)).length ≤ 4 := by rw [List.length_take]; omega
      have zw : ∀ z, z ∈ zs.take (m + 1) → HrOk z ∧ z.throws.length ≤ k + 1 := fun z hz => mok z (List.mem_of_mem_take hz)
      generalize ms.take (m + 1) = mm at e2 tl crMB
      generalize zs.take (m + 1) = qs at zl zw crMB
      refine ⟨p1, p2, _, _, rfl, rfl, sAB _ _ e1A, e2, by rw [List.length_map, List.length_map, List.length_take]; exact small1 (by omega), fun p3 hp3 => ?_⟩
      rw [← List.map_append]
      have sBC : Same HB (upd HB p3 (.lst ((has.take i ++ mm).map V.ref))) := (Same.refl HB).upd hp3
      have e3 : (upd HB p3 (.lst ((has.take i ++ mm).map V.ref))) p3 = some (.lst ((has.take i ++ mm).map V.ref)) := upd_same
      show _
      generalize (upd HB p3 (.lst ((has.take i ++ mm).map V.ref))) = HC at sBC e3
      have sAC := sAB.trans sBC
      walk_at "rd"
      refine ⟨Lh, _, rfl, SqL.of (sAC _ _ hLhA), fun p4 hp4 => ?_⟩
      rw [cut_from, ← List.map_drop]
      have sCD : Same HC (upd HC p4 (.lst ((has.drop i).map V.ref))) := (Same.refl HC).upd hp4
      have e4 : (upd HC p4 (.lst ((has.drop i).map V.ref))) p4 = some (.lst ((has.drop i).map V.ref)) := upd_same
      show _
      generalize (upd HC p4 (.lst ((has.drop i).map V.ref))) = HD at sCD e4
      have sAD := sAC.trans sCD
      refine ⟨p3, p4, _, _, rfl, rfl, sCD _ _ e3, e4, by rw [List.length_map, List.length_map, List.length_append, List.length_take, List.length_drop]; exact small1 (by omega), fun p5 hp5 => ?_⟩
      rw [← List.map_append]
      have sDE : Same HD (upd HD p5 (.lst ((has.take i ++ mm ++ has.drop i).map V.ref))) := (Same.refl HD).upd hp5
      have stE := (stA.same sAD).same sDE
      have crE := Crew.same crA (sAD.trans sDE)
      refine kk p5 (has.take i ++ mm ++ has.drop i) (hs.take i ++ qs ++ hs.drop i) (n6 + 1) _ ?_ upd_same (((AllAt.take crE i).append (Crew.same crMB ((sBC.trans sCD).trans sDE))).append (AllAt.drop crE i)) ?_ ?_ (by omega) (by omega) stE.bx (k5.trans stE.kp)
      · have f5 : HA p5 = none := sAD.free hp5
        rcases (k5.trans stA.kp).fresh f5 with q | q
        · exact absurd q (offbox stA.bx f5)
        · exact q
      · rw [List.length_append, List.length_append, List.length_take, List.length_drop]
        omega
      · intro q hq
        rcases List.mem_append.mp hq with hq | hq
        · rcases List.mem_append.mp hq with hq | hq
          · have := hhw q (List.mem_of_mem_take hq)
            exact ⟨this.1, by omega⟩
          · exact zw q hq
        · have := hhw q (List.mem_of_mem_drop hq)
          exact ⟨this.1, by omega⟩
    walk_at "rd"
    refine ⟨Lh, _, rfl, SqL.of hLh6, fun p1 hp1 => ?_⟩
    rw [cut_to, ← List.map_take]
    have s67 : Same H6 (upd H6 p1 (.lst ((has.take i).map V.ref))) := (Same.refl H6).upd hp1
    have e1 : (upd H6 p1 (.lst ((has.take i).map V.ref))) p1 = some (.lst ((has.take i).map V.ref)) := upd_same
    show _
    generalize (upd H6 p1 (.lst ((has.take i).map V.ref))) = H7 at s67 e1
    have st7 := st.same s67
    refine ⟨_, rfl, _, rfl, _, rfl, _, rfl, _, rfl, by show 5 ≤ sizeLine; decide, fun t1 ht1 => ?_⟩
    have s78 : Same H7 (upd H7 t1 (.tup [.str x.name, .int x.side, .ref tk, .bl x.gives, .ref th])) := (Same.refl H7).upd ht1
    have x1 : HrAt (upd H7 t1 (.tup [.str x.name, .int x.side, .ref tk, .bl x.gives, .ref th])) t1 x := ⟨tk, th, upd_same, (st7.same s78).tk, (st7.same s78).th⟩
    show _
    generalize (upd H7 t1 (.tup [.str x.name, .int x.side, .ref tk, .bl x.gives, .ref th])) = H8 at s78 x1
    refine ⟨by show 1 ≤ sizeLine; decide, fun p2 hp2 => ?_⟩
    have s89 : Same H8 (upd H8 p2 (.lst [.ref t1])) := (Same.refl H8).upd hp2
    have e2 : (upd H8 p2 (.lst [.ref t1])) p2 = some (.lst ([t1].map V.ref)) := upd_same
    show _
    generalize (upd H8 p2 (.lst [.ref t1])) = H9 at s89 e2
    refine ⟨p1, p2, _, _, rfl, rfl, s89 _ _ (s78 _ _ e1), e2, by rw [List.length_map, List.length_map, List.length_take]; exact small1 (by simp; omega), fun p3 hp3 => ?_⟩
    rw [← List.map_append]
    have s9A : Same H9 (upd H9 p3 (.lst ((has.take i ++ [t1]).map V.ref))) := (Same.refl H9).upd hp3
    have e3 : (upd H9 p3 (.lst ((has.take i ++ [t1]).map V.ref))) p3 = some (.lst ((has.take i ++ [t1]).map V.ref)) := upd_same
    show _
    generalize (upd H9 p3 (.lst ((has.take i ++ [t1]).map V.ref))) = HA at s9A e3
    have s6A := ((s67.trans s78).trans s89).trans s9A
    walk_at "rd"
    refine ⟨Lh, _, rfl, SqL.of (s6A _ _ hLh6), fun p4 hp4 => ?_⟩
    have ei : (i : Int) + 1 = ((i + 1 : Nat) : Int) := by omega
    rw [ei, cut_from, ← List.map_drop]
    have sAB : Same HA (upd HA p4 (.lst ((has.drop (i + 1)).map V.ref))) := (Same.refl HA).upd hp4
    have e4 : (upd HA p4 (.lst ((has.drop (i + 1)).map V.ref))) p4 = some (.lst ((has.drop (i + 1)).map V.ref)) := upd_same
    show _
    generalize (upd HA p4 (.lst ((has.drop (i + 1)).map V.ref))) = HB at sAB e4
    have s6B := s6A.trans sAB
    refine ⟨p3, p4, _, _, rfl, rfl, sAB _ _ e3, e4, by rw [List.length_map, List.length_map, List.length_append, List.length_take, List.length_drop]; exact small1 (by simp; omega), fun p5 hp5 => ?_⟩
    rw [← List.map_append]
    have sBC : Same HB (upd HB p5 (.lst ((has.take i ++ [t1] ++ has.drop (i + 1)).map V.ref))) := (Same.refl HB).upd hp5
    have s6C := s6B.trans sBC
    have stC := st.same s6C
    have crC := Crew.same crew6 s6C
    refine kk p5 (has.take i ++ [t1] ++ has.drop (i + 1)) (hs.take i ++ [x] ++ hs.drop (i + 1)) n6 _ ?_ upd_same (((AllAt.take crC i).append (AllAt.one (x1.same (((s89.trans s9A).trans sAB).trans sBC)))).append (AllAt.drop crC (i + 1))) ?_ ?_ (by omega) (by omega) stC.bx (k5.trans stC.kp)
    · have f5 : H6 p5 = none := s6B.free hp5
      rcases (k5.trans st.kp).fresh f5 with q | q
      · exact absurd q (offbox st.bx f5)
      · exact q
    · rw [List.length_append, List.length_append, List.length_take, List.length_drop]
      simp
      omega
    · intro q hq
      rcases List.mem_append.mp hq with hq | hq
      · rcases List.mem_append.mp hq with hq | hq
        · have := hhw q (List.mem_of_mem_take hq)
          exact ⟨this.1, by omega⟩
        · simp at hq; subst hq; exact ⟨st.ok, xl⟩
      · have := hhw q (List.mem_of_mem_drop hq)
        exact ⟨this.1, by omega⟩

open My (Hr)
def tIsE (K : PySem.W.Frag) (z : Addr) (cls : Value) (d : Option Addr) (c : V) : TE := tCB (rIsD K z cls d) (tCons (tVar 4) (tCons (tC c) tNil))
def tb_made (CN C : Addr) (W : WX) : TS := tAsg (tMakeAt C (sp_PinitX C CN) (WE W) (tCons (tVar 0) (tCons (tVar 1) tNil))) (gName 3)
def ts_made (K : PySem.W.Frag) (CN CT : Addr) : Addr → Value → Option Addr → TS := fun z cls d =>
  tSeq (tAsg (tUn (rU fun i => .int (-i)) (tC (.int 2))) (gName 2))
    (tIfS (tAnd (tB (tIsE K z cls d (.ref CN))) (tAnd (tB (tIsE K z cls d (.ty "ValueError"))) (tNot (tB (tIsE K z cls d (.ref CT)))))) (tAsg (tXf z cls d CN "at" (tVar 4)) (gName 2)) tNext)
theorem excC_NoPact (T : Txt K mg a) : ExcC K a.c_NoPact := ⟨T.xf_NoPact.ga, T.xf_NoPact.gg, T.xf_NoPact.exC, T.xf_NoPact.hdC, T.fa_NoPact, T.fg, T.ft, T.fm_NoPact⟩
def sp_made (C : Addr) : Sp := fun vs H Q _ => ∃ (L Lh : Addr) (as has : List Addr) (ps : List My.Pr) (hs : List Hr), vs = [.ref L, .ref Lh] ∧ H L = some (.lst (as.map V.ref)) ∧ H Lh = some (.lst (has.map V.ref)) ∧ Objs H as prO ps ∧ Crew H has hs ∧ Drawn ps hs ∧
  ∀ (o : Option Nat) (t : Addr) (vp : V) (H' : Hp), BadIs ps hs o → H' t = some (.tup [.int (badI o), vp]) → (o = none → ∃ p pl hl, vp = .ref p ∧ PactsAt C H' p pl hl as ps ∧ CrewAt H' hl has hs) → (∀ n, o = some n → vp = .non) → Same H H' → Q (.ref t) H'
theorem keeps_same {H H1 H2 : Hp} {p : Addr} (s : Same H H1) (k : Keeps [p] H1 H2) (hp : H p = none) : Same H H2 := fun c o e => k c o (s c o e) (by
  intro z
  simp at z
  subst z
  rw [hp] at e
  cases e)
theorem ok_made (T : Txt K mg a) : FnOk P w K mg base CX0 6 a.f_made a.d_made ["_law_pairs_here", "_law_helpers_here"] (sp_made a.c_Pacts) := by
  refine T.F_made.ok sc_made (fun vs H Q E h => ?_) (fun cdv A outer s H vs Q E hr h => ?_)
  · obtain ⟨L, Lh, as, has, ps, hs, rfl, _⟩ := h
    rfl
  · obtain ⟨L, Lh, as, has, ps, hs, rfl, hL, hLh, ob, crew, dr, kk⟩ := h
    refine ⟨_, (pss_cons (ps_set (i := 2) sc_made.nd rfl (Or.inl rfl) (pe_un un_neg pe_int))
      (pss_cons (ps_set (i := 3) sc_made.nd rfl (Or.inl rfl) pe_non)
      (pss_cons (ps_try_named (tb := tb_made a.c_NoPact a.c_Pacts) (l := [(.ref a.c_PactError, 4, ts_made K a.c_NoPact a.c_NoText)]) (Wout := fun _ _ _ _ => False) rfl rfl sc_made.nd takes0 (fun W pn xe tk _ => (pss_one (ps_set (i := 3) sc_made.nd rfl (Or.inl rfl) (pe_makeAt T.mk_Pacts (ok_Pacts_initX T) (hr.mono (by decide)) rfl T.g_Pacts T.B_Pacts_init (fun σ => passAt tk σ) (pa_cons (pv 0) (pa_cons (pv 1) pa_nil)))))) (HdN.cons ⟨rfl, by decide, Or.inl T.g_PactError⟩ rfl rfl (fun z oz cls d pn hz hf => (pss_cons (ps_set (i := 2) sc_made.nd rfl (Or.inl rfl) (pe_un un_neg pe_int))
      (pss_one (ps_if (PW.pt (pw_and (pt_val (pe_callB (call_isD hz hf) (by rfl) T.z_isinstance (by decide +kernel) (pa_cons (pv 4) (pa_cons (pe_glob (v := .ref a.c_NoPact) rfl T.g_NoPact rfl) pa_nil)))) (pw_and (pt_val (pe_callB (call_isD hz hf) (by rfl) T.z_isinstance (by decide +kernel) (pa_cons (pv 4) (pa_cons (pe_bltn (v := .ty "ValueError") (by rfl) T.z_ValueError (by decide +kernel) rfl) pa_nil)))) (pw_and1 (pt_not (pt_val (pe_callB (call_isD hz hf) (by rfl) T.z_isinstance (by decide +kernel) (pa_cons (pv 4) (pa_cons (pe_glob (v := .ref a.c_NoText) rfl T.g_NoText rfl) pa_nil))))))))) (pss_one (ps_set (i := 2) sc_made.nd rfl (Or.inl rfl) (pe_xf T.xf_NoPact T.n_NoPact_at hz hf (pv 4)))) pss_nil)))) HdN.nil))
      (pss_one (ps_ret (pe_tup (pa_cons (pv 2) (pa_cons (pv 3) pa_nil)))))))), ?_⟩
    refine ⟨_, rfl, _, rfl, _, rfl, fun p dx np ndx nex => ?_⟩
    have s1 : Same H (upd (upd H dx (.own p)) p (.ins a.c_Pacts dx [])) := ((Same.refl H).upd ndx).upd np
    have hp1 : (upd (upd H dx (.own p)) p (.ins a.c_Pacts dx [])) p = some (.ins a.c_Pacts dx []) := upd_same
    show _
    generalize (upd (upd H dx (.own p)) p (.ins a.c_Pacts dx [])) = H1 at s1 hp1
    refine ⟨p, dx, L, Lh, as, has, ps, hs, rfl, hp1, s1 _ _ hL, s1 _ _ hLh, ob.same s1, Crew.same crew s1, dr, fun good pl hl H2 _ _ pa cr kp => ⟨rfl, ?_⟩, fun n bad d H2 kp h1 => ?_⟩
    · have s2 := keeps_same s1 kp np
      refine ⟨_, rfl, _, rfl, by show 2 ≤ sizeLine; decide, fun t ht => ?_⟩
      have s3 : Same H2 (upd H2 t (.tup [.int (-1), .ref p])) := (Same.refl H2).upd ht
      exact kk none t (.ref p) _ good upd_same (fun _ => ⟨p, pl, hl, rfl, pa.same s3, cr.same s3⟩) (fun _ e => by cases e) (s2.trans s3)
    · have s2 := keeps_same s1 kp np
      refine ⟨true, T.fe_NoPact, fun _ z hz => ?_, fun q => Bool.noConfusion q⟩
      refine ⟨_, rfl, _, rfl, a.c_NoPact, d, _, .ref a.c_NoPact, .ref a.c_NoPact, true, rfl, rfl, h1, excC_NoPact T, rfl, fun u hu => hu, T.fs_NoPact, _, rfl, ?_⟩
      refine iteT ?_
      refine ⟨_, rfl, a.c_NoPact, d, _, .ty "ValueError", .type "ValueError", true, rfl, rfl, h1, excC_NoPact T, rfl, fun u hu => hu, T.fv_NoPact, _, rfl, ?_⟩
      refine iteT ?_
      refine ⟨_, rfl, a.c_NoPact, d, _, .ref a.c_NoText, .ref a.c_NoText, false, rfl, rfl, h1, excC_NoPact T, rfl, fun u hu => hu, T.fx_NoPact, _, rfl, ?_⟩
      refine iteT ?_
      refine ⟨_, rfl, rfl, rfl, d, _, _, rfl, h1, rfl, ?_⟩
      refine ⟨_, rfl, _, rfl, by show 2 ≤ sizeLine; decide, fun t ht => ?_⟩
      exact kk (some n) t .non _ bad upd_same (fun e => by cases e) (fun _ _ => rfl) (s2.trans ((Same.refl _).upd ht))

open My (Hr)
/-! ### the law -/
def prD (z : My.Pr) : PyData := .tuple [.str z.1, .str z.2.1, .bool z.2.2]
def hrD (x : Hr) : PyData := .tuple [.str x.name, .int x.side, .tuple (x.takes.map PyData.str), .bool x.gives, .tuple (x.throws.map PyData.str)]
theorem strs_lay : ∀ ts : List Str, (∀ t, t ∈ ts → WOk t) → PyData.canLayAll0 (ts.map PyData.str) = true
  | [], _ => rfl
  | t :: r, h => by
    rw [List.map_cons, PyData.canLayAll0, PyData.canLay0, (h t List.mem_cons_self).2, strs_lay r fun q hq => h q (List.mem_cons_of_mem _ hq)]
    rfl
theorem strs_deep : ∀ ts : List Str, PyData.depthAll (ts.map PyData.str) ≤ 0
  | [] => by simp [PyData.depthAll]
  | t :: r => by
    rw [List.map_cons, PyData.depthAll, PyData.depth]
    have := strs_deep r
    omega
theorem prD_lay {z : My.Pr} (h : WOk z.1 ∧ WOk z.2.1) : (prD z).canLay0 = true := by simp [prD, PyData.canLay0, PyData.canLayAll0, h.1.2, h.2.2]
theorem prD_deep (z : My.Pr) : (prD z).depth = 1 := by simp [prD, PyData.depth, PyData.depthAll]
theorem hrD_lay {x : Hr} (h : HrOk x) : (hrD x).canLay0 = true := by
  simp [hrD, PyData.canLay0, PyData.canLayAll0, h.nm.2, strs_lay _ h.tk, strs_lay _ h.th]
theorem hrD_deep (x : Hr) : (hrD x).depth ≤ 3 := by
  have h1 := strs_deep x.takes
  have h2 := strs_deep x.throws
  simp only [hrD, PyData.depth, PyData.depthAll]
  omega
theorem all_lay {α : Type} (f : α → PyData) : ∀ zs : List α, (∀ z, z ∈ zs → (f z).canLay0 = true) → PyData.canLayAll0 (zs.map f) = true
  | [], _ => rfl
  | z :: r, h => by
    rw [List.map_cons, PyData.canLayAll0, h z List.mem_cons_self, all_lay f r fun q hq => h q (List.mem_cons_of_mem _ hq)]
    rfl
theorem all_deep {α : Type} (f : α → PyData) (n : Nat) (h : ∀ z, (f z).depth ≤ n) : ∀ zs : List α, PyData.depthAll (zs.map f) ≤ n
  | [] => by simp [PyData.depthAll]
  | z :: r => by
    rw [List.map_cons, PyData.depthAll]
    have h1 := all_deep f n h r
    have h2 := h z
    omega
theorem dp_prs {K : PySem.W.Frag} {H : Hp} : ∀ {as : List Addr} {ps : List My.Pr}, Objs H as prO ps → DpAll K H (as.map V.ref) (ps.map prD)
  | [], [], _ => .nil
  | h :: hs, z :: zs, o => .cons (.tup (SqT.of (o.at_ 0 h z rfl rfl)) (.cons (.str _) (.cons (.str _) (.cons (.bl _) .nil)))) (dp_prs ⟨by have := o.len; simpa using this, fun i h' z' a b => o.at_ (i + 1) h' z' (by simpa using a) (by simpa using b)⟩)
  | [], _ :: _, o => by have := o.len; simp at this
  | _ :: _, [], o => by have := o.len; simp at this
theorem dp_strs {K : PySem.W.Frag} {H : Hp} : ∀ ts : List Str, DpAll K H (ts.map V.str) (ts.map PyData.str)
  | [] => .nil
  | t :: r => .cons (.str t) (dp_strs r)
theorem dp_hr {K : PySem.W.Frag} {H : Hp} {h : Addr} {x : Hr} (e : HrAt H h x) : Dp K H (.ref h) (hrD x) := by
  obtain ⟨tk, th, e1, e2, e3⟩ := e
  exact .tup (SqT.of e1) (.cons (.str _) (.cons (.int _) (.cons (.tup e2.seq (dp_strs _)) (.cons (.bl _) (.cons (.tup e3.seq (dp_strs _)) .nil)))))
theorem dp_hrs {K : PySem.W.Frag} {H : Hp} : ∀ {as : List Addr} {hs : List Hr}, Crew H as hs → DpAll K H (as.map V.ref) (hs.map hrD)
  | [], [], _ => .nil
  | h :: hs, z :: zs, o => .cons (dp_hr (AllAt.at_ o 0 h z rfl rfl)) (dp_hrs ⟨by have := AllAt.len o; simpa using this, fun i h' z' a b => AllAt.at_ o (i + 1) h' z' (by simpa using a) (by simpa using b)⟩)
  | [], _ :: _, o => by have := AllAt.len o; simp at this
  | _ :: _, [], o => by have := AllAt.len o; simp at this
theorem shaped_of {d : PyData} (h1 : d.canLay0 = true) (h2 : d.depth ≤ 60) : SeqAt.shaped d = true := by
  unfold SeqAt.shaped
  rw [h1]
  exact decide_eq_true (by omega)
theorem good_crew {ps : List My.Pr} {hs : List Hr} (g : Good ps hs) {i : Nat} {x : Hr} (h : hs[i]? = some x) : crewOf x.name hs = some x := by
  refine find_first (P := fun z : Hr => z.name = x.name) (k := i) (fun j z hj e c => ?_) h rfl
  have b := g.2 i x h
  rw [Bool.and_eq_true] at b
  have b2 := b.2
  unfold My.fitsHB at b2
  have hm : x.name ∈ (hs.take i).map (·.name) := List.mem_map.mpr ⟨z, List.mem_of_getElem? (i := j) (by rw [List.getElem?_take, if_pos hj]; exact e), c⟩
  rw [decide_eq_true hm] at b2
  simp at b2
def spLaw (K : PySem.W.Frag) : Sp := fun vs H Q _ => ∃ (s : Addr) (ns : List Int), vs = [.ref s] ∧ SqL K H s (ns.map V.int) ∧ ns.length ≤ 63 ∧ ∀ H', Q (.bl true) H'
theorem ok_law (T : Txt K mg a) : FnOk P w K mg base CX0 7 a.f_law a.d_law ["_law_script"] (spLaw K) := by
  refine T.F_law.ok sc_law (fun vs H Q E h => ?_) (fun cdv A outer s H vs Q E hr h => ?_)
  · obtain ⟨s, ns, rfl, _⟩ := h
    rfl
  · obtain ⟨sc, ns, rfl, hS, hl, kk⟩ := h
    refine ⟨_, (pss_cons (ps_set (i := 1) sc_law.nd rfl (Or.inl rfl) (pe_call (ok_box T) (hr.mono (by decide)) rfl T.g_box T.k_box T.B_box .nil pass0 (pa_cons (pv 0) pa_nil)))
      (pss_cons (ps_set (i := 2) sc_law.nd rfl (Or.inl rfl) (pe_call (ok_take T) (hr.mono (by decide)) rfl T.g_take T.k_take T.B_take .nil pass0 (pa_cons (pv 1) (pa_cons pe_int pa_nil))))
      (pss_cons (ps_set (i := 3) sc_law.nd rfl (Or.inl rfl) (pe_call (ok_pairs T) (hr.mono (by decide)) rfl T.g_pairs T.k_pairs T.B_pairs .nil pass0 (pa_cons (pv 1) (pa_cons pe_int pa_nil))))
      (pss_cons (ps_set (i := 4) sc_law.nd rfl (Or.inl rfl) (pe_call (ok_helpers T) (hr.mono (by decide)) rfl T.g_helpers T.k_helpers T.B_helpers .nil pass0 (pa_cons (pv 1) (pa_cons (pv 3) pa_nil))))
      (pss_cons (ps_for PassesOwn.never rfl (pi_range1 (by rfl) T.z_range (pa_cons (pv 2) pa_nil)) (pg_name (i := 5) sc_law.nd rfl (Or.inl rfl)) (pss_one (ps_if (PW.pt (pw_and (pt_cmpR op_eq (pe_call (ok_take T) (hr.mono (by decide)) rfl T.g_take T.k_take T.B_take .nil pass0 (pa_cons (pv 1) (pa_cons pe_int pa_nil))) pe_int (nomark _)) (pw_and1 (pt_cmpR op_gt (pe_callB call_len_seq (by rfl) T.z_len (by decide +kernel) (pa_cons (pv 3) pa_nil)) pe_int (nomark _))))) (pss_one (ps_set (i := 3) sc_law.nd rfl (Or.inl rfl) (pe_call (ok_pair_spoilt T) (hr.mono (by decide)) rfl T.g_pair_spoilt T.k_pair_spoilt T.B_pair_spoilt .nil pass0 (pa_cons (pv 1) (pa_cons (pv 3) pa_nil))))) (pss_one (ps_if (pt_cmpR op_gt (pe_callB call_len_seq (by rfl) T.z_len (by decide +kernel) (pa_cons (pv 4) pa_nil)) pe_int (nomark _)) (pss_one (ps_set (i := 4) sc_law.nd rfl (Or.inl rfl) (pe_call (ok_helper_spoilt T) (hr.mono (by decide)) rfl T.g_helper_spoilt T.k_helper_spoilt T.B_helper_spoilt .nil pass0 (pa_cons (pv 1) (pa_cons (pv 3) (pa_cons (pv 4) pa_nil)))))) pss_nil)))))
      (pss_cons (ps_set (i := 6) sc_law.nd rfl (Or.inl rfl) (pe_lst (pa_cons (pe_callTy call_list_of (by rfl) T.z_list (by decide +kernel) (pa_cons (pv 3) pa_nil)) (pa_cons (pe_callTy call_list_of (by rfl) T.z_list (by decide +kernel) (pa_cons (pv 4) pa_nil)) pa_nil))))
      (pss_cons (ps_asg (pe_call (ok_made T) (hr.mono (by decide)) rfl T.g_made T.k_made T.B_made .nil pass0 (pa_cons (pe_ix ix_list (pv 6) pe_int (fun _ _ => rfl)) (pa_cons (pe_ix ix_list (pv 6) pe_int (fun _ _ => rfl)) pa_nil))) (pg_tup (by rfl) (pgs_cons (pg_name (i := 7) sc_law.nd rfl (Or.inl rfl)) (pgs_cons (pg_name (i := 8) sc_law.nd rfl (Or.inl rfl)) pgs_nil))))
      (pss_cons (ps_if (PW.pt (pw_or (pt_cmpR op_ne (pv 7) (pe_call (ok_first_bad T) (hr.mono (by decide)) rfl T.g_first_bad T.k_first_bad T.B_first_bad .nil pass0 (pa_cons (pv 3) (pa_cons (pv 4) pa_nil))) (nomark _)) (pw_or (pt_val (pe_callB call_isi (by rfl) T.z_isinstance (by decide +kernel) (pa_cons (pv 7) (pa_cons (pe_bltn (v := .ty "bool") (by rfl) T.z_bool (by decide +kernel) rfl) pa_nil)))) (pw_or1 (pt_cmpR (op_neD hr.units) (pv 6) (pe_lst (pa_cons (pv 3) (pa_cons (pv 4) pa_nil))) (nomark _)))))) (pss_one (ps_ret pe_bl)) pss_nil)
      (pss_cons (ps_if (pt_cmpR op_ne (pv 7) (pe_un un_neg pe_int) (nomark _)) (pss_one (ps_ret (pe_cmpR op_isN (pv 8) pe_non (nomark _)))) pss_nil)
      (pss_cons (ps_for PassesOwn.never rfl (pi_list (pv 4)) (pg_name (i := 9) sc_law.nd rfl (Or.inl rfl)) (pss_one (ps_if (pt_cmpR (op_neD hr.units) (pe_meth (pv 8) T.cl_Pacts T.m_Pacts_pact (ok_Pacts_pact T) (hr.mono (by decide)) T.B_Pacts_pact .nil pass0 (pa_cons (pe_ix ix_tup (pv 9) pe_int (fun _ _ => rfl)) pa_nil)) (pv 9) (nomark _)) (pss_one (ps_ret pe_bl)) pss_nil)))
      (pss_one (ps_ret (pe_and (pe_cmpR (op_eqD hr.units) (pe_meth0 (pv 8) T.cl_Pacts T.m_Pacts_pairs (ok_Pacts_pairs T) (hr.mono (by decide)) T.B_Pacts_pairs .nil pass0) (pv 3) (nomark _)) (pe_one (pe_cmpR op_eq (pe_callB (call_lenOwn T.m_Pacts_len (ok_Pacts_len T) (hr.mono (by decide)) T.B_Pacts_len pass0) (by rfl) T.z_len (by decide +kernel) (pa_cons (pv 8) pa_nil)) (pe_callB call_len_seq (by rfl) T.z_len (by decide +kernel) (pa_cons (pv 4) pa_nil)) (nomark _)))))))))))))))), ?_⟩
    refine ⟨_, rfl, sc, ns, rfl, hS, hl, fun b g l H1 hb hg hl bx s1 => ?_⟩
    refine ⟨_, rfl, b, g, l, 0, 3, rfl, bx, by omega, by omega, by decide, by decide, fun ch H2 c0 c1 bx2 kp2 => ?_⟩
    refine ⟨_, rfl, b, g, l, _, 6, rfl, bx2, by omega, by omega, by omega, by omega, fun L as ps n3 H3 hL hL3 ob3 fr3 ok a3 b3 bx3 kp3 => ?_⟩
    have oL := offbox bx2 hL
    have pl := ok.many
    refine ⟨_, rfl, _, rfl, b, g, l, L, n3, as, ps, rfl, bx3, by omega, by omega, hL3, oL, ob3, by omega, fun q hq => ⟨name_wok (ok.nm q hq).1, name_wok (ok.nm q hq).2⟩, fun Lh has hs n4 H4 hLh hLh4 cr4 hl4 hw4 a4 b4 bx4 kp4 => ?_⟩
    have oLh := offbox bx3 hLh
    have hL4 := kp4 _ _ hL3 oL
    have ob4 := ob3.keepN kp4 (box_notup bx3)
    refine ⟨_, rfl, ch, rfl, by omega, by omega, ?_⟩
    refine for_range (lo := 0) (n := ch.toNat) (fun i σ H5 => Blk (∃ (L Lh : Addr) (as : List Addr) (ps : List My.Pr) (has : List Addr) (hs : List Hr) (n5 : Int) (v5 : Option V), σ = [some (.ref sc), some (.ref b), some (.int ch), some (.ref L), some (.ref Lh), v5, none, none, none, none] ∧ BoxAt H5 b g l n5 ∧ 0 ≤ n5 ∧ n5 ≤ 3000 + 50 * i ∧
      H5 L = some (.lst (as.map V.ref)) ∧ L ∉ [b, g] ∧ Objs H5 as prO ps ∧ ps.length ≤ 6 + 4 * i ∧ (∀ q, q ∈ ps → WOk q.1 ∧ WOk q.2.1) ∧ H5 Lh = some (.lst (has.map V.ref)) ∧ Lh ∉ [b, g] ∧ Crew H5 has hs ∧ hs.length ≤ 8 + 4 * i ∧ ∀ x, x ∈ hs → HrOk x ∧ x.throws.length ≤ 4 + i)) ?_ ?_ ?_
    · exact Blk.of ⟨L, Lh, as, ps, has, hs, n4, _, rfl, bx4, by omega, by omega, hL4, oL, ob4, by omega, fun q hq => ⟨name_wok (ok.nm q hq).1, name_wok (ok.nm q hq).2⟩, hLh4, oLh, cr4, by omega, fun x hx => ⟨(hw4 x hx).1, by have := (hw4 x hx).2.2; omega⟩⟩
    · clear hw4 hLh4 cr4 oLh oL hL4 ob4 hL3 ob3
      intro i σ H5 hi hB
      obtain ⟨L, Lh, as, ps, has, hs, n5, v5, rfl, bx5, a5, b5, hL5, oL, ob5, pl5, pw, hLh5, oLh, cr5, hl5, hw⟩ := hB.out
      have hi2 : i < 2 := by omega
      refine ⟨_, rfl, b, g, l, n5, 3, rfl, bx5, by omega, by omega, by decide, by decide, fun k H6 k0 k1 bx6 kp6 => ?_⟩
      have nt5 := box_notup bx5
      have hL6 := kp6 _ _ hL5 oL
      have hLh6 := kp6 _ _ hLh5 oLh
      have ob6 := ob5.keepN kp6 nt5
      have cr6 := Crew.keep cr5 kp6 nt5
      refine ⟨rfl, _, rfl, ?_⟩
      refine iteD (fun c => ?_) (fun c => ?_)
      · refine ⟨_, rfl, L, _, rfl, .inl (SqL.of hL6), _, _, rfl, rfl, _, rfl, ?_⟩
        have elp : (((as.map V.ref).length : Nat) : Int) = (ps.length : Int) := by rw [List.length_map, ob6.len]
        rw [elp]
        refine iteD (fun d => ?_) (fun d => ?_)
        · refine ⟨_, rfl, _, rfl, b, g, l, L, _, as, ps, rfl, bx6, by omega, by omega, hL6, oL, ob6, by omega, by omega, pw, fun p as2 ps2 n7 H7 hp hp2 ob7 l7 w7 a7 b7 bx7 kp7 => ?_⟩
          exact Blk.of ⟨p, Lh, as2, ps2, has, hs, n7, _, rfl, bx7, by omega, by omega, hp2, offbox bx6 hp, ob7, by omega, w7, kp7 _ _ hLh6 oLh, oLh, Crew.keep cr6 kp7 (box_notup bx6), by omega, fun z hz => ⟨(hw z hz).1, by have := (hw z hz).2; omega⟩⟩
        · refine ⟨_, rfl, Lh, _, rfl, .inl (SqL.of hLh6), _, _, rfl, rfl, _, rfl, ?_⟩
          have elh : (((has.map V.ref).length : Nat) : Int) = (hs.length : Int) := by rw [List.length_map, AllAt.len cr6]
          rw [elh]
          refine iteD (fun f => ?_) (fun f => ?_)
          · refine ⟨_, rfl, _, rfl, _, rfl, b, g, l, L, Lh, _, 4 + i, as, has, ps, hs, rfl, bx6, by omega, by omega, hL6, oL, ob6, by omega, pw, hLh6, oLh, cr6, by omega, by omega, by omega, by omega, hw, fun p has2 hs2 n7 H7 hp hp2 cr7 l7 w7 a7 b7 bx7 kp7 => ?_⟩
            exact Blk.of ⟨L, p, as, ps, has2, hs2, n7, _, rfl, bx7, by omega, by omega, kp7 _ _ hL6 oL, oL, ob6.keepN kp7 (box_notup bx6), by omega, pw, hp2, offbox bx6 hp, cr7, by omega, fun z hz => ⟨(w7 z hz).1, by have := (w7 z hz).2; omega⟩⟩
          · exact Blk.of ⟨L, Lh, as, ps, has, hs, _, _, rfl, bx6, by omega, by omega, hL6, oL, ob6, by omega, pw, hLh6, oLh, cr6, by omega, fun z hz => ⟨(hw z hz).1, by have := (hw z hz).2; omega⟩⟩

      · refine ⟨_, rfl, Lh, _, rfl, .inl (SqL.of hLh6), _, _, rfl, rfl, _, rfl, ?_⟩
        have elh : (((has.map V.ref).length : Nat) : Int) = (hs.length : Int) := by rw [List.length_map, AllAt.len cr6]
        rw [elh]
        refine iteD (fun f => ?_) (fun f => ?_)
        · refine ⟨_, rfl, _, rfl, _, rfl, b, g, l, L, Lh, _, 4 + i, as, has, ps, hs, rfl, bx6, by omega, by omega, hL6, oL, ob6, by omega, pw, hLh6, oLh, cr6, by omega, by omega, by omega, by omega, hw, fun p has2 hs2 n7 H7 hp hp2 cr7 l7 w7 a7 b7 bx7 kp7 => ?_⟩
          exact Blk.of ⟨L, p, as, ps, has2, hs2, n7, _, rfl, bx7, by omega, by omega, kp7 _ _ hL6 oL, oL, ob6.keepN kp7 (box_notup bx6), by omega, pw, hp2, offbox bx6 hp, cr7, by omega, fun z hz => ⟨(w7 z hz).1, by have := (w7 z hz).2; omega⟩⟩
        · exact Blk.of ⟨L, Lh, as, ps, has, hs, _, _, rfl, bx6, by omega, by omega, hL6, oL, ob6, by omega, pw, hLh6, oLh, cr6, by omega, fun z hz => ⟨(hw z hz).1, by have := (hw z hz).2; omega⟩⟩

    clear hw4 hLh4 cr4 oLh oL hL4 ob4 hL3 ob3
    intro σ H5 hB
    obtain ⟨L, Lh, as, ps, has, hs, n5, v5, rfl, bx5, a5, b5, hL5, oL, ob5, pl5, pw, hLh5, oLh, cr5, hl5, hw⟩ := hB.out
    have ch2 : ch.toNat ≤ 2 := by omega
    have dr : Drawn ps hs := ⟨by omega, pw, by omega, fun x hx => (hw x hx).1⟩
    -- copies
    refine ⟨_, rfl, L, _, rfl, .inl (SqL.of hL5), fun M1 hM1 => ?_⟩
    have s6 : Same H5 (upd H5 M1 (.lst (as.map V.ref))) := (Same.refl H5).upd hM1
    have m1 : (upd H5 M1 (.lst (as.map V.ref))) M1 = some (.lst (as.map V.ref)) := upd_same
    show _
    generalize (upd H5 M1 (.lst (as.map V.ref))) = H6 at s6 m1
    refine ⟨_, rfl, Lh, _, rfl, .inl (SqL.of (s6 _ _ hLh5)), fun M2 hM2 => ?_⟩
    have s67 : Same H6 (upd H6 M2 (.lst (has.map V.ref))) := (Same.refl H6).upd hM2
    have m2 : (upd H6 M2 (.lst (has.map V.ref))) M2 = some (.lst (has.map V.ref)) := upd_same
    show _
    generalize (upd H6 M2 (.lst (has.map V.ref))) = H7 at s67 m2
    refine ⟨by show 2 ≤ sizeLine; decide, fun M hM => ?_⟩
    have s78 : Same H7 (upd H7 M (.lst [.ref M1, .ref M2])) := (Same.refl H7).upd hM
    have m0 : (upd H7 M (.lst [.ref M1, .ref M2])) M = some (.lst [.ref M1, .ref M2]) := upd_same
    show _
    generalize (upd H7 M (.lst [.ref M1, .ref M2])) = H8 at s78 m0
    have s58 := (s6.trans s67).trans s78
    refine ⟨_, rfl, _, _, _, _, rfl, rfl, SqL.of m0, rfl, _, rfl, _, _, _, _, rfl, rfl, SqL.of m0, rfl, M1, M2, as, has, ps, hs, rfl, s78 _ _ (s67 _ _ m1), s78 _ _ m2, ob5.same s58, Crew.same cr5 s58, dr, fun o t vp H9 hbad ht hv hn s89 => ?_⟩
    refine ⟨t, _, rfl, SqT.of ht, rfl, _, _, rfl, _, _, rfl, rfl, ?_⟩
    have s59 := s58.trans s89
    refine ⟨_, rfl, _, rfl, _, rfl, L, Lh, as, has, ps, hs, rfl, s59 _ _ hL5, ob5.same s59, s59 _ _ hLh5, Crew.same cr5 s59, dr, fun o2 HA h2 sA => ?_⟩
    obtain rfl := bad_is h2 hbad
    have s5A := s59.trans sA
    have s8A := s89.trans sA
    walk_at "rd"
    refine iteNS rfl ?_
    refine ⟨_, rfl, _, _, _, _, false, rfl, .ty "bool", .base (.int _), kit_ty (by decide +kernel), false, rfl, ?_⟩
    refine iteF ?_
    refine ⟨_, rfl, _, rfl, _, rfl, by show 2 ≤ sizeLine; decide, fun N hN => ?_⟩
    have sAB : Same HA (upd HA N (.lst [.ref L, .ref Lh])) := (Same.refl HA).upd hN
    have mN : (upd HA N (.lst [.ref L, .ref Lh])) N = some (.lst [.ref L, .ref Lh]) := upd_same
    show _
    generalize (upd HA N (.lst [.ref L, .ref Lh])) = HB at sAB mN
    have s5B := s5A.trans sAB
    have s8B := s8A.trans sAB
    have obB := ob5.same s5B
    have crB := Crew.same cr5 s5B
    have lay1 : (PyData.list (ps.map prD)).canLay0 = true := by rw [PyData.canLay0]; exact all_lay prD ps fun z hz => prD_lay (pw z hz)
    have lay2 : (PyData.list (hs.map hrD)).canLay0 = true := by rw [PyData.canLay0]; exact all_lay hrD hs fun z hz => hrD_lay (hw z hz).1
    have lay : (PyData.list [.list (ps.map prD), .list (hs.map hrD)]).canLay0 = true := by simp [PyData.canLay0, PyData.canLayAll0] at lay1 lay2 ⊢; exact ⟨lay1, lay2⟩
    have dp1 := all_deep prD 1 (fun z => by rw [prD_deep]; omega) ps
    have dp2 := all_deep hrD 3 hrD_deep hs
    have deep : (PyData.list [.list (ps.map prD), .list (hs.map hrD)]).depth ≤ 60 := by
      simp only [PyData.depth, PyData.depthAll]
      omega
    have deep1 : (PyData.list (ps.map prD)).depth ≤ 60 := by
      simp only [PyData.depth]
      omega
    refine ⟨.list [.list (ps.map prD), .list (hs.map hrD)], .list [.list (ps.map prD), .list (hs.map hrD)],
      .lst (SqL.of (s8B _ _ m0)) (.cons (.lst (SqL.of (s8B _ _ (s78 _ _ (s67 _ _ m1)))) (dp_prs obB)) (.cons (.lst (SqL.of (s8B _ _ (s78 _ _ m2))) (dp_hrs crB)) .nil)),
      .lst (SqL.of mN) (.cons (.lst (SqL.of (s5B _ _ hL5)) (dp_prs obB)) (.cons (.lst (SqL.of (s5B _ _ hLh5)) (dp_hrs crB)) .nil)), shaped_of lay deep, shaped_of lay deep, ?_⟩
    rw [SeqAt.eqv_refl _ lay]
    refine ⟨_, rfl, ?_⟩
    refine iteF ?_
    have s9B := sA.trans sAB
    have hvB : o2 = none → ∃ p pl hl, vp = .ref p ∧ PactsAt a.c_Pacts HB p pl hl as ps ∧ CrewAt HB hl has hs := fun e => by
      obtain ⟨p, pl, hl, e1, e2, e3⟩ := hv e
      exact ⟨p, pl, hl, e1, e2.same s9B, e3.same s9B⟩
    cases o2 with
    | some n =>
      obtain rfl := hn n rfl
      walk_at "rd"
      exact kk _
    | none =>
      obtain ⟨p, plA, hlA, rfl, pa, cr⟩ := hvB rfl
      have good : Good ps hs := h2
      walk_at "rd"
      refine ⟨⟨_, SqL.of (s5B _ _ hLh5)⟩, ?_⟩
      refine for_list (K := K) (a := Lh) (xs := has.map V.ref) (fun j σ H' => Blk (∃ v9, σ = [some (.ref sc), some (.ref b), some (.int ch), some (.ref L), some (.ref Lh), v5, some (.ref M), some (.int (badI none)), some (.ref p), v9] ∧ Same HB H')) ?_ ?_ ?_ ?_
      · exact Blk.of ⟨_, rfl, Same.refl HB⟩
      · intro j σ H' _ hB2
        obtain ⟨v9, _, s'⟩ := hB2.out
        exact SqL.of (s' _ _ (s5B _ _ hLh5))
      · intro j y σ H' hy hB2
        obtain ⟨v9, rfl, s'⟩ := hB2.out
        obtain ⟨h, hh, rfl⟩ := refs_get hy
        have crC := Crew.same crB s'
        obtain ⟨x, hx, hx2⟩ := AllAt.get crC hh
        obtain ⟨tk, th, ex, _, _⟩ := id hx2
        have paC := pa.same s'
        obtain ⟨dx, e0⟩ := paC.ob
        have okx := (hw x (List.mem_of_getElem? hx)).1
        refine ⟨_, rfl, p, dx, _, rfl, e0, pfs_no4, _, rfl, _, _, _, _, rfl, rfl, SqT.of ex, rfl, p, plA, hlA, as, has, ps, hs, x.name, x, rfl, paC, cr.same s', good_crew good hx, fun h2 hh2 => ?_⟩
        have shx : SeqAt.shaped (hrD x) = true := shaped_of (hrD_lay okx) (by have := hrD_deep x; omega)
        refine ⟨_, rfl, hrD x, hrD x, dp_hr hh2, dp_hr hx2, shx, shx, ?_⟩
        rw [SeqAt.eqv_refl _ (hrD_lay okx)]
        refine ⟨_, rfl, ?_⟩
        refine iteF ?_
        exact Blk.of ⟨_, rfl, s'⟩
      · intro σ H' hB2
        obtain ⟨v9, rfl, s'⟩ := hB2.out
        have paC := pa.same s'
        obtain ⟨dx, e0⟩ := paC.ob
        refine ⟨_, rfl, p, dx, _, rfl, e0, pfs_no1, p, plA, hlA, as, ps, rfl, paC, fun r HF hr hrF sF => ?_⟩
        have s5F := (s5B.trans s').trans sF
        have obF := ob5.same s5F
        refine ⟨_, rfl, .list (ps.map prD), .list (ps.map prD), .lst (SqL.of hrF) (dp_prs obF), .lst (SqL.of (s5F _ _ hL5)) (dp_prs obF), shaped_of lay1 deep1, shaped_of lay1 deep1, ?_⟩
        rw [SeqAt.eqv_refl _ lay1]
        refine ⟨_, rfl, ?_⟩
        refine iteT ?_
        have paF := paC.same sF
        obtain ⟨dxF, eF⟩ := paF.ob
        have crF := (cr.same s').same sF
        refine ⟨_, rfl, p, dxF, _, rfl, eF, p, plA, hlA, as, has, ps, hs, rfl, paF, crF, _, rfl, by omega, by omega, _, rfl, Lh, _, rfl, .inl (SqL.of (s5F _ _ hLh5)), ?_⟩
        walk_at "rd"
        have ee : decide (V.int ((hs.length : Nat) : Int) = V.int (((has.map V.ref).length : Nat) : Int)) = true := by
          rw [List.length_map, AllAt.len crB]
          exact decide_eq_true rfl
        rw [ee]
        exact kk _
end
theorem all_mk {l : PySem.W.OpenLaw} {w : World} {K : PySem.W.Frag} {h : Heap} {mg : Str → Option Value} {fa c_Pacts c_NoPact c_PactError c_NoText f_NoPact_init f_is_whole f_is_side f_is_name f_Pacts_init f_Pacts_pairs f_Pacts_pact f_Pacts_len f_p_is_pair f_p_fits_pairs f_p_is_pact f_p_are_takes f_p_are_throws f_p_fits_helpers f_box f_mixed f_take f_name f_names f_pairs f_some f_helpers f_w_is_name f_pair_fits f_helper_fits f_first_bad f_odd_word f_pair_spoilt f_helper_spoilt f_made f_law : Addr} (X : K.In h) (G : h.Ns mainGlobals mg) (hfa : mg "law" = some (.ref fa))
    {od_NoPact_init an_NoPact_init od_is_whole an_is_whole od_is_side an_is_side od_is_name an_is_name od_Pacts_init an_Pacts_init od_Pacts_pairs an_Pacts_pairs od_Pacts_pact an_Pacts_pact od_Pacts_len an_Pacts_len od_p_is_pair an_p_is_pair od_p_fits_pairs an_p_fits_pairs od_p_is_pact an_p_is_pact od_p_are_takes an_p_are_takes od_p_are_throws an_p_are_throws od_p_fits_helpers an_p_fits_helpers od_box an_box od_mixed an_mixed od_take an_take od_name an_name od_names an_names od_pairs an_pairs od_some an_some od_helpers an_helpers od_w_is_name an_w_is_name od_pair_fits an_pair_fits od_helper_fits an_helper_fits od_first_bad an_first_bad od_odd_word an_odd_word od_pair_spoilt an_pair_spoilt od_helper_spoilt an_helper_spoilt od_made an_made od_law an_law : Option Addr} {sl_NoPact_init sl_is_whole sl_is_side sl_is_name sl_Pacts_init sl_Pacts_pairs sl_Pacts_pact sl_Pacts_len sl_p_is_pair sl_p_fits_pairs sl_p_is_pact sl_p_are_takes sl_p_are_throws sl_p_fits_helpers sl_box sl_mixed sl_take sl_name sl_names sl_pairs sl_some sl_helpers sl_w_is_name sl_pair_fits sl_helper_fits sl_first_bad sl_odd_word sl_pair_spoilt sl_helper_spoilt sl_made sl_law : Array (Option Value)}
    {oc_NoPact_init kV_NoPact_init dc_NoPact_init pm_NoPact_init cd_NoPact_init ct_NoPact_init oc_is_whole kV_is_whole dc_is_whole pm_is_whole cd_is_whole ct_is_whole oc_is_side kV_is_side dc_is_side pm_is_side cd_is_side ct_is_side oc_is_name kV_is_name dc_is_name pm_is_name cd_is_name ct_is_name oc_Pacts_init kV_Pacts_init dc_Pacts_init pm_Pacts_init cd_Pacts_init ct_Pacts_init oc_Pacts_pairs kV_Pacts_pairs dc_Pacts_pairs pm_Pacts_pairs cd_Pacts_pairs ct_Pacts_pairs oc_Pacts_pact kV_Pacts_pact dc_Pacts_pact pm_Pacts_pact cd_Pacts_pact ct_Pacts_pact oc_Pacts_len kV_Pacts_len dc_Pacts_len pm_Pacts_len cd_Pacts_len ct_Pacts_len oc_p_is_pair kV_p_is_pair dc_p_is_pair pm_p_is_pair cd_p_is_pair ct_p_is_pair oc_p_fits_pairs kV_p_fits_pairs dc_p_fits_pairs pm_p_fits_pairs cd_p_fits_pairs ct_p_fits_pairs oc_p_is_pact kV_p_is_pact dc_p_is_pact pm_p_is_pact cd_p_is_pact ct_p_is_pact oc_p_are_takes kV_p_are_takes dc_p_are_takes pm_p_are_takes cd_p_are_takes ct_p_are_takes oc_p_are_throws kV_p_are_throws dc_p_are_throws pm_p_are_throws cd_p_are_throws ct_p_are_throws oc_p_fits_helpers kV_p_fits_helpers dc_p_fits_helpers pm_p_fits_helpers cd_p_fits_helpers ct_p_fits_helpers oc_box kV_box dc_box pm_box cd_box ct_box oc_mixed kV_mixed dc_mixed pm_mixed cd_mixed ct_mixed oc_take kV_take dc_take pm_take cd_take ct_take oc_name kV_name dc_name pm_name cd_name ct_name oc_names kV_names dc_names pm_names cd_names ct_names oc_pairs kV_pairs dc_pairs pm_pairs cd_pairs ct_pairs oc_some kV_some dc_some pm_some cd_some ct_some oc_helpers kV_helpers dc_helpers pm_helpers cd_helpers ct_helpers oc_w_is_name kV_w_is_name dc_w_is_name pm_w_is_name cd_w_is_name ct_w_is_name oc_pair_fits kV_pair_fits dc_pair_fits pm_pair_fits cd_pair_fits ct_pair_fits oc_helper_fits kV_helper_fits dc_helper_fits pm_helper_fits cd_helper_fits ct_helper_fits oc_first_bad kV_first_bad dc_first_bad pm_first_bad cd_first_bad ct_first_bad oc_odd_word kV_odd_word dc_odd_word pm_odd_word cd_odd_word ct_odd_word oc_pair_spoilt kV_pair_spoilt dc_pair_spoilt pm_pair_spoilt cd_pair_spoilt ct_pair_spoilt oc_helper_spoilt kV_helper_spoilt dc_helper_spoilt pm_helper_spoilt cd_helper_spoilt ct_helper_spoilt oc_made kV_made dc_made pm_made cd_made ct_made oc_law kV_law dc_law pm_law cd_law ct_law : Value}
    {nm_NoPact qn_NoPact : Str} {N_NoPact : Addr} {bs_NoPact bm_NoPact sub_NoPact : List Value} {sn_NoPact : List Str} {ab_NoPact : Bool} {col_NoPact : Option Bool} {dd_NoPact : Option Addr} {e0_NoPact e1_NoPact e2_NoPact e3_NoPact e5_NoPact : Option Value}
    {t_LONGEST_NAME : Tok}
    {t_MOST_PAIRS : Tok}
    {t_MOST_HELPERS : Tok}
    {t_MOST_TAKES : Tok}
    {t_MOST_THROWS : Tok}
    {t_TAKES : Addr} {dd_TAKES : Option Addr} {n_TAKES : Nat} {sl_TAKES : Array (Option Value)} {tk0_TAKES tk1_TAKES : Tok}
    (a_Pacts : PySem.W.nsIn K mainGlobals "Pacts" = some (some (.ref c_Pacts)))
    (pg_Pacts : PySem.W.plainGet K c_Pacts Str.empty = true)
    (hd_Pacts : PySem.W.hasDictIn K c_Pacts = true)
    (po_Pacts : PySem.W.plainOver K c_Pacts = true)
    (sa_Pacts : PySem.W.findIn K (.ref c_Pacts) "__setattr__" = some (some (.builtin "object.__setattr__")))
    (mk_Pacts : PySem.W.makesIn K c_Pacts = true)
    (kc_Pacts : PySem.W.keepIn K (.ref c_Pacts) = true)
    (n_Pacts__pairs : PySem.W.findIn K (.ref c_Pacts) "_pairs" = some none)
    (n_Pacts__helpers : PySem.W.findIn K (.ref c_Pacts) "_helpers" = some none)
    (a_NoPact : PySem.W.nsIn K mainGlobals "NoPact" = some (some (.ref c_NoPact)))
    (xl_NoPact : K.lookup c_NoPact = some (excClassObj nm_NoPact qn_NoPact c_NoPact N_NoPact bs_NoPact bm_NoPact true sn_NoPact sub_NoPact ab_NoPact col_NoPact dd_NoPact e0_NoPact e1_NoPact e2_NoPact e3_NoPact e5_NoPact "ValueError.__new__"))
    (xm_NoPact : PySem.HandSPX.refsVE bm_NoPact = true)
    (xs_NoPact : PySem.W.findIn K (.ref c_NoPact) "__setattr__" = some (some (.builtin "object.__setattr__")))
    (xe_NoPact : PySem.W.subIn K (.ref c_NoPact) (.type "BaseException") = some true)
    (xy_NoPact : PySem.W.typeIn K (.ref c_NoPact) = some (.type "type"))
    (xk_NoPact : PySem.W.keepIn K (.ref c_NoPact) = true)
    (xg_NoPact : PySem.W.findIn K (.ref c_NoPact) "__getattribute__" = some (some (.builtin "BaseException.__getattribute__")))
    (xo_NoPact : PySem.W.findIn K (.ref c_NoPact) "__getattr__" = some none)
    (xd_NoPact : PySem.W.hasDictIn K c_NoPact = true)
    (n_NoPact_at : PySem.W.findIn K (.ref c_NoPact) "at" = some none)
    (a_PactError : PySem.W.nsIn K mainGlobals "PactError" = some (some (.ref c_PactError)))
    (da_PactError : PySem.W.specialIn K (.ref c_PactError) "__getattribute__" = some (some (.builtin "type.__getattribute__")))
    (dr_PactError : PySem.W.readsIn K c_PactError (.type "type") = true)
    (df_PactError : PySem.W.findCls K (.ref c_PactError) (.type "type") "__init__" = some (.val (.builtin "ValueError.__init__")))
    (a_NoText : PySem.W.nsIn K mainGlobals "NoText" = some (some (.ref c_NoText)))
    (v_LONGEST_NAME : PySem.W.nsIn K mainGlobals "LONGEST_NAME" = some (some (.int 8 t_LONGEST_NAME)))
    (v_MOST_PAIRS : PySem.W.nsIn K mainGlobals "MOST_PAIRS" = some (some (.int 6 t_MOST_PAIRS)))
    (v_MOST_HELPERS : PySem.W.nsIn K mainGlobals "MOST_HELPERS" = some (some (.int 4 t_MOST_HELPERS)))
    (v_MOST_TAKES : PySem.W.nsIn K mainGlobals "MOST_TAKES" = some (some (.int 3 t_MOST_TAKES)))
    (v_MOST_THROWS : PySem.W.nsIn K mainGlobals "MOST_THROWS" = some (some (.int 4 t_MOST_THROWS)))
    (v_TAKES : PySem.W.nsIn K mainGlobals "TAKES" = some (some (.ref t_TAKES)))
    (lk_TAKES : K.lookup t_TAKES = some ⟨.type "tuple", dd_TAKES, .seq #[.str "lent" tk0_TAKES, .str "given" tk1_TAKES] n_TAKES, sl_TAKES⟩)
    (fa_NoPact : PySem.W.findIn K (.ref c_NoPact) "__class__" = some (some (.builtin "object.__class__")))
    (fm_NoPact : PySem.W.mroIn K c_NoPact (.type "object") = some true)
    (fs_NoPact : PySem.W.kitOne K (.ref c_NoPact) (.ref c_NoPact) = some true)
    (fv_NoPact : PySem.W.kitOne K (.ref c_NoPact) (.type "ValueError") = some true)
    (fx_NoPact : PySem.W.kitOne K (.ref c_NoPact) (.ref c_NoText) = some false)
    (fe_NoPact : PySem.W.exmOne K (.ref c_NoPact) (.ref c_PactError) = some true)
    (fg : PySem.W.specialIn K (.builtin "object.__class__") "__get__" = some (some (.builtin "getset_descriptor.__get__")))
    (ft : PySem.W.takesIn K (.builtin "object.__class__") = some true)
    (a_NoPact_init : PySem.W.findIn K (.ref c_NoPact) "__init__" = some (some (.ref f_NoPact_init)))
    (i_NoPact_init : PySem.W.isFn K (.ref f_NoPact_init) = true)
    (l_NoPact_init : K.lookup f_NoPact_init = some ⟨oc_NoPact_init, od_NoPact_init, .func (PySem.W.fnOf "__init__" "NoPact.__init__" (defArgs s_NoPact_init) (defBody s_NoPact_init) (defScope s_NoPact_init) .none kV_NoPact_init dc_NoPact_init pm_NoPact_init an_NoPact_init cd_NoPact_init ct_NoPact_init), sl_NoPact_init⟩)
    (q_NoPact_init : PySem.W.codeIn K cd_NoPact_init "NoPact.__init__" = true)
    (k_NoPact_init : PySem.W.keepIn K (.ref f_NoPact_init) = true)
    (a_is_whole : PySem.W.nsIn K mainGlobals "is_whole" = some (some (.ref f_is_whole)))
    (l_is_whole : K.lookup f_is_whole = some ⟨oc_is_whole, od_is_whole, .func (PySem.W.fnOf "is_whole" "is_whole" (defArgs s_is_whole) (defBody s_is_whole) (defScope s_is_whole) .none kV_is_whole dc_is_whole pm_is_whole an_is_whole cd_is_whole ct_is_whole), sl_is_whole⟩)
    (q_is_whole : PySem.W.codeIn K cd_is_whole "is_whole" = true)
    (k_is_whole : PySem.W.keepIn K (.ref f_is_whole) = true)
    (a_is_side : PySem.W.nsIn K mainGlobals "is_side" = some (some (.ref f_is_side)))
    (l_is_side : K.lookup f_is_side = some ⟨oc_is_side, od_is_side, .func (PySem.W.fnOf "is_side" "is_side" (defArgs s_is_side) (defBody s_is_side) (defScope s_is_side) .none kV_is_side dc_is_side pm_is_side an_is_side cd_is_side ct_is_side), sl_is_side⟩)
    (q_is_side : PySem.W.codeIn K cd_is_side "is_side" = true)
    (k_is_side : PySem.W.keepIn K (.ref f_is_side) = true)
    (a_is_name : PySem.W.nsIn K mainGlobals "is_name" = some (some (.ref f_is_name)))
    (l_is_name : K.lookup f_is_name = some ⟨oc_is_name, od_is_name, .func (PySem.W.fnOf "is_name" "is_name" (defArgs s_is_name) (defBody s_is_name) (defScope s_is_name) .none kV_is_name dc_is_name pm_is_name an_is_name cd_is_name ct_is_name), sl_is_name⟩)
    (q_is_name : PySem.W.codeIn K cd_is_name "is_name" = true)
    (k_is_name : PySem.W.keepIn K (.ref f_is_name) = true)
    (a_Pacts_init : PySem.W.findIn K (.ref c_Pacts) "__init__" = some (some (.ref f_Pacts_init)))
    (i_Pacts_init : PySem.W.isFn K (.ref f_Pacts_init) = true)
    (l_Pacts_init : K.lookup f_Pacts_init = some ⟨oc_Pacts_init, od_Pacts_init, .func (PySem.W.fnOf "__init__" "Pacts.__init__" (defArgs s_Pacts_init) (defBody s_Pacts_init) (defScope s_Pacts_init) .none kV_Pacts_init dc_Pacts_init pm_Pacts_init an_Pacts_init cd_Pacts_init ct_Pacts_init), sl_Pacts_init⟩)
    (q_Pacts_init : PySem.W.codeIn K cd_Pacts_init "Pacts.__init__" = true)
    (k_Pacts_init : PySem.W.keepIn K (.ref f_Pacts_init) = true)
    (a_Pacts_pairs : PySem.W.findIn K (.ref c_Pacts) "pairs" = some (some (.ref f_Pacts_pairs)))
    (i_Pacts_pairs : PySem.W.isFn K (.ref f_Pacts_pairs) = true)
    (l_Pacts_pairs : K.lookup f_Pacts_pairs = some ⟨oc_Pacts_pairs, od_Pacts_pairs, .func (PySem.W.fnOf "pairs" "Pacts.pairs" (defArgs s_Pacts_pairs) (defBody s_Pacts_pairs) (defScope s_Pacts_pairs) .none kV_Pacts_pairs dc_Pacts_pairs pm_Pacts_pairs an_Pacts_pairs cd_Pacts_pairs ct_Pacts_pairs), sl_Pacts_pairs⟩)
    (q_Pacts_pairs : PySem.W.codeIn K cd_Pacts_pairs "Pacts.pairs" = true)
    (k_Pacts_pairs : PySem.W.keepIn K (.ref f_Pacts_pairs) = true)
    (a_Pacts_pact : PySem.W.findIn K (.ref c_Pacts) "pact" = some (some (.ref f_Pacts_pact)))
    (i_Pacts_pact : PySem.W.isFn K (.ref f_Pacts_pact) = true)
    (l_Pacts_pact : K.lookup f_Pacts_pact = some ⟨oc_Pacts_pact, od_Pacts_pact, .func (PySem.W.fnOf "pact" "Pacts.pact" (defArgs s_Pacts_pact) (defBody s_Pacts_pact) (defScope s_Pacts_pact) .none kV_Pacts_pact dc_Pacts_pact pm_Pacts_pact an_Pacts_pact cd_Pacts_pact ct_Pacts_pact), sl_Pacts_pact⟩)
    (q_Pacts_pact : PySem.W.codeIn K cd_Pacts_pact "Pacts.pact" = true)
    (k_Pacts_pact : PySem.W.keepIn K (.ref f_Pacts_pact) = true)
    (a_Pacts_len : PySem.W.findIn K (.ref c_Pacts) "__len__" = some (some (.ref f_Pacts_len)))
    (i_Pacts_len : PySem.W.isFn K (.ref f_Pacts_len) = true)
    (l_Pacts_len : K.lookup f_Pacts_len = some ⟨oc_Pacts_len, od_Pacts_len, .func (PySem.W.fnOf "__len__" "Pacts.__len__" (defArgs s_Pacts_len) (defBody s_Pacts_len) (defScope s_Pacts_len) .none kV_Pacts_len dc_Pacts_len pm_Pacts_len an_Pacts_len cd_Pacts_len ct_Pacts_len), sl_Pacts_len⟩)
    (q_Pacts_len : PySem.W.codeIn K cd_Pacts_len "Pacts.__len__" = true)
    (k_Pacts_len : PySem.W.keepIn K (.ref f_Pacts_len) = true)
    (a_p_is_pair : PySem.W.nsIn K mainGlobals "_is_pair" = some (some (.ref f_p_is_pair)))
    (l_p_is_pair : K.lookup f_p_is_pair = some ⟨oc_p_is_pair, od_p_is_pair, .func (PySem.W.fnOf "_is_pair" "_is_pair" (defArgs s_p_is_pair) (defBody s_p_is_pair) (defScope s_p_is_pair) .none kV_p_is_pair dc_p_is_pair pm_p_is_pair an_p_is_pair cd_p_is_pair ct_p_is_pair), sl_p_is_pair⟩)
    (q_p_is_pair : PySem.W.codeIn K cd_p_is_pair "_is_pair" = true)
    (k_p_is_pair : PySem.W.keepIn K (.ref f_p_is_pair) = true)
    (a_p_fits_pairs : PySem.W.nsIn K mainGlobals "_fits_pairs" = some (some (.ref f_p_fits_pairs)))
    (l_p_fits_pairs : K.lookup f_p_fits_pairs = some ⟨oc_p_fits_pairs, od_p_fits_pairs, .func (PySem.W.fnOf "_fits_pairs" "_fits_pairs" (defArgs s_p_fits_pairs) (defBody s_p_fits_pairs) (defScope s_p_fits_pairs) .none kV_p_fits_pairs dc_p_fits_pairs pm_p_fits_pairs an_p_fits_pairs cd_p_fits_pairs ct_p_fits_pairs), sl_p_fits_pairs⟩)
    (q_p_fits_pairs : PySem.W.codeIn K cd_p_fits_pairs "_fits_pairs" = true)
    (k_p_fits_pairs : PySem.W.keepIn K (.ref f_p_fits_pairs) = true)
    (a_p_is_pact : PySem.W.nsIn K mainGlobals "_is_pact" = some (some (.ref f_p_is_pact)))
    (l_p_is_pact : K.lookup f_p_is_pact = some ⟨oc_p_is_pact, od_p_is_pact, .func (PySem.W.fnOf "_is_pact" "_is_pact" (defArgs s_p_is_pact) (defBody s_p_is_pact) (defScope s_p_is_pact) .none kV_p_is_pact dc_p_is_pact pm_p_is_pact an_p_is_pact cd_p_is_pact ct_p_is_pact), sl_p_is_pact⟩)
    (q_p_is_pact : PySem.W.codeIn K cd_p_is_pact "_is_pact" = true)
    (k_p_is_pact : PySem.W.keepIn K (.ref f_p_is_pact) = true)
    (a_p_are_takes : PySem.W.nsIn K mainGlobals "_are_takes" = some (some (.ref f_p_are_takes)))
    (l_p_are_takes : K.lookup f_p_are_takes = some ⟨oc_p_are_takes, od_p_are_takes, .func (PySem.W.fnOf "_are_takes" "_are_takes" (defArgs s_p_are_takes) (defBody s_p_are_takes) (defScope s_p_are_takes) .none kV_p_are_takes dc_p_are_takes pm_p_are_takes an_p_are_takes cd_p_are_takes ct_p_are_takes), sl_p_are_takes⟩)
    (q_p_are_takes : PySem.W.codeIn K cd_p_are_takes "_are_takes" = true)
    (k_p_are_takes : PySem.W.keepIn K (.ref f_p_are_takes) = true)
    (a_p_are_throws : PySem.W.nsIn K mainGlobals "_are_throws" = some (some (.ref f_p_are_throws)))
    (l_p_are_throws : K.lookup f_p_are_throws = some ⟨oc_p_are_throws, od_p_are_throws, .func (PySem.W.fnOf "_are_throws" "_are_throws" (defArgs s_p_are_throws) (defBody s_p_are_throws) (defScope s_p_are_throws) .none kV_p_are_throws dc_p_are_throws pm_p_are_throws an_p_are_throws cd_p_are_throws ct_p_are_throws), sl_p_are_throws⟩)
    (q_p_are_throws : PySem.W.codeIn K cd_p_are_throws "_are_throws" = true)
    (k_p_are_throws : PySem.W.keepIn K (.ref f_p_are_throws) = true)
    (a_p_fits_helpers : PySem.W.nsIn K mainGlobals "_fits_helpers" = some (some (.ref f_p_fits_helpers)))
    (l_p_fits_helpers : K.lookup f_p_fits_helpers = some ⟨oc_p_fits_helpers, od_p_fits_helpers, .func (PySem.W.fnOf "_fits_helpers" "_fits_helpers" (defArgs s_p_fits_helpers) (defBody s_p_fits_helpers) (defScope s_p_fits_helpers) .none kV_p_fits_helpers dc_p_fits_helpers pm_p_fits_helpers an_p_fits_helpers cd_p_fits_helpers ct_p_fits_helpers), sl_p_fits_helpers⟩)
    (q_p_fits_helpers : PySem.W.codeIn K cd_p_fits_helpers "_fits_helpers" = true)
    (k_p_fits_helpers : PySem.W.keepIn K (.ref f_p_fits_helpers) = true)
    (a_box : PySem.W.nsIn K mainGlobals "_law_box" = some (some (.ref f_box)))
    (l_box : K.lookup f_box = some ⟨oc_box, od_box, .func (PySem.W.fnOf "_law_box" "_law_box" (defArgs s_box) (defBody s_box) (defScope s_box) .none kV_box dc_box pm_box an_box cd_box ct_box), sl_box⟩)
    (q_box : PySem.W.codeIn K cd_box "_law_box" = true)
    (k_box : PySem.W.keepIn K (.ref f_box) = true)
    (a_mixed : PySem.W.nsIn K mainGlobals "_law_mixed" = some (some (.ref f_mixed)))
    (l_mixed : K.lookup f_mixed = some ⟨oc_mixed, od_mixed, .func (PySem.W.fnOf "_law_mixed" "_law_mixed" (defArgs s_mixed) (defBody s_mixed) (defScope s_mixed) .none kV_mixed dc_mixed pm_mixed an_mixed cd_mixed ct_mixed), sl_mixed⟩)
    (q_mixed : PySem.W.codeIn K cd_mixed "_law_mixed" = true)
    (k_mixed : PySem.W.keepIn K (.ref f_mixed) = true)
    (a_take : PySem.W.nsIn K mainGlobals "_law_take" = some (some (.ref f_take)))
    (l_take : K.lookup f_take = some ⟨oc_take, od_take, .func (PySem.W.fnOf "_law_take" "_law_take" (defArgs s_take) (defBody s_take) (defScope s_take) .none kV_take dc_take pm_take an_take cd_take ct_take), sl_take⟩)
    (q_take : PySem.W.codeIn K cd_take "_law_take" = true)
    (k_take : PySem.W.keepIn K (.ref f_take) = true)
    (a_name : PySem.W.nsIn K mainGlobals "_law_name" = some (some (.ref f_name)))
    (l_name : K.lookup f_name = some ⟨oc_name, od_name, .func (PySem.W.fnOf "_law_name" "_law_name" (defArgs s_name) (defBody s_name) (defScope s_name) .none kV_name dc_name pm_name an_name cd_name ct_name), sl_name⟩)
    (q_name : PySem.W.codeIn K cd_name "_law_name" = true)
    (k_name : PySem.W.keepIn K (.ref f_name) = true)
    (a_names : PySem.W.nsIn K mainGlobals "_law_names" = some (some (.ref f_names)))
    (l_names : K.lookup f_names = some ⟨oc_names, od_names, .func (PySem.W.fnOf "_law_names" "_law_names" (defArgs s_names) (defBody s_names) (defScope s_names) .none kV_names dc_names pm_names an_names cd_names ct_names), sl_names⟩)
    (q_names : PySem.W.codeIn K cd_names "_law_names" = true)
    (k_names : PySem.W.keepIn K (.ref f_names) = true)
    (a_pairs : PySem.W.nsIn K mainGlobals "_law_pairs" = some (some (.ref f_pairs)))
    (l_pairs : K.lookup f_pairs = some ⟨oc_pairs, od_pairs, .func (PySem.W.fnOf "_law_pairs" "_law_pairs" (defArgs s_pairs) (defBody s_pairs) (defScope s_pairs) .none kV_pairs dc_pairs pm_pairs an_pairs cd_pairs ct_pairs), sl_pairs⟩)
    (q_pairs : PySem.W.codeIn K cd_pairs "_law_pairs" = true)
    (k_pairs : PySem.W.keepIn K (.ref f_pairs) = true)
    (a_some : PySem.W.nsIn K mainGlobals "_law_some" = some (some (.ref f_some)))
    (l_some : K.lookup f_some = some ⟨oc_some, od_some, .func (PySem.W.fnOf "_law_some" "_law_some" (defArgs s_some) (defBody s_some) (defScope s_some) .none kV_some dc_some pm_some an_some cd_some ct_some), sl_some⟩)
    (q_some : PySem.W.codeIn K cd_some "_law_some" = true)
    (k_some : PySem.W.keepIn K (.ref f_some) = true)
    (a_helpers : PySem.W.nsIn K mainGlobals "_law_helpers" = some (some (.ref f_helpers)))
    (l_helpers : K.lookup f_helpers = some ⟨oc_helpers, od_helpers, .func (PySem.W.fnOf "_law_helpers" "_law_helpers" (defArgs s_helpers) (defBody s_helpers) (defScope s_helpers) .none kV_helpers dc_helpers pm_helpers an_helpers cd_helpers ct_helpers), sl_helpers⟩)
    (q_helpers : PySem.W.codeIn K cd_helpers "_law_helpers" = true)
    (k_helpers : PySem.W.keepIn K (.ref f_helpers) = true)
    (a_w_is_name : PySem.W.nsIn K mainGlobals "_law_is_name" = some (some (.ref f_w_is_name)))
    (l_w_is_name : K.lookup f_w_is_name = some ⟨oc_w_is_name, od_w_is_name, .func (PySem.W.fnOf "_law_is_name" "_law_is_name" (defArgs s_w_is_name) (defBody s_w_is_name) (defScope s_w_is_name) .none kV_w_is_name dc_w_is_name pm_w_is_name an_w_is_name cd_w_is_name ct_w_is_name), sl_w_is_name⟩)
    (q_w_is_name : PySem.W.codeIn K cd_w_is_name "_law_is_name" = true)
    (k_w_is_name : PySem.W.keepIn K (.ref f_w_is_name) = true)
    (a_pair_fits : PySem.W.nsIn K mainGlobals "_law_pair_fits" = some (some (.ref f_pair_fits)))
    (l_pair_fits : K.lookup f_pair_fits = some ⟨oc_pair_fits, od_pair_fits, .func (PySem.W.fnOf "_law_pair_fits" "_law_pair_fits" (defArgs s_pair_fits) (defBody s_pair_fits) (defScope s_pair_fits) .none kV_pair_fits dc_pair_fits pm_pair_fits an_pair_fits cd_pair_fits ct_pair_fits), sl_pair_fits⟩)
    (q_pair_fits : PySem.W.codeIn K cd_pair_fits "_law_pair_fits" = true)
    (k_pair_fits : PySem.W.keepIn K (.ref f_pair_fits) = true)
    (a_helper_fits : PySem.W.nsIn K mainGlobals "_law_helper_fits" = some (some (.ref f_helper_fits)))
    (l_helper_fits : K.lookup f_helper_fits = some ⟨oc_helper_fits, od_helper_fits, .func (PySem.W.fnOf "_law_helper_fits" "_law_helper_fits" (defArgs s_helper_fits) (defBody s_helper_fits) (defScope s_helper_fits) .none kV_helper_fits dc_helper_fits pm_helper_fits an_helper_fits cd_helper_fits ct_helper_fits), sl_helper_fits⟩)
    (q_helper_fits : PySem.W.codeIn K cd_helper_fits "_law_helper_fits" = true)
    (k_helper_fits : PySem.W.keepIn K (.ref f_helper_fits) = true)
    (a_first_bad : PySem.W.nsIn K mainGlobals "_law_first_bad" = some (some (.ref f_first_bad)))
    (l_first_bad : K.lookup f_first_bad = some ⟨oc_first_bad, od_first_bad, .func (PySem.W.fnOf "_law_first_bad" "_law_first_bad" (defArgs s_first_bad) (defBody s_first_bad) (defScope s_first_bad) .none kV_first_bad dc_first_bad pm_first_bad an_first_bad cd_first_bad ct_first_bad), sl_first_bad⟩)
    (q_first_bad : PySem.W.codeIn K cd_first_bad "_law_first_bad" = true)
    (k_first_bad : PySem.W.keepIn K (.ref f_first_bad) = true)
    (a_odd_word : PySem.W.nsIn K mainGlobals "_law_odd_word" = some (some (.ref f_odd_word)))
    (l_odd_word : K.lookup f_odd_word = some ⟨oc_odd_word, od_odd_word, .func (PySem.W.fnOf "_law_odd_word" "_law_odd_word" (defArgs s_odd_word) (defBody s_odd_word) (defScope s_odd_word) .none kV_odd_word dc_odd_word pm_odd_word an_odd_word cd_odd_word ct_odd_word), sl_odd_word⟩)
    (q_odd_word : PySem.W.codeIn K cd_odd_word "_law_odd_word" = true)
    (k_odd_word : PySem.W.keepIn K (.ref f_odd_word) = true)
    (a_pair_spoilt : PySem.W.nsIn K mainGlobals "_law_pair_spoilt" = some (some (.ref f_pair_spoilt)))
    (l_pair_spoilt : K.lookup f_pair_spoilt = some ⟨oc_pair_spoilt, od_pair_spoilt, .func (PySem.W.fnOf "_law_pair_spoilt" "_law_pair_spoilt" (defArgs s_pair_spoilt) (defBody s_pair_spoilt) (defScope s_pair_spoilt) .none kV_pair_spoilt dc_pair_spoilt pm_pair_spoilt an_pair_spoilt cd_pair_spoilt ct_pair_spoilt), sl_pair_spoilt⟩)
    (q_pair_spoilt : PySem.W.codeIn K cd_pair_spoilt "_law_pair_spoilt" = true)
    (k_pair_spoilt : PySem.W.keepIn K (.ref f_pair_spoilt) = true)
    (a_helper_spoilt : PySem.W.nsIn K mainGlobals "_law_helper_spoilt" = some (some (.ref f_helper_spoilt)))
    (l_helper_spoilt : K.lookup f_helper_spoilt = some ⟨oc_helper_spoilt, od_helper_spoilt, .func (PySem.W.fnOf "_law_helper_spoilt" "_law_helper_spoilt" (defArgs s_helper_spoilt) (defBody s_helper_spoilt) (defScope s_helper_spoilt) .none kV_helper_spoilt dc_helper_spoilt pm_helper_spoilt an_helper_spoilt cd_helper_spoilt ct_helper_spoilt), sl_helper_spoilt⟩)
    (q_helper_spoilt : PySem.W.codeIn K cd_helper_spoilt "_law_helper_spoilt" = true)
    (k_helper_spoilt : PySem.W.keepIn K (.ref f_helper_spoilt) = true)
    (a_made : PySem.W.nsIn K mainGlobals "_law_made" = some (some (.ref f_made)))
    (l_made : K.lookup f_made = some ⟨oc_made, od_made, .func (PySem.W.fnOf "_law_made" "_law_made" (defArgs s_made) (defBody s_made) (defScope s_made) .none kV_made dc_made pm_made an_made cd_made ct_made), sl_made⟩)
    (q_made : PySem.W.codeIn K cd_made "_law_made" = true)
    (k_made : PySem.W.keepIn K (.ref f_made) = true)
    (a_law : PySem.W.nsIn K mainGlobals "law" = some (some (.ref f_law)))
    (l_law : K.lookup f_law = some ⟨oc_law, od_law, .func (PySem.W.fnOf "law" "law" (defArgs s_law) (defBody s_law) (defScope s_law) .none kV_law dc_law pm_law an_law cd_law ct_law), sl_law⟩)
    (q_law : PySem.W.codeIn K cd_law "law" = true)
    (k_law : PySem.W.keepIn K (.ref f_law) = true)
    (z_ValueError : PySem.W.nsIn K mainGlobals "ValueError" = some none)
    (z_isinstance : PySem.W.nsIn K mainGlobals "isinstance" = some none)
    (z_int : PySem.W.nsIn K mainGlobals "int" = some none)
    (z_bool : PySem.W.nsIn K mainGlobals "bool" = some none)
    (z_tuple : PySem.W.nsIn K mainGlobals "tuple" = some none)
    (z_list : PySem.W.nsIn K mainGlobals "list" = some none)
    (z_str : PySem.W.nsIn K mainGlobals "str" = some none)
    (z_len : PySem.W.nsIn K mainGlobals "len" = some none)
    (z_all : PySem.W.nsIn K mainGlobals "all" = some none)
    (z_range : PySem.W.nsIn K mainGlobals "range" = some none)
    (z_zip : PySem.W.nsIn K mainGlobals "zip" = some none)
    (z_min : PySem.W.nsIn K mainGlobals "min" = some none)
    (z_enumerate : PySem.W.nsIn K mainGlobals "enumerate" = some none)
    : ∃ fd : FuncData, (∀ (s : Shared) (v : Value), BindsTo s fd ⟨[v], []⟩ [("_law_script", v)]) ∧ ∀ base : Heap, K.In base → base.Ns mainGlobals mg → FnOk l.prog w K mg base CX0 20 fa fd ["_law_script"] (spLaw K) := by
  have e : f_law = fa := (Value.ref.inj (Option.some.inj (hfa.symm.trans (PySem.W.mg_of X G a_law)))).symm
  subst e
  have F_NoPact_init := fun_mk (st := s_NoPact_init) l_NoPact_init q_NoPact_init k_NoPact_init
  have B_NoPact_init := F_NoPact_init.binds (ps := ["self", "at"]) fun _ _ _ _ _ _ us hl => match us, hl with | [_, _], _ => rfl
  have F_is_whole := fun_mk (st := s_is_whole) l_is_whole q_is_whole k_is_whole
  have B_is_whole := F_is_whole.binds (ps := ["thing"]) fun _ _ _ _ _ _ us hl => match us, hl with | [_], _ => rfl
  have F_is_side := fun_mk (st := s_is_side) l_is_side q_is_side k_is_side
  have B_is_side := F_is_side.binds (ps := ["thing"]) fun _ _ _ _ _ _ us hl => match us, hl with | [_], _ => rfl
  have F_is_name := fun_mk (st := s_is_name) l_is_name q_is_name k_is_name
  have B_is_name := F_is_name.binds (ps := ["thing"]) fun _ _ _ _ _ _ us hl => match us, hl with | [_], _ => rfl
  have F_Pacts_init := fun_mk (st := s_Pacts_init) l_Pacts_init q_Pacts_init k_Pacts_init
  have B_Pacts_init := F_Pacts_init.binds (ps := ["self", "pairs", "helpers"]) fun _ _ _ _ _ _ us hl => match us, hl with | [_, _, _], _ => rfl
  have F_Pacts_pairs := fun_mk (st := s_Pacts_pairs) l_Pacts_pairs q_Pacts_pairs k_Pacts_pairs
  have B_Pacts_pairs := F_Pacts_pairs.binds (ps := ["self"]) fun _ _ _ _ _ _ us hl => match us, hl with | [_], _ => rfl
  have F_Pacts_pact := fun_mk (st := s_Pacts_pact) l_Pacts_pact q_Pacts_pact k_Pacts_pact
  have B_Pacts_pact := F_Pacts_pact.binds (ps := ["self", "name"]) fun _ _ _ _ _ _ us hl => match us, hl with | [_, _], _ => rfl
  have F_Pacts_len := fun_mk (st := s_Pacts_len) l_Pacts_len q_Pacts_len k_Pacts_len
  have B_Pacts_len := F_Pacts_len.binds (ps := ["self"]) fun _ _ _ _ _ _ us hl => match us, hl with | [_], _ => rfl
  have F_p_is_pair := fun_mk (st := s_p_is_pair) l_p_is_pair q_p_is_pair k_p_is_pair
  have B_p_is_pair := F_p_is_pair.binds (ps := ["pair"]) fun _ _ _ _ _ _ us hl => match us, hl with | [_], _ => rfl
  have F_p_fits_pairs := fun_mk (st := s_p_fits_pairs) l_p_fits_pairs q_p_fits_pairs k_p_fits_pairs
  have B_p_fits_pairs := F_p_fits_pairs.binds (ps := ["pair", "ahead"]) fun _ _ _ _ _ _ us hl => match us, hl with | [_, _], _ => rfl
  have F_p_is_pact := fun_mk (st := s_p_is_pact) l_p_is_pact q_p_is_pact k_p_is_pact
  have B_p_is_pact := F_p_is_pact.binds (ps := ["pact"]) fun _ _ _ _ _ _ us hl => match us, hl with | [_], _ => rfl
  have F_p_are_takes := fun_mk (st := s_p_are_takes) l_p_are_takes q_p_are_takes k_p_are_takes
  have B_p_are_takes := F_p_are_takes.binds (ps := ["takes"]) fun _ _ _ _ _ _ us hl => match us, hl with | [_], _ => rfl
  have F_p_are_throws := fun_mk (st := s_p_are_throws) l_p_are_throws q_p_are_throws k_p_are_throws
  have B_p_are_throws := F_p_are_throws.binds (ps := ["throws"]) fun _ _ _ _ _ _ us hl => match us, hl with | [_], _ => rfl
  have F_p_fits_helpers := fun_mk (st := s_p_fits_helpers) l_p_fits_helpers q_p_fits_helpers k_p_fits_helpers
  have B_p_fits_helpers := F_p_fits_helpers.binds (ps := ["pact", "pairs", "ahead"]) fun _ _ _ _ _ _ us hl => match us, hl with | [_, _, _], _ => rfl
  have F_box := fun_mk (st := s_box) l_box q_box k_box
  have B_box := F_box.binds (ps := ["_law_script"]) fun _ _ _ _ _ _ us hl => match us, hl with | [_], _ => rfl
  have F_mixed := fun_mk (st := s_mixed) l_mixed q_mixed k_mixed
  have B_mixed := F_mixed.binds (ps := ["_law_cell", "_law_k"]) fun _ _ _ _ _ _ us hl => match us, hl with | [_, _], _ => rfl
  have F_take := fun_mk (st := s_take) l_take q_take k_take
  have B_take := F_take.binds (ps := ["_law_box_here", "_law_size"]) fun _ _ _ _ _ _ us hl => match us, hl with | [_, _], _ => rfl
  have F_name := fun_mk (st := s_name) l_name q_name k_name
  have B_name := F_name.binds (ps := ["_law_box_here"]) fun _ _ _ _ _ _ us hl => match us, hl with | [_], _ => rfl
  have F_names := fun_mk (st := s_names) l_names q_names k_names
  have B_names := F_names.binds (ps := ["_law_box_here", "_law_many"]) fun _ _ _ _ _ _ us hl => match us, hl with | [_, _], _ => rfl
  have F_pairs := fun_mk (st := s_pairs) l_pairs q_pairs k_pairs
  have B_pairs := F_pairs.binds (ps := ["_law_box_here", "_law_most"]) fun _ _ _ _ _ _ us hl => match us, hl with | [_, _], _ => rfl
  have F_some := fun_mk (st := s_some) l_some q_some k_some
  have B_some := F_some.binds (ps := ["_law_box_here", "_law_things", "_law_most"]) fun _ _ _ _ _ _ us hl => match us, hl with | [_, _, _], _ => rfl
  have F_helpers := fun_mk (st := s_helpers) l_helpers q_helpers k_helpers
  have B_helpers := F_helpers.binds (ps := ["_law_box_here", "_law_pairs_here"]) fun _ _ _ _ _ _ us hl => match us, hl with | [_, _], _ => rfl
  have F_w_is_name := fun_mk (st := s_w_is_name) l_w_is_name q_w_is_name k_w_is_name
  have B_w_is_name := F_w_is_name.binds (ps := ["_law_word"]) fun _ _ _ _ _ _ us hl => match us, hl with | [_], _ => rfl
  have F_pair_fits := fun_mk (st := s_pair_fits) l_pair_fits q_pair_fits k_pair_fits
  have B_pair_fits := F_pair_fits.binds (ps := ["_law_ahead", "_law_pair"]) fun _ _ _ _ _ _ us hl => match us, hl with | [_, _], _ => rfl
  have F_helper_fits := fun_mk (st := s_helper_fits) l_helper_fits q_helper_fits k_helper_fits
  have B_helper_fits := F_helper_fits.binds (ps := ["_law_pairs_here", "_law_ahead", "_law_helper"]) fun _ _ _ _ _ _ us hl => match us, hl with | [_, _, _], _ => rfl
  have F_first_bad := fun_mk (st := s_first_bad) l_first_bad q_first_bad k_first_bad
  have B_first_bad := F_first_bad.binds (ps := ["_law_pairs_here", "_law_helpers_here"]) fun _ _ _ _ _ _ us hl => match us, hl with | [_, _], _ => rfl
  have F_odd_word := fun_mk (st := s_odd_word) l_odd_word q_odd_word k_odd_word
  have B_odd_word := F_odd_word.binds (ps := ["_law_box_here", "_law_words"]) fun _ _ _ _ _ _ us hl => match us, hl with | [_, _], _ => rfl
  have F_pair_spoilt := fun_mk (st := s_pair_spoilt) l_pair_spoilt q_pair_spoilt k_pair_spoilt
  have B_pair_spoilt := F_pair_spoilt.binds (ps := ["_law_box_here", "_law_pairs_here"]) fun _ _ _ _ _ _ us hl => match us, hl with | [_, _], _ => rfl
  have F_helper_spoilt := fun_mk (st := s_helper_spoilt) l_helper_spoilt q_helper_spoilt k_helper_spoilt
  have B_helper_spoilt := F_helper_spoilt.binds (ps := ["_law_box_here", "_law_pairs_here", "_law_helpers_here"]) fun _ _ _ _ _ _ us hl => match us, hl with | [_, _, _], _ => rfl
  have F_made := fun_mk (st := s_made) l_made q_made k_made
  have B_made := F_made.binds (ps := ["_law_pairs_here", "_law_helpers_here"]) fun _ _ _ _ _ _ us hl => match us, hl with | [_, _], _ => rfl
  have F_law := fun_mk (st := s_law) l_law q_law k_law
  have B_law := F_law.binds (ps := ["_law_script"]) fun _ _ _ _ _ _ us hl => match us, hl with | [_], _ => rfl
  have T : Txt K mg { c_Pacts := c_Pacts, c_NoPact := c_NoPact, c_PactError := c_PactError, c_NoText := c_NoText, t_LONGEST_NAME := t_LONGEST_NAME, t_MOST_PAIRS := t_MOST_PAIRS, t_MOST_HELPERS := t_MOST_HELPERS, t_MOST_TAKES := t_MOST_TAKES, t_MOST_THROWS := t_MOST_THROWS, t_TAKES := t_TAKES, f_NoPact_init := f_NoPact_init, d_NoPact_init := PySem.W.fnOf "__init__" "NoPact.__init__" (defArgs s_NoPact_init) (defBody s_NoPact_init) (defScope s_NoPact_init) .none kV_NoPact_init dc_NoPact_init pm_NoPact_init an_NoPact_init cd_NoPact_init ct_NoPact_init, f_is_whole := f_is_whole, d_is_whole := PySem.W.fnOf "is_whole" "is_whole" (defArgs s_is_whole) (defBody s_is_whole) (defScope s_is_whole) .none kV_is_whole dc_is_whole pm_is_whole an_is_whole cd_is_whole ct_is_whole, f_is_side := f_is_side, d_is_side := PySem.W.fnOf "is_side" "is_side" (defArgs s_is_side) (defBody s_is_side) (defScope s_is_side) .none kV_is_side dc_is_side pm_is_side an_is_side cd_is_side ct_is_side, f_is_name := f_is_name, d_is_name := PySem.W.fnOf "is_name" "is_name" (defArgs s_is_name) (defBody s_is_name) (defScope s_is_name) .none kV_is_name dc_is_name pm_is_name an_is_name cd_is_name ct_is_name, f_Pacts_init := f_Pacts_init, d_Pacts_init := PySem.W.fnOf "__init__" "Pacts.__init__" (defArgs s_Pacts_init) (defBody s_Pacts_init) (defScope s_Pacts_init) .none kV_Pacts_init dc_Pacts_init pm_Pacts_init an_Pacts_init cd_Pacts_init ct_Pacts_init, f_Pacts_pairs := f_Pacts_pairs, d_Pacts_pairs := PySem.W.fnOf "pairs" "Pacts.pairs" (defArgs s_Pacts_pairs) (defBody s_Pacts_pairs) (defScope s_Pacts_pairs) .none kV_Pacts_pairs dc_Pacts_pairs pm_Pacts_pairs an_Pacts_pairs cd_Pacts_pairs ct_Pacts_pairs, f_Pacts_pact := f_Pacts_pact, d_Pacts_pact := PySem.W.fnOf "pact" "Pacts.pact" (defArgs s_Pacts_pact) (defBody s_Pacts_pact) (defScope s_Pacts_pact) .none kV_Pacts_pact dc_Pacts_pact pm_Pacts_pact an_Pacts_pact cd_Pacts_pact ct_Pacts_pact, f_Pacts_len := f_Pacts_len, d_Pacts_len := PySem.W.fnOf "__len__" "Pacts.__len__" (defArgs s_Pacts_len) (defBody s_Pacts_len) (defScope s_Pacts_len) .none kV_Pacts_len dc_Pacts_len pm_Pacts_len an_Pacts_len cd_Pacts_len ct_Pacts_len, f_p_is_pair := f_p_is_pair, d_p_is_pair := PySem.W.fnOf "_is_pair" "_is_pair" (defArgs s_p_is_pair) (defBody s_p_is_pair) (defScope s_p_is_pair) .none kV_p_is_pair dc_p_is_pair pm_p_is_pair an_p_is_pair cd_p_is_pair ct_p_is_pair, f_p_fits_pairs := f_p_fits_pairs, d_p_fits_pairs := PySem.W.fnOf "_fits_pairs" "_fits_pairs" (defArgs s_p_fits_pairs) (defBody s_p_fits_pairs) (defScope s_p_fits_pairs) .none kV_p_fits_pairs dc_p_fits_pairs pm_p_fits_pairs an_p_fits_pairs cd_p_fits_pairs ct_p_fits_pairs, f_p_is_pact := f_p_is_pact, d_p_is_pact := PySem.W.fnOf "_is_pact" "_is_pact" (defArgs s_p_is_pact) (defBody s_p_is_pact) (defScope s_p_is_pact) .none kV_p_is_pact dc_p_is_pact pm_p_is_pact an_p_is_pact cd_p_is_pact ct_p_is_pact, f_p_are_takes := f_p_are_takes, d_p_are_takes := PySem.W.fnOf "_are_takes" "_are_takes" (defArgs s_p_are_takes) (defBody s_p_are_takes) (defScope s_p_are_takes) .none kV_p_are_takes dc_p_are_takes pm_p_are_takes an_p_are_takes cd_p_are_takes ct_p_are_takes, f_p_are_throws := f_p_are_throws, d_p_are_throws := PySem.W.fnOf "_are_throws" "_are_throws" (defArgs s_p_are_throws) (defBody s_p_are_throws) (defScope s_p_are_throws) .none kV_p_are_throws dc_p_are_throws pm_p_are_throws an_p_are_throws cd_p_are_throws ct_p_are_throws, f_p_fits_helpers := f_p_fits_helpers, d_p_fits_helpers := PySem.W.fnOf "_fits_helpers" "_fits_helpers" (defArgs s_p_fits_helpers) (defBody s_p_fits_helpers) (defScope s_p_fits_helpers) .none kV_p_fits_helpers dc_p_fits_helpers pm_p_fits_helpers an_p_fits_helpers cd_p_fits_helpers ct_p_fits_helpers, f_box := f_box, d_box := PySem.W.fnOf "_law_box" "_law_box" (defArgs s_box) (defBody s_box) (defScope s_box) .none kV_box dc_box pm_box an_box cd_box ct_box, f_mixed := f_mixed, d_mixed := PySem.W.fnOf "_law_mixed" "_law_mixed" (defArgs s_mixed) (defBody s_mixed) (defScope s_mixed) .none kV_mixed dc_mixed pm_mixed an_mixed cd_mixed ct_mixed, f_take := f_take, d_take := PySem.W.fnOf "_law_take" "_law_take" (defArgs s_take) (defBody s_take) (defScope s_take) .none kV_take dc_take pm_take an_take cd_take ct_take, f_name := f_name, d_name := PySem.W.fnOf "_law_name" "_law_name" (defArgs s_name) (defBody s_name) (defScope s_name) .none kV_name dc_name pm_name an_name cd_name ct_name, f_names := f_names, d_names := PySem.W.fnOf "_law_names" "_law_names" (defArgs s_names) (defBody s_names) (defScope s_names) .none kV_names dc_names pm_names an_names cd_names ct_names, f_pairs := f_pairs, d_pairs := PySem.W.fnOf "_law_pairs" "_law_pairs" (defArgs s_pairs) (defBody s_pairs) (defScope s_pairs) .none kV_pairs dc_pairs pm_pairs an_pairs cd_pairs ct_pairs, f_some := f_some, d_some := PySem.W.fnOf "_law_some" "_law_some" (defArgs s_some) (defBody s_some) (defScope s_some) .none kV_some dc_some pm_some an_some cd_some ct_some, f_helpers := f_helpers, d_helpers := PySem.W.fnOf "_law_helpers" "_law_helpers" (defArgs s_helpers) (defBody s_helpers) (defScope s_helpers) .none kV_helpers dc_helpers pm_helpers an_helpers cd_helpers ct_helpers, f_w_is_name := f_w_is_name, d_w_is_name := PySem.W.fnOf "_law_is_name" "_law_is_name" (defArgs s_w_is_name) (defBody s_w_is_name) (defScope s_w_is_name) .none kV_w_is_name dc_w_is_name pm_w_is_name an_w_is_name cd_w_is_name ct_w_is_name, f_pair_fits := f_pair_fits, d_pair_fits := PySem.W.fnOf "_law_pair_fits" "_law_pair_fits" (defArgs s_pair_fits) (defBody s_pair_fits) (defScope s_pair_fits) .none kV_pair_fits dc_pair_fits pm_pair_fits an_pair_fits cd_pair_fits ct_pair_fits, f_helper_fits := f_helper_fits, d_helper_fits := PySem.W.fnOf "_law_helper_fits" "_law_helper_fits" (defArgs s_helper_fits) (defBody s_helper_fits) (defScope s_helper_fits) .none kV_helper_fits dc_helper_fits pm_helper_fits an_helper_fits cd_helper_fits ct_helper_fits, f_first_bad := f_first_bad, d_first_bad := PySem.W.fnOf "_law_first_bad" "_law_first_bad" (defArgs s_first_bad) (defBody s_first_bad) (defScope s_first_bad) .none kV_first_bad dc_first_bad pm_first_bad an_first_bad cd_first_bad ct_first_bad, f_odd_word := f_odd_word, d_odd_word := PySem.W.fnOf "_law_odd_word" "_law_odd_word" (defArgs s_odd_word) (defBody s_odd_word) (defScope s_odd_word) .none kV_odd_word dc_odd_word pm_odd_word an_odd_word cd_odd_word ct_odd_word, f_pair_spoilt := f_pair_spoilt, d_pair_spoilt := PySem.W.fnOf "_law_pair_spoilt" "_law_pair_spoilt" (defArgs s_pair_spoilt) (defBody s_pair_spoilt) (defScope s_pair_spoilt) .none kV_pair_spoilt dc_pair_spoilt pm_pair_spoilt an_pair_spoilt cd_pair_spoilt ct_pair_spoilt, f_helper_spoilt := f_helper_spoilt, d_helper_spoilt := PySem.W.fnOf "_law_helper_spoilt" "_law_helper_spoilt" (defArgs s_helper_spoilt) (defBody s_helper_spoilt) (defScope s_helper_spoilt) .none kV_helper_spoilt dc_helper_spoilt pm_helper_spoilt an_helper_spoilt cd_helper_spoilt ct_helper_spoilt, f_made := f_made, d_made := PySem.W.fnOf "_law_made" "_law_made" (defArgs s_made) (defBody s_made) (defScope s_made) .none kV_made dc_made pm_made an_made cd_made ct_made, f_law := f_law, d_law := PySem.W.fnOf "law" "law" (defArgs s_law) (defBody s_law) (defScope s_law) .none kV_law dc_law pm_law an_law cd_law ct_law } := { cl_Pacts := ⟨pg_Pacts, hd_Pacts, po_Pacts, sa_Pacts⟩, mk_Pacts := ⟨mk_Pacts, a_Pacts_init, i_Pacts_init, kc_Pacts⟩, g_Pacts := PySem.W.mg_of X G a_Pacts, n_Pacts__pairs := n_Pacts__pairs, n_Pacts__helpers := n_Pacts__helpers, x_NoPact := ⟨⟨_, _, _, _, _, _, _, _, _, _, _, _, _, _, _, xl_NoPact, xm_NoPact⟩, xs_NoPact, xe_NoPact, xy_NoPact, xk_NoPact⟩, xi_NoPact := a_NoPact_init, xt_NoPact := beq_iff_eq.mp i_NoPact_init, xf_NoPact := ⟨xg_NoPact, xo_NoPact, xe_NoPact, xd_NoPact⟩, g_NoPact := PySem.W.mg_of X G a_NoPact, n_NoPact_at := n_NoPact_at, md_PactError := ⟨da_PactError, dr_PactError, df_PactError⟩, g_PactError := PySem.W.mg_of X G a_PactError, fa_NoPact := fa_NoPact, fm_NoPact := fm_NoPact, fs_NoPact := fs_NoPact, fv_NoPact := fv_NoPact, fx_NoPact := fx_NoPact, fe_NoPact := fe_NoPact, fg := fg, ft := ft, F_NoPact_init := F_NoPact_init, B_NoPact_init := B_NoPact_init, F_is_whole := F_is_whole, B_is_whole := B_is_whole, g_is_whole := PySem.W.mg_of X G a_is_whole, k_is_whole := k_is_whole, F_is_side := F_is_side, B_is_side := B_is_side, g_is_side := PySem.W.mg_of X G a_is_side, k_is_side := k_is_side, F_is_name := F_is_name, B_is_name := B_is_name, g_is_name := PySem.W.mg_of X G a_is_name, k_is_name := k_is_name, F_Pacts_init := F_Pacts_init, B_Pacts_init := B_Pacts_init, F_Pacts_pairs := F_Pacts_pairs, B_Pacts_pairs := B_Pacts_pairs, m_Pacts_pairs := ⟨a_Pacts_pairs, i_Pacts_pairs, k_Pacts_pairs⟩, F_Pacts_pact := F_Pacts_pact, B_Pacts_pact := B_Pacts_pact, m_Pacts_pact := ⟨a_Pacts_pact, i_Pacts_pact, k_Pacts_pact⟩, F_Pacts_len := F_Pacts_len, B_Pacts_len := B_Pacts_len, m_Pacts_len := ⟨a_Pacts_len, i_Pacts_len, k_Pacts_len⟩, F_p_is_pair := F_p_is_pair, B_p_is_pair := B_p_is_pair, g_p_is_pair := PySem.W.mg_of X G a_p_is_pair, k_p_is_pair := k_p_is_pair, F_p_fits_pairs := F_p_fits_pairs, B_p_fits_pairs := B_p_fits_pairs, g_p_fits_pairs := PySem.W.mg_of X G a_p_fits_pairs, k_p_fits_pairs := k_p_fits_pairs, F_p_is_pact := F_p_is_pact, B_p_is_pact := B_p_is_pact, g_p_is_pact := PySem.W.mg_of X G a_p_is_pact, k_p_is_pact := k_p_is_pact, F_p_are_takes := F_p_are_takes, B_p_are_takes := B_p_are_takes, g_p_are_takes := PySem.W.mg_of X G a_p_are_takes, k_p_are_takes := k_p_are_takes, F_p_are_throws := F_p_are_throws, B_p_are_throws := B_p_are_throws, g_p_are_throws := PySem.W.mg_of X G a_p_are_throws, k_p_are_throws := k_p_are_throws, F_p_fits_helpers := F_p_fits_helpers, B_p_fits_helpers := B_p_fits_helpers, g_p_fits_helpers := PySem.W.mg_of X G a_p_fits_helpers, k_p_fits_helpers := k_p_fits_helpers, F_box := F_box, B_box := B_box, g_box := PySem.W.mg_of X G a_box, k_box := k_box, F_mixed := F_mixed, B_mixed := B_mixed, g_mixed := PySem.W.mg_of X G a_mixed, k_mixed := k_mixed, F_take := F_take, B_take := B_take, g_take := PySem.W.mg_of X G a_take, k_take := k_take, F_name := F_name, B_name := B_name, g_name := PySem.W.mg_of X G a_name, k_name := k_name, F_names := F_names, B_names := B_names, g_names := PySem.W.mg_of X G a_names, k_names := k_names, F_pairs := F_pairs, B_pairs := B_pairs, g_pairs := PySem.W.mg_of X G a_pairs, k_pairs := k_pairs, F_some := F_some, B_some := B_some, g_some := PySem.W.mg_of X G a_some, k_some := k_some, F_helpers := F_helpers, B_helpers := B_helpers, g_helpers := PySem.W.mg_of X G a_helpers, k_helpers := k_helpers, F_w_is_name := F_w_is_name, B_w_is_name := B_w_is_name, g_w_is_name := PySem.W.mg_of X G a_w_is_name, k_w_is_name := k_w_is_name, F_pair_fits := F_pair_fits, B_pair_fits := B_pair_fits, g_pair_fits := PySem.W.mg_of X G a_pair_fits, k_pair_fits := k_pair_fits, F_helper_fits := F_helper_fits, B_helper_fits := B_helper_fits, g_helper_fits := PySem.W.mg_of X G a_helper_fits, k_helper_fits := k_helper_fits, F_first_bad := F_first_bad, B_first_bad := B_first_bad, g_first_bad := PySem.W.mg_of X G a_first_bad, k_first_bad := k_first_bad, F_odd_word := F_odd_word, B_odd_word := B_odd_word, g_odd_word := PySem.W.mg_of X G a_odd_word, k_odd_word := k_odd_word, F_pair_spoilt := F_pair_spoilt, B_pair_spoilt := B_pair_spoilt, g_pair_spoilt := PySem.W.mg_of X G a_pair_spoilt, k_pair_spoilt := k_pair_spoilt, F_helper_spoilt := F_helper_spoilt, B_helper_spoilt := B_helper_spoilt, g_helper_spoilt := PySem.W.mg_of X G a_helper_spoilt, k_helper_spoilt := k_helper_spoilt, F_made := F_made, B_made := B_made, g_made := PySem.W.mg_of X G a_made, k_made := k_made, F_law := F_law, B_law := B_law, g_law := PySem.W.mg_of X G a_law, k_law := k_law, g_NoText := PySem.W.mg_of X G a_NoText, v_LONGEST_NAME := PySem.W.mg_of X G v_LONGEST_NAME, v_MOST_PAIRS := PySem.W.mg_of X G v_MOST_PAIRS, v_MOST_HELPERS := PySem.W.mg_of X G v_MOST_HELPERS, v_MOST_TAKES := PySem.W.mg_of X G v_MOST_TAKES, v_MOST_THROWS := PySem.W.mg_of X G v_MOST_THROWS, v_TAKES := PySem.W.mg_of X G v_TAKES, q_TAKES := fun H => .inr ⟨_, _, _, lk_TAKES, rfl, rfl, by show 2 ≤ sizeLine; decide, (.cons ⟨_, rfl⟩ (.cons ⟨_, rfl⟩ .nil))⟩, z_ValueError := PySem.W.mg_none_of X G z_ValueError, z_isinstance := PySem.W.mg_none_of X G z_isinstance, z_int := PySem.W.mg_none_of X G z_int, z_bool := PySem.W.mg_none_of X G z_bool, z_tuple := PySem.W.mg_none_of X G z_tuple, z_list := PySem.W.mg_none_of X G z_list, z_str := PySem.W.mg_none_of X G z_str, z_len := PySem.W.mg_none_of X G z_len, z_all := PySem.W.mg_none_of X G z_all, z_range := PySem.W.mg_none_of X G z_range, z_zip := PySem.W.mg_none_of X G z_zip, z_min := PySem.W.mg_none_of X G z_min, z_enumerate := PySem.W.mg_none_of X G z_enumerate }
  exact ⟨_, fun s v => .of_eq rfl, fun base _ _ => (ok_law T).mono (by decide)⟩
theorem walk {l : PySem.W.OpenLaw} {q : Program} {loose : List Str} {XP : (Str → Option Value) → Heap → Prop} {YP : World → Heap → Prop} {d : DefRec} {K : Params → PySem.W.Frag} (hn : l.most = some 63) (hdf : d.params.defaults = [])
    (hY : ∀ (w : World) (h : Heap), YP w h → (K w.params).In h)
    (F : ∀ (w : World) (mg : Str → Option Value) (fa : Addr) (h : Heap), (K w.params).In h → h.Ns mainGlobals mg → mg d.name = some (.ref fa) →
      ∃ fd : FuncData, (∀ (s : Shared) (u : Value), BindsTo s fd ⟨[u], []⟩ [("_law_script", u)]) ∧ ∀ base : Heap, (K w.params).In base → base.Ns mainGlobals mg → FnOk l.prog w (K w.params) mg base CX0 20 fa fd ["_law_script"] (spLaw (K w.params))) :
    PySem.W.WalkO q loose XP YP l.row.toRowW d [] (fun f vs => PySem.call f vs) := L2.walk_of (n := 63) (k := 20) (x := "_law_script") (CX := fun _ => CX0) (sp := fun w => spLaw (K w.params)) hn (by decide) hdf ⟨rfl, by decide, by decide⟩ hY F (fun _ _ a ns hl _ hS => ⟨a, ns, rfl, hS, hl, fun _ => rfl⟩) fun _ _ _ _ _ z => z
end Lw
open PySem PySem.W PyProof.Rows
set_option maxRecDepth 100000 in
set_option maxHeartbeats 0 in
theorem PySem.Challenge.cw_pactford_k03_pacts_refused_holds : PySem.Challenge.rw_pactford_k03_pacts_refused.Holds := by
  w_on; o_law; k_head; (case hw => w_witness2)
  k_fill
  refine Lw.walk (l := PySem.Challenge.rw_pactford_k03_pacts_refused) rfl rfl (fun w h Y => PySem.W.kIn_of Y) ?F
  case F =>
    intro w mg fa h KX G hmg
    refine' Lw.all_mk KX G hmg ?a_Pacts ?pg_Pacts ?hd_Pacts ?po_Pacts ?sa_Pacts ?mk_Pacts ?kc_Pacts ?n_Pacts__pairs ?n_Pacts__helpers ?a_NoPact ?xl_NoPact ?xm_NoPact ?xs_NoPact ?xe_NoPact ?xy_NoPact ?xk_NoPact ?xg_NoPact ?xo_NoPact ?xd_NoPact ?n_NoPact_at ?a_PactError ?da_PactError ?dr_PactError ?df_PactError ?a_NoText ?v_LONGEST_NAME ?v_MOST_PAIRS ?v_MOST_HELPERS ?v_MOST_TAKES ?v_MOST_THROWS ?v_TAKES ?lk_TAKES ?fa_NoPact ?fm_NoPact ?fs_NoPact ?fv_NoPact ?fx_NoPact ?fe_NoPact ?fg ?ft ?a_NoPact_init ?i_NoPact_init ?l_NoPact_init ?q_NoPact_init ?k_NoPact_init ?a_is_whole ?l_is_whole ?q_is_whole ?k_is_whole ?a_is_side ?l_is_side ?q_is_side ?k_is_side ?a_is_name ?l_is_name ?q_is_name ?k_is_name ?a_Pacts_init ?i_Pacts_init ?l_Pacts_init ?q_Pacts_init ?k_Pacts_init ?a_Pacts_pairs ?i_Pacts_pairs ?l_Pacts_pairs ?q_Pacts_pairs ?k_Pacts_pairs ?a_Pacts_pact ?i_Pacts_pact ?l_Pacts_pact ?q_Pacts_pact ?k_Pacts_pact ?a_Pacts_len ?i_Pacts_len ?l_Pacts_len ?q_Pacts_len ?k_Pacts_len ?a_p_is_pair ?l_p_is_pair ?q_p_is_pair ?k_p_is_pair ?a_p_fits_pairs ?l_p_fits_pairs ?q_p_fits_pairs ?k_p_fits_pairs ?a_p_is_pact ?l_p_is_pact ?q_p_is_pact ?k_p_is_pact ?a_p_are_takes ?l_p_are_takes ?q_p_are_takes ?k_p_are_takes ?a_p_are_throws ?l_p_are_throws ?q_p_are_throws ?k_p_are_throws ?a_p_fits_helpers ?l_p_fits_helpers ?q_p_fits_helpers ?k_p_fits_helpers ?a_box ?l_box ?q_box ?k_box ?a_mixed ?l_mixed ?q_mixed ?k_mixed ?a_take ?l_take ?q_take ?k_take ?a_name ?l_name ?q_name ?k_name ?a_names ?l_names ?q_names ?k_names ?a_pairs ?l_pairs ?q_pairs ?k_pairs ?a_some ?l_some ?q_some ?k_some ?a_helpers ?l_helpers ?q_helpers ?k_helpers ?a_w_is_name ?l_w_is_name ?q_w_is_name ?k_w_is_name ?a_pair_fits ?l_pair_fits ?q_pair_fits ?k_pair_fits ?a_helper_fits ?l_helper_fits ?q_helper_fits ?k_helper_fits ?a_first_bad ?l_first_bad ?q_first_bad ?k_first_bad ?a_odd_word ?l_odd_word ?q_odd_word ?k_odd_word ?a_pair_spoilt ?l_pair_spoilt ?q_pair_spoilt ?k_pair_spoilt ?a_helper_spoilt ?l_helper_spoilt ?q_helper_spoilt ?k_helper_spoilt ?a_made ?l_made ?q_made ?k_made ?a_law ?l_law ?q_law ?k_law ?z_ValueError ?z_isinstance ?z_int ?z_bool ?z_tuple ?z_list ?z_str ?z_len ?z_all ?z_range ?z_zip ?z_min ?z_enumerate
    (case a_Pacts => first | k_is | kit_is | rfl | decide +kernel)
    (case pg_Pacts => first | k_is | kit_is | rfl | decide +kernel)
    (case hd_Pacts => first | k_is | kit_is | rfl | decide +kernel)
    (case po_Pacts => first | k_is | kit_is | rfl | decide +kernel)
    (case sa_Pacts => first | k_is | kit_is | rfl | decide +kernel)
    (case mk_Pacts => first | k_is | kit_is | rfl | decide +kernel)
    (case kc_Pacts => first | k_is | kit_is | rfl | decide +kernel)
    (case n_Pacts__pairs => first | k_is | kit_is | rfl | decide +kernel)
    (case n_Pacts__helpers => first | k_is | kit_is | rfl | decide +kernel)
    (case a_NoPact => first | k_is | kit_is | rfl | decide +kernel)
    (case xl_NoPact => first | k_is | kit_is | rfl | decide +kernel)
    (case xm_NoPact => first | k_is | kit_is | rfl | decide +kernel)
    (case xs_NoPact => first | k_is | kit_is | rfl | decide +kernel)
    (case xe_NoPact => first | k_is | kit_is | rfl | decide +kernel)
    (case xy_NoPact => first | k_is | kit_is | rfl | decide +kernel)
    (case xk_NoPact => first | k_is | kit_is | rfl | decide +kernel)
    (case xg_NoPact => first | k_is | kit_is | rfl | decide +kernel)
    (case xo_NoPact => first | k_is | kit_is | rfl | decide +kernel)
    (case xd_NoPact => first | k_is | kit_is | rfl | decide +kernel)
    (case n_NoPact_at => first | k_is | kit_is | rfl | decide +kernel)
    (case a_PactError => first | k_is | kit_is | rfl | decide +kernel)
    (case da_PactError => first | k_is | kit_is | rfl | decide +kernel)
    (case dr_PactError => first | k_is | kit_is | rfl | decide +kernel)
    (case df_PactError => first | k_is | kit_is | rfl | decide +kernel)
    (case a_NoText => first | k_is | kit_is | rfl | decide +kernel)
    (case v_LONGEST_NAME => first | k_is | kit_is | rfl | decide +kernel)
    (case v_MOST_PAIRS => first | k_is | kit_is | rfl | decide +kernel)
    (case v_MOST_HELPERS => first | k_is | kit_is | rfl | decide +kernel)
    (case v_MOST_TAKES => first | k_is | kit_is | rfl | decide +kernel)
    (case v_MOST_THROWS => first | k_is | kit_is | rfl | decide +kernel)
    (case v_TAKES => first | k_is | kit_is | rfl | decide +kernel)
    (case lk_TAKES => first | k_is | kit_is | rfl | decide +kernel)
    (case fa_NoPact => first | k_is | kit_is | rfl | decide +kernel)
    (case fm_NoPact => first | k_is | kit_is | rfl | decide +kernel)
    (case fs_NoPact => first | k_is | kit_is | rfl | decide +kernel)
    (case fv_NoPact => first | k_is | kit_is | rfl | decide +kernel)
    (case fx_NoPact => first | k_is | kit_is | rfl | decide +kernel)
    (case fe_NoPact => first | k_is | kit_is | rfl | decide +kernel)
    (case fg => first | k_is | kit_is | rfl | decide +kernel)
    (case ft => first | k_is | kit_is | rfl | decide +kernel)
    (case a_NoPact_init => first | k_is | kit_is | rfl | decide +kernel)
    (case i_NoPact_init => first | k_is | kit_is | rfl | decide +kernel)
    (case l_NoPact_init => first | k_is | kit_is | rfl | decide +kernel)
    (case q_NoPact_init => first | k_is | kit_is | rfl | decide +kernel)
    (case k_NoPact_init => first | k_is | kit_is | rfl | decide +kernel)
    (case a_is_whole => first | k_is | kit_is | rfl | decide +kernel)
    (case l_is_whole => first | k_is | kit_is | rfl | decide +kernel)
    (case q_is_whole => first | k_is | kit_is | rfl | decide +kernel)
    (case k_is_whole => first | k_is | kit_is | rfl | decide +kernel)
    (case a_is_side => first | k_is | kit_is | rfl | decide +kernel)
    (case l_is_side => first | k_is | kit_is | rfl | decide +kernel)
    (case q_is_side => first | k_is | kit_is | rfl | decide +kernel)
    (case k_is_side => first | k_is | kit_is | rfl | decide +kernel)
    (case a_is_name => first | k_is | kit_is | rfl | decide +kernel)
    (case l_is_name => first | k_is | kit_is | rfl | decide +kernel)
    (case q_is_name => first | k_is | kit_is | rfl | decide +kernel)
    (case k_is_name => first | k_is | kit_is | rfl | decide +kernel)
    (case a_Pacts_init => first | k_is | kit_is | rfl | decide +kernel)
    (case i_Pacts_init => first | k_is | kit_is | rfl | decide +kernel)
    (case l_Pacts_init => first | k_is | kit_is | rfl | decide +kernel)
    (case q_Pacts_init => first | k_is | kit_is | rfl | decide +kernel)
    (case k_Pacts_init => first | k_is | kit_is | rfl | decide +kernel)
    (case a_Pacts_pairs => first | k_is | kit_is | rfl | decide +kernel)
    (case i_Pacts_pairs => first | k_is | kit_is | rfl | decide +kernel)
    (case l_Pacts_pairs => first | k_is | kit_is | rfl | decide +kernel)
    (case q_Pacts_pairs => first | k_is | kit_is | rfl | decide +kernel)
    (case k_Pacts_pairs => first | k_is | kit_is | rfl | decide +kernel)
    (case a_Pacts_pact => first | k_is | kit_is | rfl | decide +kernel)
    (case i_Pacts_pact => first | k_is | kit_is | rfl | decide +kernel)
    (case l_Pacts_pact => first | k_is | kit_is | rfl | decide +kernel)
    (case q_Pacts_pact => first | k_is | kit_is | rfl | decide +kernel)
    (case k_Pacts_pact => first | k_is | kit_is | rfl | decide +kernel)
    (case a_Pacts_len => first | k_is | kit_is | rfl | decide +kernel)
    (case i_Pacts_len => first | k_is | kit_is | rfl | decide +kernel)
    (case l_Pacts_len => first | k_is | kit_is | rfl | decide +kernel)
    (case q_Pacts_len => first | k_is | kit_is | rfl | decide +kernel)
    (case k_Pacts_len => first | k_is | kit_is | rfl | decide +kernel)
    (case a_p_is_pair => first | k_is | kit_is | rfl | decide +kernel)
    (case l_p_is_pair => first | k_is | kit_is | rfl | decide +kernel)
    (case q_p_is_pair => first | k_is | kit_is | rfl | decide +kernel)
    (case k_p_is_pair => first | k_is | kit_is | rfl | decide +kernel)
    (case a_p_fits_pairs => first | k_is | kit_is | rfl | decide +kernel)
    (case l_p_fits_pairs => first | k_is | kit_is | rfl | decide +kernel)
    (case q_p_fits_pairs => first | k_is | kit_is | rfl | decide +kernel)
    (case k_p_fits_pairs => first | k_is | kit_is | rfl | decide +kernel)
    (case a_p_is_pact => first | k_is | kit_is | rfl | decide +kernel)
    (case l_p_is_pact => first | k_is | kit_is | rfl | decide +kernel)
    (case q_p_is_pact => first | k_is | kit_is | rfl | decide +kernel)
    (case k_p_is_pact => first | k_is | kit_is | rfl | decide +kernel)
    (case a_p_are_takes => first | k_is | kit_is | rfl | decide +kernel)
    (case l_p_are_takes => first | k_is | kit_is | rfl | decide +kernel)
    (case q_p_are_takes => first | k_is | kit_is | rfl | decide +kernel)
    (case k_p_are_takes => first | k_is | kit_is | rfl | decide +kernel)
    (case a_p_are_throws => first | k_is | kit_is | rfl | decide +kernel)
    (case l_p_are_throws => first | k_is | kit_is | rfl | decide +kernel)
    (case q_p_are_throws => first | k_is | kit_is | rfl | decide +kernel)
    (case k_p_are_throws => first | k_is | kit_is | rfl | decide +kernel)
    (case a_p_fits_helpers => first | k_is | kit_is | rfl | decide +kernel)
    (case l_p_fits_helpers => first | k_is | kit_is | rfl | decide +kernel)
    (case q_p_fits_helpers => first | k_is | kit_is | rfl | decide +kernel)
    (case k_p_fits_helpers => first | k_is | kit_is | rfl | decide +kernel)
    (case a_box => first | k_is | kit_is | rfl | decide +kernel)
    (case l_box => first | k_is | kit_is | rfl | decide +kernel)
    (case q_box => first | k_is | kit_is | rfl | decide +kernel)
    (case k_box => first | k_is | kit_is | rfl | decide +kernel)
    (case a_mixed => first | k_is | kit_is | rfl | decide +kernel)
    (case l_mixed => first | k_is | kit_is | rfl | decide +kernel)
    (case q_mixed => first | k_is | kit_is | rfl | decide +kernel)
    (case k_mixed => first | k_is | kit_is | rfl | decide +kernel)
    (case a_take => first | k_is | kit_is | rfl | decide +kernel)
    (case l_take => first | k_is | kit_is | rfl | decide +kernel)
    (case q_take => first | k_is | kit_is | rfl | decide +kernel)
    (case k_take => first | k_is | kit_is | rfl | decide +kernel)
    (case a_name => first | k_is | kit_is | rfl | decide +kernel)
    (case l_name => first | k_is | kit_is | rfl | decide +kernel)
    (case q_name => first | k_is | kit_is | rfl | decide +kernel)
    (case k_name => first | k_is | kit_is | rfl | decide +kernel)
    (case a_names => first | k_is | kit_is | rfl | decide +kernel)
    (case l_names => first | k_is | kit_is | rfl | decide +kernel)
    (case q_names => first | k_is | kit_is | rfl | decide +kernel)
    (case k_names => first | k_is | kit_is | rfl | decide +kernel)
    (case a_pairs => first | k_is | kit_is | rfl | decide +kernel)
    (case l_pairs => first | k_is | kit_is | rfl | decide +kernel)
    (case q_pairs => first | k_is | kit_is | rfl | decide +kernel)
    (case k_pairs => first | k_is | kit_is | rfl | decide +kernel)
    (case a_some => first | k_is | kit_is | rfl | decide +kernel)
    (case l_some => first | k_is | kit_is | rfl | decide +kernel)
    (case q_some => first | k_is | kit_is | rfl | decide +kernel)
    (case k_some => first | k_is | kit_is | rfl | decide +kernel)
    (case a_helpers => first | k_is | kit_is | rfl | decide +kernel)
    (case l_helpers => first | k_is | kit_is | rfl | decide +kernel)
    (case q_helpers => first | k_is | kit_is | rfl | decide +kernel)
    (case k_helpers => first | k_is | kit_is | rfl | decide +kernel)
    (case a_w_is_name => first | k_is | kit_is | rfl | decide +kernel)
    (case l_w_is_name => first | k_is | kit_is | rfl | decide +kernel)
    (case q_w_is_name => first | k_is | kit_is | rfl | decide +kernel)
    (case k_w_is_name => first | k_is | kit_is | rfl | decide +kernel)
    (case a_pair_fits => first | k_is | kit_is | rfl | decide +kernel)
    (case l_pair_fits => first | k_is | kit_is | rfl | decide +kernel)
    (case q_pair_fits => first | k_is | kit_is | rfl | decide +kernel)
    (case k_pair_fits => first | k_is | kit_is | rfl | decide +kernel)
    (case a_helper_fits => first | k_is | kit_is | rfl | decide +kernel)
    (case l_helper_fits => first | k_is | kit_is | rfl | decide +kernel)
    (case q_helper_fits => first | k_is | kit_is | rfl | decide +kernel)
    (case k_helper_fits => first | k_is | kit_is | rfl | decide +kernel)
    (case a_first_bad => first | k_is | kit_is | rfl | decide +kernel)
    (case l_first_bad => first | k_is | kit_is | rfl | decide +kernel)
    (case q_first_bad => first | k_is | kit_is | rfl | decide +kernel)
    (case k_first_bad => first | k_is | kit_is | rfl | decide +kernel)
    (case a_odd_word => first | k_is | kit_is | rfl | decide +kernel)
    (case l_odd_word => first | k_is | kit_is | rfl | decide +kernel)
    (case q_odd_word => first | k_is | kit_is | rfl | decide +kernel)
    (case k_odd_word => first | k_is | kit_is | rfl | decide +kernel)
    (case a_pair_spoilt => first | k_is | kit_is | rfl | decide +kernel)
    (case l_pair_spoilt => first | k_is | kit_is | rfl | decide +kernel)
    (case q_pair_spoilt => first | k_is | kit_is | rfl | decide +kernel)
    (case k_pair_spoilt => first | k_is | kit_is | rfl | decide +kernel)
    (case a_helper_spoilt => first | k_is | kit_is | rfl | decide +kernel)
    (case l_helper_spoilt => first | k_is | kit_is | rfl | decide +kernel)
    (case q_helper_spoilt => first | k_is | kit_is | rfl | decide +kernel)
    (case k_helper_spoilt => first | k_is | kit_is | rfl | decide +kernel)
    (case a_made => first | k_is | kit_is | rfl | decide +kernel)
    (case l_made => first | k_is | kit_is | rfl | decide +kernel)
    (case q_made => first | k_is | kit_is | rfl | decide +kernel)
    (case k_made => first | k_is | kit_is | rfl | decide +kernel)
    (case a_law => first | k_is | kit_is | rfl | decide +kernel)
    (case l_law => first | k_is | kit_is | rfl | decide +kernel)
    (case q_law => first | k_is | kit_is | rfl | decide +kernel)
    (case k_law => first | k_is | kit_is | rfl | decide +kernel)
    (case z_ValueError => first | k_is | kit_is | rfl | decide +kernel)
    (case z_isinstance => first | k_is | kit_is | rfl | decide +kernel)
    (case z_int => first | k_is | kit_is | rfl | decide +kernel)
    (case z_bool => first | k_is | kit_is | rfl | decide +kernel)
    (case z_tuple => first | k_is | kit_is | rfl | decide +kernel)
    (case z_list => first | k_is | kit_is | rfl | decide +kernel)
    (case z_str => first | k_is | kit_is | rfl | decide +kernel)
    (case z_len => first | k_is | kit_is | rfl | decide +kernel)
    (case z_all => first | k_is | kit_is | rfl | decide +kernel)
    (case z_range => first | k_is | kit_is | rfl | decide +kernel)
    (case z_zip => first | k_is | kit_is | rfl | decide +kernel)
    (case z_min => first | k_is | kit_is | rfl | decide +kernel)
    (case z_enumerate => first | k_is | kit_is | rfl | decide +kernel)
