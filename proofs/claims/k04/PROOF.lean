import PyProof.Rows.All
import Wide.All
import OpenK.AllK
import Wide.FinOn
import HandS.ForMost
import HandS.Gcd
import HandS.Wide
import HandS.EndBits
import HandS.IsInst
import HandS.SortInts
import HandS.NoneIn
import HandS.More
import HandS.Codes
import HandS.Zip
import HandS.ClsMeth
import HandS.ExcInit
import HandS.ExcIs
import HandS.ExcField
import HandS.ExcOwn
import HandS.WordsExc
import HandS.TryOnly
import HandS.TryMany
import HandS.FStrTup
import HandS.FStr
import KE.KExcIs
import KE.RegKIsAll
import PySem.Str
import HandS.Walk
import HandS.Strs
import HandS.TupAny
import HandS.OwnEq
import KE.GoesEnum
import HandS.Star
import HandS.MakeKw
import KE.KCallOwn
import HandS.Flow
import PySem.Challenge.RW_pactford_k04_pacts_texts
namespace My
def g (ns : List Int) (i : Nat) : Int := ns.getD i 0
def swp (ns : List Int) (i j : Nat) : List Int := (ns.set i (g ns j)).set j (g ns i)
theorem swp_len (ns : List Int) (i j : Nat) : (swp ns i j).length = ns.length := by unfold swp; rw [List.length_set, List.length_set]
theorem g_lt {ns : List Int} {i : Nat} (h : i < ns.length) : ns[i]? = some (g ns i) := by
  unfold g
  rw [List.getD_eq_getElem?_getD, List.getElem?_eq_getElem h]
  rfl
theorem g_swp {ns : List Int} {i j : Nat} (hi : i < ns.length) (hj : j < ns.length) (k : Nat) : g (swp ns i j) k = if k = j then g ns i else if k = i then g ns j else g ns k := by
  show (swp ns i j).getD k 0 = _
  unfold swp
  rw [List.getD_eq_getElem?_getD, List.getElem?_set, List.length_set, List.getElem?_set]
  by_cases h1 : j = k
  · subst h1
    simp only [if_true, if_pos hj]
    rfl
  · have h1' : ¬ k = j := fun q => h1 q.symm
    simp only [if_neg h1, if_neg h1']
    by_cases h2 : i = k
    · subst h2
      simp only [if_true, if_pos hi]
      rfl
    · have h2' : ¬ k = i := fun q => h2 q.symm
      simp only [if_neg h2, if_neg h2']
      unfold g
      rw [List.getD_eq_getElem?_getD]
theorem swp_perm {ns : List Int} {i j : Nat} (hi : i < ns.length) (hj : j < ns.length) : (swp ns i j).Perm ns := by
  have e1 : g ns j = ns[j] := by
    have := g_lt hj
    rw [List.getElem?_eq_getElem hj] at this
    exact (Option.some.inj this).symm
  have e2 : g ns i = ns[i] := by
    have := g_lt hi
    rw [List.getElem?_eq_getElem hi] at this
    exact (Option.some.inj this).symm
  unfold swp
  rw [e1, e2]
  exact List.set_set_perm hi hj
def IsHeap (ns : List Int) : Prop := ∀ i, 0 < i → i < ns.length → g ns ((i - 1) / 2) ≤ g ns i
def UpI (ns : List Int) (pos : Nat) : Prop := (∀ i, 0 < i → i < ns.length → i ≠ pos → g ns ((i - 1) / 2) ≤ g ns i) ∧
  ∀ c, 0 < c → c < ns.length → (c - 1) / 2 = pos → 0 < pos → g ns ((pos - 1) / 2) ≤ g ns c
def DnI (ns : List Int) (pos : Nat) : Prop := (∀ i, 0 < i → i < ns.length → i ≠ pos → (i - 1) / 2 ≠ pos → g ns ((i - 1) / 2) ≤ g ns i) ∧
  ∀ c, 0 < c → c < ns.length → (c - 1) / 2 = pos → 0 < pos → g ns ((pos - 1) / 2) ≤ g ns c
theorem UpI.done {ns : List Int} {pos : Nat} (h : UpI ns pos) (hp : pos = 0 ∨ g ns ((pos - 1) / 2) ≤ g ns pos) : IsHeap ns := by
  intro i h0 hl
  by_cases e : i = pos
  · subst e
    rcases hp with e | e
    · omega
    · exact e
  · exact h.1 i h0 hl e
theorem UpI.step {ns : List Int} {pos : Nat} (h : UpI ns pos) (h0 : 0 < pos) (hl : pos < ns.length) (hlt : g ns pos < g ns ((pos - 1) / 2)) : UpI (swp ns ((pos - 1) / 2) pos) ((pos - 1) / 2) := by
  have hq : (pos - 1) / 2 < ns.length := by omega
  have G := g_swp hq hl
  refine ⟨fun i i0 il ne => ?_, fun c c0 cl e q0 => ?_⟩
  · rw [swp_len] at il
    rw [G, G]
    by_cases e1 : i = pos
    · subst e1
      rw [if_pos rfl, if_neg (by omega), if_pos rfl]
      omega
    · rw [if_neg e1, if_neg ne]
      by_cases e2 : (i - 1) / 2 = pos
      · rw [if_pos e2]
        exact h.2 i i0 il e2 h0
      · rw [if_neg e2]
        by_cases e3 : (i - 1) / 2 = (pos - 1) / 2
        · rw [if_pos e3]
          have := h.1 i i0 il e1
          rw [e3] at this
          omega
        · rw [if_neg e3]
          exact h.1 i i0 il e1
  · rw [swp_len] at cl
    rw [G, G]
    have k1 := h.1 ((pos - 1) / 2) q0 hq (by omega)
    rw [if_neg (by omega), if_neg (by omega)]
    by_cases e1 : c = pos
    · rw [if_pos e1]
      exact k1
    · rw [if_neg e1, if_neg (by omega)]
      have k2 := h.1 c c0 cl e1
      rw [e] at k2
      omega
theorem DnI.leaf {ns : List Int} {pos : Nat} (h : DnI ns pos) (hl : ¬ pos < ns.length / 2) : UpI ns pos :=
  ⟨fun i i0 il ne => h.1 i i0 il ne (by omega), h.2⟩
theorem DnI.step {ns : List Int} {pos m : Nat} (h : DnI ns pos) (hm : m < ns.length) (m0 : 0 < m) (e : (m - 1) / 2 = pos) (hmin : ∀ c, 0 < c → c < ns.length → (c - 1) / 2 = pos → g ns m ≤ g ns c) : DnI (swp ns m pos) m := by
  have hp : pos < ns.length := by omega
  have G := g_swp hm hp
  refine ⟨fun i i0 il n1 n2 => ?_, fun c c0 cl ec _ => ?_⟩
  · rw [swp_len] at il
    rw [G, G]
    by_cases e1 : i = pos
    · rw [if_pos e1, if_neg (by omega), if_neg n2]
      subst e1
      exact h.2 m m0 hm e i0
    · rw [if_neg e1, if_neg n1]
      by_cases e2 : (i - 1) / 2 = pos
      · rw [if_pos e2]
        exact hmin i i0 il e2
      · rw [if_neg e2, if_neg n2]
        exact h.1 i i0 il e1 e2
  · rw [swp_len] at cl
    rw [G, G]
    rw [e, if_pos rfl, if_neg (by omega), if_neg (by omega)]
    have := h.1 c c0 cl (by omega) (by omega)
    rw [ec] at this
    exact this
theorem IsHeap.least {ns : List Int} (h : IsHeap ns) : ∀ i, i < ns.length → g ns 0 ≤ g ns i := by
  intro i
  induction i using Nat.strongRecOn with
  | _ i ih =>
    intro hl
    by_cases h0 : i = 0
    · subst h0; exact Int.le_refl _
    · exact Int.le_trans (ih ((i - 1) / 2) (by omega) (by omega)) (h i (by omega) hl)
theorem IsHeap.least_mem {ns : List Int} (h : IsHeap ns) {x : Int} (hx : x ∈ ns) : g ns 0 ≤ x := by
  obtain ⟨i, hi, e⟩ := List.mem_iff_getElem.mp hx
  have := h.least i hi
  have q := g_lt hi
  rw [List.getElem?_eq_getElem hi, e] at q
  rw [← Option.some.inj q] at this
  exact this
/-- one more at the end -/
theorem IsHeap.push {ns : List Int} (h : IsHeap ns) (x : Int) : UpI (ns ++ [x]) ns.length := by
  have ga : ∀ i, i < ns.length → g (ns ++ [x]) i = g ns i := fun i hi => by
    unfold g
    rw [List.getD_eq_getElem?_getD, List.getElem?_append_left hi, List.getD_eq_getElem?_getD]
  refine ⟨fun i i0 il ne => ?_, fun c c0 cl e _ => ?_⟩
  · rw [List.length_append, List.length_singleton] at il
    rw [ga i (by omega), ga _ (by omega)]
    exact h i i0 (by omega)
  · rw [List.length_append, List.length_singleton] at cl
    omega
/-- the last one put in the first one's place -/
theorem IsHeap.pop {ns : List Int} (h : IsHeap ns) (x : Int) : DnI (ns.dropLast.set 0 x) 0 := by
  have hlen : (ns.dropLast.set 0 x).length = ns.length - 1 := by rw [List.length_set, List.length_dropLast]
  have ga : ∀ i, 0 < i → i < ns.length - 1 → g (ns.dropLast.set 0 x) i = g ns i := fun i i0 hi => by
    unfold g
    rw [List.getD_eq_getElem?_getD, List.getElem?_set, if_neg (by omega), List.getD_eq_getElem?_getD, List.getElem?_dropLast, if_pos hi]
  refine ⟨fun i i0 il n1 n2 => ?_, fun c c0 cl e q => absurd q (by omega)⟩
  rw [hlen] at il
  rw [ga i i0 il, ga _ (by omega) (by omega)]
  exact h i i0 (by omega)
theorem pop_perm {ns : List Int} (h2 : 2 ≤ ns.length) : (g ns 0 :: (ns.dropLast.set 0 (g ns (ns.length - 1)))).Perm ns := by
  match ns, h2 with
  | a :: b :: r, _ =>
    have e1 : g (a :: b :: r) 0 = a := rfl
    have e2 : g (a :: b :: r) ((a :: b :: r).length - 1) = (b :: r).getLast (by simp) := by
      unfold g
      rw [List.getD_eq_getElem?_getD, ← List.getLast?_eq_getElem?, List.getLast?_cons_cons, List.getLast?_eq_some_getLast (by simp)]
      rfl
    rw [e1, e2, List.dropLast_cons_cons, List.set_cons_zero]
    refine List.Perm.cons _ ?_
    have e3 : (b :: r).dropLast ++ [(b :: r).getLast (by simp)] = b :: r := List.dropLast_concat_getLast _
    exact (List.perm_append_comm (l₁ := [(b :: r).getLast (by simp)]) (l₂ := (b :: r).dropLast)).trans (by rw [e3])
end My

set_option Elab.async false
set_option linter.all false
set_option maxRecDepth 100000
set_option maxHeartbeats 4000000
namespace L2
open PySem PySem.Spec PyProof.Rows
theorem iteD {p A B : Prop} [Decidable p] (h1 : p → A) (h2 : ¬ p → B) : if decide p = true then A else B := by
  by_cases h : p
  · rw [decide_eq_true h, if_pos rfl]; exact h1 h
  · rw [decide_eq_false h, if_neg Bool.false_ne_true]; exact h2 h
theorem iteB {b : Bool} {A B : Prop} (h1 : b = true → A) (h2 : b = false → B) : if b = true then A else B := by
  cases b with
  | true => rw [if_pos rfl]; exact h1 rfl
  | false => rw [if_neg Bool.false_ne_true]; exact h2 rfl
/-- a word that no step opens -/
@[irreducible] def Blk (p : Prop) : Prop := p
theorem Blk.of {p : Prop} (h : p) : Blk p := by unfold Blk; exact h
theorem Blk.out {p : Prop} (h : Blk p) : p := by unfold Blk at h; exact h
/-- all but the addresses of S stays -/
def Keeps (S : List Addr) (H H' : Hp) : Prop := ∀ b o, H b = some o → b ∉ S → H' b = some o
theorem Keeps.refl (S : List Addr) (H : Hp) : Keeps S H H := fun _ _ h _ => h
theorem Keeps.trans {S : List Addr} {H H1 H2 : Hp} (a : Keeps S H H1) (b : Keeps S H1 H2) : Keeps S H H2 := fun c o h n => b c o (a c o h n) n
theorem Keeps.mono {S S' : List Addr} {H H1 : Hp} (a : Keeps S H H1) (h : ∀ x ∈ S, x ∈ S') : Keeps S' H H1 := fun c o e n => a c o e fun q => n (h c q)
theorem Keeps.upd {S : List Addr} {H H1 : Hp} {x : Addr} {o : HO} (a : Keeps S H H1) (hx : x ∈ S ∨ H x = none) : Keeps S H (upd H1 x o) := fun c u e n => by
  have ne : c ≠ x := fun q => by
    subst q
    rcases hx with h | h
    · exact n h
    · rw [h] at e; cases e
  rw [upd_ne ne]
  exact a c u e n
/-- fresh at H1, so fresh at H (or in S) -/
theorem Keeps.fresh {S : List Addr} {H H1 : Hp} {x : Addr} (a : Keeps S H H1) (h : H1 x = none) : x ∈ S ∨ H x = none := by
  cases e : H x with
  | none => exact .inr rfl
  | some o =>
    by_cases hm : x ∈ S
    · exact .inl hm
    · rw [a x o e hm] at h; cases h
section
variable {X : Cx}
/-- xs[i], by values -/
def rGetL (K : PySem.W.Frag) : V → V → Hp → VK → Prop := fun x y H Q => ∃ p xs i v, x = .ref p ∧ y = .int i ∧ SqL K H p xs ∧ 0 ≤ i ∧ xs[i.toNat]? = some v ∧ Q v H
theorem pget_list : PGet X (rGetL X.K) := by
  intro pins s σ H o i ov iv Q I ro ri h
  obtain ⟨p, xs, j, v, rfl, rfl, hq, h0, hv, q⟩ := h
  cases ro
  obtain ⟨t, rfl⟩ := ri
  obtain ⟨its, r, pl, hz⟩ := I.list hq
  obtain ⟨w, ew, rw'⟩ := r.get hv
  have hl := r.length
  have hlt : j.toNat < xs.length := (List.getElem?_eq_some_iff.mp hv).1
  have hn := line63
  exact wpAny_getItem_list pl.isList h0 (by omega) (by simpa using ew) ⟨v, H, I, rw', q⟩
/-- the keywords alone: each parameter but the first by its name, in their order -/
structure KwB (K : PySem.W.Frag) (fd : FuncData) (ps ks : List Str) : Prop where
  to : ∀ (s : Shared) (u : Value) (ws : List Value), K.In s.heap → ws.length = ks.length → BindsTo s fd ⟨[u], ks.zip ws⟩ (ps.zip (u :: ws))
  len : ps.length = ks.length + 1
def tMethKw (C : Addr) (m : Str) (sp : Sp) (E : XK) (ta : TE) (tk : TA) : TE := fun σ H Q => ta σ H fun x H1 => ∃ a dx fs, x = .ref a ∧ H1 a = some (.ins C dx fs) ∧ fs.lookup m = none ∧
  tk σ H1 fun vs H2 => sp (x :: vs) H2 Q E
variable {CX : CXT} {k : Nat} {f C : Addr} {fd : FuncData} {ps ks : List Str} {sp : Sp} {E : XK} {m : Str} {pos apos : Pos} {o : Expr} {kws : List Keyword} {ta : TE} {tk : TA}
theorem run_kwm {pins : List (Addr × Obj)} {σ : St} {H : Hp} {s : Shared} {Q : VK} {u : Value} {v : V} {ws : List Value} {zs : List V} (F : FnOk X.prog X.w X.K X.mg X.base CX k f fd ps sp) (hr : Room k X.A) (hb : KwB X.K fd ps ks) (hx : Passes CX X E)
    (I : Inv X pins σ H s) (r : RelV v u) (rz : Vals zs ws) (h : sp (v :: zs) H Q E) : wpAny (model X.prog X.w) X.A (call (.ref f) [u] (ks.zip ws)) (EP X pins σ Q) X.xe s := by
  have r2 : Vals (v :: zs) (u :: ws) := .cons r rz
  have hl : (u :: ws).length = ps.length := by rw [← r2.length]; exact F.len _ _ _ _ h
  have hl2 : ws.length = ks.length := by have := hb.len; rw [List.length_cons] at hl; omega
  refine wpAny_call (codeAny_mono (F.run X.A X.stack s H ⟨[u], ks.zip ws⟩ (u :: ws) (v :: zs) Q E hr I.env0 (hb.to s u ws I.kIn hl2) r2 h) fun r s' hq => ?_)
  cases r with
  | error e => exact hx pins σ H s e s' I hq
  | ok fl =>
    cases fl with
    | ret u => exact I.after hq
    | next => exact False.elim hq
    | brk => exact False.elim hq
    | cont => exact False.elim hq
/-- o.m(k = v, ..) -/
theorem pe_methKw {pl : Sem Bool} (he : PE X o ta) (c : Cls X.K C) (hm : Meth X.K C m f) (F : FnOk X.prog X.w X.K X.mg X.base CX k f fd ps sp) (hr : Room k X.A) (hb : KwB X.K fd ps ks) (hx : Passes CX X E) (hkw : PK X kws tk)
    (hall : (backToKw pos (keywordEach kws X.env)).all (·.1.isSome) = true := by rfl) (hks : (backToKw pos (keywordEach kws X.env)).filterMap (·.1) = ks := by rfl)
    (hpl : ((backTo pos (starEach [] X.env)).any (·.1) || (backToKw pos (keywordEach kws X.env)).any (·.1.isNone)) = false := by rfl)
    (ht : eval (.Call (.Attribute o m apos) [] kws pos) X.env = (do
      let v0 ← eval o X.env
      standAt apos.atName
      let (g, frst) ← holding [v0] (getMethod v0 m pl)
      callWith pos g frst (backTo pos (starEach [] X.env)) (backToKw pos (keywordEach kws X.env))) := by rfl) :
    PE X (.Call (.Attribute o m apos) [] kws pos) (tMethKw C m sp E ta tk) := by
  constructor
  intro pins s σ H Q I h
  refine PySem.W.methodCall_KW (pl := pl) (thn (he.run pins s σ H _ I h) fun w s1 ⟨y, H1, I1, ry, a, dx, fs, ey, ea, l, q⟩ => ?_) ht
  subst ey
  obtain rfl : w = Value.ref a := ry
  refine getmeth_ok I1 ea c hm l (PySem.W.callWith_KW0 (h₀ := X.base) I.ok.mod.kin hm.kp hall (thn (hkw.run pos pins s1 σ H1 _ I1 q) fun ws s2 ⟨zs, H2, I2, rz, q2⟩ => ⟨I2.kIn, ?_⟩) hpl)
  rw [hks]
  exact run_kwm (v := .ref a) F hr hb hx I2 rfl rz q2
end
theorem kwb_mk {K : PySem.W.Frag} {x qual : Str} {st : Stmt} {f : Addr} {fd : FuncData} {ps ks : List Str} (F : Fun K x qual st f fd) (hl : ps.length = ks.length + 1)
    (h : ∀ (kV doc pm : Value) (an : Option Addr) (cdv ct : Value) (u : Value) (ws : List Value), ws.length = ks.length → bindArgs (PySem.W.fnOf x qual (defArgs st) (defBody st) (defScope st) .none kV doc pm an cdv ct) ⟨[u], ks.zip ws⟩ = pure (ps.zip (u :: ws))) : KwB K fd ps ks := by
  obtain ⟨_, _, kV, doc, pm, an, cdv, ct, _, rfl, _, _⟩ := F.ex
  exact ⟨fun s u ws _ hw => .of_eq (h kV doc pm an cdv ct u ws hw), hl⟩
/-! ### the box of draws -/
/-- a box at b: its great cells at g, the rest of the one that is drawn from, the lesser cells at l, how many draws -/
def BoxAt (H : Hp) (b g l : Addr) (n : Int) : Prop := ∃ (gs ls : List Int) (cur : Int), H b = some (.lst [.ref g, .int cur, .ref l, .int n]) ∧ H g = some (.lst (gs.map V.int)) ∧ H l = some (.lst (ls.map V.int)) ∧ b ≠ g ∧ b ≠ l ∧ g ≠ l ∧ gs.length ≤ 63 ∧ ls.length ≤ 63
theorem ints_get {ns : List Int} {i : Nat} {y : V} (h : (ns.map V.int)[i]? = some y) : ∃ z, ns[i]? = some z ∧ y = V.int z := by
  rw [List.getElem?_map] at h
  cases e : ns[i]? with
  | none => rw [e] at h; cases h
  | some z => rw [e] at h; exact ⟨z, rfl, (Option.some.inj h).symm⟩
theorem get_lt {α : Type} {xs : List α} {i : Nat} {y : α} (h : xs[i]? = some y) : i < xs.length := (List.getElem?_eq_some_iff.mp h).1
theorem Same.upd {H H1 : Hp} {x : Addr} {o : HO} (a : Same H H1) (h : H x = none) : Same H (upd H1 x o) := fun c u e => by
  rw [upd_ne (ne_of_none e h)]
  exact a c u e
theorem small {n : Nat} (h : n ≤ 100000) : n < sizeLine := Nat.lt_of_le_of_lt h (by decide)
theorem ixN_at {n j : Nat} (h : j < n) : ixN n ((j : Nat) : Int) = some j := by
  have h2 : ((j : Nat) : Int) < ((n : Nat) : Int) := Int.ofNat_lt.mpr h
  simp [ixN, h2]
theorem BoxAt.upd {H : Hp} {b g l x : Addr} {n : Int} {o : HO} (h : BoxAt H b g l n) (hx : H x = none) : BoxAt (upd H x o) b g l n := by
  obtain ⟨gs, ls, cur, e1, e2, e3, r⟩ := h
  exact ⟨gs, ls, cur, by rw [upd_ne (ne_of_none e1 hx)]; exact e1, by rw [upd_ne (ne_of_none e2 hx)]; exact e2, by rw [upd_ne (ne_of_none e3 hx)]; exact e3, r⟩
theorem BoxAt.keep {H H' : Hp} {b g l : Addr} {n : Int} {S : List Addr} (h : BoxAt H b g l n) (k : Keeps S H H') (a : b ∉ S) (c : g ∉ S) (d : l ∉ S) : BoxAt H' b g l n := by
  obtain ⟨gs, ls, cur, e1, e2, e3, r⟩ := h
  exact ⟨gs, ls, cur, k _ _ e1 a, k _ _ e2 c, k _ _ e3 d, r⟩
theorem BoxAt.same {H H' : Hp} {b g l : Addr} {n : Int} (h : BoxAt H b g l n) (k : Same H H') : BoxAt H' b g l n := by
  obtain ⟨gs, ls, cur, e1, e2, e3, r⟩ := h
  exact ⟨gs, ls, cur, k _ _ e1, k _ _ e2, k _ _ e3, r⟩
theorem BoxAt.off {H : Hp} {b g l q : Addr} {n : Int} (h : BoxAt H b g l n) (hq : H q = none) : q ∉ [b, g] := by
  obtain ⟨gs, ls, cur, e1, e2, _⟩ := h
  intro c
  simp at c
  rcases c with rfl | rfl
  · rw [e1] at hq; cases hq
  · rw [e2] at hq; cases hq
end L2

set_option linter.all false
set_option maxRecDepth 100000
namespace L2
open PySem PySem.Spec PyProof.Rows
/-- pairs of ints as data -/
def pD (z : Int × Int) : PyData := .tuple [.int z.1, .int z.2]
theorem pD_lay (z : Int × Int) : (pD z).canLay0 = true := by simp [pD, PyData.canLay0, PyData.canLayAll0]
theorem pD_deep (z : Int × Int) : (pD z).depth = 1 := by simp [pD, PyData.depth, PyData.depthAll]
theorem pDs_lay : ∀ zs : List (Int × Int), PyData.canLayAll0 (zs.map pD) = true
  | [] => rfl
  | z :: r => by rw [List.map_cons, PyData.canLayAll0, pD_lay, pDs_lay r]; rfl
theorem pDs_deep : ∀ zs : List (Int × Int), PyData.depthAll (zs.map pD) ≤ 1
  | [] => by simp [PyData.depthAll]
  | z :: r => by
    rw [List.map_cons, PyData.depthAll, pD_deep]
    have := pDs_deep r
    omega
theorem pD_shaped (z : Int × Int) : SeqAt.shaped (pD z) = true := by
  unfold SeqAt.shaped
  rw [pD_lay, pD_deep]
  rfl
theorem lD_lay (zs : List (Int × Int)) : (PyData.list (zs.map pD)).canLay0 = true := by rw [PyData.canLay0]; exact pDs_lay zs
theorem lD_shaped (zs : List (Int × Int)) : SeqAt.shaped (.list (zs.map pD)) = true := by
  unfold SeqAt.shaped
  rw [lD_lay, PyData.depth]
  have := pDs_deep zs
  exact decide_eq_true (by omega)
theorem pD_same (z : Int × Int) : PyData.eqv (pD z) (pD z) = true := SeqAt.eqv_refl _ (pD_lay z)
theorem lD_same (zs : List (Int × Int)) : PyData.eqv (.list (zs.map pD)) (.list (zs.map pD)) = true := SeqAt.eqv_refl _ (lD_lay zs)
theorem dp_pair {K : PySem.W.Frag} {H : Hp} {h : Addr} {z : Int × Int} (e : H h = some (.tup [.int z.1, .int z.2])) : Dp K H (.ref h) (pD z) := .tup (SqT.of e) (.cons (.int _) (.cons (.int _) .nil))
theorem dp_pairs {K : PySem.W.Frag} {H : Hp} : ∀ {hs : List Addr} {zs : List (Int × Int)}, hs.length = zs.length → (∀ (i : Nat) (h : Addr) (z : Int × Int), hs[i]? = some h → zs[i]? = some z → H h = some (.tup [.int z.1, .int z.2])) → DpAll K H (hs.map V.ref) (zs.map pD)
  | [], [], _, _ => .nil
  | h :: hs, z :: zs, hl, e => .cons (dp_pair (e 0 h z rfl rfl)) (dp_pairs (by simpa using hl) fun i h' z' a b => e (i + 1) h' z' (by simpa using a) (by simpa using b))
  | [], _ :: _, hl, _ => by simp at hl
  | _ :: _, [], hl, _ => by simp at hl
theorem dp_list {K : PySem.W.Frag} {H : Hp} {l : Addr} {hs : List Addr} {zs : List (Int × Int)} (e0 : H l = some (.lst (hs.map V.ref))) (hl : hs.length = zs.length)
    (e : ∀ (i : Nat) (h : Addr) (z : Int × Int), hs[i]? = some h → zs[i]? = some z → H h = some (.tup [.int z.1, .int z.2])) : Dp K H (.ref l) (.list (zs.map pD)) := .lst (SqL.of e0) (dp_pairs hl e)
end L2

set_option linter.all false
set_option maxRecDepth 100000
set_option maxHeartbeats 4000000
namespace L2
open PySem PySem.Spec PyProof.Rows
section
variable {X : Cx} {CX : CXT} {k : Nat} {g C : Addr} {fd : FuncData} {sp : Sp} {E : XK}
/-- len(o), o an instance whose class has its own __len__ -/
def rLenOwn (C : Addr) (sp : Sp) (E : XK) : List V → Hp → VK → Prop := fun xs H Q => ∃ a dx fs, xs = [V.ref a] ∧ H a = some (.ins C dx fs) ∧ sp [.ref a] H (fun v H' => ∃ n : Int, v = .int n ∧ 0 ≤ n ∧ n < 2 ^ 63 ∧ Q (.int n) H') E
theorem call_lenOwn (hm : Meth X.K C "__len__" g) (F : FnOk X.prog X.w X.K X.mg X.base CX k g fd ["self"] sp) (hr : Room (k + 1) X.A) (hb : Binds X.K fd ["self"] []) (hx : Passes CX X E) : CallR X (.builtin "len") (rLenOwn C sp E) := by
  intro pins s σ H xs us Q I r h
  obtain ⟨a, dx, fs, rfl, ha, q⟩ := h
  obtain ⟨u, rfl, ru⟩ := r.one
  cases (show u = Value.ref a from ru)
  obtain ⟨_, _, _, e, mA, ⟨od, es, ep, e2, _⟩, _⟩ := I.hok a _ ha
  have J : PySem.W.InstAt s.heap a (PySem.W.instObj C dx) C (some od) := ⟨e, rfl, rfl, e2⟩
  obtain ⟨m, hF⟩ := I.fr
  have r2 : Vals [V.ref a] [Value.ref a] := .cons (show RelV (.ref a) (.ref a) from rfl) .nil
  have key : codeAny (model X.prog X.w) X.A.in1 (.call (.ref g) ⟨[.ref a], []⟩) (fun r s' => match r with
    | .ok (.ret v) => EP X pins σ (fun v H' => ∃ n : Int, v = .int n ∧ 0 ≤ n ∧ n < 2 ^ 63 ∧ Q (.int n) H') v s'
    | .ok _ => False
    | .error e => X.xe e s') s := by
    refine codeAny_mono (F.run X.A.in1 X.stack s H ⟨[.ref a], []⟩ [.ref a] [.ref a] _ E hr.in1 I.env0.in1 (hb s [.ref a] I.kIn rfl) r2 q) fun r s' hq => ?_
    cases r with
    | error e => exact hx pins σ H s e s' I hq
    | ok fl =>
      cases fl with
      | ret u => exact I.after hq
      | next => exact False.elim hq
      | brk => exact False.elim hq
      | cont => exact False.elim hq
  refine PySem.W.len_K hF I.ok.mod.kin J hm.at_ hm.fn (wpAny_mono (wpAny_call key) (fun v s' hv => ?_) fun _ _ x => x)
  obtain ⟨z, H', I', rz, n, rfl, n0, n1, qz⟩ := hv
  obtain ⟨t, rfl⟩ := (show ∃ t, v = Value.int n t from rz)
  exact ⟨⟨n0, n1⟩, .int n, H', I'.tok _, ⟨_, rfl⟩, qz⟩
end
/-- a loop over a locked dict's keys, by an invariant -/
theorem for_keys {d : Addr} {o : Obj} {kvs : List (Key × V)} {g : TG} {tb : TS} {D : Ends} {σ : St} {H : Hp} (Pv : Nat → St → Hp → Prop) (h0 : Pv 0 σ H) (hl : ∀ i σ H, Pv i σ H → H d = some (.frz o (.dK kvs)))
    (hs : ∀ i k v σ H, kvs[i]? = some (k, v) → Pv i σ H → g (kV k) σ H fun σ2 H2 => tb { D with nx := Pv (i + 1), ct := Pv (i + 1), bk := D.nx } σ2 H2) (hd : ∀ σ H, Pv kvs.length σ H → D.nx σ H) :
    ∃ W : Nat → Nat → St → Hp → Prop, (∃ m, W 0 m σ H) ∧ ∀ i m σ H, W i m σ H → ((Itk d o kvs).stop i H ∧ D.nx σ H) ∨
      ((Itk d o kvs).go i H ∧ ∃ N : St → Hp → Prop, (∀ σ' H', N σ' H' → ∃ m', m' < m ∧ W (i + 1) m' σ' H') ∧ ∀ x H', (Itk d o kvs).yld i H x H' → g x σ H' fun σ2 H2 => tb { D with nx := N, ct := N, bk := D.nx } σ2 H2) := by
  refine ⟨fun i m σ H => m + i = kvs.length ∧ Pv i σ H, ⟨kvs.length, rfl, h0⟩, fun i m σ H ⟨hm, p⟩ => ?_⟩
  have q := hl i σ H p
  by_cases hlt : i < kvs.length
  · refine .inr ⟨⟨q, hlt⟩, Pv (i + 1), fun σ' H' p' => ⟨m - 1, by omega, by omega, p'⟩, fun x H' y => ?_⟩
    obtain ⟨rfl, k, v, hk, rfl⟩ := y
    exact hs i k v σ _ hk p
  · obtain rfl : i = kvs.length := by omega
    exact .inl ⟨⟨q, Nat.le_refl _⟩, hd σ H p⟩
end L2

set_option linter.all false
set_option maxRecDepth 100000
set_option maxHeartbeats 4000000
namespace L2
open PySem PySem.Spec PyProof.Rows
/-- what the top says of a class over ValueError without an own __init__ -/
structure MidC (K : PySem.W.Frag) (D : Addr) : Prop where
  ga : PySem.W.specialIn K (.ref D) "__getattribute__" = some (some (.builtin "type.__getattribute__"))
  rd : PySem.W.readsIn K D (.type "type") = true
  fi : PySem.W.findCls K (.ref D) (.type "type") "__init__" = some (.val (.builtin "ValueError.__init__"))
section
variable {X : Cx} {e : Expr} {es : List Expr} {ta : TA} {n : Str} {D : Addr} {p1 p2 pos : Pos}
/-- D.__init__(self, ..), D an own class over ValueError that has no __init__ of its own -/
theorem pe_midInit {pl : Sem Bool} (T : MidC X.K D) (hg : Gl X n) (hm : X.mg n = some (.ref D)) (ha : PA X (e :: es) ta)
    (hc : eval (.Call (.Attribute (.Name n p1) "__init__" p2) (e :: es) [] pos) X.env = (do
      let ov ← eval (.Name n p1) X.env
      standAt p2.atName
      let (g, frst) ← holding [ov] (getMethod ov "__init__" pl)
      callWith pos g frst (backTo pos (starEach (e :: es) X.env)) (backToKw pos (keywordEach [] X.env))) := by rfl)
    (hdb : (n == ("__debug__" : Str)) = false := by decide)
    (st1 : starEach (e :: es) X.env = (false, eval e X.env) :: starEach es X.env := by rfl) (st2 : (backTo pos (starEach es X.env)).any (·.1) = false := by rfl) :
    PE X (.Call (.Attribute (.Name n p1) "__init__" p2) (e :: es) [] pos) (tVeI X.K ta) := by
  refine ⟨fun pins s σ H Q I h => ?_⟩
  refine PySem.W.methodCall_KW (ld_glob I hg hm ?_ hdb) hc
  refine PySem.W.method_cls I.kIn T.ga (PySem.W.cls_value I.kIn T.rd T.fi (by decide +kernel) ?_)
  refine PyProof.Rows.callWith_method1 (id := "ValueError.__init__") (thn (ha.run pos pins _ σ H _ (I.tok _) h) fun us s1 ⟨vs, H1, I1, r1, a, C, ws, ev, hl, T2, ea, q⟩ => ?_) st1 st2
  subst ev
  cases r1 with
  | @cons _ u0 _ ur ra rw' =>
    obtain rfl : u0 = Value.ref a := ra
    have hlen : ur.length ≤ sizeLine := by
      rw [← Paired.length rw', sizeLine_eq]
      omega
    exact oinit_ok T2 I1 ea hlen fun s' J => ⟨.non, H1, J, rfl, q⟩
end
/-- two promises of one def: one that lets nothing out, one that may -/
theorem FnOk.orX {P : Program} {w : World} {K : PySem.W.Frag} {mg : Str → Option Value} {base : Heap} {CX : CXT} {k : Nat} {f : Addr} {fd : FuncData} {ps : List Str} {sp1 sp2 : Sp} (F1 : FnOk P w K mg base CX0 k f fd ps sp1) (F2 : FnOk P w K mg base CX k f fd ps sp2) :
    FnOk P w K mg base CX k f fd ps (fun vs H Q E => sp1 vs H Q E ∨ sp2 vs H Q E) := by
  constructor
  · intro vs H Q E h
    rcases h with h | h
    · exact F1.len _ _ _ _ h
    · exact F2.len _ _ _ _ h
  · intro A outer s H args us vs Q E hr he hb hv h
    rcases h with h | h
    · refine codeAny_mono (F1.run A outer s H args us vs Q E hr he hb hv h) fun r s' z => ?_
      cases r with
      | error e => exact False.elim z
      | ok fl =>
        cases fl with
        | ret u => exact z
        | next => exact z
        | brk => exact z
        | cont => exact z
    · exact F2.run A outer s H args us vs Q E hr he hb hv h
/-! ### a method whose errors are taken by the body around -/
def tMethAt (C : Addr) (m : Str) (sp : Sp) (E : St → XK) (ta : TE) (t : TA) : TE := fun σ H Q => ta σ H fun x H1 => ∃ a dx fs, x = .ref a ∧ H1 a = some (.ins C dx fs) ∧ fs.lookup m = none ∧ t σ H1 fun vs H2 => sp (x :: vs) H2 Q (E σ)
section
variable {X : Cx} {CX : CXT} {k : Nat} {f C : Addr} {fd : FuncData} {ps : List Str} {sp : Sp} {E : St → XK} {m : Str} {pos apos : Pos} {e o : Expr} {es : List Expr} {ta : TE} {t : TA}
theorem pe_methAt {pl : Sem Bool} (ho : PE X o ta) (c : Cls X.K C) (hm : Meth X.K C m f) (F : FnOk X.prog X.w X.K X.mg X.base CX k f fd ps sp) (hr : Room k X.A) (hb : Binds X.K fd ps []) (hx : ∀ σ, PassesAt CX X σ (E σ)) (ha : PA X (e :: es) t)
    (h1 : starEach (e :: es) X.env = (false, eval e X.env) :: starEach es X.env := by rfl) (h2 : (backTo pos (starEach es X.env)).any (·.1) = false := by rfl)
    (h3 : eval (.Call (.Attribute o m apos) (e :: es) [] pos) X.env = (do
      let v0 ← eval o X.env
      standAt apos.atName
      let (g, first) ← holding [v0] (getMethod v0 m pl)
      callWith pos g first (backTo pos (starEach (e :: es) X.env)) (backToKw pos (keywordEach [] X.env))) := by rfl) :
    PE X (.Call (.Attribute o m apos) (e :: es) [] pos) (tMethAt C m sp E ta t) := by
  constructor
  intro pins s σ H Q I h
  refine PySem.W.methodCall_KW (pl := pl) (thn (ho.run pins s σ H _ I h) fun u s1 ⟨x, H1, I1, rx, a, dx, fs, ex, ea, l, q⟩ => ?_) h3
  subst ex
  obtain rfl : u = Value.ref a := rx
  refine getmeth_ok I1 ea c hm l (PySem.W.callWith_K (h₀ := X.base) (first := [.ref a]) I.ok.mod.kin hm.kp (thn (ha.run pos pins s1 σ H1 _ I1 q) fun us s2 ⟨vs, H2, I2, r, q2⟩ => ⟨I2.kIn, ?_⟩) h1 h2)
  exact run_fnS (vs := .ref a :: vs) (us := .ref a :: us) F hr hb (hx σ) I2 (.cons rfl r) q2
end
/-! ### a tuple of numbers in an f-string -/
theorem reprs_int {prog : Program} {w : World} : ∀ {l : List Int} {its : List Value}, Vals (l.map V.int) its → (∀ y ∈ l, y.natAbs.log2 < 1920) → ReprAll prog w its (l.map fun i => Str.ofString (toString i))
  | [], _, r, _ => by
    cases r
    exact .nil
  | y :: l, _, r, h => by
    cases r with
    | cons r1 r2 =>
      obtain ⟨t, rfl⟩ := r1
      exact .cons (ReprIs.int t (h y List.mem_cons_self)) (reprs_int r2 fun z hz => h z (List.mem_cons_of_mem _ hz))
theorem piled_int : ∀ l : List Int, (∀ y ∈ l, y.natAbs.log2 < 1920) → piled (l.map fun i => Str.ofString (toString i)) ≤ 1923 * l.length
  | [], _ => Nat.zero_le _
  | y :: l, h => by
    have h1 := int_text_len_1921 (h y List.mem_cons_self)
    have h2 := piled_int l fun z hz => h z (List.mem_cons_of_mem _ hz)
    rw [List.map_cons, piled_cons, List.length_cons]
    omega
/-- {t}, t a tuple of numbers: some text -/
def tFmtI (K : PySem.W.Frag) (te : TE) : TE := fun σ H Q => te σ H fun x H1 => ∃ (a : Addr) (l : List Int), x = .ref a ∧ SqT K H1 a (l.map V.int) ∧ (∀ y ∈ l, y.natAbs.log2 < 1920) ∧ l.length ≤ 20 ∧ ∀ m : Str, m.length ≤ 40000 → Q (.str m) H1
theorem pe_fmtI {X : Cx} {e : Expr} {te : TE} {pos : Pos} {k : Nat} (hr : Room k X.A) (he : PE X e te) : PE X (.FormattedValue e (-1) none pos) (tFmtI X.K te) := by
  refine ⟨fun pins s σ H Q I h => ?_⟩
  refine wpAny_FormattedValue_plain (thn (he.run pins s σ H _ I h) fun v s1 got => ?_)
  obtain ⟨x, H1, I1, r1, a, l, rfl, ht, hc, hz, q⟩ := got
  cases r1
  obtain ⟨its, rv, ⟨ox, ho, hcl, nx, hd⟩, _⟩ := I1.tuple ht
  have hp := piled_int l hc
  have htx := fmt_text (l.map fun i => Str.ofString (toString i))
  have hu := hr.units
  have hb : 40000 ≤ sizeLine := by rw [sizeLine_eq]; decide
  exact fmt_tuple (by omega) ho hcl hd (reprs_int rv hc) (by omega) fun m u tk hm => ⟨.str m, H1, I1.tok _, ⟨u, rfl⟩, q m (by omega)⟩
end L2

set_option linter.all false
set_option maxRecDepth 100000
set_option maxHeartbeats 4000000
/-! several clauses `except C as n` -/
namespace L2
open PySem PySem.Spec PyProof.Rows
/-- the ends of a suite whose name, in slot i, is let go of -/
def unb (i : Nat) (D : Ends) : Ends where
  nx := fun σ' H' => D.nx (σ'.set i none) H'
  rt := D.rt
  bk := fun σ' H' => D.bk (σ'.set i none) H'
  ct := fun σ' H' => D.ct (σ'.set i none) H'
abbrev Clause := Value × Nat × (Addr → Value → Option Addr → TS)
def wNamed (K : PySem.W.Frag) (Wout : WX) (D : Ends) : List Clause → WX
  | [] => Wout
  | c :: r => fun cls d σ H => ∃ b : Bool, PySem.W.exmOne K cls c.1 = some b ∧ (b = true → ∀ z, H z = none → c.2.2 z cls d (unb c.2.1 D) (σ.set c.2.1 (some (.ref z))) H) ∧ (b = false → wNamed K Wout D r cls d σ H)
inductive HdN (X : Cx) : List ExceptHandler → List Clause → Prop
  | nil : HdN X [] []
  | cons {x n : Str} {c : Value} {i : Nat} {ts : Addr → Value → Option Addr → TS} {q0 : Stmt} {qs : List Stmt} {p1 p2 : Pos} {hds : List ExceptHandler} {l : List Clause} (hc : Names X x c) (hi : X.N[i]? = some n) (hk : X.env.kindOf n = some .local)
      (hq : ∀ (z : Addr) (oz : Obj) (cls : Value) (d : Option Addr) (pn : List (Addr × Obj)), Zc cls d oz → (∃ fv, oz.data = .fields fv) → PSs (X.suite z ((z, oz) :: pn)) (q0 :: qs) (ts z cls d)) (rest : HdN X hds l) :
      HdN X (.ExceptHandler (some (.Name x p1)) (some n) (q0 :: qs) p2 :: hds) ((c, i, ts) :: l)
/-- an exception at a on its way through the body of X, the state around as told -/
structure Fly (X : Cx) (pins : List (Addr × Obj)) (a : Addr) (cls : Value) (d : Option Addr) (σ : St) (H : Hp) (B : Heap) (sI s3 : Shared) : Prop where
  inv : Inv X pins σ H sI
  nb : ∀ b o, sI.heap.get? b = some o → b ∉ frs X.stack → B.get? b = some o
  up : sI.heap.UpToSlots s3.heap
  fly : HandSPX.FlyingZ B (X.env :: X.outer) a (Zc cls d) s3.heap
  na : H a = none
  os : s3.os = sI.os
  ag : AllBare s3.gens
section
variable {X : Cx} {pins : List (Addr × Obj)} {a : Addr} {cls : Value} {d : Option Addr} {σ : St} {H : Hp} {B : Heap} {sI s3 : Shared}
theorem Fly.stands (F : Fly X pins a cls d σ H B sI s3) : Inv X pins σ H s3 := F.inv.landed F.nb F.fly.1 F.up F.os F.ag
theorem Fly.held (F : Fly X pins a cls d σ H B sI s3) (hf : X.env.frame = some X.env.locals) :
    ∃ (oz : Obj) (fv : Array Value), s3.heap.get? a = some oz ∧ Zc cls d oz ∧ oz.data = .fields fv ∧ Inv (X.suite a ((a, oz) :: (X.pn ++ pins))) [] σ H s3 := by
  obtain ⟨oz, fv, e, z, hd⟩ := F.fly.there
  have off : a ∉ frs (X.env :: X.outer) := by
    intro m
    obtain ⟨_, o2, e2, nf⟩ := F.fly.2.2.1.mem m
    obtain rfl := Option.some.inj (e.symm.trans e2)
    exact nf _ hd
  refine ⟨oz, fv, e, z, hd, F.stands.suite e hd F.na (fun q => off ?_) (fun q => off ?_)⟩
  · rw [q]
    exact List.mem_filterMap.mpr ⟨X.env, List.mem_cons_self, hf⟩
  · obtain ⟨v, hv, hv2⟩ := List.mem_filterMap.mp q
    exact List.mem_filterMap.mpr ⟨v, List.mem_cons_of_mem _ hv, hv2⟩
/-- the clauses, one after the other -/
theorem Fly.clauses {l : List Clause} {hds : List ExceptHandler} {Wout : WX} {D : Ends} (hs : X.stack = X.env :: X.outer) (hf : X.env.frame = some X.env.locals) (hN : X.N.Nodup) (tk : Takes X Wout) (h : HdN X hds l) (F : Fly X pins a cls d σ H B sI s3)
    (w : wNamed X.K Wout D l cls d σ H) : wpAny (model X.prog X.w) X.A (handleBy (.ref a) X.env hds) (SP X pins D) X.xe s3 := by
  induction h with
  | nil =>
    refine wpAny_handleBy_nil ?_
    obtain ⟨_, _, _, oz, fv, tb0, oT, tn, e, z, hd, h1, hr⟩ := id F.fly
    unfold PySem.passOn
    refine wpAny_bind (wpAny_field e hd h1 ?_)
    rw [if_neg (by simp : ¬ ((Value.ref tb0 == Value.none) = true))]
    have out : wpAny (model X.prog X.w) X.A (setFlight (.ref a) X.env.frame) (fun _ s4 => wpAny (model X.prog X.w) X.A (throw (.ref a) : Sem Flow) (SP X pins D) X.xe s4) X.xe s3 := by
      rw [hf]
      refine HandSPX.setFlight_upZ F.fly fun h4 held up4 => wpAny_throw (tk _ _ ?_)
      refine ⟨a, B, sI, pins, σ, H, cls, d, rfl, F.inv, F.nb, F.up.trans up4, ?_, F.na, F.os, F.ag, w⟩
      rw [hs]
      exact .inr (.inr held)
    first
      | exact wpAny_bind (wpAny_pure (wpAny_bind out))
      | exact wpAny_bind out
  | @cons x n c i ts q0 qs p1 p2 hds l hc hi hk hq rest ih =>
    obtain ⟨b, hb, yes, no⟩ := w
    obtain ⟨oz, fv, e, z, hd, S3⟩ := F.held hf
    refine wpAny_handleBy_cons (codeAny_handlers_test ?_) (fun w => by cases w)
    have LC : PySem.W.Looks (model X.prog X.w) s3.heap (typeOf (.ref a)) cls := fun _ _ _ _ k q => wpAny_typeOf_ref (k _ _ e) (by rw [z.1]; exact q)
    have LM := PySem.W.exm_one (M := model X.prog X.w) F.stands.kIn LC hb
    have named : ∀ {Q E : Value → Shared → Prop}, Q c s3 → wpAny (model X.prog X.w) (X.A.mark (some (.ref a))) (eval (.Name x p1) X.env) Q E s3 := by
      intro Q E q
      obtain ⟨hg, hdb, hm | ⟨hm, hv, hn⟩⟩ := hc
      · exact ld_glob S3 hg hm q hdb
      · exact ld_blt S3 hg hm hv q hn hdb
    refine named (LM.here ?_)
    cases b with
    | false => exact ih (no rfl)
    | true =>
      refine codeAny_handlers_suite_as (HandSPX.lands_againZ F.fly fun h4 fl4 up4 => ?_)
      have F4 : Fly X pins a cls d σ H B sI { s3 with heap := h4 } := ⟨F.inv, F.nb, F.up.trans up4, fl4, F.na, F.os, F.ag⟩
      obtain ⟨oy, fy, ey, zy, dy, S4⟩ := F4.held hf
      refine store_ok (X := X.suite a ((a, oy) :: (X.pn ++ pins))) (v := .ref a) S4 hN hi (.inl hk) rfl (fun s5 S5 => ?_) (.inr hk)
      refine wpAny_mono ((hq a oy cls d (X.pn ++ pins) zy ⟨_, dy⟩).run [] s5 _ H _ S5 (yes rfl a F.na)) (fun f s6 hsp => ?_) (fun _ _ q => q.elim)
      have ok := F.inv.ok
      have fin : ∀ {τ : St} {H6 : Hp} {P : Shared → Prop}, Inv (X.suite a ((a, oy) :: (X.pn ++ pins))) [] τ H6 s6 → (∀ s7, Inv X pins (τ.set i none) H6 s7 → P s7) →
          wpAny (model X.prog X.w) X.A (do bindName X.env n .none; unbindBehindTheSuite X.env n p2) (fun _ s7 => P s7) X.xe s6 := fun I6 q => gone_ok (I6.unsuite ok) hN hi hk q
      cases f with
      | next =>
        obtain ⟨τ, H6, I6, q6⟩ := hsp
        exact fin I6 fun _ I7 => ⟨_, _, I7, q6⟩
      | brk =>
        obtain ⟨τ, H6, I6, q6⟩ := hsp
        exact fin I6 fun _ I7 => ⟨_, _, I7, q6⟩
      | cont =>
        obtain ⟨τ, H6, I6, q6⟩ := hsp
        exact fin I6 fun _ I7 => ⟨_, _, I7, q6⟩
      | ret u =>
        obtain ⟨v, τ, H6, I6, r6, q6⟩ := hsp
        exact fin I6 fun _ I7 => ⟨_, _, _, I7, r6, q6⟩
theorem ps_try_named {body : List Stmt} {h0 : ExceptHandler} {hds : List ExceptHandler} {l : List Clause} {pos : Pos} {tb : WX → TS} {Wout : WX} (hs : X.stack = X.env :: X.outer) (hf : X.env.frame = some X.env.locals) (hN : X.N.Nodup) (tk : Takes X Wout)
    (hb : ∀ (W : WX) (qs : List (Addr × Obj)) (xe : Value → Shared → Prop), Takes (X.tr qs xe) W → PassesOwn (model X.prog X.w) X.A X.env xe → PSs (X.tr qs xe) body (tb W))
    (hh : HdN X (h0 :: hds) l) : PS X (.Try body (h0 :: hds) [] [] pos) (fun D σ H => tb (wNamed X.K Wout D l) D σ H) := by
  constructor
  intro pins s σ H D I h
  have ok := I.ok
  have hfr : X.A.frames = some (X.env :: X.outer) := ok.frames.trans (by rw [hs])
  refine wpAny_Try_except (wpAny_mono ((hb (wNamed X.K Wout D l) (X.pn ++ pins) (fun e t1 => wpAny (model X.prog X.w) X.A (noteFrame e X.env) (fun _ t2 => wpAny (model X.prog X.w) X.A (setFlight e none)
    (fun _ t3 => wpAny (model X.prog X.w) X.A (handleBy e X.env (h0 :: hds)) (SP X pins D) X.xe t3) X.xe t2) X.xe t1) (fun u s' hx => ?_) PassesOwn.looking).run [] s σ H D (I.toTry _) h) (fun f s1 hsp => ?_) (fun _ _ q => q))
  · obtain ⟨a, B, sI, pn', τ, H', cls, d, rfl, J, nb, up, sky, na, os, ag, w⟩ := hx
    have sky2 : Sky B (X.env :: X.outer) a (Zc cls d) X.env.locals s'.heap := hs ▸ sky
    refine Sky.land (a := a) Zc.steady hfr hf sky2 fun h3 fl up3 => ?_
    exact Fly.clauses (s3 := { s' with heap := h3 }) hs hf hN tk hh ⟨J.ofTry ok, nb, up.trans up3, fl, na, os, ag⟩ w
  · cases f with
    | next =>
      obtain ⟨τ, H', J, q⟩ := hsp
      exact wpAny_execs_nil ⟨τ, H', J.ofTry ok, q⟩
    | brk =>
      obtain ⟨τ, H', J, q⟩ := hsp
      exact ⟨τ, H', J.ofTry ok, q⟩
    | cont =>
      obtain ⟨τ, H', J, q⟩ := hsp
      exact ⟨τ, H', J.ofTry ok, q⟩
    | ret u =>
      obtain ⟨v, τ, H', J, r, q⟩ := hsp
      exact ⟨v, τ, H', J.ofTry ok, r, q⟩
end
/-- isinstance(e, c), e the caught exception, which has its dict -/
def rIsD (K : PySem.W.Frag) (z : Addr) (cls : Value) (d : Option Addr) : List V → Hp → VK → Prop := fun xs H Q => ∃ (D dd : Addr) (fs : List (Str × V)) (c : V) (cv : Value) (b : Bool),
  cls = .ref D ∧ d = some dd ∧ H dd = some (.xd fs) ∧ ExcC K D ∧ xs = [.ref z, c] ∧ (∀ u, RelV c u → u = cv) ∧ PySem.W.kitOne K (.ref D) cv = some b ∧ Q (.bl b) H
theorem call_isD {X : Cx} {z : Addr} {cls : Value} {d : Option Addr} {oz : Obj} {pn : List (Addr × Obj)} (hz : Zc cls d oz) (hf : ∃ fv, oz.data = .fields fv) : CallR (X.suite z ((z, oz) :: pn)) (.builtin "isinstance") (rIsD X.K z cls d) := by
  intro pins s σ H xs us Q I r h
  obtain ⟨D, dd, fs, c, cv, b, rfl, rfl, ed, T, rfl, hcv, e, q⟩ := h
  obtain ⟨u1, u2, rfl, r1, r2⟩ : ∃ u1 u2, us = [u1, u2] ∧ RelV (.ref z) u1 ∧ RelV c u2 := by
    cases r with
    | cons r1 r =>
      cases r with
      | cons r2 r =>
        cases r
        exact ⟨_, _, rfl, r1, r2⟩
  obtain rfl : u1 = Value.ref z := r1
  obtain rfl := hcv _ r2
  obtain ⟨at1, _⟩ := I.pin (z, oz) (List.mem_append_left _ List.mem_cons_self)
  obtain ⟨fv, hd⟩ := hf
  have hx : ObjOk X.prog X.w H s.heap dd (.xd fs) := I.hok dd _ ed
  obtain ⟨mA, hns, hr⟩ := hx
  obtain ⟨od, ho, _⟩ := lookIn_ns hns
  have J : PySem.W.InstAt s.heap z oz D (some od) := ⟨at1, hz.1, by unfold PySem.W.notCls; rw [hd] <;> rfl, by rw [hz.2]; exact ho⟩
  have hcl : (PySem.W.clsIn X.K D).isSome = true := by
    obtain ⟨cd, hc, _⟩ := PySem.W.any_some T.hd
    rw [hc]
    rfl
  exact PySem.W.kia_one (PySem.W.kitx_exc hcl T.hg T.hk T.hs T.ha T.hn T.ht T.hm) I.kIn J e (fun w => nomatch w) fun tk => ⟨.bl b, H, I.kept (t' := tk) fun _ _ w => w, rfl, q⟩
end L2

set_option linter.all false
set_option maxRecDepth 100000
namespace My
open PySem
/-- small letters, names -/
def letter (c : Nat) : Bool := decide (97 ≤ c) && decide (c ≤ 122)
def nameB (s : Str) : Bool := decide (1 ≤ s.cps.size) && decide (s.cps.size ≤ 8) && s.cps.toList.all letter
/-- the pigeonhole -/
theorem len_le {α : Type} [DecidableEq α] : ∀ {l m : List α}, l.Nodup → (∀ x, x ∈ l → x ∈ m) → l.length ≤ m.length
  | [], m, _, _ => Nat.zero_le _
  | a :: l, m, nd, h => by
    rw [List.nodup_cons] at nd
    have h2 : ∀ x, x ∈ l → x ∈ m.erase a := fun x hx => (List.mem_erase_of_ne (fun (e : x = a) => nd.1 (e ▸ hx))).mpr (h x (List.mem_cons_of_mem _ hx))
    have := len_le nd.2 h2
    have hm := h a List.mem_cons_self
    have := List.length_erase_of_mem hm
    have := List.length_pos_of_mem hm
    rw [List.length_cons]
    omega
def spares : List Str := ["q", "qa", "qb", "qc", "qd", "qe", "qf", "qg", "qh", "qi", "qj", "qk", "ql", "qm", "qn", "qo"]
theorem spares_nodup : spares.Nodup := by decide +kernel
theorem spares_name : ∀ s, s ∈ spares → nameB s = true := by decide +kernel
/-- how far the search for a spare name has come: i spares were looked at -/
def Seek (found : List Str) (i : Nat) (x : Str) : Prop := nameB x = true ∧ (x ∉ found ∨ ((∀ j, j + 1 < i → ∀ s, spares[j]? = some s → s ∈ found) ∧ (∀ s, 0 < i → spares[i - 1]? = some s → x = s)))
theorem Seek.first {found : List Str} {x : Str} (h : nameB x = true) : Seek found 0 x := ⟨h, .inr ⟨fun j h => absurd h (by omega), fun s h => absurd h (by omega)⟩⟩
theorem Seek.keep {found : List Str} {i : Nat} {x : Str} (h : Seek found i x) (n : x ∉ found) : Seek found (i + 1) x := ⟨h.1, .inl n⟩
theorem Seek.next {found : List Str} {i : Nat} {x s : Str} (h : Seek found i x) (n : x ∈ found) (hs : spares[i]? = some s) : Seek found (i + 1) s := by
  refine ⟨spares_name s (List.mem_of_getElem? hs), .inr ⟨fun j hj t ht => ?_, fun t _ ht => ?_⟩⟩
  · rcases h.2 with h2 | ⟨h2, h3⟩
    · exact absurd n h2
    · by_cases e : j + 1 < i
      · exact h2 j e t ht
      · obtain rfl : i = j + 1 := by omega
        have := h3 t (by omega) (by simpa using ht)
        exact this ▸ n
  · have : i + 1 - 1 = i := by omega
    rw [this, hs] at ht
    exact Option.some.inj ht
theorem Seek.done {found : List Str} {x : Str} (h : Seek found 16 x) (hl : found.length < 15) : nameB x = true ∧ x ∉ found := by
  refine ⟨h.1, ?_⟩
  rcases h.2 with h2 | ⟨h2, _⟩
  · exact h2
  · exfalso
    have nd : (spares.take 15).Nodup := by decide +kernel
    have hle : (spares.take 15).length ≤ found.length := len_le nd fun s hs => by
      obtain ⟨j, hj⟩ := List.getElem?_of_mem hs
      have hj2 : j < 15 := by
        have := (List.getElem?_eq_some_iff.mp hj).1
        have e : (spares.take 15).length = 15 := by decide +kernel
        omega
      rw [List.getElem?_take, if_pos hj2] at hj
      exact h2 j (by omega) s hj
    have e : (spares.take 15).length = 15 := by decide +kernel
    omega
/-- pairs of words: near, far, laden -/
abbrev Pr := Str × Str × Bool
structure PairsOk (ps : List Pr) : Prop where
  many : ps.length ≤ 6
  nm : ∀ p, p ∈ ps → nameB p.1 = true ∧ nameB p.2.1 = true
  nears : (ps.map (·.1)).Nodup
  fars : (ps.map (·.2.1)).Nodup
theorem PairsOk.take {ps : List Pr} (h : PairsOk ps) (n : Nat) : PairsOk (ps.take n) := by
  refine ⟨by have := h.many; rw [List.length_take]; omega, fun p hp => h.nm p (List.mem_of_mem_take hp), ?_, ?_⟩
  · rw [List.map_take]; exact h.nears.sublist (List.take_sublist _ _)
  · rw [List.map_take]; exact h.fars.sublist (List.take_sublist _ _)
theorem rot_nodup {α : Type} {l : List α} (h : l.Nodup) : (l.drop 1 ++ l.take 1).Nodup := by
  have e : (l.drop 1 ++ l.take 1).Perm (l.take 1 ++ l.drop 1) := List.perm_append_comm
  rw [List.take_append_drop] at e
  exact e.nodup_iff.mpr h
theorem rot_len {α : Type} (l : List α) : (l.drop 1 ++ l.take 1).length = l.length := by
  rw [List.length_append, List.length_drop, List.length_take]
  omega
end My

set_option linter.all false
set_option maxRecDepth 100000
namespace My
open PySem
/-- a helper's pact -/
structure Hr where
  name : Str
  side : Int
  takes : List Str
  gives : Bool
  throws : List Str
deriving DecidableEq
def wd (i : Int) (p : Pr) : Str := if i = 0 then p.1 else p.2.1
def sideB (i : Int) : Bool := decide (i = 0 ∨ i = 1)
def takesB (ts : List Str) : Bool := decide (ts.length ≤ 3) && ts.all fun t => decide (t ∈ (["lent", "given"] : List Str))
def throwsB (ts : List Str) : Bool := decide (ts.length ≤ 4) && ts.all fun t => decide (ts.count t = 1)
def pactB (x : Hr) : Bool := nameB x.name && sideB x.side && takesB x.takes && throwsB x.throws
def fitsHB (x : Hr) (ps : List Pr) (hs : List Hr) : Bool :=
  !(decide ((hs.filter fun z => decide (z.side = x.side)).length = 4) || decide (x.name ∈ hs.map (·.name))) && x.throws.all fun t => decide (t ∈ ps.map (wd x.side))
structure CrewOk (ps : List Pr) (hs : List Hr) : Prop where
  one : ∀ x, x ∈ hs → pactB x = true ∧ ∀ t, t ∈ x.throws → t ∈ ps.map (wd x.side)
  names : (hs.map (·.name)).Nodup
  few : ∀ s : Int, (hs.filter fun z => decide (z.side = s)).length ≤ 4
theorem throws_count {ts : List Str} (nd : ts.Nodup) : ∀ t, t ∈ ts → ts.count t = 1 := fun t h => by
  rw [List.nodup_iff_count] at nd
  have h1 := nd t
  have h2 := List.count_pos_iff.mpr h
  omega
theorem throwsB_nodup {ts : List Str} (h : throwsB ts = true) : ts.length ≤ 4 ∧ ts.Nodup := by
  unfold throwsB at h
  simp only [Bool.and_eq_true, decide_eq_true_eq, List.all_eq_true] at h
  refine ⟨h.1, List.nodup_iff_count.mpr fun t => ?_⟩
  by_cases hm : t ∈ ts
  · have := h.2 t hm
    omega
  · rw [List.count_eq_zero.mpr hm]
    omega
theorem throwsB_of {ts : List Str} (hl : ts.length ≤ 4) (nd : ts.Nodup) : throwsB ts = true := by
  unfold throwsB
  simp only [Bool.and_eq_true, decide_eq_true_eq, List.all_eq_true]
  exact ⟨hl, fun t ht => throws_count nd t ht⟩
theorem nin_take {α β : Type} [DecidableEq β] {f : α → β} {xs : List α} {i : Nat} {q : α} (nd : (xs.map f).Nodup) (h : xs[i]? = some q) : f q ∉ (xs.take i).map f := by
  intro hc
  rw [← List.take_append_drop i (xs.map f), List.nodup_append] at nd
  have h2 : f q ∈ (xs.map f).drop i := by
    have : (xs.map f)[i]? = some (f q) := by rw [List.getElem?_map, h]; rfl
    exact List.mem_of_getElem? (i := 0) (by rw [List.getElem?_drop]; simpa using this)
  rw [List.map_take] at hc
  exact nd.2.2 _ hc _ h2 rfl
theorem CrewOk.next {ps : List Pr} {hs : List Hr} (ok : CrewOk ps hs) {i : Nat} {x : Hr} (h : hs[i]? = some x) : pactB x = true ∧ fitsHB x ps (hs.take i) = true := by
  have hm := List.mem_of_getElem? h
  refine ⟨(ok.one x hm).1, ?_⟩
  unfold fitsHB
  have h1 : ((hs.take i).filter fun z => decide (z.side = x.side)).length < 4 := by
    have hf := ok.few x.side
    have e : hs = hs.take i ++ (x :: hs.drop (i + 1)) := by
      have hl := (List.getElem?_eq_some_iff.mp h)
      obtain ⟨hl, e⟩ := hl
      rw [← e, List.getElem_cons_drop hl, List.take_append_drop]
    rw [e, List.filter_append, List.length_append, List.filter_cons, if_pos (by simp), List.length_cons] at hf
    omega
  have h2 : x.throws.all (fun t => decide (t ∈ ps.map (wd x.side))) = true := List.all_eq_true.mpr fun t ht => decide_eq_true ((ok.one x hm).2 t ht)
  rw [h2, decide_eq_false (by omega), decide_eq_false (nin_take ok.names h)]
  rfl
end My

set_option linter.all false
set_option maxRecDepth 100000
set_option maxHeartbeats 4000000
/-! a method called with values by place and by name -/
namespace L2
open PySem PySem.Spec PyProof.Rows
structure KwN (K : PySem.W.Frag) (fd : FuncData) (ps : List Str) (n : Nat) (ks : List Str) : Prop where
  to : ∀ (s : Shared) (us ws : List Value), K.In s.heap → us.length = n → ws.length = ks.length → BindsTo s fd ⟨us, ks.zip ws⟩ (ps.zip (us ++ ws))
  len : ps.length = n + ks.length
theorem kwn_mk {K : PySem.W.Frag} {x qual : Str} {st : Stmt} {f : Addr} {fd : FuncData} {ps ks : List Str} {n : Nat} (F : Fun K x qual st f fd) (hl : ps.length = n + ks.length)
    (h : ∀ (kV doc pm : Value) (an : Option Addr) (cdv ct : Value) (us ws : List Value), us.length = n → ws.length = ks.length → bindArgs (PySem.W.fnOf x qual (defArgs st) (defBody st) (defScope st) .none kV doc pm an cdv ct) ⟨us, ks.zip ws⟩ = pure (ps.zip (us ++ ws))) : KwN K fd ps n ks := by
  obtain ⟨_, _, kV, doc, pm, an, cdv, ct, _, rfl, _, _⟩ := F.ex
  exact ⟨fun s us ws _ hu hw => .of_eq (h kV doc pm an cdv ct us ws hu hw), hl⟩
section
variable {X : Cx} {CX : CXT} {k n : Nat} {f C : Addr} {fd : FuncData} {ps ks : List Str} {sp : Sp} {m : Str} {pos apos : Pos} {o e : Expr} {es : List Expr} {kws : List Keyword} {ta : TE} {t tk : TA}
theorem run_fnN2 {E : XK} {pins : List (Addr × Obj)} {σ : St} {H : Hp} {s : Shared} {Q : VK} {us ws : List Value} {vs zs : List V} (F : FnOk X.prog X.w X.K X.mg X.base CX k f fd ps sp) (hr : Room k X.A) (hb : KwN X.K fd ps n ks) (hx : PassesAt CX X σ E)
    (I : Inv X pins σ H s) (r : Vals vs us) (rz : Vals zs ws) (hn : vs.length = n) (h : sp (vs ++ zs) H Q E) : wpAny (model X.prog X.w) X.A (call (.ref f) us (ks.zip ws)) (EP X pins σ Q) X.xe s := by
  have r2 := r.append rz
  have hl : (vs ++ zs).length = ps.length := F.len _ _ _ _ h
  have l1 : us.length = n := by rw [← r.length]; exact hn
  have l2 : ws.length = ks.length := by
    have := hb.len
    rw [← rz.length]
    rw [List.length_append] at hl
    omega
  refine wpAny_call (codeAny_mono (F.run X.A X.stack s H ⟨us, ks.zip ws⟩ (us ++ ws) (vs ++ zs) Q E hr I.env0 (hb.to s us ws I.kIn l1 l2) r2 h) fun r s' hq => ?_)
  cases r with
  | error e => exact hx pins H s e s' I hq
  | ok fl =>
    cases fl with
    | ret u => exact I.after hq
    | next => exact False.elim hq
    | brk => exact False.elim hq
    | cont => exact False.elim hq
def tMethNAt (C : Addr) (m : Str) (n : Nat) (sp : Sp) (E : St → XK) (ta : TE) (t tk : TA) : TE := fun σ H Q => ta σ H fun x H1 => ∃ a dx fs, x = .ref a ∧ H1 a = some (.ins C dx fs) ∧ fs.lookup m = none ∧
  t σ H1 fun vs H2 => tk σ H2 fun zs H3 => vs.length + 1 = n ∧ sp (x :: (vs ++ zs)) H3 Q (E σ)
theorem pe_methNAt {E : St → XK} {pl : Sem Bool} (ho : PE X o ta) (c : Cls X.K C) (hm : Meth X.K C m f) (F : FnOk X.prog X.w X.K X.mg X.base CX k f fd ps sp) (hr : Room k X.A) (hb : KwN X.K fd ps n ks) (hx : ∀ σ, PassesAt CX X σ (E σ)) (ha : PA X (e :: es) t) (hkw : PK X kws tk)
    (hall : (backToKw pos (keywordEach kws X.env)).all (·.1.isSome) = true := by rfl) (hks : (backToKw pos (keywordEach kws X.env)).filterMap (·.1) = ks := by rfl)
    (h1 : starEach (e :: es) X.env = (false, eval e X.env) :: starEach es X.env := by rfl)
    (hpl : ((backTo pos (starEach (e :: es) X.env)).any (·.1) || (backToKw pos (keywordEach kws X.env)).any (·.1.isNone)) = false := by rfl)
    (h3 : eval (.Call (.Attribute o m apos) (e :: es) kws pos) X.env = (do
      let v0 ← eval o X.env
      standAt apos.atName
      let (g, first) ← holding [v0] (getMethod v0 m pl)
      callWith pos g first (backTo pos (starEach (e :: es) X.env)) (backToKw pos (keywordEach kws X.env))) := by rfl) :
    PE X (.Call (.Attribute o m apos) (e :: es) kws pos) (tMethNAt C m n sp E ta t tk) := by
  constructor
  intro pins s σ H Q I h
  refine PySem.W.methodCall_KW (pl := pl) (thn (ho.run pins s σ H _ I h) fun u s1 ⟨x, H1, I1, rx, a, dx, fs, ex, ea, l, q⟩ => ?_) h3
  subst ex
  obtain rfl : u = Value.ref a := rx
  refine getmeth_ok I1 ea c hm l (PySem.W.callWith_KW (h₀ := X.base) (first := [.ref a]) I.ok.mod.kin hm.kp hall (thn (ha.run pos pins s1 σ H1 _ I1 q) fun us s2 ⟨vs, H2, I2, r, q2⟩ => ?_) hpl h1)
  refine thn (hkw.run pos pins s2 σ H2 _ I2 q2) fun ws s3 ⟨zs, H3, I3, rz, hn, q3⟩ => ⟨I3.kIn, ?_⟩
  rw [hks]
  exact run_fnN2 (vs := .ref a :: vs) (us := .ref a :: us) F hr hb (hx σ) I3 (.cons rfl r) rz hn q3
def tMethN (C : Addr) (m : Str) (n : Nat) (sp : Sp) (E : XK) (ta : TE) (t tk : TA) : TE := tMethNAt C m n sp (fun _ => E) ta t tk
theorem pe_methN {E : XK} {pl : Sem Bool} (ho : PE X o ta) (c : Cls X.K C) (hm : Meth X.K C m f) (F : FnOk X.prog X.w X.K X.mg X.base CX k f fd ps sp) (hr : Room k X.A) (hb : KwN X.K fd ps n ks) (hx : Passes CX X E) (ha : PA X (e :: es) t) (hkw : PK X kws tk)
    (hall : (backToKw pos (keywordEach kws X.env)).all (·.1.isSome) = true := by rfl) (hks : (backToKw pos (keywordEach kws X.env)).filterMap (·.1) = ks := by rfl)
    (h1 : starEach (e :: es) X.env = (false, eval e X.env) :: starEach es X.env := by rfl)
    (hpl : ((backTo pos (starEach (e :: es) X.env)).any (·.1) || (backToKw pos (keywordEach kws X.env)).any (·.1.isNone)) = false := by rfl)
    (h3 : eval (.Call (.Attribute o m apos) (e :: es) kws pos) X.env = (do
      let v0 ← eval o X.env
      standAt apos.atName
      let (g, first) ← holding [v0] (getMethod v0 m pl)
      callWith pos g first (backTo pos (starEach (e :: es) X.env)) (backToKw pos (keywordEach kws X.env))) := by rfl) :
    PE X (.Call (.Attribute o m apos) (e :: es) kws pos) (tMethN C m n sp E ta t tk) :=
  pe_methNAt (pl := pl) ho c hm F hr hb (fun σ pins H s e s' I q => hx pins σ H s e s' I q) ha hkw hall hks h1 hpl h3
end
end L2

set_option linter.all false
set_option maxRecDepth 100000
set_option maxHeartbeats 4000000
/-! tuple.count of texts -/
namespace L2
open PySem PySem.Spec PyProof.Rows
theorem countP_eqU {x : V} : ∀ {xs : List V} {us : List Value}, Vals xs us → xs.all flatV = true → us.countP (eqU x) = xs.countP fun y => eqV y x
  | _, _, .nil, _ => rfl
  | y :: xs, u :: us, .cons r t, f => by
    rw [List.all_cons, Bool.and_eq_true] at f
    rw [List.countP_cons, List.countP_cons, eqU_of r f.1, countP_eqU t f.2]
theorem countP_str (z : Str) : ∀ ys : List Str, ((ys.map V.str).countP fun y => eqV y (.str z)) = ys.count z
  | [] => rfl
  | y :: ys => by
    rw [List.map_cons, List.countP_cons, List.count_cons, countP_str z ys]
    rfl
theorem flats (l : List Str) : (l.map V.str).all flatV = true := List.all_eq_true.mpr fun v hv => by
  obtain ⟨s, _, rfl⟩ := List.mem_map.mp hv
  rfl
def rCntS (K : PySem.W.Frag) : V → List V → Hp → VK → Prop := fun x xs H Q => ∃ (p : Addr) (ys : List Str) (z : Str), x = .ref p ∧ xs = [.str z] ∧ SqT K H p (ys.map V.str) ∧ Q (.int (ys.count z : Nat)) H
theorem mt_tcount {X : Cx} : MtR X "tuple.count" (rCntS X.K) := by
  intro pins s σ H x xs v us Q I rx rxs h
  obtain ⟨p, ys, z, rfl, rfl, hq, q⟩ := h
  cases rx
  obtain ⟨u, rfl, ru⟩ := rxs.one
  obtain ⟨t, rfl⟩ := ru
  obtain ⟨its, r, pl, hz⟩ := I.tuple hq
  obtain ⟨⟨cls, dd, dt, sl⟩, ho, hc, n, hd⟩ := pl
  simp only at hc hd
  subst hc
  subst hd
  refine call_meets PySem.F.slot_tuple_count ⟨_, ho, rfl⟩ PySem.F.entry_tuple_count (PySem.F.args_tuple_count_2 _ _) (SeqAt.tuple_countAt p its.toArray n dd sl (.str z t) (eqU (.str z)))
    ⟨ho, fun w hw => mem_eqAt (x := .str z) ⟨t, rfl⟩ rfl r (flats ys) w (by simpa using hw), .int (ys.count z : Nat), H, I.tok _, ⟨s.toks, ?_⟩, q⟩
  show Value.int ((its.toArray.toList.countP (eqU (.str z)) : Nat) : Int) s.toks = Value.int ((ys.count z : Nat) : Int) s.toks
  have e : its.toArray.toList.countP (eqU (.str z)) = ys.count z := by
    rw [← countP_str]
    simpa using countP_eqU r (flats ys)
  rw [e]
end L2

set_option linter.all false
set_option maxRecDepth 100000
set_option maxHeartbeats 4000000
/-! tuples of which it is known that they have no dict of their own: held as locked objects -/
namespace L2
open PySem PySem.Spec PyProof.Rows
def TupF (H : Hp) (a : Addr) (xs : List V) : Prop := ∃ o : Obj, o.dict = none ∧ H a = some (.frz o (.tup xs))
theorem TupF.seq {K : PySem.W.Frag} {H : Hp} {a : Addr} {xs : List V} (h : TupF H a xs) : SqT K H a xs := let ⟨o, _, e⟩ := h; .inl (.inr ⟨o, e⟩)
section
variable {X : Cx} {es : List Expr} {e o : Expr} {t : TA} {to : TE} {pos apos cpos : Pos} {T id : String} {name : Str} {r : V → List V → Hp → VK → Prop}
/-- (a, ..), a new tuple, locked -/
def tTupF (t : TA) : TE := fun σ H Q => t σ H fun xs H1 => xs.length ≤ sizeLine ∧ ∀ (p : Addr) (ob : Obj), H1 p = none → ob.dict = none → Q (.ref p) (upd H1 p (.frz ob (.tup xs)))
theorem pe_tupF {x1} (h : PA X es t) : PE X (.Tuple es x1 pos) (tTupF t) := by
  constructor
  intro pins s σ H Q I hq
  refine wpAny_Tuple_spliced (thn (h.run pos pins s σ H _ I hq) fun us s1 ⟨xs, H1, I1, r, z, q⟩ => ⟨by rw [← r.length]; exact z, ?_⟩)
  refine ⟨.ref s1.heap.objs.size, _, I1.laid (t' := s1.toks) (o := .frz { cls := .type "tuple", data := .seq us.toArray } (.tup xs)) (fun b u e => Heap.get?_push_of_some _ e) (Nat.le_refl _) ?_, rfl, q _ _ (I1.hok.fresh (Nat.le_refl _)) rfl⟩
  exact ⟨Heap.get?_push_size _ rfl, z, us, r, ⟨_, Heap.get?_push_size _ rfl, rfl, _, rfl⟩⟩
/-- tuple(xs), xs a list: a new tuple, locked -/
def rTupF (K : PySem.W.Frag) : List V → Hp → VK → Prop := fun vs H Q => ∃ (p : Addr) (ys : List V), vs = [.ref p] ∧ SqL K H p ys ∧ ∀ (l : Addr) (ob : Obj), H l = none → ob.dict = none → Q (.ref l) (upd H l (.frz ob (.tup ys)))
theorem call_tupleF : CallR X (.type "tuple") (rTupF X.K) := by
  intro pins s σ H vs us Q I r h
  obtain ⟨p, ys, rfl, hq, q⟩ := h
  obtain ⟨u, rfl, rx⟩ := r.one
  cases rx
  obtain ⟨its, r', pl, hz⟩ := I.list hq
  have hn : its.length = ys.length := r'.length.symm
  refine call_tuple_list pl.isList (fun h' kp => ?_) (by rw [List.size_toArray, hn]; exact hz)
  have J := I.kept (t' := s.toks) kp
  have J2 : Inv X pins σ (upd H h'.objs.size (.frz { cls := .type "tuple", data := .seq its.toArray } (.tup ys))) { s with heap := h'.push { cls := .type "tuple", data := .seq its.toArray } } :=
    J.laid (t' := s.toks) (fun b u e => Heap.get?_push_of_some _ e) (Nat.le_refl _) ⟨Heap.get?_push_size _ rfl, hz, its, r', IsTup.new _ _⟩
  exact ⟨.ref h'.objs.size, _, J2, rfl, q _ _ (J.hok.fresh (Nat.le_refl _)) rfl⟩
/-- t.m(x, ..), t a locked tuple -/
def tBMF (r : V → List V → Hp → VK → Prop) (to : TE) (t : TA) : TE := fun σ H Q => to σ H fun x H1 => (∃ p xs, x = .ref p ∧ TupF H1 p xs) ∧ t σ H1 fun vs H2 => r x vs H2 Q
theorem pe_bmF (pa : PlainAttrs "tuple") (slot : Slot "tuple" name id) (hty : typeOf (.builtin id) = pure (.type "method_descriptor")) (hm : MtR X id r) (ho : PE X o to) (ha : PA X (e :: es) t)
    (b1 : attributeBase o name X.env (eval o X.env) = eval o X.env := by rfl)
    (b2 : ((backTo cpos (starEach (e :: es) X.env)).all (fun x => !x.1) && (backToKw cpos (keywordEach [] X.env)).all (fun x => x.1.isSome)
      && decide ((e :: es).length + ([] : List Keyword).length + (if ([] : List Keyword).isEmpty then 0 else 1) < 30)) = true := by rfl)
    (b3 : (apos.endLine == cpos.line) = true := by rfl) (b4 : starEach (e :: es) X.env = (false, eval e X.env) :: starEach es X.env := by rfl) (b5 : (backTo cpos (starEach es X.env)).any (·.1) = false := by rfl) :
    PE X (.Call (.Attribute o name apos) (e :: es) [] cpos) (tBMF r to t) := by
  constructor
  intro pins s σ H Q I h
  refine wpAny_Call_method_late b1 b2 b3 rfl (thn (ho.run pins s σ H _ I h) fun v s1 ⟨x, H1, I1, r1, ⟨p, xs, ex, ob, hd, hp⟩, q1⟩ => ?_)
  subst ex
  cases r1
  obtain ⟨g1, _, its, rv, ot, g2, hc, _⟩ := I1.hok p _ hp
  have eo : ob = ot := Option.some.inj (g1.symm.trans g2)
  refine ⟨"tuple", id, pa, slot, hty, ⟨ob, g1, eo ▸ hc⟩, fun b eb => ?_, ?_⟩
  · cases eb
    exact ⟨ob, g1, hd⟩
  have hA := ha.run cpos pins s1 σ H1 _ I1 q1
  rw [b4] at hA ⊢
  refine Calls.callWith_builtin (by show (false || (backTo cpos (starEach es X.env)).any (·.1)) = false; rw [b5] <;> rfl) (Calls.evalArgs_plain ?_)
  exact thn hA fun us s2 ⟨vs, H2, I2, r2, q2⟩ => hm pins s2 σ H2 (.ref p) vs _ us Q I2 rfl r2 q2
end
end L2
namespace L2
open PySem PySem.Spec PyProof.Rows
section
variable {X : Cx}
/-- t + u, both locked: a locked one -/
def rCatF : R2 := fun x y H Q => ∃ a b xs ys, x = .ref a ∧ y = .ref b ∧ TupF H a xs ∧ TupF H b ys ∧ xs.length + ys.length ≤ sizeLine ∧ ∀ (p : Addr) (H' : Hp), Same H H' → TupF H' p (xs ++ ys) → Q (.ref p) H'
theorem op_catF : OpR X (binaryOp .Add) rCatF := by
  intro pins s σ H x y v u Q I rx ry h
  obtain ⟨a, b, xs, ys, rfl, rfl, ha, hb, hz, q⟩ := h
  cases rx
  cases ry
  obtain ⟨its, r1, p1, _⟩ := I.tuple ha.seq
  obtain ⟨its2, r2, p2, _⟩ := I.tuple hb.seq
  by_cases hx : xs = []
  · subst hx
    cases r1
    exact cat_tup0 p1 p2 ⟨.ref b, H, I, rfl, q b H (Same.refl H) hb⟩
  · refine HT.cat_tup p1 p2 (fun z => hx (r1.nil_iff.mp z)) (fun z => ⟨.ref a, H, I, rfl, q a H (Same.refl H) ?_⟩) (fun z => ?_) (by rw [← r1.length, ← r2.length]; exact hz)
    · rw [r2.nil_iff.mp z, List.append_nil]
      exact ha
    · have hn := I.hok.fresh (H := H) (Nat.le_refl s.heap.objs.size)
      refine ⟨.ref s.heap.objs.size, _, I.laid (t' := s.toks) (o := .frz { cls := .type "tuple", data := .seq (its ++ its2).toArray } (.tup (xs ++ ys))) (fun b ob q => Heap.get?_push_of_some _ q) (Nat.le_refl _) ?_, rfl, q _ _ ((Same.refl H).upd hn) ⟨_, rfl, upd_same⟩⟩
      exact ⟨Heap.get?_push_size _ rfl, by rw [List.length_append]; exact hz, _, r1.append r2, IsTup.new _ _⟩
/-- t[lo:hi], t locked: a locked one -/
def rSlF : V → Option Int → Option Int → Hp → VK → Prop := fun x lo hi H Q => ∃ a xs, x = .ref a ∧ TupF H a xs ∧ ∀ (p : Addr) (H' : Hp), Same H H' → TupF H' p (cutV xs lo hi) → Q (.ref p) H'
theorem sl_tupF : SlR X rSlF := by
  intro pins s σ H x v vl vu lo hi sl Q I rx hs pl pu h
  obtain ⟨a, xs, rfl, hx, q⟩ := h
  cases rx
  obtain ⟨its, r, ht, hz⟩ := I.tuple hx.seq
  have hlen : its.toArray.size = xs.length := by rw [List.size_toArray]; exact r.length.symm
  by_cases hw : HT.sIx xs.length 0 lo = 0 ∧ HT.sIx xs.length xs.length hi = xs.length
  · refine ⟨"tuple", _, PyProof.Rows.slot_tuple_getitem.lookup, ht.typeIs, ?_⟩
    refine getItem_tuple_whole ht hs pl pu (by rw [hlen]; exact hw) ⟨.ref a, H, I, rfl, q a H (Same.refl H) ?_⟩
    have e : cutV xs lo hi = xs := by
      unfold cutV
      rw [hw.1, hw.2, List.drop_zero, Nat.sub_zero, List.take_length]
    rw [e]
    exact hx
  · refine ⟨"tuple", _, PyProof.Rows.slot_tuple_getitem.lookup, ht.typeIs, ?_⟩
    refine HT.getItem_tuple_cut ht hs pl pu (by rw [hlen]; exact hw) ?_ (by rw [hlen]; exact hz)
    rw [hlen]
    have hn := I.hok.fresh (H := H) (Nat.le_refl s.heap.objs.size)
    refine ⟨.ref s.heap.objs.size, _, I.laid (t' := s.toks) (o := .frz { cls := .type "tuple", data := .seq ((its.drop (HT.sIx xs.length 0 lo)).take (HT.sIx xs.length xs.length hi - HT.sIx xs.length 0 lo)).toArray } (.tup (cutV xs lo hi))) (fun b ob q => Heap.get?_push_of_some _ q) (Nat.le_refl _) ?_, rfl, q _ _ ((Same.refl H).upd hn) ⟨_, rfl, upd_same⟩⟩
    exact ⟨Heap.get?_push_size _ rfl, Nat.le_trans (cutV_length xs lo hi) hz, _, (r.drop (HT.sIx xs.length 0 lo)).take (HT.sIx xs.length xs.length hi - HT.sIx xs.length 0 lo), IsTup.new _ _⟩
end
end L2

set_option linter.all false
set_option maxRecDepth 100000
set_option maxHeartbeats 4000000
/-! == and != by an own __eq__, whatever it tells -/
namespace OC
open PySem PySem.Spec PyProof.Rows PySem.SeqAt
variable {prog : Program} {w : World} {A : Around} {E : Value → Shared → Prop} {s : Shared} {K : PySem.W.Frag} {x C f : Addr} {ox : Obj} {od : Option Obj} {b tb : Value}
theorem bound_ne {M : Model} {Ar : Around} {args : List Value} {Q : Option Value → Shared → Prop} (X : K.In s.heap) (I : PySem.W.InstAt s.heap x ox C od) (hs : PySem.W.findIn K (.ref C) "__ne__" = some (some (.builtin "object.__ne__")))
    (h : wpAny M Ar (call (.builtin "object.__ne__") (.ref x :: args)) (fun v => Q (some v)) E s) : wpAny M Ar (callSpecialIfBound? (.ref x) "__ne__" args) Q E s := by
  simp only [callSpecialIfBound?, bindSpecialIfBound?]
  refine wpAny_holding (wpAny_bind (wpAny_bind (wpAny_bind (I.type.here ((PySem.W.looks_findIn X hs).here ?_)))))
  refine wpAny_bind (wpAny_askSetting (wpAny_ite ?_))
  have fin : wpAny M Ar (call (.builtin "object.__ne__") ([.ref x] ++ args) >>= fun v => pure (some v)) Q E s := wpAny_bind (wpAny_mono h (fun v s' q => wpAny_pure q) fun _ _ q => q)
  split
  · exact wpAny_bind (wpAny_of_eq (F.cmp_object.ne.bind _) (wpAny_pure (by exact fin)))
  · exact wpAny_tryCatch (wpAny_bind (wpAny_of_eq (F.cmp_object.ne.bind _) (wpAny_pure (by exact fin))))
theorem entry_ne {Q : PySem.Fin → Shared → Prop} (hu : A.units < cLine) (X : K.In s.heap) (I : PySem.W.InstAt s.heap x ox C od) (he : PySem.W.findIn K (.ref C) "__eq__" = some (some (.ref f))) (hf : PySem.W.isFn K (.ref f) = true)
    (h : wpAny (model prog w) A (call (.ref f) [.ref x, b]) (fun v s' => ∃ c, v = .bool c ∧ Q (.done (.ret (.bool (!c)))) s') E s) :
    wpAny (model prog w) A (Builtin.«object.__ne__» ⟨[.ref x, b], []⟩) Q E s := by
  unfold Builtin.«object.__ne__»
  repeat (first
    | with_reducible refine wpAny_cRoomFor hu ?_
    | (refine wpAny_bind (m := callSpecialIfBound? (.ref x) (Str.ofString "__eq__") [b])
        (PySem.W.ifBound_K X I he hf (wpAny_mono h (fun r s' hr => by
          obtain ⟨c, rfl, hq⟩ := hr
          repeat (first | exact hq | exact wpAny_pure hq | exact wpAny_truthy_bool hq | (refine wpAny_bind (m := truthy (.bool _)) (wpAny_truthy_bool ?_)) | wp_step)) fun _ _ e => e)))
    | wp_step)
theorem call_ne {Q : Value → Shared → Prop} (hu : A.in1.units < cLine) (X : K.In s.heap) (I : PySem.W.InstAt s.heap x ox C od) (hm : PySem.W.mroIn K C (.type "object") = some true) (he : PySem.W.findIn K (.ref C) "__eq__" = some (some (.ref f))) (hf : PySem.W.isFn K (.ref f) = true)
    (h : wpAny (model prog w) A.in1 (call (.ref f) [.ref x, b]) (fun v s' => ∃ c, v = .bool c ∧ Q (.bool (!c)) s') E s) : wpAny (model prog w) A (call (.builtin "object.__ne__") [.ref x, b]) Q E s :=
  wpAny_call (codeAny_call_builtin F.cmp_object.ne.plain F.cmpEntry_ne (PySem.W.check_slot F.cmpKind_ne F.cmpSplit_ne (I.type.andThen (PySem.W.looks_mroIn X hm)) (F.cmpArgs_ne _ _) (entry_ne hu X I he hf h)))
theorem rich_ne {Q : Value → Shared → Prop} (hu : A.units + 1 < cLine) (X : K.In s.heap) (I : PySem.W.InstAt s.heap x ox C od) (hb : PySem.W.Looks (model prog w) s.heap (typeOf b) tb) (hn : PySem.W.notFirst K C tb = true) (hm : PySem.W.mroIn K C (.type "object") = some true)
    (hne : PySem.W.findIn K (.ref C) "__ne__" = some (some (.builtin "object.__ne__"))) (he : PySem.W.findIn K (.ref C) "__eq__" = some (some (.ref f))) (hf : PySem.W.isFn K (.ref f) = true)
    (h : wpAny (model prog w) A.in1 (call (.ref f) [.ref x, b]) (fun v s' => ∃ c, v = .bool c ∧ Q (.bool (!c)) s') E s) : wpAny (model prog w) A (richCompare .NotEq (.ref x) b) Q E s := by
  have one : wpAny (model prog w) A (tryCompare (.ref x) (cmpInfo .NotEq).2.1 b) (fun r s' => ∃ v, r = some v ∧ Q v s') E s := by
    unfold tryCompare
    refine wpAny_bind (bound_ne X I hne (call_ne (by show A.units + 1 < cLine; exact hu) X I hm he hf (wpAny_mono h (fun v s' hv => ?_) fun _ _ e => e)))
    obtain ⟨c, rfl, q⟩ := hv
    exact ⟨c, rfl, wpAny_pure ⟨_, rfl, q⟩⟩
  unfold richCompare
  simp only [oneThing_ref]
  refine wpAny_holding (wpAny_bind (wpAny_cRoomFor (Nat.lt_of_succ_lt hu) ?_))
  refine wpAny_bind (I.type.here (wpAny_bind (hb.here ?_)))
  split
  · rename_i q
    have e : PySem.W.subIn K tb (.ref C) = some false := by
      rcases Bool.or_eq_true_iff.mp hn with e | e
      · rw [beq_iff_eq.mp e] at q; simp at q
      · exact beq_iff_eq.mp e
    refine wpAny_bind ((PySem.W.looks_subIn X e).here ?_)
    simp only [Bool.false_eq_true, if_false]
    refine wpAny_bind (wpAny_mono one (fun r s' z => ?_) fun _ _ e => e)
    obtain ⟨v, rfl, hq⟩ := z
    exact wpAny_pure hq
  · refine wpAny_bind (m := pure false) (wpAny_pure ?_)
    simp only [Bool.false_eq_true, if_false]
    refine wpAny_bind (wpAny_mono one (fun r s' z => ?_) fun _ _ e => e)
    obtain ⟨v, rfl, hq⟩ := z
    exact wpAny_pure hq
end OC
namespace L2
open PySem PySem.Spec PyProof.Rows
def rEqOwn (C : Addr) (sp : Sp) (E : XK) : R2 := fun x y H Q => ∃ a b dx dy fs gs, x = .ref a ∧ y = .ref b ∧ H a = some (.ins C dx fs) ∧ H b = some (.ins C dy gs) ∧ sp [.ref a, .ref b] H (fun v H' => ∃ c, v = .bl c ∧ Q (.bl c) H') E
def rNeOwn (C : Addr) (sp : Sp) (E : XK) : R2 := fun x y H Q => ∃ a b dx dy fs gs, x = .ref a ∧ y = .ref b ∧ H a = some (.ins C dx fs) ∧ H b = some (.ins C dy gs) ∧ sp [.ref a, .ref b] H (fun v H' => ∃ c, v = .bl c ∧ Q (.bl (!c)) H') E
section
variable {X : Cx} {CX : CXT} {k : Nat} {f C : Addr} {fd : FuncData} {ps : List Str} {sp : Sp} {E : XK}
/-- what the class must have -/
structure CmpC (K : PySem.W.Frag) (C f : Addr) : Prop where
  eq : PySem.W.findIn K (.ref C) "__eq__" = some (some (.ref f))
  ne : PySem.W.findIn K (.ref C) "__ne__" = some (some (.builtin "object.__ne__"))
  fn : PySem.W.isFn K (.ref f) = true
  ob : PySem.W.mroIn K C (.type "object") = some true
theorem op_eqOwn (T : CmpC X.K C f) (F : FnOk X.prog X.w X.K X.mg X.base CX k f fd ps sp) (hr : Room k X.A) (hb : Binds X.K fd ps []) (hx : Passes CX X E) : OpR X (compareOp .Eq) (rEqOwn C sp E) := by
  intro pins s σ H x y v u Q I rx ry h
  obtain ⟨a, b, dx, dy, fs, gs, rfl, rfl, ha, hbb, q⟩ := h
  cases rx
  cases ry
  obtain ⟨mA, J, _⟩ := ins_get I.hok ha
  obtain ⟨mB, J', _⟩ := ins_get I.hok hbb
  obtain ⟨od, J, _⟩ := J.look
  obtain ⟨od', J', _⟩ := J'.look
  obtain ⟨m, hF⟩ := I.fr
  refine PySem.W.cmp_K (op := .Eq) (tb := .ref C) hr.units0 hF I.ok.mod.kin J J'.type (by simp [PySem.W.notFirst]) T.eq T.fn ?_
  have hl := F.len _ _ _ _ q
  have r2 : Vals [V.ref a, V.ref b] [Value.ref a, Value.ref b] := .cons rfl (.cons rfl .nil)
  refine wpAny_call (codeAny_mono (F.run X.A X.stack s H ⟨[.ref a, .ref b], []⟩ [.ref a, .ref b] [.ref a, .ref b] _ E hr I.env0 (by
    have := hb s [.ref a, .ref b] I.kIn (by simpa using hl)
    simpa using this) r2 q) fun r s' hq => ?_)
  cases r with
  | error e => exact hx pins σ H s e s' I hq
  | ok fl =>
    cases fl with
    | ret w =>
      obtain ⟨z, H', I', rz, c, ez, qz⟩ := I.after hq
      subst ez
      cases rz
      exact ⟨.bl c, H', I', rfl, qz⟩
    | next => exact False.elim hq
    | brk => exact False.elim hq
    | cont => exact False.elim hq
theorem op_neOwn (T : CmpC X.K C f) (F : FnOk X.prog X.w X.K X.mg X.base CX k f fd ps sp) (hr : Room (k + 1) X.A) (hb : Binds X.K fd ps []) (hx : Passes CX X E) : OpR X (compareOp .NotEq) (rNeOwn C sp E) := by
  intro pins s σ H x y v u Q I rx ry h
  obtain ⟨a, b, dx, dy, fs, gs, rfl, rfl, ha, hbb, q⟩ := h
  cases rx
  cases ry
  obtain ⟨mA, J, _⟩ := ins_get I.hok ha
  obtain ⟨mB, J', _⟩ := ins_get I.hok hbb
  obtain ⟨od, J, _⟩ := J.look
  obtain ⟨od', J', _⟩ := J'.look
  refine OC.rich_ne (tb := .ref C) (by have := hr.units0; have := hr.units; omega) I.kIn J J'.type (by simp [PySem.W.notFirst]) T.ob T.ne T.eq T.fn ?_
  have hl := F.len _ _ _ _ q
  have r2 : Vals [V.ref a, V.ref b] [Value.ref a, Value.ref b] := .cons rfl (.cons rfl .nil)
  refine wpAny_call (codeAny_mono (F.run X.A.in1 X.stack s H ⟨[.ref a, .ref b], []⟩ [.ref a, .ref b] [.ref a, .ref b] _ E hr.in1 I.env0.in1 (by
    have := hb s [.ref a, .ref b] I.kIn (by simpa using hl)
    simpa using this) r2 q) fun r s' hq => ?_)
  cases r with
  | error e => exact hx pins σ H s e s' I hq
  | ok fl =>
    cases fl with
    | ret w =>
      obtain ⟨z, H', I', rz, c, ez, qz⟩ := I.after hq
      subst ez
      cases rz
      exact ⟨c, rfl, .bl (!c), H', I', rfl, qz⟩
    | next => exact False.elim hq
    | brk => exact False.elim hq
    | cont => exact False.elim hq
end
end L2

set_option linter.all false
set_option maxRecDepth 100000
set_option maxHeartbeats 4000000
/-! enumerate(tuple) -/
namespace L2
open PySem PySem.Spec PyProof.Rows
open Sem (wp)
theorem et_meets {v : Value} {o : Obj} {H : Heap → Prop} (B : Begins v o H) :
    Meets (Builtin.«enumerate.__new__» ⟨[.type "enumerate", v], []⟩) (fun _ R s => H s.heap ∧
      R (.ok (.ret (.ref (s.heap.push o).objs.size))) { s with heap := (s.heap.push o).push { cls := .type "enumerate", data := .fields #[.none, .bool false, .ref s.heap.objs.size, rawInt 0, .none, .none] } }) := by
  refine .of_wp fun prog w A R s h => ?_
  obtain ⟨hp, gl, dd, tk, os⟩ := s
  obtain ⟨h1, h⟩ := h
  have hsub := sub_enumerate
  have q1 : ∀ {A' : Around} {E : Value → Shared → Prop} {Q : Value → Shared → Prop}, Q (.ref hp.objs.size) ⟨hp.push o, gl, dd, tk, os⟩ → wpAny (model prog w) A' (pyIter v) Q E ⟨hp, gl, dd, tk, os⟩ := fun q => B.iter prog w _ _ ⟨hp, gl, dd, tk, os⟩ _ h1 q
  wp_walk using q1
  refine wpAny_stack_any fun st => wpAny_pure ?_
  split
  · rename_i c _ _ _ _ _
    cases (c == Value.type "enumerate") <;> (wp_walk using q1; exact ⟨_, rfl, h⟩)
  · wp_walk using q1
    exact ⟨_, rfl, h⟩
theorem et_call {prog : Program} {w : World} {A : Around} {E : Value → Shared → Prop} {s : Shared} {t : Addr} {its : Array Value} {Q : Value → Shared → Prop} (ht : s.heap.IsTuple t its)
    (h : ∀ h', IsEnum h' (s.heap.objs.size + 1) s.heap.objs.size 0 .none → h'.IsTupleIter s.heap.objs.size t 0 → h'.objs.size = s.heap.objs.size + 2 →
      (∀ b o, s.heap.get? b = some o → h'.get? b = some o) → Q (.ref (s.heap.objs.size + 1)) { s with heap := h' }) :
    wpAny (model prog w) A (call (.type "enumerate") [.ref t]) Q E s := by
  refine callType_new F.called_enumerate (by decide) (F.typeCall_enumerate_1 _) (F.newCall_enumerate_1 _) (fun obj => F.args_object_init_2 obj _) F.entry_enumerate_new (et_meets (begins_tuple t its)) ⟨ht, ?_⟩
  have hz : (s.heap.push { cls := .type "tuple_iterator", data := .fields #[.ref t, .int 0 0] }).objs.size = s.heap.objs.size + 1 := Heap.size_push ..
  show _ ∧ _
  rw [hz]
  have he := Heap.get?_push_size (s.heap.push { cls := .type "tuple_iterator", data := .fields #[.ref t, .int 0 0] }) (o := { cls := .type "enumerate", data := .fields #[.none, .bool false, .ref s.heap.objs.size, rawInt 0, .none, .none] }) rfl
  rw [hz] at he
  exact ⟨⟨_, he, rfl⟩, h _ he ⟨_, Heap.get?_push_of_some _ (Heap.get?_push_size _ rfl), rfl, rfl⟩ (by rw [Heap.size_push, hz]) fun b o x => Heap.get?_push_of_some _ (Heap.get?_push_of_some _ x)⟩
/-- the tuple at a, each part in a new pair -/
def IteT (K : PySem.W.Frag) (a : Addr) : It where
  go i H := ∃ (xs : List V) (x : V), SqT K H a xs ∧ xs[i]? = some x
  yld i H v H' := ∃ T x, v = .ref T ∧ H T = none ∧ H' = upd H T (.tup [.int (i : Nat), x]) ∧ ∀ xs, SqT K H a xs → xs[i]? = some x
  stop i H := ∃ xs : List V, SqT K H a xs ∧ xs.length ≤ i
theorem turn_enumT {P : Program} {w : World} {K : PySem.W.Frag} {elts : List Expr} {kk : Nat} {tpos : Pos} (a e it : Addr) :
    Turn P w K (.Tuple elts kk tpos) (IteT K a) [e, it] e (fun i h => (∃ old, IsEnum h e it ((i : Nat) : Int) old) ∧ h.IsTupleIter it a i ∧ e ≠ it ∧ a ≠ it ∧ a ≠ e) where
  mem := List.mem_cons_self
  obj := fun i h st b hb => by
    obtain ⟨⟨old, he⟩, ⟨o, ho, hc, hd⟩, _⟩ := st
    have e' : b = e ∨ b = it := by simpa using hb
    rcases e' with rfl | rfl
    · exact ⟨_, he, fun v q => nomatch q⟩
    · exact ⟨o, ho, fun v q => by rw [hd] at q; cases q⟩
  keep := fun i h h' st k => let ⟨⟨old, he⟩, hi, hne⟩ := st; ⟨⟨old, k e (by simp) _ he⟩, hi.at fun o q => k it (by simp) o q, hne⟩
  item := by
    intro X hP hw hK hc i pins s σ H E I hf st hg
    subst hP hw hK
    obtain ⟨⟨old, he⟩, hit, hne, n1, n2⟩ := st
    obtain ⟨xs, x, hq, hx⟩ := hg
    obtain ⟨its, rv, p, hz⟩ := I.tuple hq
    obtain ⟨u, hu, ru⟩ := rv.get hx
    have hel : e < s.heap.objs.size := Heap.lt_size he
    have hil : it < s.heap.objs.size := by obtain ⟨_, q, _⟩ := hit; exact Heap.lt_size q
    have hlt : i < its.toArray.size := by
      have := (List.getElem?_eq_some_iff.mp hu).1
      simpa using this
    refine wpAny_pyNext_enum_itemD (Draws.tuple (A := X.A.in1) (show X.A.in1.handled = none from I.ok.hd hc) it a n1 its.toArray) he ⟨hit, p⟩ hlt hne (by simp [hne, n2.symm]) fun y h' tk hy ho st' hT hsz hk => ?_
    obtain rfl : y = u := by
      have h2 : its.toArray[i]? = some u := by simpa using hu
      have h3 : its.toArray[i]? = some y := hy
      rw [h2] at h3
      exact (Option.some.inj h3).symm
    refine ⟨_, rfl, wpAny_letOwnedTupleGo_enum (s := { s with heap := h', toks := tk + 1 }) ho fun h'' he' sb => ?_⟩
    have hT2 : h''.get? s.heap.objs.size = some { cls := .type "tuple", data := .seq #[.int i tk, y] } := (sb.2 _ (Nat.ne_of_gt hel)).trans hT
    have new : ObjOk X.prog X.w (upd H s.heap.objs.size (.tup [.int (i : Nat), x])) h'' s.heap.objs.size (.tup [.int (i : Nat), x]) :=
      ⟨by show 2 ≤ sizeLine; decide, [.int i tk, y], .cons ⟨_, rfl⟩ (.cons ru .nil), ⟨_, hT2, rfl, _, rfl⟩⟩
    have I1 : Inv X pins σ (upd H s.heap.objs.size (.tup [.int (i : Nat), x])) { s with heap := h'', toks := tk + 1 } :=
      I.turnedNew (ch := [e, it]) (fun b ob hb q => (sb.2 b (fun z => hb (by simp [z]))).trans (hk b ob (fun z => hb (by simp [z])) (fun z => hb (by simp [z])) q)) hf (Nat.le_refl _) new
    refine ⟨.ref s.heap.objs.size, _, I1, rfl, ⟨_, x, rfl, I.hok.fresh (Nat.le_refl _), rfl, fun ys hq2 => ?_⟩, ⟨⟨y, ?_⟩, st'.1.at fun o q => (sb.2 it (Ne.symm hne)).trans q, hne, n1, n2⟩, fun b hb => ?_⟩
    · rw [I.tuple_inj hq2 hq]; exact hx
    · have e1 : ((i + 1 : Nat) : Int) = (i : Int) + 1 := by omega
      rw [e1]; exact he'
    · have hb' : b < s.heap.objs.size := by
        have e' : b = e ∨ b = it := by simpa using hb
        rcases e' with z | z
        · rw [z]; exact hel
        · rw [z]; exact hil
      rw [upd_ne (Nat.ne_of_lt hb')]
      exact (hf b hb).1
  done := by
    intro X hP hw hK hc i pins s σ H E I hf st hg
    subst hP hw hK
    obtain ⟨⟨old, he⟩, hit, hne, n1, n2⟩ := st
    obtain ⟨xs, hq, hx⟩ := hg
    obtain ⟨its, rv, p, hz⟩ := I.tuple hq
    obtain ⟨f0, f1, f2, f3, f4, f5⟩ := hf it (by simp)
    have hl := rv.length
    have hT : s.TypeIs (.ref e) "enumerate" := ⟨_, he, rfl⟩
    unfold pyNext
    refine wpAny_bind (wpAny_attempt (wpAny_callSpecial?_slot (name := Str.ofString "__next__") hT F.slot_enumerate_next
      (wpAny_call_entry F.slot_enumerate_next hT F.entry_enumerate_next ?_ (F.args_enumerate_next_1 _))))
    show wpAny _ _ (field (.ref e) 2 >>= _) _ _ _
    refine wpAny_bind (wpAny_field he rfl (x := .ref it) rfl ?_)
    refine wpAny_bind (wpAny_nextOf_tuple_end (A := X.A.in1) (show X.A.in1.handled = none from I.ok.hd hc) hit p (by simp; omega) fun h' x he' hx' => ?_)
    obtain ⟨o, ho, hc2⟩ := hx'
    refine wpAny_bind (wpAny_isInstance (T := "StopIteration") (b := true) ⟨o, ho, hc2⟩ isSubtype_stop ?_)
    exact wpAny_pure ⟨rfl, I.turned (t' := s.toks) (fun b ob hb e => he' b ob hb e) f0 f1 f3 f4 f5⟩
  self := fun A i s Q E st h => let ⟨⟨_, he⟩, _⟩ := st; wpAny_pyIter_enum he h
def iEnumT (K : PySem.W.Frag) (ta : TA) : TI := fun σ H R => ta σ H fun vs H1 => ∃ a xs, vs = [.ref a] ∧ SqT K H1 a xs ∧ R (IteT K a) H1
theorem pi_enumT {X : Cx} {e : Expr} {ta : TA} {p pos tpos : Pos} {elts : List Expr} {kk : Nat} (hg : Gl X "enumerate") (hm : X.mg "enumerate" = none) (ha : PA X [e] ta) (hs : starEach [e] X.env = [(false, eval e X.env)] := by rfl) :
    PI X (.Tuple elts kk tpos) (.Call (.Name "enumerate" p) [e] [] pos) (iEnumT X.K ta) := by
  refine ⟨fun pins s σ H R I h => Call_ (ld_blt I hg hm boot_enumerate (PyProof.Rows.callWith_type1 (thn (ha.run pos pins s σ H _ I h) fun us s1 ⟨vs, H1, I1, r1, q1⟩ => ?_) hs rfl))⟩
  obtain ⟨a, xs, rfl, hq, q⟩ := q1
  obtain ⟨u, rfl, r⟩ := r1.one
  cases r
  obtain ⟨its, rv, p', hz⟩ := I1.tuple hq
  have hal : a < s1.heap.objs.size := by obtain ⟨o, ho, _⟩ := p'; exact Heap.lt_size ho
  refine et_call p' fun h' he hit hsz hk => wpAny_pyIter_enum he ?_
  have I2 : Inv X pins σ H1 { s1 with heap := h' } := I1.kept (t' := s1.toks) hk
  refine ⟨s1.heap.objs.size + 1, [s1.heap.objs.size + 1, s1.heap.objs.size], _, _, H1, rfl, I2, turn_enumT a (s1.heap.objs.size + 1) s1.heap.objs.size, ⟨⟨.none, he⟩, hit, Nat.succ_ne_self _, Nat.ne_of_lt hal, Nat.ne_of_lt (Nat.lt_succ_of_lt hal)⟩, fun b hb => ?_, q⟩
  have e' : b = s1.heap.objs.size + 1 ∨ b = s1.heap.objs.size := by simpa using hb
  have hle : s1.heap.objs.size ≤ b := by
    rcases e' with z | z
    · rw [z]; exact Nat.le_add_right _ _
    · rw [z]; exact Nat.le_refl _
  exact I1.fpOk hle (I1.hok.fresh hle)
end L2
namespace L2
open PySem PySem.Spec PyProof.Rows
theorem walk_enumT {K : PySem.W.Frag} {a : Addr} {xs : List V} : Walk (IteT K a) xs.length (fun H => SqT K H a xs) (YPair (fun i => some (.int (i : Nat))) (fun i => xs[i]?)) := by
  refine ⟨fun i _ hi q => ⟨xs, xs[i], q, List.getElem?_eq_getElem hi⟩, fun _ q => ⟨xs, q, Nat.le_refl _⟩, fun i H v H' _ q y => ?_⟩
  obtain ⟨T, x, h1, h2, h3, h4⟩ := y
  exact ⟨T, .int (i : Nat), x, h1, h2, h3, rfl, h4 xs q⟩
end L2

set_option linter.all false
set_option maxRecDepth 100000
set_option maxHeartbeats 4000000
/-! an instance made where its __init__ may refuse and the body around takes the refusal -/
namespace L2
open PySem PySem.Spec PyProof.Rows
def tMakeAt (C : Addr) (sp : Sp) (E : St → XK) (t : TA) : TE := fun σ H Q => t σ H fun vs H1 => ∀ x dx, H1 x = none → H1 dx = none → dx ≠ x →
  sp (.ref x :: vs) (upd (upd H1 dx (.own x)) x (.ins C dx [])) (fun v H2 => v = .non ∧ Q (.ref x) H2) (E σ)
section
variable {X : Cx} {CX : CXT} {k : Nat} {f C : Addr} {fd : FuncData} {ps : List Str} {sp : Sp} {E : St → XK} {x : Str} {p pos : Pos} {e : Expr} {es : List Expr} {t : TA}
theorem pe_makeAt (M : Mk X.K C f) (F : FnOk X.prog X.w X.K X.mg X.base CX k f fd ps sp) (hr : Room (k + 1) X.A) (hg : Gl X x) (hm : X.mg x = some (.ref C)) (hb : Binds X.K fd ps []) (hx : ∀ σ, PassesAt CX X σ (E σ))
    (ha : PA X (e :: es) t) (hdb : (x == ("__debug__" : Str)) = false := by decide) (he : starEach (e :: es) X.env = (false, eval e X.env) :: starEach es X.env := by rfl) (hpl : (backTo pos (starEach es X.env)).any (·.1) = false := by rfl) :
    PE X (.Call (.Name x p) (e :: es) [] pos) (tMakeAt C sp E t) := by
  refine ⟨fun pins s σ H Q I h => wpAny_Call_Name_kw (ld_glob I hg hm ?_ hdb)⟩
  refine PySem.W.callWith_K (h₀ := X.base) I.ok.mod.kin M.kp (thn (ha.run pos pins s σ H _ I h) fun us s1 ⟨vs, H1, I1, r, q⟩ => ⟨I1.kIn, ?_⟩) he hpl
  have hq := q (s1.heap.objs.size + 1) s1.heap.objs.size (I1.hok.fresh (Nat.le_succ _)) (I1.hok.fresh (Nat.le_refl _)) (Nat.ne_of_lt (Nat.lt_succ_self _))
  have I2 := Inv.made (C := C) I1
  have r2 : Vals (V.ref (s1.heap.objs.size + 1) :: vs) (Value.ref (s1.heap.objs.size + 1) :: us) := .cons rfl r
  have hl : (Value.ref (s1.heap.objs.size + 1) :: us).length = ps.length := by
    rw [← r2.length]
    exact F.len _ _ _ _ hq
  have b := hb _ (Value.ref (s1.heap.objs.size + 1) :: us) I2.kIn (by rw [List.append_nil]; exact hl)
  rw [List.append_nil] at b
  refine wpAny_call (make_map (f := f) I1.kIn M.makes M.init (beq_iff_eq.mp M.fn) (codeAny_mono (F.run _ X.stack _ _ ⟨Value.ref (s1.heap.objs.size + 1) :: us, []⟩ _ _ _ (E σ) (hr.make C us []) (I2.env0.make C us []) b r2 hq) fun r s' hq' => ?_))
  cases r with
  | error e => exact hx σ pins _ _ e s' I2 hq'
  | ok fl =>
    cases fl with
    | ret u =>
      obtain ⟨v, H', I3, rv, ev, q3⟩ := I2.after hq'
      subst ev
      exact ⟨rv, ⟨V.ref (s1.heap.objs.size + 1), H', I3, rfl, q3⟩⟩
    | next => exact False.elim hq'
    | brk => exact False.elim hq'
    | cont => exact False.elim hq'
end
end L2

set_option linter.all false
set_option maxRecDepth 100000
namespace My
open PySem
/-! lists in which one thing, or two, are put otherwise -/
def rep {α : Type} (xs : List α) (n : Nat) (x : α) : List α := xs.take n ++ [x] ++ xs.drop (n + 1)
theorem cut_at {α : Type} {xs : List α} {n : Nat} {y : α} (h : xs[n]? = some y) : xs = xs.take n ++ (y :: xs.drop (n + 1)) := by
  obtain ⟨hl, e⟩ := List.getElem?_eq_some_iff.mp h
  rw [← e, List.getElem_cons_drop hl, List.take_append_drop]
theorem rep_self {α : Type} {xs : List α} {n : Nat} {y : α} (h : xs[n]? = some y) : rep xs n y = xs := by
  unfold rep
  rw [List.append_assoc]
  exact (cut_at h).symm
theorem rep_map {α β : Type} (f : α → β) (xs : List α) (n : Nat) (x : α) : (rep xs n x).map f = rep (xs.map f) n (f x) := by
  unfold rep
  simp [List.map_take, List.map_drop]
theorem rep_perm {α : Type} {xs : List α} {n : Nat} {y : α} (h : xs[n]? = some y) (x : α) : (y :: rep xs n x).Perm (x :: xs) := by
  have p1 : (rep xs n x).Perm (x :: (xs.take n ++ xs.drop (n + 1))) := by
    unfold rep
    rw [List.append_assoc]
    exact List.perm_middle
  have p2 : xs.Perm (y :: (xs.take n ++ xs.drop (n + 1))) := by
    have e := cut_at h
    exact (List.Perm.of_eq e).trans List.perm_middle
  exact ((p1.cons y).trans (List.Perm.swap x y _)).trans (p2.symm.cons x)
theorem rep_get {α : Type} {xs : List α} {n : Nat} (h : n ≤ xs.length) (x : α) : (rep xs n x)[n]? = some x := by
  unfold rep
  have : (xs.take n).length = n := by rw [List.length_take]; omega
  rw [List.append_assoc, List.getElem?_append_right (by omega), this]
  simp
theorem rep_len {α : Type} {xs : List α} {n : Nat} (h : n < xs.length) (x : α) : (rep xs n x).length = xs.length := by
  unfold rep
  simp
  omega
theorem rep_ne {α : Type} {xs : List α} {n : Nat} {y x : α} (h : xs[n]? = some y) (ne : x ≠ y) : rep xs n x ≠ xs := fun e => by
  have hl := (List.getElem?_eq_some_iff.mp h).1
  have := rep_get (xs := xs) (n := n) (by omega) x
  rw [e, h] at this
  exact ne (Option.some.inj this).symm
theorem mem_rep {α : Type} {xs : List α} {n : Nat} {x z : α} (h : z ∈ rep xs n x) : z = x ∨ z ∈ xs := by
  unfold rep at h
  rcases List.mem_append.mp h with h | h
  · rcases List.mem_append.mp h with h | h
    · exact .inr (List.mem_of_mem_take h)
    · exact .inl (by simpa using h)
  · exact .inr (List.mem_of_mem_drop h)
theorem rep_nodup {α : Type} {xs : List α} {n : Nat} {y x : α} (h : xs[n]? = some y) (nd : xs.Nodup) (nx : x ∉ xs) : (rep xs n x).Nodup := by
  have p := rep_perm h x
  have n2 : (x :: xs).Nodup := List.nodup_cons.mpr ⟨nx, nd⟩
  exact (List.nodup_cons.mp (p.nodup_iff.mpr n2)).2
theorem rep_in {α : Type} (xs : List α) (n : Nat) (x : α) : x ∈ rep xs n x := by unfold rep; simp
theorem rep_mem {α : Type} {xs : List α} {n : Nat} {y x z : α} (h : xs[n]? = some y) (hz : z ∈ xs) (ne : z ≠ y) : z ∈ rep xs n x := by
  have := (rep_perm h x).mem_iff.mpr (List.mem_cons_of_mem x hz)
  exact (List.mem_cons.mp this).resolve_left ne
def swp2 {α : Type} (xs : List α) (n : Nat) (b a : α) : List α := xs.take n ++ [b, a] ++ xs.drop (n + 2)
theorem cut_two {α : Type} {xs : List α} {n : Nat} {a b : α} (h1 : xs[n]? = some a) (h2 : xs[n + 1]? = some b) : xs = xs.take n ++ (a :: b :: xs.drop (n + 2)) := by
  have e := cut_at h1
  obtain ⟨hl, e2⟩ := List.getElem?_eq_some_iff.mp h2
  have e3 : xs.drop (n + 1) = b :: xs.drop (n + 2) := by rw [← e2, List.getElem_cons_drop hl]
  rw [e3] at e
  exact e
theorem swp2_perm {α : Type} {xs : List α} {n : Nat} {a b : α} (h1 : xs[n]? = some a) (h2 : xs[n + 1]? = some b) : (swp2 xs n b a).Perm xs := by
  have e := cut_two h1 h2
  have p : (swp2 xs n b a).Perm (xs.take n ++ (a :: b :: xs.drop (n + 2))) := by
    unfold swp2
    rw [List.append_assoc]
    exact List.Perm.append_left _ (List.Perm.swap a b _)
  exact p.trans (List.Perm.of_eq e.symm)
theorem swp2_ne {α : Type} {xs : List α} {n : Nat} {a b : α} (h1 : xs[n]? = some a) (h2 : xs[n + 1]? = some b) (ne : a ≠ b) : swp2 xs n b a ≠ xs := fun e => by
  have hl := (List.getElem?_eq_some_iff.mp h1).1
  have hg : (swp2 xs n b a)[n]? = some b := by
    unfold swp2
    have : (xs.take n).length = n := by rw [List.length_take]; omega
    rw [List.append_assoc, List.getElem?_append_right (by omega), this]
    simp
  rw [e, h1] at hg
  exact ne (Option.some.inj hg)
/-! takes and throws -/
theorem takesB_iff {ts : List Str} : takesB ts = true ↔ ts.length ≤ 3 ∧ ∀ t, t ∈ ts → t ∈ (["lent", "given"] : List Str) := by
  unfold takesB
  simp only [Bool.and_eq_true, decide_eq_true_eq, List.all_eq_true]
def flipT (t : Str) : Str := if t = "lent" then "given" else "lent"
theorem flipT_ne {t : Str} (h : t ∈ (["lent", "given"] : List Str)) : flipT t ≠ t := by
  have : t = "lent" ∨ t = "given" := by simpa using h
  rcases this with rfl | rfl
  · decide +kernel
  · decide +kernel
theorem flipT_in (t : Str) : flipT t ∈ (["lent", "given"] : List Str) := by
  unfold flipT
  split <;> simp
theorem takes_rep {ts : List Str} {n : Nat} (h : takesB ts = true) (hn : n < ts.length) {t : Str} (ht : t ∈ (["lent", "given"] : List Str)) : takesB (rep ts n t) = true := by
  obtain ⟨h1, h2⟩ := takesB_iff.mp h
  refine takesB_iff.mpr ⟨by rw [rep_len hn]; exact h1, fun z hz => ?_⟩
  rcases mem_rep hz with rfl | e
  · exact ht
  · exact h2 z e
theorem takes_less {ts : List Str} {n : Nat} (h : takesB ts = true) : takesB (ts.take n ++ ts.drop (n + 1)) = true := by
  obtain ⟨h1, h2⟩ := takesB_iff.mp h
  refine takesB_iff.mpr ⟨?_, fun z hz => ?_⟩
  · rw [List.length_append, List.length_take, List.length_drop]
    omega
  · rcases List.mem_append.mp hz with e | e
    · exact h2 z (List.mem_of_mem_take e)
    · exact h2 z (List.mem_of_mem_drop e)
theorem less_ne {α : Type} {ts : List α} {n : Nat} (hn : n < ts.length) : ts.take n ++ ts.drop (n + 1) ≠ ts := fun e => by
  have := congrArg List.length e
  rw [List.length_append, List.length_take, List.length_drop] at this
  omega
theorem throws_rev {ts : List Str} (h : throwsB ts = true) : throwsB ts.reverse = true := by
  obtain ⟨h1, h2⟩ := throwsB_nodup h
  exact throwsB_of (by rw [List.length_reverse]; exact h1) ((List.reverse_perm ts).nodup_iff.mpr h2)
theorem rev_ne {α : Type} {ts : List α} (nd : ts.Nodup) (hl : 1 < ts.length) : ts.reverse ≠ ts := fun e => by
  have h0 : ts.reverse[0]? = ts[0]? := by rw [e]
  rw [List.getElem?_reverse (by omega)] at h0
  have := (List.getElem?_inj (i := ts.length - 1 - 0) (j := 0) (by omega) nd).mp h0
  omega
theorem throws_less {ts : List Str} (h : throwsB ts = true) (n : Nat) : throwsB (ts.take n) = true := by
  obtain ⟨h1, h2⟩ := throwsB_nodup h
  exact throwsB_of (by rw [List.length_take]; omega) (h2.sublist (List.take_sublist _ _))
/-! pairs and crews that stay good -/
theorem PairsOk.perm {ps qs : List Pr} (h : PairsOk ps) (p : qs.Perm ps) : PairsOk qs :=
  ⟨by rw [p.length_eq]; exact h.many, fun z hz => h.nm z (p.mem_iff.mp hz), (p.map _).nodup_iff.mpr h.nears, (p.map _).nodup_iff.mpr h.fars⟩
theorem PairsOk.put {ps : List Pr} (h : PairsOk ps) {n : Nat} {y x : Pr} (e : ps[n]? = some y) (nm : nameB x.1 = true ∧ nameB x.2.1 = true) (a : x.1 = y.1 ∨ x.1 ∉ ps.map (·.1)) (b : x.2.1 = y.2.1 ∨ x.2.1 ∉ ps.map (·.2.1)) : PairsOk (rep ps n x) := by
  have hl := (List.getElem?_eq_some_iff.mp e).1
  refine ⟨by rw [rep_len hl]; exact h.many, fun z hz => ?_, ?_, ?_⟩
  · rcases mem_rep hz with rfl | q
    · exact nm
    · exact h.nm z q
  · rw [rep_map]
    have e1 : (ps.map (·.1))[n]? = some y.1 := by rw [List.getElem?_map, e]; rfl
    rcases a with a | a
    · rw [a, rep_self e1]; exact h.nears
    · exact rep_nodup e1 h.nears a
  · rw [rep_map]
    have e1 : (ps.map (·.2.1))[n]? = some y.2.1 := by rw [List.getElem?_map, e]; rfl
    rcases b with b | b
    · rw [b, rep_self e1]; exact h.fars
    · exact rep_nodup e1 h.fars b
theorem CrewOk.perm {ps : List Pr} {hs ks : List Hr} (h : CrewOk ps hs) (p : ks.Perm hs) : CrewOk ps ks :=
  ⟨fun x hx => h.one x (p.mem_iff.mp hx), (p.map _).nodup_iff.mpr h.names, fun s => by rw [(p.filter _).length_eq]; exact h.few s⟩
theorem CrewOk.take {ps : List Pr} {hs : List Hr} (h : CrewOk ps hs) (n : Nat) : CrewOk ps (hs.take n) := by
  refine ⟨fun x hx => h.one x (List.mem_of_mem_take hx), ?_, fun s => ?_⟩
  · rw [List.map_take]; exact h.names.sublist (List.take_sublist _ _)
  · exact Nat.le_trans ((List.take_sublist n hs).filter _).length_le (h.few s)
theorem CrewOk.put {ps : List Pr} {hs : List Hr} (h : CrewOk ps hs) {n : Nat} {y x : Hr} (e : hs[n]? = some y) (nm : x.name = y.name) (sd : x.side = y.side) (b : pactB x = true) (th : ∀ t, t ∈ x.throws → t ∈ y.throws) : CrewOk ps (rep hs n x) := by
  have hm := List.mem_of_getElem? e
  refine ⟨fun z hz => ?_, ?_, fun s => ?_⟩
  · rcases mem_rep hz with rfl | q
    · exact ⟨b, fun t ht => by rw [sd]; exact (h.one y hm).2 t (th t ht)⟩
    · exact h.one z q
  · rw [rep_map, nm, rep_self (by rw [List.getElem?_map, e]; rfl)]
    exact h.names
  · have p := ((rep_perm e x).filter fun z => decide (z.side = s)).length_eq
    rw [List.filter_cons, List.filter_cons, sd] at p
    have f := h.few s
    split at p <;> (try simp only [List.length_cons] at p) <;> omega
theorem CrewOk.words {ps qs : List Pr} {hs : List Hr} (h : CrewOk ps hs) (w : ∀ x, x ∈ hs → ∀ t, t ∈ x.throws → t ∈ ps.map (wd x.side) → t ∈ qs.map (wd x.side)) : CrewOk qs hs :=
  ⟨fun x hx => ⟨(h.one x hx).1, fun t ht => w x hx t ht ((h.one x hx).2 t ht)⟩, h.names, h.few⟩
/-! one word of side s called otherwise -/
def ren (old new t : Str) : Str := if t = old then new else t
def renH (s : Int) (old new : Str) (x : Hr) : Hr := if x.side = s then { x with throws := x.throws.map (ren old new) } else x
theorem renH_name (s : Int) (old new : Str) (x : Hr) : (renH s old new x).name = x.name := by unfold renH; split <;> rfl
theorem renH_side (s : Int) (old new : Str) (x : Hr) : (renH s old new x).side = x.side := by unfold renH; split <;> rfl
theorem ren_nodup {old new : Str} : ∀ {ts : List Str}, ts.Nodup → new ∉ ts → (ts.map (ren old new)).Nodup
  | [], _, _ => List.nodup_nil
  | t :: ts, nd, nn => by
    rw [List.nodup_cons] at nd
    rw [List.map_cons, List.nodup_cons]
    refine ⟨fun c => ?_, ren_nodup nd.2 fun q => nn (List.mem_cons_of_mem _ q)⟩
    obtain ⟨u, hu, e⟩ := List.mem_map.mp c
    unfold ren at e
    by_cases h1 : u = old
    · by_cases h2 : t = old
      · exact nd.1 (by rw [h2, ← h1]; exact hu)
      · rw [if_pos h1, if_neg h2] at e
        exact nn (by rw [e]; exact List.mem_cons_self)
    · by_cases h2 : t = old
      · rw [if_neg h1, if_pos h2] at e
        exact nn (by rw [← e]; exact List.mem_cons_of_mem _ hu)
      · rw [if_neg h1, if_neg h2] at e
        exact nd.1 (by rw [← e]; exact hu)
theorem CrewOk.ren {ps qs : List Pr} {hs : List Hr} (h : CrewOk ps hs) {s : Int} {old new : Str} (nn : new ∉ ps.map (wd s)) (w1 : ∀ t, t ∈ ps.map (wd s) → My.ren old new t ∈ qs.map (wd s)) (w2 : ∀ i : Int, (i = 0 ∨ i = 1) → i ≠ s → ∀ t, t ∈ ps.map (wd i) → t ∈ qs.map (wd i)) : CrewOk qs (hs.map (renH s old new)) := by
  refine ⟨fun z hz => ?_, ?_, fun i => ?_⟩
  · obtain ⟨x, hx, rfl⟩ := List.mem_map.mp hz
    obtain ⟨b, t⟩ := h.one x hx
    unfold pactB at b
    simp only [Bool.and_eq_true] at b
    obtain ⟨⟨⟨b1, b2⟩, b3⟩, b4⟩ := b
    by_cases c : x.side = s
    · have e : renH s old new x = { x with throws := x.throws.map (My.ren old new) } := if_pos c
      rw [e]
      obtain ⟨l4, nd⟩ := throwsB_nodup b4
      have b5 : throwsB (x.throws.map (My.ren old new)) = true := throwsB_of (by rw [List.length_map]; exact l4) (ren_nodup nd fun q => nn (by rw [← c]; exact t _ q))
      refine ⟨by unfold pactB; simp only [b1, b2, b3, b5]; rfl, fun u hu => ?_⟩
      obtain ⟨v, hv, rfl⟩ := List.mem_map.mp hu
      show _ ∈ qs.map (wd x.side)
      rw [c]
      exact w1 v (by rw [← c]; exact t v hv)
    · have e : renH s old new x = x := if_neg c
      rw [e]
      refine ⟨by unfold pactB; simp only [b1, b2, b3, b4]; rfl, fun u hu => w2 x.side ?_ c u (t u hu)⟩
      unfold sideB at b2
      exact of_decide_eq_true b2
  · rw [List.map_map]
    have e : (fun x : Hr => x.name) ∘ renH s old new = fun x : Hr => x.name := funext fun x => renH_name s old new x
    rw [e]
    exact h.names
  · rw [List.filter_map, List.length_map]
    have e : (fun z : Hr => decide (z.side = i)) ∘ renH s old new = fun z : Hr => decide (z.side = i) := funext fun x => by show decide ((renH s old new x).side = i) = _; rw [renH_side]
    rw [e]
    exact h.few i
/-! fresh words -/
def fresh7 : List Str := ["qt", "qu", "qv", "qw", "qx", "qy", "qz"]
theorem fresh7_name : ∀ s, s ∈ fresh7 → nameB s = true := by decide +kernel
theorem fresh_some {known : List Str} (h : known.length ≤ 6) : ∃ f r, (fresh7.filter fun t => !decide (t ∈ known)) = f :: r ∧ f ∈ fresh7 ∧ f ∉ known := by
  cases e : fresh7.filter fun t => !decide (t ∈ known) with
  | nil =>
    exfalso
    have nd : fresh7.Nodup := by decide +kernel
    have hl : fresh7.length = 7 := by decide +kernel
    have := len_le nd (m := known) fun x hx => by
      refine Classical.byContradiction fun c => ?_
      have := List.filter_eq_nil_iff.mp e x hx
      exact this (by simpa using c)
    omega
  | cons f r =>
    have hf : f ∈ fresh7.filter fun t => !decide (t ∈ known) := by rw [e]; exact List.mem_cons_self
    obtain ⟨h1, h2⟩ := List.mem_filter.mp hf
    exact ⟨f, r, rfl, h1, by simpa using h2⟩
end My

set_option linter.all false
set_option maxRecDepth 100000
set_option maxHeartbeats 4000000
namespace L2
open PySem PySem.Spec PyProof.Rows
theorem KwN.kbn {K : PySem.W.Frag} {fd : FuncData} {ps ks : List Str} {n : Nat} (h : KwN K fd ps n ks) : KBn K fd ps n ks (fun us ws => us ++ ws) (fun vs zs => vs ++ zs) := ⟨h.to, fun r1 r2 => r1.append r2⟩
open PySem PySem.Spec PyProof.Rows
section
variable {X : Cx} {CX : CXT} {k : Nat} {g C : Addr} {fd : FuncData} {sp : Sp} {E : XK}
/-- str(o), o an instance whose class has its own __str__ -/
def rStrOwn (C : Addr) (sp : Sp) (E : XK) : List V → Hp → VK → Prop := fun xs H Q => ∃ a dx fs, xs = [V.ref a] ∧ H a = some (.ins C dx fs) ∧ sp [.ref a] H (fun v H' => ∃ t : Str, v = .str t ∧ Q (.str t) H') E
theorem call_strOwn (hm : Meth X.K C "__str__" g) (F : FnOk X.prog X.w X.K X.mg X.base CX k g fd ["self"] sp) (hr : Room (k + 2) X.A) (hb : Binds X.K fd ["self"] []) (hx : Passes CX X E) : CallR X (.type "str") (rStrOwn C sp E) := by
  intro pins s σ H xs us Q I r h
  obtain ⟨a, dx, fs, rfl, ha, q⟩ := h
  obtain ⟨u, rfl, ru⟩ := r.one
  cases (show u = Value.ref a from ru)
  obtain ⟨mA, J, _⟩ := ins_get I.hok ha
  obtain ⟨od, J, _⟩ := J.look
  have hr2 : Room k X.A.in1.in1 := hr.in1.in1
  have r2 : Vals [V.ref a] [Value.ref a] := .cons (show RelV (.ref a) (.ref a) from rfl) .nil
  refine PySem.W.kso_call hr2.units0 I.kIn J hm.at_ hm.fn (wpAny_call ?_)
  refine codeAny_mono (F.run X.A.in1.in1 X.stack s H ⟨[.ref a], []⟩ [.ref a] [.ref a] _ E hr2 I.env0.in1.in1 (hb s [.ref a] I.kIn rfl) r2 q) fun r s' hq => ?_
  cases r with
  | error e => exact hx pins σ H s e s' I hq
  | ok fl =>
    cases fl with
    | ret u =>
      obtain ⟨z, H', I', rz, t, rfl, qz⟩ := I.after hq
      obtain ⟨tk, rfl⟩ := rz
      exact ⟨.str t, H', I', ⟨_, rfl⟩, qz⟩
    | next => exact False.elim hq
    | brk => exact False.elim hq
    | cont => exact False.elim hq
end
end L2

set_option linter.all false
set_option maxRecDepth 100000
/-! a text cut at a sign and put together again; lines read -/
namespace My
open PySem
theorem spl1 (c : Nat) (acc : List Nat) (d : Nat) (r : List Nat) : TL.spl [c] 0 acc (d :: r) = if d = c then acc :: TL.spl [c] 0 [] r else TL.spl [c] 0 (acc ++ [d]) r := by
  by_cases h : d = c
  · subst h
    rw [if_pos rfl, TL.spl_hit (show TL.pre [d] (d :: r) = true from TL.pre_self [d] r)]
    rfl
  · rw [if_neg h, TL.spl_miss (TL.pre_of_head [] r h)]
theorem spl_nn (c : Nat) : ∀ (l acc : List Nat), ∃ p ps, TL.spl [c] 0 acc l = p :: ps
  | [], acc => ⟨acc, [], TL.spl_nil _ _ _⟩
  | d :: r, acc => by
    rw [spl1]
    by_cases h : d = c
    · rw [if_pos h]; exact ⟨_, _, rfl⟩
    · rw [if_neg h]; exact spl_nn c r _
theorem join_spl (c : Nat) : ∀ (l acc : List Nat), TL.joinL [c] (TL.spl [c] 0 acc l) = acc ++ l
  | [], acc => by rw [TL.spl_nil]; simp [TL.joinL]
  | d :: r, acc => by
    rw [spl1]
    by_cases h : d = c
    · rw [if_pos h]
      obtain ⟨p, ps, e⟩ := spl_nn c r []
      have ih := join_spl c r []
      rw [e] at ih ⊢
      rw [TL.joinL, ih, h]
      simp
    · rw [if_neg h, join_spl c r]
      simp
theorem spl_mem (c : Nat) : ∀ (l acc p : List Nat), c ∉ acc → p ∈ TL.spl [c] 0 acc l → c ∉ p ∧ ∀ d ∈ p, d ∈ acc ++ l
  | [], acc, p, h, hp => by
    rw [TL.spl_nil] at hp
    simp at hp
    subst hp
    exact ⟨h, fun d hd => by simpa using hd⟩
  | d :: r, acc, p, h, hp => by
    rw [spl1] at hp
    by_cases e : d = c
    · rw [if_pos e] at hp
      rcases List.mem_cons.mp hp with rfl | q
      · exact ⟨h, fun x hx => List.mem_append.mpr (.inl hx)⟩
      · obtain ⟨h1, h2⟩ := spl_mem c r [] p (by simp) q
        exact ⟨h1, fun x hx => List.mem_append.mpr (.inr (List.mem_cons_of_mem _ (by simpa using h2 x hx)))⟩
    · rw [if_neg e] at hp
      obtain ⟨h1, h2⟩ := spl_mem c r (acc ++ [d]) p (by simp [h, Ne.symm e]) hp
      exact ⟨h1, fun x hx => by simpa using h2 x hx⟩
theorem spl_sum (c : Nat) : ∀ (l acc : List Nat), ((TL.spl [c] 0 acc l).map (·.length)).sum + (TL.spl [c] 0 acc l).length = acc.length + l.length + 1
  | [], acc => by rw [TL.spl_nil]; simp
  | d :: r, acc => by
    rw [spl1]
    by_cases e : d = c
    · rw [if_pos e]
      have := spl_sum c r []
      simp only [List.map_cons, List.sum_cons, List.length_cons, List.length_nil] at this ⊢
      omega
    · rw [if_neg e]
      have := spl_sum c r (acc ++ [d])
      simp only [List.length_append, List.length_cons, List.length_nil] at this ⊢
      omega
theorem mem_sum {xs : List Str} {x : Str} (h : x ∈ xs) : x.length ≤ (xs.map (·.length)).sum := by
  induction xs with
  | nil => cases h
  | cons y r ih =>
    rw [List.map_cons, List.sum_cons]
    rcases List.mem_cons.mp h with rfl | q
    · omega
    · have := ih q
      omega
/-- the text cut at the sign c -/
def cut (c : Nat) (x : Str) : List Str := Txt.split x ⟨#[c]⟩
def glue (c : Nat) (xs : List Str) : Str := Txt.join ⟨#[c]⟩ xs
theorem cut_eq {c : Nat} (hc : c < 256) (x : Str) : cut c x = (TL.spl [c] 0 [] x.cps.toList).map SX.S := by
  have e := SX.split_S (a := x.cps.toList) (b := [c]) (by simp) (by simpa using hc)
  rw [← e, SX.S_tl]
  rfl
theorem glue_eq (c : Nat) (ys : List (List Nat)) : glue c (ys.map SX.S) = SX.S (TL.joinL [c] ys) := SX.join_S [c] ys
theorem glue_cut {c : Nat} (hc : c < 256) (x : Str) : glue c (cut c x) = x := by
  rw [cut_eq hc, glue_eq, join_spl, List.nil_append, SX.S_tl]
theorem cut_ne {c : Nat} (hc : c < 256) (x : Str) : cut c x ≠ [] := by
  obtain ⟨p, ps, e⟩ := spl_nn c x.cps.toList []
  rw [cut_eq hc, e]
  simp
theorem cut_glue {c : Nat} (hc : c < 256) {xs : List Str} (ne : xs ≠ []) (h : ∀ p ∈ xs, c ∉ p.cps.toList) : cut c (glue c xs) = xs := by
  have e : xs = (xs.map fun x => x.cps.toList).map SX.S := by
    rw [List.map_map]
    have : (SX.S ∘ fun x : Str => x.cps.toList) = id := funext fun x => SX.S_tl x
    rw [this, List.map_id]
  have e2 : glue c xs = SX.S (TL.joinL [c] (xs.map fun x => x.cps.toList)) := by
    rw [← glue_eq, ← e]
  rw [cut_eq hc, e2]
  have := SX.spl_join (c := c) (sep := []) (parts := xs.map fun x => x.cps.toList) (by simpa using ne) (fun p hp => by
    obtain ⟨x, hx, rfl⟩ := List.mem_map.mp hp
    exact h x hx)
  show (TL.spl [c] 0 [] (TL.joinL [c] (xs.map fun x => x.cps.toList))).map SX.S = xs
  rw [this, ← e]
theorem cut_mem {c : Nat} (hc : c < 256) {x p : Str} (h : p ∈ cut c x) : c ∉ p.cps.toList ∧ ∀ d ∈ p.cps.toList, d ∈ x.cps.toList := by
  rw [cut_eq hc] at h
  obtain ⟨q, hq, rfl⟩ := List.mem_map.mp h
  obtain ⟨h1, h2⟩ := spl_mem c _ [] q (by simp) hq
  exact ⟨h1, fun d hd => by simpa using h2 d hd⟩
theorem cut_sum {c : Nat} (hc : c < 256) (x : Str) : ((cut c x).map (·.length)).sum + (cut c x).length = x.length + 1 := by
  have := spl_sum c x.cps.toList []
  rw [cut_eq hc]
  have e : ((TL.spl [c] 0 [] x.cps.toList).map SX.S).map (·.length) = (TL.spl [c] 0 [] x.cps.toList).map (·.length) := SX.lens _
  rw [e, List.length_map]
  have hl : x.cps.toList.length = x.length := Array.length_toList
  simp only [List.length_nil] at this
  omega
theorem cut_len {c : Nat} (hc : c < 256) {x p : Str} (h : p ∈ cut c x) : p.length ≤ x.length := by
  have h1 := cut_sum hc x
  have h2 := mem_sum h
  have h3 : 0 < (cut c x).length := List.length_pos_iff.mpr (cut_ne hc x)
  omega
theorem cut_many {c : Nat} (hc : c < 256) (x : Str) : (cut c x).length ≤ x.length + 1 := by
  have h1 := cut_sum hc x
  omega
/-! ### lines read -/
def isTake (t : Str) : Bool := decide (t ∈ (["lent", "given"] : List Str))
def pairWords (q : Pr) : List Str := "word" :: q.1 :: q.2.1 :: (if q.2.2 = true then ["laden"] else [])
def sideW (s : Int) : Str := if s = 0 then "0" else "1"
def throwsW (ts : List Str) : List Str := if ts = [] then [] else "throws" :: ts
def helpWords (x : Hr) : List Str := "helper" :: x.name :: sideW x.side :: (x.takes ++ ((if x.gives = true then [("gives" : Str)] else []) ++ throwsW x.throws))
/-- the row of the words of a pair's line -/
def pairOf (ws : List Str) : Option Pr :=
  if ("" : Str) ∈ ws then none else
  match ws with
  | [a, b, c] => if a = "word" then some (b, c, false) else none
  | [a, b, c, d] => if a = "word" ∧ d = "laden" then some (b, c, true) else none
  | _ => none
def behind (r : List Str) : Bool × List Str := match r with
  | a :: q => if a = "gives" then (true, q) else (false, a :: q)
  | [] => (false, [])
def thrown (r : List Str) : Option (List Str) := match r with
  | [] => some []
  | a :: b :: q => if a = "throws" then some (b :: q) else none
  | _ => none
def helpOf (ws : List Str) : Option Hr :=
  if ("" : Str) ∈ ws then none else
  match ws with
  | h :: n :: s :: r => if h = "helper" ∧ (s = "0" ∨ s = "1") then
      (thrown (behind (r.dropWhile isTake)).2).map fun th => ⟨n, if s = "0" then 0 else 1, r.takeWhile isTake, (behind (r.dropWhile isTake)).1, th⟩
    else none
  | _ => none
theorem pairOf_words {q : Pr} (h1 : q.1 ≠ "") (h2 : q.2.1 ≠ "") : pairOf (pairWords q) = some q := by
  obtain ⟨a, b, c⟩ := q
  have n1 : ("" : Str) ≠ "word" := by decide +kernel
  have n2 : ("" : Str) ≠ "laden" := by decide +kernel
  unfold pairOf pairWords
  cases c with
  | false => simp [n1, Ne.symm h1, Ne.symm h2]
  | true => simp [n1, n2, Ne.symm h1, Ne.symm h2]
theorem words_pairOf {ws : List Str} {q : Pr} (h : pairOf ws = some q) : ws = pairWords q ∧ ("" : Str) ∉ ws := by
  unfold pairOf at h
  by_cases hm : ("" : Str) ∈ ws
  · rw [if_pos hm] at h; cases h
  rw [if_neg hm] at h
  refine ⟨?_, hm⟩
  split at h
  · split at h
    · rename_i e
      cases h
      rw [e]
      rfl
    · cases h
  · split at h
    · rename_i e
      cases h
      rw [e.1, e.2]
      rfl
    · cases h
  · cases h
theorem tw_all : ∀ (r : List Str) (t : Str), t ∈ r.takeWhile isTake → isTake t = true
  | [], _, h => by cases h
  | a :: r, t, h => by
    unfold List.takeWhile at h
    split at h
    · rename_i e
      rcases List.mem_cons.mp h with rfl | q
      · exact e
      · exact tw_all r t q
    · cases h
theorem take_run {ts r : List Str} (h : ∀ t ∈ ts, isTake t = true) (hr : ∀ a q, r = a :: q → isTake a = false) : (ts ++ r).takeWhile isTake = ts ∧ (ts ++ r).dropWhile isTake = r := by
  induction ts with
  | nil =>
    cases r with
    | nil => exact ⟨rfl, rfl⟩
    | cons a q =>
      have := hr a q rfl
      simp [List.takeWhile, List.dropWhile, this]
  | cons t ts ih =>
    have ht := h t List.mem_cons_self
    have := ih fun x hx => h x (List.mem_cons_of_mem _ hx)
    simp [List.takeWhile, List.dropWhile, ht, this]
theorem throwsW_head {ts : List Str} : (∀ a q, throwsW ts = a :: q → isTake a = false ∧ a ≠ "gives") ∧ thrown (throwsW ts) = some ts := by
  have e1 : isTake "throws" = false := by decide +kernel
  have e2 : ("throws" : Str) ≠ "gives" := by decide +kernel
  unfold throwsW
  cases ts with
  | nil => exact ⟨fun a q h => by simp at h, rfl⟩
  | cons t r =>
    simp only [reduceCtorEq, if_false]
    refine ⟨fun a q h => ?_, by simp [thrown]⟩
    injection h with h1 _
    subst h1
    exact ⟨e1, e2⟩
theorem helpOf_words {x : Hr} (hn : x.name ≠ "") (hs : x.side = 0 ∨ x.side = 1) (ht : ∀ t ∈ x.takes, isTake t = true) (hth : ∀ t ∈ x.throws, t ≠ "") : helpOf (helpWords x) = some x := by
  obtain ⟨n, s, ts, g, th⟩ := x
  dsimp only at hn hs ht hth
  have n0 : ("" : Str) ≠ "helper" ∧ ("" : Str) ≠ "0" ∧ ("" : Str) ≠ "1" ∧ ("" : Str) ≠ "gives" ∧ ("" : Str) ≠ "throws" ∧ isTake ("" : Str) = false ∧ isTake "gives" = false ∧ ("1" : Str) ≠ "0" := by decide +kernel
  obtain ⟨n1, n2, n3, n4, n5, n6, n7, n8⟩ := n0
  have hno : ("" : Str) ∉ helpWords ⟨n, s, ts, g, th⟩ := by
    have a1 : ("" : Str) ∉ ts := fun h => by rw [ht _ h] at n6; cases n6
    have a2 : ("" : Str) ∉ th := fun h => hth _ h rfl
    unfold helpWords sideW throwsW
    rcases hs with rfl | rfl
    · cases g <;> by_cases e : th = [] <;> simp [n1, n2, n4, n5, Ne.symm hn, a1, a2, e]
    · cases g <;> by_cases e : th = [] <;> simp [n1, n3, n4, n5, Ne.symm hn, a1, a2, e]
  obtain ⟨th1, th2⟩ := throwsW_head (ts := th)
  have hrun := take_run (ts := ts) (r := (if g = true then [("gives" : Str)] else []) ++ throwsW th) ht (fun a q e => by
    cases g with
    | true => simp at e; rw [← e.1]; exact n7
    | false => simp at e; exact (th1 _ _ e).1)
  have hbe : behind ((if g = true then [("gives" : Str)] else []) ++ throwsW th) = (g, throwsW th) := by
    cases g with
    | true => simp [behind]
    | false =>
      cases e : throwsW th with
      | nil => simp [behind]
      | cons a q => simp [behind, (th1 a q e).2]
  unfold helpOf
  rw [if_neg hno]
  unfold helpWords
  dsimp only
  rcases hs with rfl | rfl
  · rw [if_pos ⟨rfl, .inl rfl⟩, hrun.1, hrun.2, hbe]
    simp only [th2]
    rfl
  · rw [if_pos ⟨rfl, .inr rfl⟩, hrun.1, hrun.2, hbe]
    simp only [th2]
    simp [sideW, n8]
theorem words_helpOf {ws : List Str} {x : Hr} (h : helpOf ws = some x) : ws = helpWords x ∧ (x.side = 0 ∨ x.side = 1) ∧ (∀ t ∈ x.takes, isTake t = true) ∧ ("" : Str) ∉ ws := by
  unfold helpOf at h
  by_cases hm : ("" : Str) ∈ ws
  · rw [if_pos hm] at h; cases h
  rw [if_neg hm] at h
  split at h
  · rename_i hw n s r
    split at h
    · rename_i e
      obtain ⟨e1, e2⟩ := e
      obtain ⟨th, ht, hx⟩ := Option.map_eq_some_iff.mp h
      subst hx
      have hr : r = r.takeWhile isTake ++ r.dropWhile isTake := (List.takeWhile_append_dropWhile ..).symm
      have hb : r.dropWhile isTake = (if (behind (r.dropWhile isTake)).1 = true then [("gives" : Str)] else []) ++ (behind (r.dropWhile isTake)).2 := by
        generalize r.dropWhile isTake = d
        cases d with
        | nil => rfl
        | cons a q =>
          unfold behind
          by_cases ea : a = "gives"
          · simp [ea]
          · simp [ea]
      have hth : (behind (r.dropWhile isTake)).2 = throwsW th := by
        generalize (behind (r.dropWhile isTake)).2 = d at ht
        unfold thrown at ht
        split at ht
        · cases ht; rfl
        · split at ht
          · rename_i ea
            cases ht
            simp [throwsW, ea]
          · cases ht
        · cases ht
      have hsd : s = sideW (if s = "0" then 0 else 1) := by
        unfold sideW
        rcases e2 with rfl | rfl
        · simp
        · simp [show ("1" : Str) ≠ "0" by decide +kernel]
      refine ⟨?_, ?_, fun t ht' => ?_, hm⟩
      · unfold helpWords
        dsimp only
        rw [← hth, ← hb, ← hr, ← hsd, e1]
      · dsimp only
        split
        · exact .inl rfl
        · exact .inr rfl
      · exact tw_all r t ht'
    · cases h
  · cases h
/-! ### all lines -/
/-- the row of a line; pairs stand ahead of the helpers -/
def stepR (o : Option (List Pr × List Hr)) (ws : List Str) : Option (List Pr × List Hr) :=
  match o with
  | none => none
  | some (ps, hs) => match pairOf ws, hs with
    | some q, [] => some (ps ++ [q], [])
    | _, _ => (helpOf ws).map fun x => (ps, hs ++ [x])
def readW (wss : List (List Str)) : Option (List Pr × List Hr) := wss.foldl stepR (some ([], []))
theorem readW_snoc (wss : List (List Str)) (ws : List Str) : readW (wss ++ [ws]) = stepR (readW wss) ws := by
  unfold readW
  rw [List.foldl_append]
  rfl
theorem readW_take {wss : List (List Str)} {i : Nat} {ws : List Str} (h : wss[i]? = some ws) : readW (wss.take (i + 1)) = stepR (readW (wss.take i)) ws := by
  rw [List.take_add_one, h, ← readW_snoc]
  rfl
theorem stepR_none (ws : List Str) : stepR none ws = none := rfl
theorem readW_stuck {wss : List (List Str)} : ∀ {i j : Nat}, i ≤ j → readW (wss.take i) = none → readW (wss.take j) = none
  | i, 0, h, e => by
    obtain rfl : i = 0 := by omega
    exact e
  | i, j + 1, h, e => by
    by_cases hij : i = j + 1
    · subst hij; exact e
    · have ih := readW_stuck (i := i) (j := j) (by omega) e
      cases hw : wss[j]? with
      | none =>
        have hl : wss.length ≤ j := List.getElem?_eq_none_iff.mp hw
        rw [List.take_of_length_le (by omega)]
        rw [List.take_of_length_le hl] at ih
        exact ih
      | some ws => rw [readW_take hw, ih]; rfl
/-- the first line without form -/
def BadAt (wss : List (List Str)) (n : Nat) : Prop := readW (wss.take n) ≠ none ∧ readW (wss.take (n + 1)) = none
theorem badAt_one {wss : List (List Str)} {n m : Nat} (h : BadAt wss n) (h2 : BadAt wss m) : n = m := by
  rcases Nat.lt_trichotomy n m with q | q | q
  · exact absurd (readW_stuck (by omega : n + 1 ≤ m) h.2) h2.1
  · exact q
  · exact absurd (readW_stuck (by omega : m + 1 ≤ n) h2.2) h.1
theorem badAt_all {wss : List (List Str)} {n : Nat} (h : BadAt wss n) (hn : n < wss.length) : readW wss = none := by
  have := readW_stuck (by omega : n + 1 ≤ wss.length) h.2
  rwa [List.take_length] at this
theorem stepR_some {o : Option (List Pr × List Hr)} {ws : List Str} {ps : List Pr} {hs : List Hr} (h : stepR o ws = some (ps, hs)) :
    (∃ qs q, o = some (qs, []) ∧ pairOf ws = some q ∧ ps = qs ++ [q] ∧ hs = []) ∨ ∃ ks x, o = some (ps, ks) ∧ helpOf ws = some x ∧ hs = ks ++ [x] := by
  cases o with
  | none => cases h
  | some st =>
    obtain ⟨qs, ks⟩ := st
    have two : ((helpOf ws).map fun x => (qs, ks ++ [x])) = some (ps, hs) → ∃ ls x, some (qs, ks) = some (ps, ls) ∧ helpOf ws = some x ∧ hs = ls ++ [x] := fun h => by
      obtain ⟨x, hx, e⟩ := Option.map_eq_some_iff.mp h
      cases e
      exact ⟨ks, x, rfl, hx, rfl⟩
    unfold stepR at h
    cases hq : pairOf ws with
    | none =>
      simp only [hq] at h
      exact .inr (two h)
    | some q =>
      cases ks with
      | nil =>
        simp only [hq] at h
        cases h
        exact .inl ⟨qs, q, rfl, rfl, rfl, rfl⟩
      | cons k ks =>
        simp only [hq] at h
        exact .inr (two h)
/-- the rows' words, all -/
def rowsWords (ps : List Pr) (hs : List Hr) : List (List Str) := ps.map pairWords ++ hs.map helpWords
structure ReadOk (ps : List Pr) (hs : List Hr) : Prop where
  pw : ∀ q ∈ ps, q.1 ≠ "" ∧ q.2.1 ≠ ""
  hw : ∀ x ∈ hs, x.name ≠ "" ∧ (x.side = 0 ∨ x.side = 1) ∧ (∀ t ∈ x.takes, isTake t = true) ∧ ∀ t ∈ x.throws, t ≠ ""
theorem read_words : ∀ (n : Nat) {wss : List (List Str)} {ps : List Pr} {hs : List Hr}, wss.length = n → readW wss = some (ps, hs) → wss = rowsWords ps hs ∧ ReadOk ps hs
  | 0, wss, ps, hs, hl, h => by
    obtain rfl := List.length_eq_zero_iff.mp hl
    cases h
    exact ⟨rfl, ⟨fun q hq => (List.not_mem_nil hq).elim, fun x hx => (List.not_mem_nil hx).elim⟩⟩
  | n + 1, wss, ps, hs, hl, h => by
    have ne : wss ≠ [] := fun e => by subst e; simp at hl
    obtain ⟨w0, ws, rfl⟩ : ∃ w0 ws, wss = w0 ++ [ws] := ⟨wss.dropLast, wss.getLast ne, (List.dropLast_concat_getLast ne).symm⟩
    rw [readW_snoc] at h
    have hl0 : w0.length = n := by simpa using hl
    rcases stepR_some h with ⟨qs, q, ho, hq, rfl, rfl⟩ | ⟨ks, x, ho, hx, rfl⟩
    · obtain ⟨e, ok⟩ := read_words n hl0 ho
      obtain ⟨ew, hno⟩ := words_pairOf hq
      refine ⟨?_, ⟨fun z hz => ?_, ok.hw⟩⟩
      · rw [e, ew]
        simp [rowsWords]
      · rcases List.mem_append.mp hz with q' | q'
        · exact ok.pw z q'
        · simp at q'
          subst q'
          rw [ew] at hno
          refine ⟨fun e => hno ?_, fun e => hno ?_⟩
          · rw [pairWords, e]; simp
          · rw [pairWords, e]; simp
    · obtain ⟨e, ok⟩ := read_words n hl0 ho
      obtain ⟨ew, sd, tk, hno⟩ := words_helpOf hx
      refine ⟨?_, ⟨ok.pw, fun z hz => ?_⟩⟩
      · rw [e, ew]
        simp [rowsWords]
      · rcases List.mem_append.mp hz with q' | q'
        · exact ok.hw z q'
        · simp at q'
          subst q'
          rw [ew] at hno
          refine ⟨fun e => hno ?_, sd, tk, fun t ht e => hno ?_⟩
          · rw [helpWords, e]; simp
          · subst e
            have : z.throws ≠ [] := fun q => by rw [q] at ht; cases ht
            simp [helpWords, throwsW, this, ht]
theorem readW_pairs : ∀ (n : Nat) {ps : List Pr}, ps.length = n → (∀ q ∈ ps, q.1 ≠ "" ∧ q.2.1 ≠ "") → readW (ps.map pairWords) = some (ps, [])
  | 0, ps, hl, _ => by
    obtain rfl := List.length_eq_zero_iff.mp hl
    rfl
  | n + 1, ps, hl, h => by
    have ne : ps ≠ [] := fun e => by subst e; simp at hl
    obtain ⟨p0, q, rfl⟩ : ∃ w0 ws, ps = w0 ++ [ws] := ⟨ps.dropLast, ps.getLast ne, (List.dropLast_concat_getLast ne).symm⟩
    have hl0 : p0.length = n := by simpa using hl
    have hq := h q (by simp)
    rw [List.map_append, List.map_cons, List.map_nil, readW_snoc, readW_pairs n hl0 fun z hz => h z (by simp [hz])]
    unfold stepR
    simp only [pairOf_words hq.1 hq.2]
theorem pairOf_help {x : Hr} : pairOf (helpWords x) = none := by
  unfold pairOf
  split
  · rfl
  · have e : ("helper" : Str) ≠ "word" := by decide +kernel
    unfold helpWords
    split
    · rename_i h
      injection h with h1 _
      rw [← h1, if_neg e]
    · rename_i h
      injection h with h1 _
      rw [← h1, if_neg (fun q => e q.1)]
    · rfl
theorem read_back : ∀ (n : Nat) {ps : List Pr} {hs : List Hr}, hs.length = n → ReadOk ps hs → readW (rowsWords ps hs) = some (ps, hs)
  | 0, ps, hs, hl, h => by
    obtain rfl := List.length_eq_zero_iff.mp hl
    unfold rowsWords
    rw [List.map_nil, List.append_nil]
    exact readW_pairs _ rfl h.pw
  | n + 1, ps, hs, hl, h => by
    have ne : hs ≠ [] := fun e => by subst e; simp at hl
    obtain ⟨k0, x, rfl⟩ : ∃ w0 ws, hs = w0 ++ [ws] := ⟨hs.dropLast, hs.getLast ne, (List.dropLast_concat_getLast ne).symm⟩
    have hl0 : k0.length = n := by simpa using hl
    have hx := h.hw x (by simp)
    have e : rowsWords ps (k0 ++ [x]) = rowsWords ps k0 ++ [helpWords x] := by simp [rowsWords]
    rw [e, readW_snoc, read_back n hl0 ⟨h.pw, fun z hz => h.hw z (by simp [hz])⟩]
    unfold stepR
    simp only [pairOf_help, helpOf_words hx.1 hx.2.1 hx.2.2.1 hx.2.2.2]
    rfl
/-- the text's lines, as words -/
def pgLines (page : Str) : List Str := if page = "" then [] else cut 10 page
def pgWords (page : Str) : List (List Str) := (pgLines page).map (cut 32)
def lineOf (ws : List Str) : Str := glue 32 ws
def pageOf (ps : List Pr) (hs : List Hr) : Str := glue 10 ((rowsWords ps hs).map lineOf)
/-- what is read is told again -/
theorem page_again {page : Str} {ps : List Pr} {hs : List Hr} (h : readW (pgWords page) = some (ps, hs)) : pageOf ps hs = page := by
  have e := (read_words _ rfl h).1
  unfold pageOf
  rw [← e]
  unfold pgWords pgLines
  rw [List.map_map]
  have e2 : lineOf ∘ cut 32 = id := funext fun x => glue_cut (by decide) x
  rw [e2, List.map_id]
  by_cases q : page = ""
  · rw [if_pos q, q]
    decide +kernel
  · rw [if_neg q]
    exact glue_cut (by decide) page
/-- words without a blank or a break -/
def wordOk (s : Str) : Prop := 32 ∉ s.cps.toList ∧ 10 ∉ s.cps.toList
theorem glue_break {c d : Nat} (hcd : c ≠ d) : ∀ {xs : List Str}, (∀ x ∈ xs, c ∉ x.cps.toList) → c ∉ (glue d xs).cps.toList := by
  intro xs h
  have e : xs = (xs.map fun x => x.cps.toList).map SX.S := by
    rw [List.map_map]
    have : (SX.S ∘ fun x : Str => x.cps.toList) = id := funext fun x => SX.S_tl x
    rw [this, List.map_id]
  have e2 : (glue d xs).cps.toList = TL.joinL [d] (xs.map fun x => x.cps.toList) := by
    have := glue_eq d (xs.map fun x => x.cps.toList)
    rw [← e] at this
    rw [this]
  rw [e2]
  clear e e2
  induction xs with
  | nil => simp [TL.joinL]
  | cons x r ih =>
    have h0 := h x List.mem_cons_self
    have ih := ih fun z hz => h z (List.mem_cons_of_mem _ hz)
    cases r with
    | nil => simpa [TL.joinL] using h0
    | cons y r =>
      rw [List.map_cons, List.map_cons, TL.joinL]
      simp only [List.mem_append, not_or]
      exact ⟨h0, by simpa using hcd, by simpa using ih⟩
theorem pgWords_page {ps : List Pr} {hs : List Hr} (h : ∀ ws ∈ rowsWords ps hs, ∀ w ∈ ws, wordOk w) : pgWords (pageOf ps hs) = rowsWords ps hs := by
  have nn : ∀ ws ∈ rowsWords ps hs, ws ≠ [] := fun ws hw => by
    unfold rowsWords at hw
    rcases List.mem_append.mp hw with q | q
    · obtain ⟨z, _, rfl⟩ := List.mem_map.mp q
      simp [pairWords]
    · obtain ⟨z, _, rfl⟩ := List.mem_map.mp q
      simp [helpWords]
  have back : ∀ ws ∈ rowsWords ps hs, cut 32 (lineOf ws) = ws := fun ws hw => cut_glue (by decide) (nn ws hw) fun p hp => (h ws hw p hp).1
  unfold pgWords pgLines
  by_cases e : rowsWords ps hs = []
  · unfold pageOf
    rw [e]
    have : glue 10 (List.map lineOf []) = "" := by decide +kernel
    rw [this, if_pos rfl]
    rfl
  · have hcut : cut 10 (pageOf ps hs) = (rowsWords ps hs).map lineOf := by
      refine cut_glue (by decide) (by simpa using e) fun p hp => ?_
      obtain ⟨ws, hw, rfl⟩ := List.mem_map.mp hp
      exact glue_break (by decide) fun w hx => (h ws hw w hx).2
    have hne : pageOf ps hs ≠ "" := fun q => by
      rw [q] at hcut
      have c0 : cut 10 "" = [("" : Str)] := by decide +kernel
      rw [c0] at hcut
      cases hr : rowsWords ps hs with
      | nil => exact e hr
      | cons ws r =>
        rw [hr] at hcut
        injection hcut with h1 _
        have b := back ws (by rw [hr]; simp)
        rw [← h1] at b
        have c1 : cut 32 "" = [("" : Str)] := by decide +kernel
        rw [c1] at b
        have m := (show ws ∈ rowsWords ps hs by rw [hr]; simp)
        unfold rowsWords at m
        have k1 : ("" : Str) ≠ "word" ∧ ("" : Str) ≠ "helper" := by decide +kernel
        rcases List.mem_append.mp m with q | q
        · obtain ⟨z, _, ez⟩ := List.mem_map.mp q
          rw [← ez, pairWords] at b
          injection b with b1 _
          exact k1.1 b1
        · obtain ⟨z, _, ez⟩ := List.mem_map.mp q
          rw [← ez, helpWords] at b
          injection b with b1 _
          exact k1.2 b1
    rw [if_neg hne, hcut, List.map_map]
    have : ∀ ws ∈ rowsWords ps hs, (cut 32 ∘ lineOf) ws = ws := back
    rw [List.map_congr_left this, List.map_id']
end My

set_option Elab.async false
set_option linter.all false
set_option maxRecDepth 100000
set_option maxHeartbeats 4000000
namespace Lw
open PySem L2
local macro_rules | `(tactic| walk_at "hp") => `(tactic| (repeat (first | exact upd_same | assumption | (refine (upd_ne (by first | assumption | exact Ne.symm (by assumption) | exact ne_of_none (by assumption) (by assumption) | exact Ne.symm (ne_of_none (by assumption) (by assumption)))).trans ?_))))
local macro_rules | `(tactic| walk_at "r1") => `(tactic| (first
  | (refine ⟨_, rfl, ?_⟩) | (refine ⟨_, _, rfl, rfl, ?_⟩) | (refine ⟨_, _, _, _, rfl, rfl, SqL.of (by walk_at "hp"), rfl, ?_⟩) | (refine ⟨_, _, _, _, rfl, rfl, (by walk_at "hp"), rfl, ?_⟩) | (refine ⟨rfl, ?_⟩)
  | (refine ⟨_, .inl ⟨_, SqL.of (by walk_at "hp"), rfl⟩, ?_⟩) | (refine ⟨_, _, rfl, .inl (SqL.of (by walk_at "hp")), ?_⟩) | (refine ⟨.inl ⟨rfl, _, SqL.of (by walk_at "hp")⟩, ?_⟩)
  | (refine ⟨_, _, _, _, _, rfl, (by walk_at "hp"), (by assumption), (by assumption), (by assumption), ?_⟩) | (refine ⟨_, _, _, _, rfl, (by walk_at "hp"), (by assumption), (by assumption), (by first | (show 0 < 1000; decide) | (show 1 < 1000; decide) | (show 2 < 1000; decide) | (show 3 < 1000; decide) | (show 4 < 1000; decide)), ?_⟩)
  | (refine ⟨(by show (0 : Int) < _; first | decide | omega), ?_⟩) | (refine ⟨⟨by assumption, by assumption⟩, ?_⟩) | (refine ⟨.inl ⟨by decide, by decide⟩, ?_⟩) | (refine ⟨.inr ⟨by decide, by decide⟩, ?_⟩)))
local macro_rules | `(tactic| walk_at "rd") => `(tactic| (repeat walk_at "r1"))
def top (i : Nat) : Stmt := PySem.Challenge.pw_pactford_k04_pacts_texts.main.body.getD i (.Pass ⟨0, 0, 0, 0⟩)
abbrev s_NoPact_init : Stmt := inClass (top 4) 0
theorem sc_NoPact_init : FnScope ["self", "at"] ["self", "at"] (defScope s_NoPact_init) := ⟨rfl, rfl, rfl, by decide +kernel, rfl, by decide +kernel, by decide +kernel⟩
abbrev s_NoText_init : Stmt := inClass (top 5) 0
theorem sc_NoText_init : FnScope ["self", "at"] ["self", "at"] (defScope s_NoText_init) := ⟨rfl, rfl, rfl, by decide +kernel, rfl, by decide +kernel, by decide +kernel⟩
abbrev s_is_whole : Stmt := top 9
theorem sc_is_whole : FnScope ["thing"] ["thing"] (defScope s_is_whole) := ⟨rfl, rfl, rfl, by decide +kernel, rfl, by decide +kernel, by decide +kernel⟩
abbrev s_is_side : Stmt := top 10
theorem sc_is_side : FnScope ["thing"] ["thing"] (defScope s_is_side) := ⟨rfl, rfl, rfl, by decide +kernel, rfl, by decide +kernel, by decide +kernel⟩
abbrev s_is_name : Stmt := top 11
theorem sc_is_name : FnScope ["thing", "sign"] ["thing"] (defScope s_is_name) := ⟨rfl, rfl, rfl, by decide +kernel, rfl, by decide +kernel, by decide +kernel⟩
abbrev s_Pacts_init : Stmt := inClass (top 18) 0
theorem sc_Pacts_init : FnScope ["self", "pairs", "helpers", "pair", "pact"] ["self", "pairs", "helpers"] (defScope s_Pacts_init) := ⟨rfl, rfl, rfl, by decide +kernel, rfl, by decide +kernel, by decide +kernel⟩
abbrev s_Pacts_pairs : Stmt := inClass (top 18) 1
theorem sc_Pacts_pairs : FnScope ["self"] ["self"] (defScope s_Pacts_pairs) := ⟨rfl, rfl, rfl, by decide +kernel, rfl, by decide +kernel, by decide +kernel⟩
abbrev s_Pacts_pact : Stmt := inClass (top 18) 3
theorem sc_Pacts_pact : FnScope ["self", "name", "pact"] ["self", "name"] (defScope s_Pacts_pact) := ⟨rfl, rfl, rfl, by decide +kernel, rfl, by decide +kernel, by decide +kernel⟩
abbrev s_Pacts_len : Stmt := inClass (top 18) 8
theorem sc_Pacts_len : FnScope ["self"] ["self"] (defScope s_Pacts_len) := ⟨rfl, rfl, rfl, by decide +kernel, rfl, by decide +kernel, by decide +kernel⟩
abbrev s_p_is_pair : Stmt := top 19
theorem sc_p_is_pair : FnScope ["pair", "near", "far", "laden"] ["pair"] (defScope s_p_is_pair) := ⟨rfl, rfl, rfl, by decide +kernel, rfl, by decide +kernel, by decide +kernel⟩
abbrev s_p_fits_pairs : Stmt := top 20
theorem sc_p_fits_pairs : FnScope ["pair", "ahead", "nears", "fars", "one"] ["pair", "ahead"] (defScope s_p_fits_pairs) := ⟨rfl, rfl, rfl, by decide +kernel, rfl, by decide +kernel, by decide +kernel⟩
abbrev s_p_is_pact : Stmt := top 21
theorem sc_p_is_pact : FnScope ["pact", "name", "side", "takes", "gives", "throws"] ["pact"] (defScope s_p_is_pact) := ⟨rfl, rfl, rfl, by decide +kernel, rfl, by decide +kernel, by decide +kernel⟩
abbrev s_p_are_takes : Stmt := top 22
theorem sc_p_are_takes : FnScope ["takes", "take"] ["takes"] (defScope s_p_are_takes) := ⟨rfl, rfl, rfl, by decide +kernel, rfl, by decide +kernel, by decide +kernel⟩
abbrev s_p_are_throws : Stmt := top 23
theorem sc_p_are_throws : FnScope ["throws", "word"] ["throws"] (defScope s_p_are_throws) := ⟨rfl, rfl, rfl, by decide +kernel, rfl, by decide +kernel, by decide +kernel⟩
abbrev s_p_fits_helpers : Stmt := top 24
theorem sc_p_fits_helpers : FnScope ["pact", "pairs", "ahead", "name", "side", "_", "throws", "fellows", "words", "one", "pair", "word"] ["pact", "pairs", "ahead"] (defScope s_p_fits_helpers) := ⟨rfl, rfl, rfl, by decide +kernel, rfl, by decide +kernel, by decide +kernel⟩
abbrev s_Pacts_eq : Stmt := inClass (top 18) 9
theorem sc_Pacts_eq : FnScope ["self", "other"] ["self", "other"] (defScope s_Pacts_eq) := ⟨rfl, rfl, rfl, by decide +kernel, rfl, by decide +kernel, by decide +kernel⟩
abbrev s_Pacts_str : Stmt := inClass (top 18) 10
theorem sc_Pacts_str : FnScope ["self", "words", "helpers", "pair", "pact"] ["self"] (defScope s_Pacts_str) := ⟨rfl, rfl, rfl, by decide +kernel, rfl, by decide +kernel, by decide +kernel⟩
abbrev s_p_pair_line : Stmt := top 25
theorem sc_p_pair_line : FnScope ["pair", "near", "far", "laden"] ["pair"] (defScope s_p_pair_line) := ⟨rfl, rfl, rfl, by decide +kernel, rfl, by decide +kernel, by decide +kernel⟩
abbrev s_p_helper_line : Stmt := top 26
theorem sc_p_helper_line : FnScope ["pact", "name", "side", "takes", "gives", "throws", "back", "thrown"] ["pact"] (defScope s_p_helper_line) := ⟨rfl, rfl, rfl, by decide +kernel, rfl, by decide +kernel, by decide +kernel⟩
abbrev s_read_pacts : Stmt := top 27
theorem sc_read_pacts : FnScope ["text", "pairs", "helpers", "lines", "at", "line", "words"] ["text"] (defScope s_read_pacts) := ⟨rfl, rfl, rfl, by decide +kernel, rfl, by decide +kernel, by decide +kernel⟩
abbrev s_p_has_pair_form : Stmt := top 28
theorem sc_p_has_pair_form : FnScope ["words"] ["words"] (defScope s_p_has_pair_form) := ⟨rfl, rfl, rfl, by decide +kernel, rfl, by decide +kernel, by decide +kernel⟩
abbrev s_p_has_helper_form : Stmt := top 29
theorem sc_p_has_helper_form : FnScope ["words", "rest"] ["words"] (defScope s_p_has_helper_form) := ⟨rfl, rfl, rfl, by decide +kernel, rfl, by decide +kernel, by decide +kernel⟩
abbrev s_p_takes_end : Stmt := top 30
theorem sc_p_takes_end : FnScope ["words", "end"] ["words"] (defScope s_p_takes_end) := ⟨rfl, rfl, rfl, by decide +kernel, rfl, by decide +kernel, by decide +kernel⟩
abbrev s_p_read_helper : Stmt := top 31
theorem sc_p_read_helper : FnScope ["words", "end", "takes", "gives", "behind", "throws"] ["words"] (defScope s_p_read_helper) := ⟨rfl, rfl, rfl, by decide +kernel, rfl, by decide +kernel, by decide +kernel⟩
abbrev s_box : Stmt := top 33
theorem sc_box : FnScope ["_law_script", "_law_great", "_law_cell"] ["_law_script"] (defScope s_box) := ⟨rfl, rfl, rfl, by decide +kernel, rfl, by decide +kernel, by decide +kernel⟩
abbrev s_mixed : Stmt := top 34
theorem sc_mixed : FnScope ["_law_cell", "_law_k", "_law_whole"] ["_law_cell", "_law_k"] (defScope s_mixed) := ⟨rfl, rfl, rfl, by decide +kernel, rfl, by decide +kernel, by decide +kernel⟩
abbrev s_take : Stmt := top 35
theorem sc_take : FnScope ["_law_box_here", "_law_size", "_law_found", "_law_cell", "_law_reach"] ["_law_box_here", "_law_size"] (defScope s_take) := ⟨rfl, rfl, rfl, by decide +kernel, rfl, by decide +kernel, by decide +kernel⟩
abbrev s_name : Stmt := top 36
theorem sc_name : FnScope ["_law_box_here", "_law_many", "_law_k"] ["_law_box_here"] (defScope s_name) := ⟨rfl, rfl, rfl, by decide +kernel, rfl, by decide +kernel, by decide +kernel⟩
abbrev s_names : Stmt := top 37
theorem sc_names : FnScope ["_law_box_here", "_law_many", "_law_found", "_law_k", "_law_name_here", "_law_spare"] ["_law_box_here", "_law_many"] (defScope s_names) := ⟨rfl, rfl, rfl, by decide +kernel, rfl, by decide +kernel, by decide +kernel⟩
abbrev s_pairs : Stmt := top 38
theorem sc_pairs : FnScope ["_law_box_here", "_law_most", "_law_nears", "_law_fars", "_law_near", "_law_far"] ["_law_box_here", "_law_most"] (defScope s_pairs) := ⟨rfl, rfl, rfl, by decide +kernel, rfl, by decide +kernel, by decide +kernel⟩
abbrev s_some : Stmt := top 39
theorem sc_some : FnScope ["_law_box_here", "_law_things", "_law_most", "_law_pool", "_law_k"] ["_law_box_here", "_law_things", "_law_most"] (defScope s_some) := ⟨rfl, rfl, rfl, by decide +kernel, rfl, by decide +kernel, by decide +kernel⟩
abbrev s_helpers : Stmt := top 40
theorem sc_helpers : FnScope ["_law_box_here", "_law_pairs_here", "_law_names_here", "_law_counts", "_law_found", "_law_side", "_law_k", "_law_takes", "_law_throws", "_law_helper", "_law_j", "_law_pair"] ["_law_box_here", "_law_pairs_here"] (defScope s_helpers) := ⟨rfl, rfl, rfl, by decide +kernel, rfl, by decide +kernel, by decide +kernel⟩
abbrev s_line : Stmt := top 41
theorem sc_line : FnScope ["_law_helper", "_law_name_here", "_law_side", "_law_takes", "_law_gives", "_law_throws", "_law_found", "_law_how"] ["_law_helper"] (defScope s_line) := ⟨rfl, rfl, rfl, by decide +kernel, rfl, by decide +kernel, by decide +kernel⟩
abbrev s_text : Stmt := top 42
theorem sc_text : FnScope ["_law_pairs_here", "_law_helpers_here", "_law_sheet", "_law_near", "_law_far", "_law_laden", "_law_helper"] ["_law_pairs_here", "_law_helpers_here"] (defScope s_text) := ⟨rfl, rfl, rfl, by decide +kernel, rfl, by decide +kernel, by decide +kernel⟩
abbrev s_pair_read : Stmt := top 43
theorem sc_pair_read : FnScope ["_law_words"] ["_law_words"] (defScope s_pair_read) := ⟨rfl, rfl, rfl, by decide +kernel, rfl, by decide +kernel, by decide +kernel⟩
abbrev s_helper_read : Stmt := top 44
theorem sc_helper_read : FnScope ["_law_words", "_law_at", "_law_takes", "_law_gives", "_law_rest"] ["_law_words"] (defScope s_helper_read) := ⟨rfl, rfl, rfl, by decide +kernel, rfl, by decide +kernel, by decide +kernel⟩
abbrev s_read : Stmt := top 45
theorem sc_read : FnScope ["_law_page", "_law_pairs_here", "_law_helpers_here", "_law_sheet", "_law_at", "_law_line_here", "_law_words", "_law_told"] ["_law_page"] (defScope s_read) := ⟨rfl, rfl, rfl, by decide +kernel, rfl, by decide +kernel, by decide +kernel⟩
abbrev s_w_is_name : Stmt := top 46
theorem sc_w_is_name : FnScope ["_law_word", "_law_sign"] ["_law_word"] (defScope s_w_is_name) := ⟨rfl, rfl, rfl, by decide +kernel, rfl, by decide +kernel, by decide +kernel⟩
abbrev s_pair_fits : Stmt := top 47
theorem sc_pair_fits : FnScope ["_law_ahead", "_law_pair", "_law_near", "_law_far", "_law_laden", "_law_one"] ["_law_ahead", "_law_pair"] (defScope s_pair_fits) := ⟨rfl, rfl, rfl, by decide +kernel, rfl, by decide +kernel, by decide +kernel⟩
abbrev s_helper_fits : Stmt := top 48
theorem sc_helper_fits : FnScope ["_law_pairs_here", "_law_ahead", "_law_helper", "_law_name_here", "_law_side", "_law_takes", "_law_gives", "_law_throws", "_law_words", "_law_at", "_law_word", "_law_one", "_law_pair", "_law_how"] ["_law_pairs_here", "_law_ahead", "_law_helper"] (defScope s_helper_fits) := ⟨rfl, rfl, rfl, by decide +kernel, rfl, by decide +kernel, by decide +kernel⟩
abbrev s_first_bad : Stmt := top 49
theorem sc_first_bad : FnScope ["_law_pairs_here", "_law_helpers_here", "_law_at", "_law_pair", "_law_helper"] ["_law_pairs_here", "_law_helpers_here"] (defScope s_first_bad) := ⟨rfl, rfl, rfl, by decide +kernel, rfl, by decide +kernel, by decide +kernel⟩
abbrev s_row_changed : Stmt := top 50
theorem sc_row_changed : FnScope ["_law_box_here", "_law_row", "_law_way", "_law_at", "_law_to"] ["_law_box_here", "_law_row"] (defScope s_row_changed) := ⟨rfl, rfl, rfl, by decide +kernel, rfl, by decide +kernel, by decide +kernel⟩
abbrev s_changed : Stmt := top 51
theorem sc_changed : FnScope ["_law_box_here", "_law_page", "_law_way", "_law_sheet", "_law_at", "_law_spot", "_law_words", "_law_odd", "_law_signs", "_law_sign"] ["_law_box_here", "_law_page"] (defScope s_changed) := ⟨rfl, rfl, rfl, by decide +kernel, rfl, by decide +kernel, by decide +kernel⟩
abbrev s_made : Stmt := top 52
theorem sc_made : FnScope ["_law_page", "_law_found", "e"] ["_law_page"] (defScope s_made) := ⟨rfl, rfl, rfl, by decide +kernel, rfl, by decide +kernel, by decide +kernel⟩
abbrev s_law : Stmt := top 53
theorem sc_law : FnScope ["_law_script", "_law_box_here", "_law_changes", "_law_pairs_here", "_law_helpers_here", "_law_page", "_law_k", "_law_seen", "_law_found", "_law_line_here", "_law_helper"] ["_law_script"] (defScope s_law) := ⟨rfl, rfl, rfl, by decide +kernel, rfl, by decide +kernel, by decide +kernel⟩
/-- the addresses -/
structure Ad where
  c_Pacts : Addr
  c_NoPact : Addr
  c_NoText : Addr
  c_PactError : Addr
  t_LONGEST_NAME : Tok
  t_MOST_PAIRS : Tok
  t_MOST_HELPERS : Tok
  t_MOST_TAKES : Tok
  t_MOST_THROWS : Tok
  t_TAKES : Addr
  f_NoPact_init : Addr
  d_NoPact_init : FuncData
  f_NoText_init : Addr
  d_NoText_init : FuncData
  f_is_whole : Addr
  d_is_whole : FuncData
  f_is_side : Addr
  d_is_side : FuncData
  f_is_name : Addr
  d_is_name : FuncData
  f_Pacts_init : Addr
  d_Pacts_init : FuncData
  f_Pacts_pairs : Addr
  d_Pacts_pairs : FuncData
  f_Pacts_pact : Addr
  d_Pacts_pact : FuncData
  f_Pacts_len : Addr
  d_Pacts_len : FuncData
  f_p_is_pair : Addr
  d_p_is_pair : FuncData
  f_p_fits_pairs : Addr
  d_p_fits_pairs : FuncData
  f_p_is_pact : Addr
  d_p_is_pact : FuncData
  f_p_are_takes : Addr
  d_p_are_takes : FuncData
  f_p_are_throws : Addr
  d_p_are_throws : FuncData
  f_p_fits_helpers : Addr
  d_p_fits_helpers : FuncData
  f_Pacts_eq : Addr
  d_Pacts_eq : FuncData
  f_Pacts_str : Addr
  d_Pacts_str : FuncData
  f_p_pair_line : Addr
  d_p_pair_line : FuncData
  f_p_helper_line : Addr
  d_p_helper_line : FuncData
  f_read_pacts : Addr
  d_read_pacts : FuncData
  f_p_has_pair_form : Addr
  d_p_has_pair_form : FuncData
  f_p_has_helper_form : Addr
  d_p_has_helper_form : FuncData
  f_p_takes_end : Addr
  d_p_takes_end : FuncData
  f_p_read_helper : Addr
  d_p_read_helper : FuncData
  f_box : Addr
  d_box : FuncData
  f_mixed : Addr
  d_mixed : FuncData
  f_take : Addr
  d_take : FuncData
  f_name : Addr
  d_name : FuncData
  f_names : Addr
  d_names : FuncData
  f_pairs : Addr
  d_pairs : FuncData
  f_some : Addr
  d_some : FuncData
  f_helpers : Addr
  d_helpers : FuncData
  f_line : Addr
  d_line : FuncData
  f_text : Addr
  d_text : FuncData
  f_pair_read : Addr
  d_pair_read : FuncData
  f_helper_read : Addr
  d_helper_read : FuncData
  f_read : Addr
  d_read : FuncData
  f_w_is_name : Addr
  d_w_is_name : FuncData
  f_pair_fits : Addr
  d_pair_fits : FuncData
  f_helper_fits : Addr
  d_helper_fits : FuncData
  f_first_bad : Addr
  d_first_bad : FuncData
  f_row_changed : Addr
  d_row_changed : FuncData
  f_changed : Addr
  d_changed : FuncData
  f_made : Addr
  d_made : FuncData
  f_law : Addr
  d_law : FuncData
/-- what the top has written -/
structure Txt (K : PySem.W.Frag) (mg : Str → Option Value) (a : Ad) : Prop where
  cl_Pacts : Cls K a.c_Pacts
  mk_Pacts : Mk K a.c_Pacts a.f_Pacts_init
  g_Pacts : mg "Pacts" = some (.ref a.c_Pacts)
  n_Pacts__pairs : NoAttr K a.c_Pacts "_pairs"
  n_Pacts__helpers : NoAttr K a.c_Pacts "_helpers"
  x_NoPact : OexC K a.c_NoPact
  xi_NoPact : PySem.W.findIn K (.ref a.c_NoPact) "__init__" = some (some (.ref a.f_NoPact_init))
  xt_NoPact : PySem.W.typeIn K (.ref a.f_NoPact_init) = some (.type "function")
  xf_NoPact : XfC K a.c_NoPact
  g_NoPact : mg "NoPact" = some (.ref a.c_NoPact)
  n_NoPact_at : PySem.W.findIn K (.ref a.c_NoPact) "at" = some none
  x_NoText : OexC K a.c_NoText
  xi_NoText : PySem.W.findIn K (.ref a.c_NoText) "__init__" = some (some (.ref a.f_NoText_init))
  xt_NoText : PySem.W.typeIn K (.ref a.f_NoText_init) = some (.type "function")
  xf_NoText : XfC K a.c_NoText
  g_NoText : mg "NoText" = some (.ref a.c_NoText)
  n_NoText_at : PySem.W.findIn K (.ref a.c_NoText) "at" = some none
  md_PactError : MidC K a.c_PactError
  g_PactError : mg "PactError" = some (.ref a.c_PactError)
  fa_NoPact : PySem.W.findIn K (.ref a.c_NoPact) "__class__" = some (some (.builtin "object.__class__"))
  fm_NoPact : PySem.W.mroIn K a.c_NoPact (.type "object") = some true
  fs_NoPact : PySem.W.kitOne K (.ref a.c_NoPact) (.ref a.c_NoPact) = some true
  fv_NoPact : PySem.W.kitOne K (.ref a.c_NoPact) (.type "ValueError") = some true
  fx_NoPact : PySem.W.kitOne K (.ref a.c_NoPact) (.ref a.c_NoText) = some false
  fe_NoPact : PySem.W.exmOne K (.ref a.c_NoPact) (.ref a.c_PactError) = some true
  fa_NoText : PySem.W.findIn K (.ref a.c_NoText) "__class__" = some (some (.builtin "object.__class__"))
  fm_NoText : PySem.W.mroIn K a.c_NoText (.type "object") = some true
  fs_NoText : PySem.W.kitOne K (.ref a.c_NoText) (.ref a.c_NoText) = some true
  fv_NoText : PySem.W.kitOne K (.ref a.c_NoText) (.type "ValueError") = some true
  fx_NoText : PySem.W.kitOne K (.ref a.c_NoText) (.ref a.c_NoPact) = some false
  fe_NoText : PySem.W.exmOne K (.ref a.c_NoText) (.ref a.c_PactError) = some true
  fg : PySem.W.specialIn K (.builtin "object.__class__") "__get__" = some (some (.builtin "getset_descriptor.__get__"))
  ft : PySem.W.takesIn K (.builtin "object.__class__") = some true
  pn_1 : PySem.W.findIn K (.ref a.c_Pacts) "__ne__" = some (some (.builtin "object.__ne__"))
  pn_2 : PySem.W.mroIn K a.c_Pacts (.type "object") = some true
  pn_3 : PySem.W.subIn K (.ref a.c_Pacts) (.type "NoneType") = some false
  pn_4 : PySem.W.subIn K (.ref a.c_Pacts) (.type "int") = some false
  pn_5 : PySem.W.subIn K (.ref a.c_Pacts) (.type "str") = some false
  pn_6 : PySem.W.subIn K (.ref a.c_Pacts) (.type "list") = some false
  pn_7 : PySem.W.findIn K (.ref a.c_Pacts) "__class__" = some (some (.builtin "object.__class__"))
  pn_8 : PySem.W.kitOne K (.ref a.c_Pacts) (.ref a.c_Pacts) = some true
  pn_9 : PySem.W.kitOne K (.type "NoneType") (.ref a.c_Pacts) = some false
  pn_10 : PySem.W.kitOne K (.type "int") (.ref a.c_Pacts) = some false
  pn_11 : PySem.W.kitOne K (.type "str") (.ref a.c_Pacts) = some false
  pn_12 : PySem.W.kitOne K (.type "list") (.ref a.c_Pacts) = some false
  F_NoPact_init : Fun K "__init__" "NoPact.__init__" s_NoPact_init a.f_NoPact_init a.d_NoPact_init
  B_NoPact_init : Binds K a.d_NoPact_init ["self", "at"] []
  F_NoText_init : Fun K "__init__" "NoText.__init__" s_NoText_init a.f_NoText_init a.d_NoText_init
  B_NoText_init : Binds K a.d_NoText_init ["self", "at"] []
  F_is_whole : Fun K "is_whole" "is_whole" s_is_whole a.f_is_whole a.d_is_whole
  B_is_whole : Binds K a.d_is_whole ["thing"] []
  g_is_whole : mg "is_whole" = some (.ref a.f_is_whole)
  k_is_whole : PySem.W.keepIn K (.ref a.f_is_whole) = true
  F_is_side : Fun K "is_side" "is_side" s_is_side a.f_is_side a.d_is_side
  B_is_side : Binds K a.d_is_side ["thing"] []
  g_is_side : mg "is_side" = some (.ref a.f_is_side)
  k_is_side : PySem.W.keepIn K (.ref a.f_is_side) = true
  F_is_name : Fun K "is_name" "is_name" s_is_name a.f_is_name a.d_is_name
  B_is_name : Binds K a.d_is_name ["thing"] []
  g_is_name : mg "is_name" = some (.ref a.f_is_name)
  k_is_name : PySem.W.keepIn K (.ref a.f_is_name) = true
  F_Pacts_init : Fun K "__init__" "Pacts.__init__" s_Pacts_init a.f_Pacts_init a.d_Pacts_init
  B_Pacts_init : Binds K a.d_Pacts_init ["self", "pairs", "helpers"] []
  F_Pacts_pairs : Fun K "pairs" "Pacts.pairs" s_Pacts_pairs a.f_Pacts_pairs a.d_Pacts_pairs
  B_Pacts_pairs : Binds K a.d_Pacts_pairs ["self"] []
  m_Pacts_pairs : Meth K a.c_Pacts "pairs" a.f_Pacts_pairs
  F_Pacts_pact : Fun K "pact" "Pacts.pact" s_Pacts_pact a.f_Pacts_pact a.d_Pacts_pact
  B_Pacts_pact : Binds K a.d_Pacts_pact ["self", "name"] []
  m_Pacts_pact : Meth K a.c_Pacts "pact" a.f_Pacts_pact
  F_Pacts_len : Fun K "__len__" "Pacts.__len__" s_Pacts_len a.f_Pacts_len a.d_Pacts_len
  B_Pacts_len : Binds K a.d_Pacts_len ["self"] []
  m_Pacts_len : Meth K a.c_Pacts "__len__" a.f_Pacts_len
  F_p_is_pair : Fun K "_is_pair" "_is_pair" s_p_is_pair a.f_p_is_pair a.d_p_is_pair
  B_p_is_pair : Binds K a.d_p_is_pair ["pair"] []
  g_p_is_pair : mg "_is_pair" = some (.ref a.f_p_is_pair)
  k_p_is_pair : PySem.W.keepIn K (.ref a.f_p_is_pair) = true
  F_p_fits_pairs : Fun K "_fits_pairs" "_fits_pairs" s_p_fits_pairs a.f_p_fits_pairs a.d_p_fits_pairs
  B_p_fits_pairs : Binds K a.d_p_fits_pairs ["pair", "ahead"] []
  g_p_fits_pairs : mg "_fits_pairs" = some (.ref a.f_p_fits_pairs)
  k_p_fits_pairs : PySem.W.keepIn K (.ref a.f_p_fits_pairs) = true
  F_p_is_pact : Fun K "_is_pact" "_is_pact" s_p_is_pact a.f_p_is_pact a.d_p_is_pact
  B_p_is_pact : Binds K a.d_p_is_pact ["pact"] []
  g_p_is_pact : mg "_is_pact" = some (.ref a.f_p_is_pact)
  k_p_is_pact : PySem.W.keepIn K (.ref a.f_p_is_pact) = true
  F_p_are_takes : Fun K "_are_takes" "_are_takes" s_p_are_takes a.f_p_are_takes a.d_p_are_takes
  B_p_are_takes : Binds K a.d_p_are_takes ["takes"] []
  g_p_are_takes : mg "_are_takes" = some (.ref a.f_p_are_takes)
  k_p_are_takes : PySem.W.keepIn K (.ref a.f_p_are_takes) = true
  F_p_are_throws : Fun K "_are_throws" "_are_throws" s_p_are_throws a.f_p_are_throws a.d_p_are_throws
  B_p_are_throws : Binds K a.d_p_are_throws ["throws"] []
  g_p_are_throws : mg "_are_throws" = some (.ref a.f_p_are_throws)
  k_p_are_throws : PySem.W.keepIn K (.ref a.f_p_are_throws) = true
  F_p_fits_helpers : Fun K "_fits_helpers" "_fits_helpers" s_p_fits_helpers a.f_p_fits_helpers a.d_p_fits_helpers
  B_p_fits_helpers : Binds K a.d_p_fits_helpers ["pact", "pairs", "ahead"] []
  g_p_fits_helpers : mg "_fits_helpers" = some (.ref a.f_p_fits_helpers)
  k_p_fits_helpers : PySem.W.keepIn K (.ref a.f_p_fits_helpers) = true
  F_Pacts_eq : Fun K "__eq__" "Pacts.__eq__" s_Pacts_eq a.f_Pacts_eq a.d_Pacts_eq
  B_Pacts_eq : Binds K a.d_Pacts_eq ["self", "other"] []
  m_Pacts_eq : Meth K a.c_Pacts "__eq__" a.f_Pacts_eq
  F_Pacts_str : Fun K "__str__" "Pacts.__str__" s_Pacts_str a.f_Pacts_str a.d_Pacts_str
  B_Pacts_str : Binds K a.d_Pacts_str ["self"] []
  m_Pacts_str : Meth K a.c_Pacts "__str__" a.f_Pacts_str
  F_p_pair_line : Fun K "_pair_line" "_pair_line" s_p_pair_line a.f_p_pair_line a.d_p_pair_line
  B_p_pair_line : Binds K a.d_p_pair_line ["pair"] []
  g_p_pair_line : mg "_pair_line" = some (.ref a.f_p_pair_line)
  k_p_pair_line : PySem.W.keepIn K (.ref a.f_p_pair_line) = true
  F_p_helper_line : Fun K "_helper_line" "_helper_line" s_p_helper_line a.f_p_helper_line a.d_p_helper_line
  B_p_helper_line : Binds K a.d_p_helper_line ["pact"] []
  g_p_helper_line : mg "_helper_line" = some (.ref a.f_p_helper_line)
  k_p_helper_line : PySem.W.keepIn K (.ref a.f_p_helper_line) = true
  F_read_pacts : Fun K "read_pacts" "read_pacts" s_read_pacts a.f_read_pacts a.d_read_pacts
  B_read_pacts : Binds K a.d_read_pacts ["text"] []
  g_read_pacts : mg "read_pacts" = some (.ref a.f_read_pacts)
  k_read_pacts : PySem.W.keepIn K (.ref a.f_read_pacts) = true
  F_p_has_pair_form : Fun K "_has_pair_form" "_has_pair_form" s_p_has_pair_form a.f_p_has_pair_form a.d_p_has_pair_form
  B_p_has_pair_form : Binds K a.d_p_has_pair_form ["words"] []
  g_p_has_pair_form : mg "_has_pair_form" = some (.ref a.f_p_has_pair_form)
  k_p_has_pair_form : PySem.W.keepIn K (.ref a.f_p_has_pair_form) = true
  F_p_has_helper_form : Fun K "_has_helper_form" "_has_helper_form" s_p_has_helper_form a.f_p_has_helper_form a.d_p_has_helper_form
  B_p_has_helper_form : Binds K a.d_p_has_helper_form ["words"] []
  g_p_has_helper_form : mg "_has_helper_form" = some (.ref a.f_p_has_helper_form)
  k_p_has_helper_form : PySem.W.keepIn K (.ref a.f_p_has_helper_form) = true
  F_p_takes_end : Fun K "_takes_end" "_takes_end" s_p_takes_end a.f_p_takes_end a.d_p_takes_end
  B_p_takes_end : Binds K a.d_p_takes_end ["words"] []
  g_p_takes_end : mg "_takes_end" = some (.ref a.f_p_takes_end)
  k_p_takes_end : PySem.W.keepIn K (.ref a.f_p_takes_end) = true
  F_p_read_helper : Fun K "_read_helper" "_read_helper" s_p_read_helper a.f_p_read_helper a.d_p_read_helper
  B_p_read_helper : Binds K a.d_p_read_helper ["words"] []
  g_p_read_helper : mg "_read_helper" = some (.ref a.f_p_read_helper)
  k_p_read_helper : PySem.W.keepIn K (.ref a.f_p_read_helper) = true
  F_box : Fun K "_law_box" "_law_box" s_box a.f_box a.d_box
  B_box : Binds K a.d_box ["_law_script"] []
  g_box : mg "_law_box" = some (.ref a.f_box)
  k_box : PySem.W.keepIn K (.ref a.f_box) = true
  F_mixed : Fun K "_law_mixed" "_law_mixed" s_mixed a.f_mixed a.d_mixed
  B_mixed : Binds K a.d_mixed ["_law_cell", "_law_k"] []
  g_mixed : mg "_law_mixed" = some (.ref a.f_mixed)
  k_mixed : PySem.W.keepIn K (.ref a.f_mixed) = true
  F_take : Fun K "_law_take" "_law_take" s_take a.f_take a.d_take
  B_take : Binds K a.d_take ["_law_box_here", "_law_size"] []
  g_take : mg "_law_take" = some (.ref a.f_take)
  k_take : PySem.W.keepIn K (.ref a.f_take) = true
  F_name : Fun K "_law_name" "_law_name" s_name a.f_name a.d_name
  B_name : Binds K a.d_name ["_law_box_here"] []
  g_name : mg "_law_name" = some (.ref a.f_name)
  k_name : PySem.W.keepIn K (.ref a.f_name) = true
  F_names : Fun K "_law_names" "_law_names" s_names a.f_names a.d_names
  B_names : Binds K a.d_names ["_law_box_here", "_law_many"] []
  g_names : mg "_law_names" = some (.ref a.f_names)
  k_names : PySem.W.keepIn K (.ref a.f_names) = true
  F_pairs : Fun K "_law_pairs" "_law_pairs" s_pairs a.f_pairs a.d_pairs
  B_pairs : Binds K a.d_pairs ["_law_box_here", "_law_most"] []
  g_pairs : mg "_law_pairs" = some (.ref a.f_pairs)
  k_pairs : PySem.W.keepIn K (.ref a.f_pairs) = true
  F_some : Fun K "_law_some" "_law_some" s_some a.f_some a.d_some
  B_some : Binds K a.d_some ["_law_box_here", "_law_things", "_law_most"] []
  g_some : mg "_law_some" = some (.ref a.f_some)
  k_some : PySem.W.keepIn K (.ref a.f_some) = true
  F_helpers : Fun K "_law_helpers" "_law_helpers" s_helpers a.f_helpers a.d_helpers
  B_helpers : Binds K a.d_helpers ["_law_box_here", "_law_pairs_here"] []
  g_helpers : mg "_law_helpers" = some (.ref a.f_helpers)
  k_helpers : PySem.W.keepIn K (.ref a.f_helpers) = true
  F_line : Fun K "_law_line" "_law_line" s_line a.f_line a.d_line
  B_line : Binds K a.d_line ["_law_helper"] []
  g_line : mg "_law_line" = some (.ref a.f_line)
  k_line : PySem.W.keepIn K (.ref a.f_line) = true
  F_text : Fun K "_law_text" "_law_text" s_text a.f_text a.d_text
  B_text : Binds K a.d_text ["_law_pairs_here", "_law_helpers_here"] []
  g_text : mg "_law_text" = some (.ref a.f_text)
  k_text : PySem.W.keepIn K (.ref a.f_text) = true
  F_pair_read : Fun K "_law_pair_read" "_law_pair_read" s_pair_read a.f_pair_read a.d_pair_read
  B_pair_read : Binds K a.d_pair_read ["_law_words"] []
  g_pair_read : mg "_law_pair_read" = some (.ref a.f_pair_read)
  k_pair_read : PySem.W.keepIn K (.ref a.f_pair_read) = true
  F_helper_read : Fun K "_law_helper_read" "_law_helper_read" s_helper_read a.f_helper_read a.d_helper_read
  B_helper_read : Binds K a.d_helper_read ["_law_words"] []
  g_helper_read : mg "_law_helper_read" = some (.ref a.f_helper_read)
  k_helper_read : PySem.W.keepIn K (.ref a.f_helper_read) = true
  F_read : Fun K "_law_read" "_law_read" s_read a.f_read a.d_read
  B_read : Binds K a.d_read ["_law_page"] []
  g_read : mg "_law_read" = some (.ref a.f_read)
  k_read : PySem.W.keepIn K (.ref a.f_read) = true
  F_w_is_name : Fun K "_law_is_name" "_law_is_name" s_w_is_name a.f_w_is_name a.d_w_is_name
  B_w_is_name : Binds K a.d_w_is_name ["_law_word"] []
  g_w_is_name : mg "_law_is_name" = some (.ref a.f_w_is_name)
  k_w_is_name : PySem.W.keepIn K (.ref a.f_w_is_name) = true
  F_pair_fits : Fun K "_law_pair_fits" "_law_pair_fits" s_pair_fits a.f_pair_fits a.d_pair_fits
  B_pair_fits : Binds K a.d_pair_fits ["_law_ahead", "_law_pair"] []
  g_pair_fits : mg "_law_pair_fits" = some (.ref a.f_pair_fits)
  k_pair_fits : PySem.W.keepIn K (.ref a.f_pair_fits) = true
  F_helper_fits : Fun K "_law_helper_fits" "_law_helper_fits" s_helper_fits a.f_helper_fits a.d_helper_fits
  B_helper_fits : Binds K a.d_helper_fits ["_law_pairs_here", "_law_ahead", "_law_helper"] []
  g_helper_fits : mg "_law_helper_fits" = some (.ref a.f_helper_fits)
  k_helper_fits : PySem.W.keepIn K (.ref a.f_helper_fits) = true
  F_first_bad : Fun K "_law_first_bad" "_law_first_bad" s_first_bad a.f_first_bad a.d_first_bad
  B_first_bad : Binds K a.d_first_bad ["_law_pairs_here", "_law_helpers_here"] []
  g_first_bad : mg "_law_first_bad" = some (.ref a.f_first_bad)
  k_first_bad : PySem.W.keepIn K (.ref a.f_first_bad) = true
  F_row_changed : Fun K "_law_row_changed" "_law_row_changed" s_row_changed a.f_row_changed a.d_row_changed
  B_row_changed : Binds K a.d_row_changed ["_law_box_here", "_law_row"] []
  g_row_changed : mg "_law_row_changed" = some (.ref a.f_row_changed)
  k_row_changed : PySem.W.keepIn K (.ref a.f_row_changed) = true
  F_changed : Fun K "_law_changed" "_law_changed" s_changed a.f_changed a.d_changed
  B_changed : Binds K a.d_changed ["_law_box_here", "_law_page"] []
  g_changed : mg "_law_changed" = some (.ref a.f_changed)
  k_changed : PySem.W.keepIn K (.ref a.f_changed) = true
  F_made : Fun K "_law_made" "_law_made" s_made a.f_made a.d_made
  B_made : Binds K a.d_made ["_law_page"] []
  g_made : mg "_law_made" = some (.ref a.f_made)
  k_made : PySem.W.keepIn K (.ref a.f_made) = true
  F_law : Fun K "law" "law" s_law a.f_law a.d_law
  B_law : Binds K a.d_law ["_law_script"] []
  g_law : mg "law" = some (.ref a.f_law)
  k_law : PySem.W.keepIn K (.ref a.f_law) = true
  KN_read_pacts_0 : KwN K a.d_read_pacts ["text"] 0 ["text"]
  v_LONGEST_NAME : mg "LONGEST_NAME" = some (.int 8 a.t_LONGEST_NAME)
  v_MOST_PAIRS : mg "MOST_PAIRS" = some (.int 6 a.t_MOST_PAIRS)
  v_MOST_HELPERS : mg "MOST_HELPERS" = some (.int 4 a.t_MOST_HELPERS)
  v_MOST_TAKES : mg "MOST_TAKES" = some (.int 3 a.t_MOST_TAKES)
  v_MOST_THROWS : mg "MOST_THROWS" = some (.int 4 a.t_MOST_THROWS)
  v_TAKES : mg "TAKES" = some (.ref a.t_TAKES)
  q_TAKES : ∀ H, SqT K H a.t_TAKES [.str "lent", .str "given"]
  z_ValueError : mg "ValueError" = none
  z_isinstance : mg "isinstance" = none
  z_int : mg "int" = none
  z_bool : mg "bool" = none
  z_tuple : mg "tuple" = none
  z_list : mg "list" = none
  z_str : mg "str" = none
  z_len : mg "len" = none
  z_all : mg "all" = none
  z_range : mg "range" = none
  z_zip : mg "zip" = none
  z_min : mg "min" = none
  z_enumerate : mg "enumerate" = none
section
variable {P : Program} {w : World} {K : PySem.W.Frag} {mg : Str → Option Value} {base : Heap} {a : Ad}
/-! ### texts and kinds -/
theorem inV_str (x : Str) : ∀ l : List Str, inV (.str x) (l.map V.str) = decide (x ∈ l)
  | [] => rfl
  | y :: l => by
    have ih := inV_str x l
    unfold inV at ih ⊢
    rw [List.map_cons, List.any_cons, ih]
    show ((y == x) || decide (x ∈ l)) = decide (x ∈ y :: l)
    by_cases e : y = x
    · subst e; simp
    · have e2 : ¬ x = y := fun z => e z.symm
      simp [e, e2]
theorem flat_str (l : List Str) : (l.map V.str).all flatV = true := List.all_eq_true.mpr fun v hv => by
  obtain ⟨s, _, rfl⟩ := List.mem_map.mp hv
  rfl
theorem strs_get {xs : List Str} {i : Nat} {y : V} (h : (xs.map V.str)[i]? = some y) : ∃ s, xs[i]? = some s ∧ y = V.str s := by
  rw [List.getElem?_map] at h
  cases e : xs[i]? with
  | none => rw [e] at h; cases h
  | some z => rw [e] at h; exact ⟨z, rfl, (Option.some.inj h).symm⟩
theorem refs_get {xs : List Addr} {i : Nat} {y : V} (h : (xs.map V.ref)[i]? = some y) : ∃ s, xs[i]? = some s ∧ y = V.ref s := by
  rw [List.getElem?_map] at h
  cases e : xs[i]? with
  | none => rw [e] at h; cases h
  | some z => rw [e] at h; exact ⟨z, rfl, (Option.some.inj h).symm⟩
theorem take_snoc {α : Type} {xs : List α} {i : Nat} {x : α} (h : xs[i]? = some x) : xs.take (i + 1) = xs.take i ++ [x] := by rw [List.take_add_one, h]; rfl
def sp_is_whole : Sp := fun vs H Q _ => ∃ i : Int, vs = [.int i] ∧ Q (.bl true) H
theorem ok_is_whole (T : Txt K mg a) : FnOk P w K mg base CX0 1 a.f_is_whole a.d_is_whole ["thing"] sp_is_whole := by
  refine T.F_is_whole.ok sc_is_whole (fun vs H Q E h => ?_) (fun cdv A outer s H vs Q E hr h => ?_)
  · obtain ⟨i, rfl, _⟩ := h
    rfl
  · obtain ⟨i, rfl, kk⟩ := h
    refine ⟨_, (pss_one (ps_ret (pe_and (pe_callB call_isi (by rfl) T.z_isinstance (by decide +kernel) (pa_cons (pv 0) (pa_cons (pe_bltn (v := .ty "int") (by rfl) T.z_int (by decide +kernel) rfl) pa_nil))) (pe_one (pe_not (pe_callB call_isi (by rfl) T.z_isinstance (by decide +kernel) (pa_cons (pv 0) (pa_cons (pe_bltn (v := .ty "bool") (by rfl) T.z_bool (by decide +kernel) rfl) pa_nil)))))))), ?_⟩
    refine ⟨_, rfl, _, _, _, _, true, rfl, .ty "int", .base (.int i), kit_ty (by decide +kernel), true, rfl, ?_⟩
    refine iteT ?_
    refine ⟨_, rfl, _, _, _, _, false, rfl, .ty "bool", .base (.int i), kit_ty (by decide +kernel), ?_⟩
    refine ⟨_, rfl, ?_⟩
    exact kk
theorem inV_01 (i : Int) : inV (.int i) [.int 0, .int 1] = decide (i = 0 ∨ i = 1) := by
  show ((0 == i) || ((1 == i) || false)) = _
  by_cases h0 : i = 0
  · subst h0; rfl
  · by_cases h1 : i = 1
    · subst h1; rfl
    · have a0 : ((0 : Int) == i) = false := beq_eq_false_iff_ne.mpr fun z => h0 z.symm
      have a1 : ((1 : Int) == i) = false := beq_eq_false_iff_ne.mpr fun z => h1 z.symm
      rw [a0, a1]
      simp [h0, h1]
def sp_is_side : Sp := fun vs H Q _ => ∃ i : Int, vs = [.int i] ∧ ∀ H', Same H H' → Q (.bl (decide (i = 0 ∨ i = 1))) H'
theorem ok_is_side (T : Txt K mg a) : FnOk P w K mg base CX0 2 a.f_is_side a.d_is_side ["thing"] sp_is_side := by
  refine T.F_is_side.ok sc_is_side (fun vs H Q E h => ?_) (fun cdv A outer s H vs Q E hr h => ?_)
  · obtain ⟨i, rfl, _⟩ := h
    rfl
  · obtain ⟨i, rfl, kk⟩ := h
    refine ⟨_, (pss_one (ps_ret (pe_and (pe_call (ok_is_whole T) (hr.mono (by decide)) rfl T.g_is_whole T.k_is_whole T.B_is_whole .nil pass0 (pa_cons (pv 0) pa_nil)) (pe_one (pe_cmpR op_in_seq (pv 0) (pe_tup (pa_cons pe_int (pa_cons pe_int pa_nil))) (by rfl)))))), ?_⟩
    refine ⟨_, rfl, i, rfl, true, rfl, ?_⟩
    refine iteT ?_
    refine ⟨_, rfl, by show 2 ≤ sizeLine; decide, fun t ht => ?_⟩
    refine ⟨t, _, rfl, .inr (SqT.of upd_same), rfl, rfl, ?_⟩
    show Q (.bl (inV (.int i) [.int 0, .int 1])) _
    rw [inV_01]
    exact kk _ ((Same.refl H).upd ht)
theorem one_lt (c d : Nat) : (([c] : List Nat) < [d]) ↔ c < d := by
  rw [List.cons_lt_cons_iff]
  simp
theorem le_a (c : Nat) : (!decide ((⟨#[c]⟩ : Str).cps.toList < ("a" : Str).cps.toList)) = decide (97 ≤ c) := by
  have e : ("a" : Str).cps.toList = [97] := by decide +kernel
  rw [e]
  show (!decide (([c] : List Nat) < [97])) = _
  rw [decide_eq_decide.mpr (one_lt c 97)]
  by_cases h : c < 97
  · rw [decide_eq_true h, decide_eq_false (by omega)]; rfl
  · rw [decide_eq_false h, decide_eq_true (by omega)]; rfl
theorem le_z (c : Nat) : (!decide (("z" : Str).cps.toList < (⟨#[c]⟩ : Str).cps.toList)) = decide (c ≤ 122) := by
  have e : ("z" : Str).cps.toList = [122] := by decide +kernel
  rw [e]
  show (!decide (([122] : List Nat) < [c])) = _
  rw [decide_eq_decide.mpr (one_lt 122 c)]
  by_cases h : 122 < c
  · rw [decide_eq_true h, decide_eq_false (by omega)]; rfl
  · rw [decide_eq_false h, decide_eq_true (by omega)]; rfl
theorem all_id (l : List Nat) : (l.map My.letter).all id = l.all My.letter := by rw [List.all_map]; rfl
def sp_is_name : Sp := fun vs H Q _ => ∃ s : Str, vs = [.str s] ∧ s.length ≤ sizeLine ∧ ∀ H', Same H H' → Q (.bl (My.nameB s)) H'
theorem ok_is_name (T : Txt K mg a) : FnOk P w K mg base CX0 1 a.f_is_name a.d_is_name ["thing"] sp_is_name := by
  refine T.F_is_name.ok sc_is_name (fun vs H Q E h => ?_) (fun cdv A outer s H vs Q E hr h => ?_)
  · obtain ⟨s, rfl, _⟩ := h
    rfl
  · obtain ⟨s, rfl, hz, kk⟩ := h
    refine ⟨_, (pss_cons (ps_if (PW.pt (pw_or (pt_not (pt_val (pe_callB call_isi (by rfl) T.z_isinstance (by decide +kernel) (pa_cons (pv 0) (pa_cons (pe_bltn (v := .ty "str") (by rfl) T.z_str (by decide +kernel) rfl) pa_nil))))) (pw_or1 (pt_not (pt_chain op_le op_le pe_int (pe_callB call_len_str (by rfl) T.z_len (by decide +kernel) (pa_cons (pv 0) pa_nil)) (pe_glob (v := .int 8) rfl T.v_LONGEST_NAME ⟨_, rfl⟩)))))) (pss_one (ps_ret pe_bl)) pss_nil)
      (pss_one (ps_ret (pe_callB (cr_all rfl) (by rfl) T.z_all (by decide +kernel) (pa_cons (pe_lc (own := [("sign", 1)]) (g := gName 1) (tt := tYes) rfl sc_is_name.nd (pi_str (pv 0)) (blkOk_by (own := [("sign", 1)]) (N := ["thing", "sign"]) (sc := defScope s_is_name) (by decide +kernel)) (fun _ _ _ _ _ => pg_name (i := 1) sc_is_name.nd rfl (Or.inl rfl)) (fun _ _ _ _ _ => pts_nil) (fun _ _ _ _ _ => by exact (pe_chain op_le_str op_le_str pe_str (pv 1) pe_str))) pa_nil))))), ?_⟩
    have no : ¬ (1 ≤ s.cps.size ∧ s.cps.size ≤ 8) → Q (.bl false) H := fun n => by
      have e : My.nameB s = false := by
        unfold My.nameB
        by_cases h1 : 1 ≤ s.cps.size
        · have h2 : ¬ s.cps.size ≤ 8 := fun z => n ⟨h1, z⟩
          rw [decide_eq_false h2]; simp
        · rw [decide_eq_false h1]; simp
      exact e ▸ kk H (Same.refl H)
    refine ⟨_, rfl, _, _, _, _, true, rfl, .ty "str", .base (.str s), kit_ty (by decide +kernel), true, rfl, ?_⟩
    refine iteF ?_
    refine ⟨_, rfl, _, rfl, hz, ?_⟩
    refine ⟨_, _, rfl, rfl, _, rfl, ?_⟩
    refine iteD (fun h1 => ?_) (fun h1 => ?_)
    · refine ⟨_, _, rfl, rfl, _, rfl, ?_⟩
      refine iteB (fun h2 => ?_) (fun h2 => ?_)
      · refine no fun z => ?_
        have z2 : ((s.length : Nat) : Int) ≤ 8 := by
          show ((s.cps.size : Nat) : Int) ≤ 8
          omega
        rw [show (!decide ((s.length : Int) ≤ 8)) = false by rw [decide_eq_true z2]; rfl] at h2
        cases h2
      · have h2' : ((s.cps.size : Nat) : Int) ≤ 8 := by
          show ((s.length : Nat) : Int) ≤ 8
          by_cases z : ((s.length : Nat) : Int) ≤ 8
          · exact z
          · rw [show (!decide ((s.length : Int) ≤ 8)) = true by rw [decide_eq_false z]; rfl] at h2
            cases h2
        have b1 : 1 ≤ s.cps.size := by
          have : (1 : Int) ≤ (s.cps.size : Int) := h1
          omega
        have b2 : s.cps.size ≤ 8 := by omega
        refine ⟨_, rfl, s, rfl, fun D hD => ?_⟩
        refine lc_it walk_str (fun i H1 => Blk (H1 = upd H D (.lst (((s.cps.toList.take i).map My.letter).map V.bl)) ∧ i ≤ s.cps.size)) (Blk.of ⟨rfl, by omega⟩) (fun i H1 _ hB => trivial) ?_ ?_
        · intro i y H1 H2 hi hB hy
          obtain ⟨rfl, hi2⟩ := hB.out
          obtain ⟨rfl, c, hc, rfl⟩ := hy
          have hc2 : s.cps.toList[i]? = some c := by rw [Array.getElem?_toList]; exact hc
          refine ⟨rfl, ?_⟩
          dsimp only [tYes]
          refine iteT ?_
          refine ⟨_, rfl, _, _, rfl, rfl, _, rfl, ?_⟩
          rw [le_a]
          have fin : ∀ b : Bool, b = My.letter c → ∃ acc, upd H D (.lst (((s.cps.toList.take i).map My.letter).map V.bl)) D = some (.lst acc) ∧ acc.length < sizeLine ∧
              Blk (upd (upd H D (.lst (((s.cps.toList.take i).map My.letter).map V.bl))) D (.lst (acc ++ [.bl b])) = upd H D (.lst (((s.cps.toList.take (i + 1)).map My.letter).map V.bl)) ∧ i + 1 ≤ s.cps.size) := by
            rintro b rfl
            refine ⟨_, upd_same, ?_, Blk.of ⟨?_, by omega⟩⟩
            · rw [List.length_map, List.length_map, List.length_take]
              exact small (by omega)
            · rw [upd_upd, take_snoc hc2, List.map_append, List.map_append]
              rfl
          refine iteD (fun ha => ?_) (fun ha => ?_)
          · refine ⟨_, _, rfl, rfl, ?_⟩
            rw [le_z]
            refine fin _ ?_
            unfold My.letter
            rw [decide_eq_true ha]
            rfl
          · refine fin false ?_
            unfold My.letter
            rw [decide_eq_false ha]
            rfl
        · intro H1 hB
          obtain ⟨rfl, _⟩ := hB.out
          refine ⟨D, _, rfl, SqL.of upd_same, ?_⟩
          have el : s.cps.toList.take s.cps.size = s.cps.toList := by rw [← Array.length_toList, List.take_length]
          rw [el, all_id]
          have en : s.cps.toList.all My.letter = My.nameB s := by
            unfold My.nameB
            rw [decide_eq_true b1, decide_eq_true b2]
            rfl
          rw [en]
          exact kk _ ((Same.refl H).upd hD)
    · refine ⟨_, rfl, ?_⟩
      refine iteT (no fun z => h1 ?_)
      show (1 : Int) ≤ (s.cps.size : Int)
      omega

/-! ### _law_mixed -/
def sp_mixed : Sp := fun vs H Q _ => ∃ (c k : Int), vs = [.int c, .int k] ∧ 0 ≤ k ∧ k < 100000000 ∧ ∀ r : Int, 0 ≤ r → r < 1000000007 → Q (.int r) H
theorem mixed_bound {c k : Int} (h0 : 0 ≤ k) (h1 : k < 100000000) : (c % 2147483647 + 1009 * k * k + 48611 * k + 17).natAbs < 2 ^ 64 := by
  have a0 := Int.emod_nonneg c (by decide : (2147483647 : Int) ≠ 0)
  have a1 := Int.emod_lt_of_pos c (by decide : (0 : Int) < 2147483647)
  have b0 : 0 ≤ 1009 * k * k := Int.mul_nonneg (by omega) h0
  have b1 : 1009 * k * k ≤ 1009 * 100000000 * 100000000 := Int.mul_le_mul (by omega) (by omega) h0 (by omega)
  have e : (2 : Nat) ^ 64 = 18446744073709551616 := by decide
  rw [e]
  omega
theorem ok_mixed (T : Txt K mg a) : FnOk P w K mg base CX0 1 a.f_mixed a.d_mixed ["_law_cell", "_law_k"] sp_mixed := by
  refine T.F_mixed.ok sc_mixed (fun vs H Q E h => ?_) (fun cdv A outer s H vs Q E hr h => ?_)
  · obtain ⟨c, k, rfl, _⟩ := h
    rfl
  · obtain ⟨c, k, rfl, h0, h1, kk⟩ := h
    refine ⟨_, (pss_cons (ps_set (i := 2) sc_mixed.nd rfl (Or.inl rfl) (pe_op op_mod (pe_op op_pow (pe_op op_add (pe_op op_add (pe_op op_add (pe_op op_mod (pv 0) pe_int) (pe_op op_mul (pe_op op_mul pe_int (pv 1)) (pv 1))) (pe_op op_mul pe_int (pv 1))) pe_int) pe_int) pe_int))
      (pss_one (ps_ret (pe_op op_mod (pe_op op_add (pe_op op_mul (pv 2) pe_int) (pe_op op_mul pe_int (pv 1))) pe_int)))), ?_⟩
    have eb := mixed_bound (c := c) h0 h1
    generalize hx : c % 2147483647 + 1009 * k * k + 48611 * k + 17 = x at eb
    refine ⟨_, rfl, _, _, rfl, rfl, (by show (0 : Int) < _; decide), _, rfl, _, _, rfl, rfl, .inl ⟨by decide, by decide⟩, _, rfl, _, _, rfl, rfl, .inl ⟨by omega, by omega⟩, _, _, rfl, rfl, _, rfl, _, _, rfl, rfl, .inl ⟨by decide, by decide⟩,
      _, _, rfl, rfl, _, _, rfl, rfl, _, _, rfl, rfl, ⟨by decide, by decide, by rw [hx]; exact eb⟩, _, _, rfl, rfl, (by show (0 : Int) < _; decide), ?_⟩
    rw [hx]
    generalize x ^ Int.toNat 5 % 2147483647 = y
    refine ⟨_, rfl, _, _, rfl, rfl, .inr ⟨by decide, by decide⟩, _, rfl, _, _, rfl, rfl, .inl ⟨by decide, by decide⟩, _, _, rfl, rfl, _, _, rfl, rfl, (by show (0 : Int) < _; decide), ?_⟩
    exact kk _ (Int.emod_nonneg _ (by decide)) (Int.emod_lt_of_pos _ (by decide))

/-! ### _law_take -/
def sp_take : Sp := fun vs H Q _ => ∃ (b g l : Addr) (n size : Int), vs = [.ref b, .int size] ∧ BoxAt H b g l n ∧ 0 ≤ n ∧ n < 10000000 ∧ 0 < size ∧ size.natAbs.log2 < 9000 ∧
  ∀ (k : Int) (H' : Hp), 0 ≤ k → k < size → BoxAt H' b g l (n + 1) → Keeps [b, g] H H' → Q (.int k) H'
theorem ok_take (T : Txt K mg a) : FnOk P w K mg base CX0 2 a.f_take a.d_take ["_law_box_here", "_law_size"] sp_take := by
  refine T.F_take.ok sc_take (fun vs H Q E h => ?_) (fun cdv A outer s H vs Q E hr h => ?_)
  · obtain ⟨b, g, l, n, size, rfl, _⟩ := h
    rfl
  · obtain ⟨b, g, l, n, size, rfl, ⟨gs, ls, cur, hb, hg, hl, nbg, nbl, ngl, zg, zl⟩, n0, n1, s0, s1, kk⟩ := h
    refine ⟨_, (pss_cons (ps_asg (pe_op op_add (pe_ix ix_list (pv 0) pe_int (fun _ _ => rfl)) pe_int) (pg_sub (pv 0) pe_int set_list))
      (C8.pss_cut (ps_if (PW.pt (pw_and (pt_cmpR op_eq (pe_ix ix_list (pv 0) pe_int (fun _ _ => rfl)) pe_int (nomark _)) (pw_and1 (pt_cmpR op_gt (pe_callB call_len_seq (by rfl) T.z_len (by decide +kernel) (pa_cons (pe_ix ix_list (pv 0) pe_int (fun _ _ => rfl)) pa_nil)) pe_int (nomark _))))) (pss_one (ps_asg (pe_bm PySem.F.plainAttrs_list PySem.F.slot_list_pop PySem.F.type_list_pop mt_popAt (pe_ix ix_list (pv 0) pe_int (fun _ _ => rfl)) (pa_cons pe_int pa_nil)) (pg_sub (pv 0) pe_int set_list))) pss_nil)
      (pss_cons (ps_if (pt_cmpR op_gt (pe_ix ix_list (pv 0) pe_int (fun _ _ => rfl)) pe_int (nomark _)) (pss_cons (ps_set (i := 2) sc_take.nd rfl (Or.inl rfl) (pe_op op_mod (pe_ix ix_list (pv 0) pe_int (fun _ _ => rfl)) (pv 1)))
      (pss_cons (ps_asg (pe_op op_fdivW (pe_ix ix_list (pv 0) pe_int (fun _ _ => rfl)) (pv 1)) (pg_sub (pv 0) pe_int set_list))
      (pss_one (ps_ret (pv 2))))) pss_nil)
      (pss_cons (ps_set (i := 3) sc_take.nd rfl (Or.inl rfl) (pe_op op_mul pe_int (pe_ix ix_list (pv 0) pe_int (fun _ _ => rfl))))
      (C8.pss_cut (ps_if (pt_cmpR op_gt (pe_callB call_len_seq (by rfl) T.z_len (by decide +kernel) (pa_cons (pe_ix ix_list (pv 0) pe_int (fun _ _ => rfl)) pa_nil)) pe_int (nomark _)) (pss_one (ps_set (i := 3) sc_take.nd rfl (Or.inl rfl) (pe_ix ix_list (pe_ix ix_list (pv 0) pe_int (fun _ _ => rfl)) (pe_op op_mod (pe_ix ix_list (pv 0) pe_int (fun _ _ => rfl)) (pe_callB call_len_seq (by rfl) T.z_len (by decide +kernel) (pa_cons (pe_ix ix_list (pv 0) pe_int (fun _ _ => rfl)) pa_nil))) (fun _ _ => rfl)))) pss_nil)
      (pss_cons (ps_set (i := 2) sc_take.nd rfl (Or.inl rfl) pe_int)
      (pss_cons (ps_set (i := 4) sc_take.nd rfl (Or.inl rfl) pe_int)
      (pss_cons (ps_while PassesOwn.never (pt_cmpR op_lt (pv 4) (pv 1) (nomark _)) (pss_cons (ps_set (i := 2) sc_take.nd rfl (Or.inl rfl) (pe_op op_add (pe_op op_mul (pv 2) pe_int) (pe_call (ok_mixed T) (hr.mono (by decide)) rfl T.g_mixed T.k_mixed T.B_mixed .nil pass0 (pa_cons (pv 3) (pa_cons (pe_op op_add (pe_ix ix_list (pv 0) pe_int (fun _ _ => rfl)) (pe_op op_mul pe_int (pe_op op_mod (pv 2) pe_int))) pa_nil)))))
      (pss_one (ps_set (i := 4) sc_take.nd rfl (Or.inl rfl) (pe_op op_mul (pv 4) pe_int)))))
      (pss_one (ps_ret (pe_op op_mod (pv 2) (pv 1)))))))))))), ?_⟩
    -- box[3] = box[3] + 1
    walk_at "rd"
    have kp0 : Keeps [b, g] H (upd H b (.lst [.ref g, .int cur, .ref l, .int (n + 1)])) := (Keeps.refl _ H).upd (.inl (List.mem_cons_self))
    refine ⟨fun σ H1 => Blk (σ = [some (.ref b), some (.int size), none, none, none] ∧ ∃ (gs : List Int) (cur : Int), H1 b = some (.lst [.ref g, .int cur, .ref l, .int (n + 1)]) ∧ H1 g = some (.lst (gs.map V.int)) ∧ gs.length ≤ 63 ∧ H1 l = some (.lst (ls.map V.int)) ∧ Keeps [b, g] H H1), ?_, ?_⟩
    · walk_at "rd"
      refine iteD (fun hc => ?_) (fun hc => ?_)
      · walk_at "rd"
        refine iteD (fun hc => ?_) (fun hc => ?_)
        · rw [List.length_map] at hc
          match gs, hc with
          | x :: gs, _ =>
            walk_at "rd"
            refine ⟨_, _, _, _, _, rfl, rfl, (by walk_at "hp"), by decide, by decide, seqIndex_of (by decide) (by simp), rfl, ?_⟩
            walk_at "rd"
            refine Blk.of ⟨rfl, gs, x, upd_same, (by walk_at "hp"), by rw [List.length_cons] at zg; omega, by walk_at "hp", ?_⟩
            exact (kp0.upd (.inl (by simp))).upd (.inl (by simp))
        · refine Blk.of ⟨rfl, gs, cur, upd_same, by walk_at "hp", zg, by walk_at "hp", kp0⟩
      · refine iteF ?_
        refine Blk.of ⟨rfl, gs, cur, upd_same, by walk_at "hp", zg, by walk_at "hp", kp0⟩
    · rintro σ H1 hB
      obtain ⟨rfl, gs, cur, hb, hg, zg, hl, kp⟩ := hB.out
      walk_at "rd"
      refine iteD (fun hc => ?_) (fun hc => ?_)
      · walk_at "rd"
        refine kk _ _ (Int.emod_nonneg _ (by omega)) (Int.emod_lt_of_pos _ s0) ⟨gs, ls, _, upd_same, by walk_at "hp", by walk_at "hp", nbg, nbl, ngl, zg, zl⟩ (kp.upd (.inl (by simp)))
      · walk_at "rd"
        refine ⟨fun σ H2 => Blk (H2 = H1 ∧ ∃ cell : Int, σ = [some (.ref b), some (.int size), none, some (.int cell), none]), ?_, ?_⟩
        · walk_at "rd"
          refine iteD (fun hc2 => ?_) (fun hc2 => ?_)
          · have hpos : (0 : Int) < ((ls.map V.int).length : Int) := hc2
            walk_at "rd"
            have i0 := Int.emod_nonneg (n + 1) (show (((ls.map V.int).length : Nat) : Int) ≠ 0 by omega)
            have i1 := Int.emod_lt_of_pos (n + 1) hpos
            have hx : (ls.map V.int)[((n + 1) % (((ls.map V.int).length : Nat) : Int)).toNat]? = some (.int (My.g ls ((n + 1) % (((ls.map V.int).length : Nat) : Int)).toNat)) := by
              rw [List.getElem?_map, My.g_lt (by rw [List.length_map] at *; omega)]; rfl
            refine ⟨_, _, _, _, rfl, rfl, SqL.of (by walk_at "hp"), at_of (j := ((n + 1) % (((ls.map V.int).length : Nat) : Int)).toNat) (by omega) hx, ?_⟩
            exact Blk.of ⟨rfl, _, rfl⟩
          · exact Blk.of ⟨rfl, _, rfl⟩
        · rintro σ H2 hB
          obtain ⟨rfl, cell, rfl⟩ := hB.out
          walk_at "rd"
          refine while_by (fun σ H1 => H1 = H2 ∧ ∃ found reach : Int, σ = [some (.ref b), some (.int size), some (.int found), some (.int cell), some (.int reach)] ∧ 0 < reach)
            (fun σ _ => match σ with | [_, _, _, _, some (.int r)] => (size - r).toNat | _ => 0) ⟨rfl, 0, 1, rfl, by decide⟩ ?_ ?_
          · rintro σ H1 ⟨rfl, found, reach, rfl, hr0⟩
            walk_at "rd"
            refine iteD (fun hlt => ?_) (fun hlt => ?_)
            · walk_at "rd"
              have f0 := Int.emod_nonneg found (show (89 : Int) ≠ 0 by decide)
              have f1 := Int.emod_lt_of_pos found (show (0 : Int) < 89 by decide)
              refine ⟨_, _, rfl, (by show 0 ≤ n + 1 + 1000 * (found % 89); omega), (by show n + 1 + 1000 * (found % 89) < 100000000; omega), fun r r0 r1 => ?_⟩
              walk_at "rd"
              refine ⟨⟨rfl, _, _, rfl, by omega⟩, ?_⟩
              show (size - reach * 1000000007).toNat < (size - reach).toNat
              omega
            · walk_at "rd"
              exact kk _ _ (Int.emod_nonneg _ (by omega)) (Int.emod_lt_of_pos _ s0) ⟨gs, ls, _, hb, hg, hl, nbg, nbl, ngl, zg, zl⟩ kp
          · intro σ H Q Q' hq h
            obtain ⟨v, h1, u, h2, i, j, e1, e2, k, e3, q⟩ := h
            exact ⟨v, h1, u, h2, i, j, e1, e2, k, e3, hq _ _ q⟩

/-! ### _law_box -/
def sp_box (K : PySem.W.Frag) : Sp := fun vs H Q _ => ∃ (s : Addr) (ns : List Int), vs = [.ref s] ∧ SqL K H s (ns.map V.int) ∧ ns.length ≤ 63 ∧
  ∀ (b g l : Addr) (H' : Hp), H b = none → H g = none → H l = none → BoxAt H' b g l 0 → Same H H' → Q (.ref b) H'
theorem ok_box (T : Txt K mg a) : FnOk P w K mg base CX0 1 a.f_box a.d_box ["_law_script"] (sp_box K) := by
  refine T.F_box.ok sc_box (fun vs H Q E h => ?_) (fun cdv A outer s H vs Q E hr h => ?_)
  · obtain ⟨s, ns, rfl, _⟩ := h
    rfl
  · obtain ⟨sc, ns, rfl, hS, hz, kk⟩ := h
    refine ⟨_, (pss_cons (ps_setLc (i := 1) (own := [("_law_cell", 2)]) (g := gName 2) rfl sc_box.nd rfl rfl (sw_true rfl rfl rfl (by decide +kernel)) (pi_list (pv 0)) (blkOk_by (own := [("_law_cell", 2)]) (N := ["_law_script", "_law_great", "_law_cell"]) (sc := defScope s_box) (by decide +kernel)) (fun _ _ _ _ _ => pg_name (i := 2) sc_box.nd rfl (Or.inl rfl)) (fun _ _ _ _ _ => pts_one (pt_cmpR op_ge (pv 2) (pe_op op_pow pe_int pe_int) (nomark _))) (fun _ _ _ _ _ => by exact (pv 2)))
      (pss_one (ps_ret (pe_lst (pa_cons (pv 1) (pa_cons pe_int (pa_cons (pe_lc (own := [("_law_cell", 2)]) (g := gName 2) rfl sc_box.nd (pi_list (pv 0)) (blkOk_by (own := [("_law_cell", 2)]) (N := ["_law_script", "_law_great", "_law_cell"]) (sc := defScope s_box) (by decide +kernel)) (fun _ _ _ _ _ => pg_name (i := 2) sc_box.nd rfl (Or.inl rfl)) (fun _ _ _ _ _ => pts_one (pt_cmpR op_lt (pv 2) (pe_op op_pow pe_int pe_int) (nomark _))) (fun _ _ _ _ _ => by exact (pv 2))) (pa_cons pe_int pa_nil)))))))), ?_⟩
    refine ⟨_, rfl, sc, rfl, ⟨_, hS⟩, fun g hg => ?_⟩
    have sG : ∀ o, Same H (upd H g o) := fun o => (Same.refl H).upd hg
    refine lc_list (K := K) (a := sc) (xs := ns.map V.int) (fun i H1 => Blk (∃ gs : List Int, H1 = upd H g (.lst (gs.map V.int)) ∧ gs.length ≤ i)) (Blk.of ⟨[], rfl, Nat.le_refl _⟩) (fun i H1 _ hB => ?_) ?_ ?_
    · obtain ⟨gs, rfl, _⟩ := hB.out
      exact (sG _).seq hS
    · intro i y H1 hi hB
      obtain ⟨gs, rfl, hl⟩ := hB.out
      obtain ⟨z, hz, rfl⟩ := ints_get hi
      have := get_lt hi
      rw [List.length_map] at this
      refine ⟨rfl, _, rfl, _, _, rfl, rfl, ⟨by decide, by decide, by decide⟩, _, _, rfl, rfl, _, rfl, iteD (fun hc => ?_) (fun hc => ?_)⟩
      · refine ⟨_, rfl, _, upd_same, by rw [List.length_map]; exact small (by omega), Blk.of ⟨gs ++ [z], ?_, by rw [List.length_append]; simp; omega⟩⟩
        rw [upd_upd, List.map_append]; rfl
      · exact Blk.of ⟨gs, rfl, by omega⟩
    · intro H1 hB
      obtain ⟨gs, rfl, hgl⟩ := hB.out
      rw [List.length_map] at hgl
      refine ⟨_, rfl, ?_⟩
      refine ⟨_, rfl, sc, rfl, ⟨_, (sG _).seq hS⟩, fun l hl => ?_⟩
      have ngl : g ≠ l := ne_of_none upd_same hl
      have hl0 : H l = none := by rw [upd_ne ngl.symm] at hl; exact hl
      refine lc_list (K := K) (a := sc) (xs := ns.map V.int) (fun i H1 => Blk (∃ ls : List Int, H1 = upd (upd H g (.lst (gs.map V.int))) l (.lst (ls.map V.int)) ∧ ls.length ≤ i)) (Blk.of ⟨[], rfl, Nat.le_refl _⟩) (fun i H1 _ hB => ?_) ?_ ?_
      · obtain ⟨ls, rfl, _⟩ := hB.out
        exact ((sG _).upd hl0).seq hS
      · intro i y H1 hi hB
        obtain ⟨ls, rfl, hl⟩ := hB.out
        obtain ⟨z, hz, rfl⟩ := ints_get hi
        have := get_lt hi
        rw [List.length_map] at this
        refine ⟨rfl, _, rfl, _, _, rfl, rfl, ⟨by decide, by decide, by decide⟩, _, _, rfl, rfl, _, rfl, iteD (fun hc => ?_) (fun hc => ?_)⟩
        · refine ⟨_, rfl, _, upd_same, by rw [List.length_map]; exact small (by omega), Blk.of ⟨ls ++ [z], ?_, by rw [List.length_append]; simp; omega⟩⟩
          rw [upd_upd, List.map_append]; rfl
        · exact Blk.of ⟨ls, rfl, by omega⟩
      · intro H1 hB
        obtain ⟨ls, rfl, hll⟩ := hB.out
        rw [List.length_map] at hll
        refine ⟨by show 4 ≤ sizeLine; decide, fun b hb => ?_⟩
        have nlb : l ≠ b := ne_of_none upd_same hb
        have hb' : upd H g (.lst (gs.map V.int)) b = none := by rw [upd_ne nlb.symm] at hb; exact hb
        have ngb : g ≠ b := ne_of_none upd_same hb'
        have hb0 : H b = none := by rw [upd_ne ngb.symm] at hb'; exact hb'
        exact kk b g l _ hb0 hg hl0 ⟨gs, ls, 0, upd_same, by rw [upd_ne ngb, upd_ne ngl, upd_same], by rw [upd_ne nlb, upd_same], ngb.symm, nlb.symm, ngl, by omega, by omega⟩ (((sG _).upd hl0).upd hb0)

/-! ### names that are drawn -/
theorem abc_at : ∀ j, j < 26 → ∃ c, ("abcdefghijklmnopqrstuvwxyz" : Str).cps.toList[j]? = some c ∧ My.letter c = true := by
  intro j hj
  have e : ("abcdefghijklmnopqrstuvwxyz" : Str).cps.toList = (List.range 26).map (· + 97) := by decide +kernel
  rw [e]
  refine ⟨j + 97, by rw [List.getElem?_map, List.getElem?_range hj]; rfl, ?_⟩
  unfold My.letter
  rw [decide_eq_true (by omega), decide_eq_true (by omega)]
  rfl
theorem abc_len : ("abcdefghijklmnopqrstuvwxyz" : Str).length ≤ sizeLine := by decide +kernel
theorem abc_ix {k : Int} (h0 : 0 ≤ k) (h1 : k < 26) : ∃ c, atI ("abcdefghijklmnopqrstuvwxyz" : Str).cps.toList k = some c ∧ My.letter c = true := by
  obtain ⟨j, rfl⟩ : ∃ j : Nat, k = j := ⟨k.toNat, by omega⟩
  obtain ⟨c, hc, l⟩ := abc_at j (by omega)
  exact ⟨c, atI_nat hc, l⟩
def sign (c : Nat) : Str := ⟨#[c]⟩
theorem join_signs (cs : List Nat) : Txt.join ("" : Str) (cs.map sign) = ⟨cs.toArray⟩ := by
  have e0 : ("" : Str) = SX.S [] := by decide +kernel
  have e1 : cs.map sign = (cs.map fun c => [c]).map SX.S := by rw [List.map_map]; rfl
  rw [e0, e1, SX.join_S]
  have e2 : ∀ l : List Nat, TL.joinL [] (l.map fun c => [c]) = l := by
    intro l
    induction l with
    | nil => rfl
    | cons x r ih =>
      cases r with
      | nil => rfl
      | cons y r =>
        show [x] ++ ([] ++ TL.joinL [] ((y :: r).map fun c => [c])) = _
        rw [ih]
        rfl
  rw [e2]
theorem name_of {cs : List Nat} (h1 : 1 ≤ cs.length) (h2 : cs.length ≤ 8) (hl : cs.all My.letter = true) : My.nameB ⟨cs.toArray⟩ = true := by
  unfold My.nameB
  have e : (cs.toArray).size = cs.length := by simp
  simp only [e]
  rw [decide_eq_true h1, decide_eq_true h2]
  simpa using hl
theorem nameB_out {s : Str} (h : My.nameB s = true) : 1 ≤ s.cps.size ∧ s.cps.size ≤ 8 ∧ s.cps.toList.all My.letter = true := by
  unfold My.nameB at h
  simp only [Bool.and_eq_true, decide_eq_true_eq] at h
  exact ⟨h.1.1, h.1.2, h.2⟩
theorem name_len {s : Str} (h : My.nameB s = true) : s.length ≤ 8 := (nameB_out h).2.1
theorem name_line {s : Str} (h : My.nameB s = true) : s.length ≤ sizeLine := Nat.le_trans (name_len h) (by rw [sizeLine_eq]; decide)
theorem cut7 (z : Str) : cutS z none (some 7) = ⟨(z.cps.toList.take 7).toArray⟩ := by
  unfold cutS
  congr 1
  congr 1
  have e0 : HT.sIx z.length 0 none = 0 := rfl
  have e1 : HT.sIx z.length z.length (some 7) = min 7 z.length := HT.sIx_nat _ _ 7
  rw [e0, e1, List.drop_zero, Nat.sub_zero]
  have hl : z.cps.toList.length = z.length := Array.length_toList
  by_cases h : 7 ≤ z.length
  · rw [Nat.min_eq_left h]
  · rw [Nat.min_eq_right (by omega), List.take_of_length_le (by omega), List.take_of_length_le (by omega)]
theorem name_cut {z : Str} {c : Nat} (h : My.nameB z = true) (hc : My.letter c = true) : My.nameB (cutS z none (some 7) ++ sign c) = true := by
  rw [cut7]
  have e : ((⟨(z.cps.toList.take 7).toArray⟩ : Str) ++ sign c) = ⟨(z.cps.toList.take 7 ++ [c]).toArray⟩ := SX.S_cat _ _
  rw [e]
  have hl := (nameB_out h).2.2
  refine name_of ?_ ?_ ?_
  · rw [List.length_append]; simp
  · rw [List.length_append, List.length_take]; simp; omega
  · rw [List.all_append]
    have : (z.cps.toList.take 7).all My.letter = true := List.all_eq_true.mpr fun x hx => (List.all_eq_true.mp hl) x (List.mem_of_mem_take hx)
    rw [this]
    simpa using hc
theorem offbox {b g l x : Addr} {n : Int} {H0 : Hp} (bx : BoxAt H0 b g l n) (hx : H0 x = none) : x ∉ [b, g] := by
  obtain ⟨gs, ls, cur, e1, e2, _⟩ := bx
  intro hq
  simp at hq
  rcases hq with rfl | rfl
  · rw [e1] at hx; cases hx
  · rw [e2] at hx; cases hx
theorem offbox3 {b g l x : Addr} {n : Int} {H0 : Hp} (bx : BoxAt H0 b g l n) (hx : H0 x = none) : x ∉ [b, g, l] := by
  obtain ⟨gs, ls, cur, e1, e2, e3, _⟩ := bx
  intro hq
  simp at hq
  rcases hq with rfl | rfl | rfl
  · rw [e1] at hx; cases hx
  · rw [e2] at hx; cases hx
  · rw [e3] at hx; cases hx
theorem box_put {H : Hp} {b g l x : Addr} {n : Int} {o : HO} (h : BoxAt H b g l n) (hx : x ∉ [b, g, l]) : BoxAt (upd H x o) b g l n := by
  obtain ⟨gs, ls, cur, e1, e2, e3, r⟩ := h
  simp at hx
  exact ⟨gs, ls, cur, by rw [upd_ne (Ne.symm hx.1)]; exact e1, by rw [upd_ne (Ne.symm hx.2.1)]; exact e2, by rw [upd_ne (Ne.symm hx.2.2)]; exact e3, r⟩
def sp_name : Sp := fun vs H Q _ => ∃ (b g l : Addr) (n : Int), vs = [.ref b] ∧ BoxAt H b g l n ∧ 0 ≤ n ∧ n < 9000000 ∧ ∀ (s : Str) (n' : Int) (H' : Hp), My.nameB s = true → n ≤ n' → n' ≤ n + 10 → BoxAt H' b g l n' → Keeps [b, g] H H' → Q (.str s) H'
theorem ok_name (T : Txt K mg a) : FnOk P w K mg base CX0 3 a.f_name a.d_name ["_law_box_here"] sp_name := by
  refine T.F_name.ok sc_name (fun vs H Q E h => ?_) (fun cdv A outer s H vs Q E hr h => ?_)
  · obtain ⟨b, g, l, n, rfl, _⟩ := h
    rfl
  · obtain ⟨b, g, l, n, rfl, bx, n0, n1, kk⟩ := h
    refine ⟨_, (pss_cons (ps_set (i := 1) sc_name.nd rfl (Or.inl rfl) (pe_op op_add pe_int (pe_call (ok_take T) (hr.mono (by decide)) rfl T.g_take T.k_take T.B_take .nil pass0 (pa_cons (pv 0) (pa_cons (pe_ix ix_list (pe_lst (pa_cons pe_int (pa_cons pe_int (pa_cons pe_int pa_nil)))) (pe_call (ok_take T) (hr.mono (by decide)) rfl T.g_take T.k_take T.B_take .nil pass0 (pa_cons (pv 0) (pa_cons pe_int pa_nil))) (fun _ _ => rfl)) pa_nil)))))
      (pss_one (ps_ret (pe_join pe_str (pe_lc (own := [("_law_k", 2)]) (g := gName 2) (tt := tYes) rfl sc_name.nd (pi_range1 (by rfl) T.z_range (pa_cons (pv 1) pa_nil)) (blkOk_by (own := [("_law_k", 2)]) (N := ["_law_box_here", "_law_many", "_law_k"]) (sc := defScope s_name) (by decide +kernel)) (fun _ _ _ _ _ => pg_name (i := 2) sc_name.nd rfl (Or.inl rfl)) (fun _ _ _ _ _ => pts_nil) (fun _ _ _ _ _ => by exact (pe_ix ix_str pe_str (pe_call (ok_take T) (hr.mono (by decide)) rfl T.g_take T.k_take T.B_take .nil pass0 (pa_cons (pv 0) (pa_cons pe_int pa_nil))) (fun _ _ => rfl)))))))), ?_⟩
    refine ⟨_, rfl, by show 3 ≤ sizeLine; decide, fun L hL => ?_⟩
    refine ⟨_, rfl, b, g, l, n, 3, rfl, bx.upd hL, n0, by omega, by decide, by decide, fun k H1 k0 k1 bx1 kp1 => ?_⟩
    have hL1 : H1 L = some (.lst [.int 1, .int 2, .int 8]) := kp1 _ _ upd_same (offbox bx hL)
    obtain ⟨z, hz, z0, z1⟩ : ∃ z : Int, atI [V.int 1, .int 2, .int 8] k = some (.int z) ∧ 0 < z ∧ z ≤ 8 := by
      have : k = 0 ∨ k = 1 ∨ k = 2 := by omega
      rcases this with rfl | rfl | rfl
      · exact ⟨_, rfl, by decide, by decide⟩
      · exact ⟨_, rfl, by decide, by decide⟩
      · exact ⟨_, rfl, by decide, by decide⟩
    have z2 : z.natAbs.log2 < 9000 := by
      have : z = 1 ∨ z = 2 ∨ z = 3 ∨ z = 4 ∨ z = 5 ∨ z = 6 ∨ z = 7 ∨ z = 8 := by omega
      rcases this with rfl | rfl | rfl | rfl | rfl | rfl | rfl | rfl <;> decide
    refine ⟨_, _, _, _, rfl, rfl, SqL.of hL1, hz, ?_⟩
    refine ⟨b, g, l, n + 1, z, rfl, bx1, by omega, by omega, z0, z2, fun m H2 m0 m1 bx2 kp2 => ?_⟩
    refine ⟨_, _, rfl, rfl, ?_⟩
    have k02 : Keeps [b, g] H H2 := (((Keeps.refl [b, g] H).upd (.inr hL)).trans kp1).trans kp2
    refine ⟨⟨_, rfl⟩, ?_⟩
    refine ⟨_, rfl, 1 + m, rfl, by omega, by omega, fun D hD => ?_⟩
    have hD0 : D ∉ [b, g] := offbox bx2 hD
    refine lc_range (lo := 0) (n := (1 + m).toNat) (fun i H3 => Blk (∃ cs : List Nat, cs.length = i ∧ cs.all My.letter = true ∧ H3 D = some (.lst ((cs.map sign).map V.str)) ∧ BoxAt H3 b g l (n + 2 + i) ∧ Keeps [b, g] H H3)) ?_ ?_ ?_
    · refine Blk.of ⟨[], rfl, rfl, upd_same, ?_, k02.upd ?_⟩
      · have e : n + 2 + ((0 : Nat) : Int) = n + 1 + 1 := by omega
        rw [e]
        exact bx2.upd hD
      · exact .inr (by
          rcases k02.fresh hD with q | q
          · exact absurd q hD0
          · exact q)
    · intro i H3 hi hB
      obtain ⟨cs, rfl, hl, h3, bx3, kp3⟩ := hB.out
      refine ⟨rfl, ?_⟩
      dsimp only [tYes]
      refine iteT ?_
      refine ⟨_, rfl, b, g, l, _, 26, rfl, bx3, by omega, by omega, by decide, by decide, fun j H4 j0 j1 bx4 kp4 => ?_⟩
      obtain ⟨c, hc, lc⟩ := abc_ix j0 j1
      refine ⟨_, _, _, rfl, rfl, abc_len, hc, ?_⟩
      have h4 := kp4 _ _ h3 hD0
      refine ⟨_, h4, ?_, Blk.of ⟨cs ++ [c], by rw [List.length_append]; rfl, by rw [List.all_append, hl]; simpa using lc, ?_, ?_, ?_⟩⟩
      · rw [List.length_map, List.length_map]
        exact small (by omega)
      · rw [upd_same, List.map_append, List.map_append]
        rfl
      · have e : n + 2 + ((cs.length + 1 : Nat) : Int) = n + 2 + (cs.length : Int) + 1 := by omega
        rw [e]
        exact box_put bx4 fun q => offbox3 bx2 hD q
      · refine (kp3.trans kp4).upd (.inr ?_)
        rcases k02.fresh hD with q | q
        · exact absurd q hD0
        · exact q
    · intro H3 hB
      obtain ⟨cs, hcl, hl, h3, bx3, kp3⟩ := hB.out
      refine ⟨_, D, cs.map sign, rfl, rfl, .inl (SqL.of h3), ?_, ?_⟩
      · have e : ((cs.map sign).map (·.length)).sum = cs.length := by
          rw [List.map_map]
          clear h3 hl hcl
          induction cs with
          | nil => rfl
          | cons x r ih => rw [List.map_cons, List.sum_cons, ih]; show 1 + r.length = _; rw [List.length_cons]; omega
        rw [e, List.length_map]
        have : ("" : Str).length = 0 := by decide +kernel
        rw [this]
        omega
      · rw [join_signs]
        exact kk _ _ _ (name_of (by omega) (by omega) hl) (by omega) (by omega) bx3 kp3

/-! ### _law_names -/
def sp_names : Sp := fun vs H Q _ => ∃ (b g l : Addr) (n m : Int), vs = [.ref b, .int m] ∧ BoxAt H b g l n ∧ 0 ≤ n ∧ n < 8000000 ∧ 0 ≤ m ∧ m ≤ 14 ∧
  ∀ (p : Addr) (ns : List Str) (n' : Int) (H' : Hp), H p = none → H' p = some (.lst (ns.map V.str)) → (ns.length : Int) = m → (∀ s, s ∈ ns → My.nameB s = true) → ns.Nodup → n ≤ n' → n' ≤ n + 12 * m → BoxAt H' b g l n' → Keeps [b, g] H H' → Q (.ref p) H'
theorem ok_names (T : Txt K mg a) : FnOk P w K mg base CX0 4 a.f_names a.d_names ["_law_box_here", "_law_many"] sp_names := by
  refine T.F_names.ok sc_names (fun vs H Q E h => ?_) (fun cdv A outer s H vs Q E hr h => ?_)
  · obtain ⟨b, g, l, n, m, rfl, _⟩ := h
    rfl
  · obtain ⟨b, g, l, n, m, rfl, bx, n0, n1, m0, m1, kk⟩ := h
    refine ⟨_, (pss_cons (ps_set (i := 2) sc_names.nd rfl (Or.inl rfl) (pe_lst pa_nil))
      (pss_cons (ps_for PassesOwn.never rfl (pi_range1 (by rfl) T.z_range (pa_cons (pv 1) pa_nil)) (pg_name (i := 3) sc_names.nd rfl (Or.inl rfl)) (pss_cons (ps_set (i := 4) sc_names.nd rfl (Or.inl rfl) (pe_call (ok_name T) (hr.mono (by decide)) rfl T.g_name T.k_name T.B_name .nil pass0 (pa_cons (pv 0) pa_nil)))
      (C8.pss_cut (ps_if (PW.pt (pw_and (pt_cmpR op_gt (pe_callB call_len_seq (by rfl) T.z_len (by decide +kernel) (pa_cons (pv 2) pa_nil)) pe_int (nomark _)) (pw_and1 (pt_cmpR op_eq (pe_call (ok_take T) (hr.mono (by decide)) rfl T.g_take T.k_take T.B_take .nil pass0 (pa_cons (pv 0) (pa_cons pe_int pa_nil))) pe_int (nomark _))))) (pss_one (ps_set (i := 4) sc_names.nd rfl (Or.inl rfl) (pe_op op_add_str (pe_slice sl_str (pe_ix ix_list (pv 2) (pe_un un_neg pe_int) (fun _ _ => rfl)) po_none (po_some pe_int)) (pe_ix ix_str pe_str (pe_call (ok_take T) (hr.mono (by decide)) rfl T.g_take T.k_take T.B_take .nil pass0 (pa_cons (pv 0) (pa_cons pe_int pa_nil))) (fun _ _ => rfl))))) pss_nil)
      (pss_cons (ps_for PassesOwn.never rfl (pi_list (pe_lst (pa_cons pe_str (pa_cons pe_str (pa_cons pe_str (pa_cons pe_str (pa_cons pe_str (pa_cons pe_str (pa_cons pe_str (pa_cons pe_str (pa_cons pe_str (pa_cons pe_str (pa_cons pe_str (pa_cons pe_str (pa_cons pe_str (pa_cons pe_str (pa_cons pe_str (pa_cons pe_str pa_nil)))))))))))))))))) (pg_name (i := 5) sc_names.nd rfl (Or.inl rfl)) (pss_one (ps_if (pt_cmpR op_in_seq (pv 4) (pv 2) (by rfl)) (pss_one (ps_set (i := 4) sc_names.nd rfl (Or.inl rfl) (pv 5))) pss_nil)))
      (pss_one (ps_expr (pe_bm PySem.F.plainAttrs_list PySem.F.slot_list_append PySem.F.type_list_append mt_append (pv 2) (pa_cons (pv 4) pa_nil))))))))
      (pss_one (ps_ret (pv 2))))), ?_⟩
    refine ⟨by show 0 ≤ sizeLine; decide, fun F hF => ?_⟩
    refine ⟨_, rfl, m, rfl, by omega, by omega, ?_⟩
    have hF0 : F ∉ [b, g, l] := offbox3 bx hF
    have hF2 : F ∉ [b, g] := offbox bx hF
    refine for_range (lo := 0) (n := m.toNat) (fun i σ H1 => Blk (∃ (v3 v4 v5 : Option V) (ns : List Str) (n1 : Int), σ = [some (.ref b), some (.int m), some (.ref F), v3, v4, v5] ∧ ns.length = i ∧ (∀ s, s ∈ ns → My.nameB s = true) ∧ ns.Nodup ∧ n ≤ n1 ∧ n1 ≤ n + 12 * i ∧
      H1 F = some (.lst (ns.map V.str)) ∧ BoxAt H1 b g l n1 ∧ Keeps [b, g] H H1)) ?_ ?_ ?_
    · exact Blk.of ⟨_, _, _, [], n, rfl, rfl, fun s hs => by simp at hs, List.nodup_nil, by omega, by omega, upd_same, bx.upd hF, (Keeps.refl [b, g] H).upd (.inr hF)⟩
    · intro i σ H1 hi hB
      obtain ⟨v3, v4, v5, ns, n2, rfl, rfl, hnm, hnd, hn1, hn2, h1, bx1, kp1⟩ := hB.out
      refine ⟨_, rfl, b, g, l, n2, rfl, bx1, by omega, by omega, fun x n3 H2 nx hn3 hn4 bx2 kp2 => ?_⟩
      have h2 := kp2 _ _ h1 hF2
      refine ⟨fun σ H3 => Blk (∃ (x : Str) (n4 : Int), σ = [some (.ref b), some (.int m), some (.ref F), some (.int (0 + (ns.length : Nat))), some (.str x), v5] ∧ My.nameB x = true ∧ n3 ≤ n4 ∧ n4 ≤ n3 + 2 ∧ H3 F = some (.lst (ns.map V.str)) ∧ BoxAt H3 b g l n4 ∧ Keeps [b, g] H H3), ?_, ?_⟩
      · refine ⟨_, rfl, _, _, rfl, .inl (SqL.of h2), _, _, rfl, rfl, _, rfl, ?_⟩
        refine iteD (fun hp => ?_) (fun hp => ?_)
        · refine ⟨_, rfl, b, g, l, n3, 3, rfl, bx2, by omega, by omega, by decide, by decide, fun k H3 k0 k1 bx3 kp3 => ?_⟩
          have h3 := kp3 _ _ h2 hF2
          refine ⟨rfl, _, rfl, ?_⟩
          refine iteB (fun hk => ?_) (fun hk => ?_)
          · have hne : ns ≠ [] := fun e => by
              subst e
              simp at hp
            obtain ⟨l0, y, rfl⟩ : ∃ l0 y, ns = l0 ++ [y] := ⟨ns.dropLast, ns.getLast hne, (List.dropLast_concat_getLast hne).symm⟩
            have hy := hnm y (by simp)
            refine ⟨_, rfl, _, rfl, _, _, _, _, rfl, rfl, SqL.of h3, (by rw [List.map_append]; exact atI_last _ _), ?_⟩
            refine ⟨_, rfl, _, rfl, name_line hy, ?_⟩
            refine ⟨_, rfl, b, g, l, n3 + 1, 26, rfl, bx3, by omega, by omega, by decide, by decide, fun j H4 j0 j1 bx4 kp4 => ?_⟩
            obtain ⟨c, hc, lc⟩ := abc_ix j0 j1
            have h4 := kp4 _ _ h3 hF2
            refine ⟨_, _, _, rfl, rfl, abc_len, hc, ?_⟩
            refine ⟨_, _, rfl, rfl, ?_, ?_⟩
            · have e1 : (cutS y none (some 7)).length ≤ 7 := by
                rw [cut7]
                show ((y.cps.toList.take 7).toArray).size ≤ 7
                simp
                omega
              have e2 : (⟨#[c]⟩ : Str).length = 1 := rfl
              rw [e2, sizeLine_eq]
              omega
            · exact Blk.of ⟨_, _, rfl, name_cut hy lc, by omega, by omega, h4, bx4, ((kp1.trans kp2).trans kp3).trans kp4⟩
          · exact Blk.of ⟨x, _, rfl, nx, by omega, by omega, h3, bx3, (kp1.trans kp2).trans kp3⟩
        · refine iteF ?_
          exact Blk.of ⟨x, n3, rfl, nx, by omega, by omega, h2, bx2, kp1.trans kp2⟩
      · rintro σ H3 hB
        obtain ⟨x, n4, rfl, nx, hn5, hn6, h3, bx3, kp3⟩ := hB.out
        refine ⟨by show 16 ≤ sizeLine; decide, fun L hL => ?_⟩
        have nFL : F ≠ L := ne_of_none h3 hL
        refine ⟨L, rfl, ⟨_, SqL.of upd_same⟩, ?_⟩
        refine for_list (K := K) (a := L) (xs := My.spares.map V.str) (fun i σ H4 => Blk (∃ (v5 : Option V) (x : Str), σ = [some (.ref b), some (.int m), some (.ref F), some (.int (0 + (ns.length : Nat))), some (.str x), v5] ∧ My.Seek ns i x ∧ H4 = upd H3 L (.lst (My.spares.map V.str)))) ?_ ?_ ?_ ?_
        · exact Blk.of ⟨_, x, rfl, My.Seek.first nx, rfl⟩
        · intro i σ H4 _ hB
          obtain ⟨v5, x, rfl, _, rfl⟩ := hB.out
          exact SqL.of upd_same
        · intro i y σ H4 hy hB
          obtain ⟨v5, x, rfl, sk, rfl⟩ := hB.out
          obtain ⟨s, hs, rfl⟩ := strs_get hy
          refine ⟨_, rfl, _, rfl, F, _, rfl, .inl (SqL.of ((upd_ne nFL).trans h3)), rfl, flat_str _, _, rfl, ?_⟩
          rw [if_neg Bool.false_ne_true, inV_str]
          refine iteD (fun hm => ?_) (fun hm => ?_)
          · exact ⟨_, rfl, Blk.of ⟨_, s, rfl, sk.next hm hs, rfl⟩⟩
          · exact Blk.of ⟨_, x, rfl, sk.keep hm, rfl⟩
        · intro σ H4 hB
          obtain ⟨v5, x, rfl, sk, rfl⟩ := hB.out
          obtain ⟨nx2, nin⟩ := sk.done (by omega)
          refine ⟨_, rfl, .inl ⟨rfl, _, SqL.of ((upd_ne nFL).trans h3)⟩, _, rfl, F, _, _, rfl, rfl, (upd_ne nFL).trans h3, by rw [List.length_map]; exact small (by omega), ?_⟩
          refine Blk.of ⟨_, _, _, ns ++ [x], n4, rfl, by rw [List.length_append]; rfl, ?_, ?_, by omega, by omega, ?_, ?_, ?_⟩
          · intro s hs
            rcases List.mem_append.mp hs with e | e
            · exact hnm s e
            · simp at e; subst e; exact nx2
          · rw [List.nodup_append]
            exact ⟨hnd, by simp, fun a ha b hb => by simp at hb; subst hb; exact fun e => nin (e ▸ ha)⟩
          · rw [upd_same, List.map_append]; rfl
          · exact box_put (bx3.upd hL) hF0
          · refine (kp3.upd (.inr ?_)).upd (.inr hF)
            rcases kp3.fresh hL with q | q
            · exact absurd q (offbox bx3 hL)
            · exact q
    · intro σ H1 hB
      obtain ⟨v3, v4, v5, ns, n2, rfl, hl, hnm, hnd, hn1, hn2, h1, bx1, kp1⟩ := hB.out
      exact ⟨_, rfl, kk F ns n2 H1 hF h1 (by omega) hnm hnd hn1 (by omega) bx1 kp1⟩

/-! ### pairs of words -/
def prO (p : My.Pr) : HO := .tup [.str p.1, .str p.2.1, .bl p.2.2]
/-- at as stand the objects of xs -/
structure Objs {α : Type} (H : Hp) (as : List Addr) (f : α → HO) (xs : List α) : Prop where
  len : as.length = xs.length
  at_ : ∀ (i : Nat) (h : Addr) (x : α), as[i]? = some h → xs[i]? = some x → H h = some (f x)
theorem Objs.keep {α : Type} {H H' : Hp} {R as : List Addr} {f : α → HO} {xs : List α} (o : Objs H as f xs) (k : Keeps R H H') (d : ∀ x, x ∈ R → x ∉ as) : Objs H' as f xs :=
  ⟨o.len, fun i h x e1 e2 => k _ _ (o.at_ i h x e1 e2) fun q => d h q (List.mem_of_getElem? e1)⟩
theorem Objs.same {α : Type} {H H' : Hp} {as : List Addr} {f : α → HO} {xs : List α} (o : Objs H as f xs) (k : Same H H') : Objs H' as f xs :=
  ⟨o.len, fun i h x e1 e2 => k _ _ (o.at_ i h x e1 e2)⟩
theorem Objs.get {α : Type} {H : Hp} {as : List Addr} {f : α → HO} {xs : List α} (o : Objs H as f xs) {i : Nat} {h : Addr} (e : as[i]? = some h) : ∃ x, xs[i]? = some x ∧ H h = some (f x) := by
  have hl := get_lt e
  rw [o.len] at hl
  have e2 : xs[i]? = some xs[i] := List.getElem?_eq_getElem hl
  exact ⟨_, e2, o.at_ i h _ e e2⟩
theorem Objs.nil {α : Type} {H : Hp} {f : α → HO} : Objs H [] f [] := ⟨rfl, fun i h x e => by simp at e⟩
theorem Objs.snoc {α : Type} {H : Hp} {as : List Addr} {f : α → HO} {xs : List α} (o : Objs H as f xs) {h : Addr} {x : α} (e : H h = some (f x)) : Objs H (as ++ [h]) f (xs ++ [x]) := by
  refine ⟨by rw [List.length_append, List.length_append, o.len]; rfl, fun i h' x' e1 e2 => ?_⟩
  by_cases hi : i < as.length
  · rw [List.getElem?_append_left hi] at e1
    rw [List.getElem?_append_left (by rw [← o.len]; exact hi)] at e2
    exact o.at_ i h' x' e1 e2
  · have hl := get_lt e1
    rw [List.length_append, List.length_singleton] at hl
    obtain rfl : i = as.length := by omega
    have e3 : as.length = xs.length := o.len
    simp at e1
    rw [e3] at e2
    simp at e2
    subst e1 e2
    exact e
theorem Objs.take {α : Type} {H : Hp} {as : List Addr} {f : α → HO} {xs : List α} (o : Objs H as f xs) (n : Nat) : Objs H (as.take n) f (xs.take n) := by
  refine ⟨by rw [List.length_take, List.length_take, o.len], fun i h x e1 e2 => ?_⟩
  by_cases hi : i < n
  · rw [List.getElem?_take, if_pos hi] at e1 e2
    exact o.at_ i h x e1 e2
  · rw [List.getElem?_take, if_neg hi] at e1
    cases e1
def sp_pairs : Sp := fun vs H Q _ => ∃ (b g l : Addr) (n m : Int), vs = [.ref b, .int m] ∧ BoxAt H b g l n ∧ 0 ≤ n ∧ n < 7000000 ∧ 0 ≤ m ∧ m ≤ 6 ∧
  ∀ (p : Addr) (as : List Addr) (ps : List My.Pr) (n' : Int) (H' : Hp), H p = none → H' p = some (.lst (as.map V.ref)) → Objs H' as prO ps → (∀ h, h ∈ as → H h = none) → My.PairsOk ps → n ≤ n' → n' ≤ n + 200 → BoxAt H' b g l n' → Keeps [b, g] H H' → Q (.ref p) H'
theorem cutV_tail (xs : List V) : cutV xs (some 1) none = xs.drop 1 := by
  unfold cutV
  have e0 : HT.sIx xs.length 0 (some 1) = min 1 xs.length := HT.sIx_nat _ _ 1
  have e1 : HT.sIx xs.length xs.length none = xs.length := rfl
  rw [e0, e1]
  cases xs with
  | nil => rfl
  | cons x r =>
    have : min 1 (x :: r).length = 1 := by rw [List.length_cons]; omega
    rw [this]
    refine List.take_of_length_le ?_
    rw [List.length_drop]
    exact Nat.le_refl _
theorem cutV_head (xs : List V) : cutV xs none (some 1) = xs.take 1 := by
  unfold cutV
  have e0 : HT.sIx xs.length 0 none = 0 := rfl
  have e1 : HT.sIx xs.length xs.length (some 1) = min 1 xs.length := HT.sIx_nat _ _ 1
  rw [e0, e1, List.drop_zero, Nat.sub_zero]
  cases xs with
  | nil => rfl
  | cons x r =>
    have : min 1 (x :: r).length = 1 := by rw [List.length_cons]; omega
    rw [this]
theorem ok_pairs (T : Txt K mg a) : FnOk P w K mg base CX0 5 a.f_pairs a.d_pairs ["_law_box_here", "_law_most"] sp_pairs := by
  refine T.F_pairs.ok sc_pairs (fun vs H Q E h => ?_) (fun cdv A outer s H vs Q E hr h => ?_)
  · obtain ⟨b, g, l, n, m, rfl, _⟩ := h
    rfl
  · obtain ⟨b, g, l, n, m, rfl, bx, n0, n1, m0, m1, kk⟩ := h
    refine ⟨_, (pss_cons (ps_set (i := 2) sc_pairs.nd rfl (Or.inl rfl) (pe_call (ok_names T) (hr.mono (by decide)) rfl T.g_names T.k_names T.B_names .nil pass0 (pa_cons (pv 0) (pa_cons (pe_call (ok_take T) (hr.mono (by decide)) rfl T.g_take T.k_take T.B_take .nil pass0 (pa_cons (pv 0) (pa_cons (pe_op op_add (pv 1) pe_int) pa_nil))) pa_nil))))
      (pss_cons (ps_set (i := 3) sc_pairs.nd rfl (Or.inl rfl) (pe_call (ok_names T) (hr.mono (by decide)) rfl T.g_names T.k_names T.B_names .nil pass0 (pa_cons (pv 0) (pa_cons (pe_callB call_len_seq (by rfl) T.z_len (by decide +kernel) (pa_cons (pv 2) pa_nil)) pa_nil))))
      (C8.pss_cut (ps_if (pt_cmpR op_eq (pe_call (ok_take T) (hr.mono (by decide)) rfl T.g_take T.k_take T.B_take .nil pass0 (pa_cons (pv 0) (pa_cons pe_int pa_nil))) pe_int (nomark _)) (pss_one (ps_set (i := 3) sc_pairs.nd rfl (Or.inl rfl) (pe_op op_cat (pe_slice sl_list (pv 2) (po_some pe_int) po_none) (pe_slice sl_list (pv 2) po_none (po_some pe_int))))) pss_nil)
      (pss_one (ps_ret (pe_lc (own := [("_law_near", 4), ("_law_far", 5)]) (g := (gTup K 2 (gCons (gName 4) (gCons (gName 5) gNil)))) (tt := tYes) rfl sc_pairs.nd (pi_zip (by rfl) T.z_zip (pa_cons (pv 2) (pa_cons (pv 3) pa_nil))) (blkOk_by (own := [("_law_near", 4), ("_law_far", 5)]) (N := ["_law_box_here", "_law_most", "_law_nears", "_law_fars", "_law_near", "_law_far"]) (sc := defScope s_pairs) (by decide +kernel)) (fun _ _ _ _ _ => by exact pg_tup rfl (pgs_cons (pg_name (i := 4) sc_pairs.nd rfl (Or.inl rfl)) (pgs_cons (pg_name (i := 5) sc_pairs.nd rfl (Or.inl rfl)) pgs_nil))) (fun _ _ _ _ _ => pts_nil) (fun _ _ _ _ _ => by exact (pe_tup (pa_cons (pv 4) (pa_cons (pv 5) (pa_cons (pe_cmpR op_eq (pe_call (ok_take T) (hr.mono (by decide)) rfl T.g_take T.k_take T.B_take .nil pass0 (pa_cons (pv 0) (pa_cons pe_int pa_nil))) pe_int (nomark _)) pa_nil))))))))))), ?_⟩
    refine ⟨_, rfl, _, rfl, _, rfl, _, _, rfl, rfl, ?_⟩
    have lm : (m + 1).natAbs.log2 < 9000 := by
      have : m = 0 ∨ m = 1 ∨ m = 2 ∨ m = 3 ∨ m = 4 ∨ m = 5 ∨ m = 6 := by omega
      rcases this with rfl | rfl | rfl | rfl | rfl | rfl | rfl <;> decide
    refine ⟨b, g, l, n, m + 1, rfl, bx, n0, by omega, by omega, lm, fun k H1 k0 k1 bx1 kp1 => ?_⟩
    refine ⟨b, g, l, n + 1, k, rfl, bx1, by omega, by omega, k0, by omega, fun N ns n2 H2 hN hN2 hl2 nm2 nd2 a2 b2 bx2 kp2 => ?_⟩
    refine ⟨_, rfl, _, rfl, N, _, rfl, .inl (SqL.of hN2), ?_⟩
    refine ⟨b, g, l, n2, _, rfl, bx2, by omega, by omega, by omega, by rw [List.length_map]; omega, fun F fs n3 H3 hF hF3 hl3 nm3 nd3 a3 b3 bx3 kp3 => ?_⟩
    rw [List.length_map] at hl3 b3
    have hN3 := kp3 _ _ hN2 (offbox bx1 hN ∘ fun q => q)
    have k03 := (kp1.trans kp2).trans kp3
    have hl32 : fs.length = ns.length := by omega
    have frN : H N = none := by
      rcases kp1.fresh hN with q | q
      · exact absurd q (offbox bx1 hN)
      · exact q
    have frF : H F = none := by
      rcases (kp1.trans kp2).fresh hF with q | q
      · exact absurd q (offbox bx2 hF)
      · exact q
    refine ⟨fun σ H4 => Blk (∃ (F : Addr) (fs : List Str) (n4 : Int), σ = [some (.ref b), some (.int m), some (.ref N), some (.ref F), none, none] ∧ fs.length = ns.length ∧ (∀ s, s ∈ fs → My.nameB s = true) ∧ fs.Nodup ∧ H4 N = some (.lst (ns.map V.str)) ∧ H4 F = some (.lst (fs.map V.str)) ∧ F ∉ [b, g] ∧
      n3 ≤ n4 ∧ n4 ≤ n3 + 1 ∧ BoxAt H4 b g l n4 ∧ Keeps [b, g] H H4), ?_, ?_⟩
    · refine ⟨_, rfl, b, g, l, n3, 3, rfl, bx3, by omega, by omega, by decide, by decide, fun k3 H4 k30 k31 bx4 kp4 => ?_⟩
      have hN4 := kp4 _ _ hN3 (offbox bx1 hN)
      have hF4 := kp4 _ _ hF3 (offbox bx2 hF)
      refine ⟨rfl, _, rfl, ?_⟩
      refine iteB (fun hk => ?_) (fun hk => ?_)
      · refine ⟨_, rfl, _, rfl, N, _, rfl, SqL.of hN4, fun p1 hp1 => ?_⟩
        have np1 : N ≠ p1 := ne_of_none hN4 hp1
        refine ⟨_, rfl, _, rfl, N, _, rfl, SqL.of ((upd_ne np1).trans hN4), fun p2 hp2 => ?_⟩
        have np2 : N ≠ p2 := ne_of_none ((upd_ne np1).trans hN4) hp2
        have n12 : p1 ≠ p2 := ne_of_none upd_same hp2
        have hp20 : H4 p2 = none := (upd_ne n12.symm).symm.trans hp2
        refine ⟨p1, p2, _, _, rfl, rfl, (upd_ne n12).trans upd_same, upd_same, ?_, fun p3 hp3 => ?_⟩
        · rw [cutV_tail, cutV_head, List.length_drop, List.length_take, List.length_map]
          exact Nat.le_of_lt (small (by omega))
        have n23 : p2 ≠ p3 := ne_of_none upd_same hp3
        have hp31 := (upd_ne n23.symm).symm.trans hp3
        have n13 : p1 ≠ p3 := ne_of_none upd_same hp31
        have hp30 : H4 p3 = none := (upd_ne n13.symm).symm.trans hp31
        have nN3 : N ≠ p3 := ne_of_none hN4 hp30
        refine Blk.of ⟨p3, ns.drop 1 ++ ns.take 1, n3 + 1, rfl, My.rot_len ns, ?_, My.rot_nodup nd2, ?_, ?_, ?_, by omega, by omega, ?_, ?_⟩
        · intro s hs
          rcases List.mem_append.mp hs with e | e
          · exact nm2 s (List.mem_of_mem_drop e)
          · exact nm2 s (List.mem_of_mem_take e)
        · rw [upd_ne nN3, upd_ne np2, upd_ne np1]
          exact hN4
        · rw [upd_same, cutV_tail, cutV_head, List.map_append, List.map_drop, List.map_take]
        · exact offbox bx4 hp30
        · exact ((bx4.upd hp1).upd hp2).upd hp3
        · have k04 := k03.trans kp4
          have fr : ∀ {x : Addr}, H4 x = none → x ∈ [b, g] ∨ H x = none := fun hx => k04.fresh hx
          exact ((k04.upd (fr hp1)).upd (fr hp20)).upd (fr hp30)
      · exact Blk.of ⟨F, fs, n3 + 1, rfl, hl32, nm3, nd3, hN4, hF4, offbox bx2 hF, by omega, by omega, bx4, k03.trans kp4⟩
    · rintro σ H4 hB
      obtain ⟨F, fs, n4, rfl, hlf, nmf, ndf, hN4, hF4, oF, a4, b4, bx4, k04⟩ := hB.out
      have frN4 : H4 N = some (.lst (ns.map V.str)) := hN4
      refine ⟨_, rfl, _, rfl, N, F, _, _, rfl, SqL.of hN4, SqL.of hF4, fun D hD => ?_⟩
      have hDo : D ∉ [b, g] := offbox bx4 hD
      have hDo3 : D ∉ [b, g, l] := offbox3 bx4 hD
      have nND : N ≠ D := ne_of_none hN4 hD
      have nFD : F ≠ D := ne_of_none hF4 hD
      have frD : H D = none := by
        rcases k04.fresh hD with q | q
        · exact absurd q hDo
        · exact q
      have oN : N ∉ [b, g] := fun q => by
        obtain ⟨gs, ls, cur, e1, e2, _⟩ := bx
        simp at q
        rcases q with rfl | rfl
        · rw [e1] at frN; cases frN
        · rw [e2] at frN; cases frN
      refine lc_it (walk_zip (K := K) (a := N) (b := F) (xs := ns.map V.str) (ys := fs.map V.str) (n := ns.length) (by rw [List.length_map, List.length_map]; omega))
        (fun i H5 => Blk (∃ (as : List Addr) (ps : List My.Pr), ps.length = i ∧ (∀ (j : Nat) (q : My.Pr), ps[j]? = some q → ns[j]? = some q.1 ∧ fs[j]? = some q.2.1) ∧ H5 D = some (.lst (as.map V.ref)) ∧ Objs H5 as prO ps ∧ (∀ h, h ∈ as → H h = none ∧ h ∉ [b, g] ∧ h ≠ D) ∧ H5 N = some (.lst (ns.map V.str)) ∧ H5 F = some (.lst (fs.map V.str)) ∧ BoxAt H5 b g l (n4 + i) ∧ Keeps [b, g] H H5)) ?_ ?_ ?_ ?_
      · refine Blk.of ⟨[], [], rfl, fun j q e => by simp at e, upd_same, Objs.nil, fun h e => by simp at e, (upd_ne nND).trans hN4, (upd_ne nFD).trans hF4, ?_, k04.upd (.inr frD)⟩
        have e : n4 + ((0 : Nat) : Int) = n4 := by omega
        rw [e]
        exact bx4.upd hD
      · intro i H5 _ hB
        obtain ⟨as, ps, _, _, _, _, _, e1, e2, _⟩ := hB.out
        exact ⟨SqL.of e1, SqL.of e2⟩
      · intro i x H5 H6 hi hB hy
        obtain ⟨as, ps, rfl, hps, h5, ob5, fr5, hN5, hF5, bx5, k05⟩ := hB.out
        obtain ⟨Tp, u, v, rfl, hT, rfl, hu, hv⟩ := hy
        obtain ⟨s1, hs1, rfl⟩ := strs_get hu
        obtain ⟨s2, hs2, rfl⟩ := strs_get hv
        have sT : Same H5 (upd H5 Tp (.tup [.str s1, .str s2])) := (Same.refl H5).upd hT
        refine ⟨Tp, _, rfl, SqT.of upd_same, rfl, _, _, rfl, _, _, rfl, rfl, ?_⟩
        refine ⟨rfl, ?_⟩
        dsimp only [tYes]
        refine iteT ?_
        refine ⟨_, rfl, _, rfl, _, rfl, b, g, l, _, 2, rfl, bx5.same sT, by omega, by omega, by decide, by decide, fun k H7 k0 k1 bx7 kp7 => ?_⟩
        refine ⟨rfl, by show 3 ≤ sizeLine; decide, fun t ht => ?_⟩
        have kT : Keeps [b, g] H5 H7 := (show Keeps [b, g] H5 _ from fun c o e _ => sT c o e).trans kp7
        have h7 := kT _ _ h5 hDo
        have hN7 := kT _ _ hN5 (offbox bx1 hN)
        have nDt : D ≠ t := ne_of_none h7 ht
        have nNt : N ≠ t := ne_of_none hN7 ht
        have hF7 := kT _ _ hF5 oF
        have nFt : F ≠ t := ne_of_none hF7 ht
        have ot := offbox bx7 ht
        have ht5 : H5 t = none := by
          rcases kT.fresh ht with q | q
          · exact absurd q ot
          · exact q
        have ht0 : H t = none := by
          rcases k05.fresh ht5 with q | q
          · exact absurd q ot
          · exact q
        have k58 : ∀ o1 o2, Keeps [b, g, D] H5 (upd (upd H7 t o1) D o2) := fun o1 o2 => ((kT.mono (fun x hx => by simp at hx ⊢; rcases hx with e | e <;> simp [e])).upd (.inr ht5)).upd (.inl (by simp))
        have asl : as.length = ps.length := ob5.len
        refine ⟨_, (upd_ne nDt).trans h7, by rw [List.length_map]; exact small (by omega), Blk.of ⟨as ++ [t], ps ++ [(s1, s2, decide (V.int k = V.int 1))], by rw [List.length_append]; rfl, ?_, ?_, ?_, ?_, ?_, ?_, ?_, ?_⟩⟩
        · intro j q e
          by_cases hj : j < ps.length
          · rw [List.getElem?_append_left hj] at e
            exact hps j q e
          · have hl := get_lt e
            rw [List.length_append, List.length_singleton] at hl
            obtain rfl : j = ps.length := by omega
            simp at e
            subst e
            exact ⟨hs1, hs2⟩
        · rw [upd_same, List.map_append]; rfl
        · refine Objs.snoc (ob5.keep (k58 _ _) fun x hx hm => ?_) ?_
          · have f := fr5 x hm
            simp at hx
            rcases hx with e | e | e
            · exact f.2.1 (by simp [e])
            · exact f.2.1 (by simp [e])
            · exact f.2.2 e
          · rw [upd_ne nDt.symm, upd_same]
            rfl
        · intro h hh
          rcases List.mem_append.mp hh with e | e
          · exact fr5 h e
          · simp at e
            subst e
            exact ⟨ht0, ot, nDt.symm⟩
        · rw [upd_ne nND, upd_ne nNt]; exact hN7
        · rw [upd_ne nFD, upd_ne nFt]; exact hF7
        · have e : n4 + ((ps.length + 1 : Nat) : Int) = n4 + (ps.length : Int) + 1 := by omega
          rw [e]
          exact box_put (bx7.upd ht) hDo3
        · exact ((k05.trans kT).upd (.inr ht0)).upd (.inr frD)
      · intro H5 hB
        obtain ⟨as, ps, hpl, hps, h5, ob5, fr5, hN5, hF5, bx5, k05⟩ := hB.out
        have e1 : ps.map (·.1) = ns := List.ext_getElem? fun j => by
          rw [List.getElem?_map]
          cases e : ps[j]? with
          | none =>
            have := List.getElem?_eq_none_iff.mp e
            rw [List.getElem?_eq_none (by omega)]
            rfl
          | some q => rw [(hps j q e).1]; rfl
        have e2 : ps.map (·.2.1) = fs := List.ext_getElem? fun j => by
          rw [List.getElem?_map]
          cases e : ps[j]? with
          | none =>
            have := List.getElem?_eq_none_iff.mp e
            rw [List.getElem?_eq_none (by omega)]
            rfl
          | some q => rw [(hps j q e).2]; rfl
        have hnl : ns.length ≤ 6 := by omega
        refine kk D as ps (n4 + (ns.length : Int)) H5 frD h5 ob5 (fun h hh => (fr5 h hh).1) ⟨by omega, fun q hq => ⟨nm2 _ ?_, nmf _ ?_⟩, by rw [e1]; exact nd2, by rw [e2]; exact ndf⟩ (by omega) (by omega) bx5 k05
        · rw [← e1]; exact List.mem_map.mpr ⟨q, hq, rfl⟩
        · rw [← e2]; exact List.mem_map.mpr ⟨q, hq, rfl⟩

/-! ### Pacts: made of pairs that fit -/
def sp_is_pair : Sp := fun vs H Q _ => ∃ (h : Addr) (q : My.Pr), vs = [.ref h] ∧ H h = some (prO q) ∧ q.1.length ≤ sizeLine ∧ q.2.1.length ≤ sizeLine ∧ ∀ H', Same H H' → Q (.bl (My.nameB q.1 && My.nameB q.2.1)) H'
theorem ok_p_is_pair (T : Txt K mg a) : FnOk P w K mg base CX0 2 a.f_p_is_pair a.d_p_is_pair ["pair"] sp_is_pair := by
  refine T.F_p_is_pair.ok sc_p_is_pair (fun vs H Q E h => ?_) (fun cdv A outer s H vs Q E hr h => ?_)
  · obtain ⟨h, q, rfl, _⟩ := h
    rfl
  · obtain ⟨h, ⟨q1, q2, q3⟩, rfl, e, z1, z2, kk⟩ := h
    refine ⟨_, (pss_cons (ps_if (PW.pt (pw_or (pt_not (pt_val (pe_callB call_isi (by rfl) T.z_isinstance (by decide +kernel) (pa_cons (pv 0) (pa_cons (pe_bltn (v := .ty "tuple") (by rfl) T.z_tuple (by decide +kernel) rfl) pa_nil))))) (pw_or1 (pt_cmpR op_ne (pe_callB call_len_seq (by rfl) T.z_len (by decide +kernel) (pa_cons (pv 0) pa_nil)) pe_int (nomark _))))) (pss_one (ps_ret pe_bl)) pss_nil)
      (pss_cons (ps_asg (pv 0) (pg_tup (by rfl) (pgs_cons (pg_name (i := 1) sc_p_is_pair.nd rfl (Or.inl rfl)) (pgs_cons (pg_name (i := 2) sc_p_is_pair.nd rfl (Or.inl rfl)) (pgs_cons (pg_name (i := 3) sc_p_is_pair.nd rfl (Or.inl rfl)) pgs_nil)))))
      (pss_one (ps_ret (pe_and (pe_call (ok_is_name T) (hr.mono (by decide)) rfl T.g_is_name T.k_is_name T.B_is_name .nil pass0 (pa_cons (pv 1) pa_nil)) (pe_and (pe_call (ok_is_name T) (hr.mono (by decide)) rfl T.g_is_name T.k_is_name T.B_is_name .nil pass0 (pa_cons (pv 2) pa_nil)) (pe_one (pe_callB call_isi (by rfl) T.z_isinstance (by decide +kernel) (pa_cons (pv 3) (pa_cons (pe_bltn (v := .ty "bool") (by rfl) T.z_bool (by decide +kernel) rfl) pa_nil)))))))))), ?_⟩
    have e' : H h = some (.tup [.str q1, .str q2, .bl q3]) := e
    refine ⟨_, rfl, _, _, _, _, true, rfl, .ty "tuple", .base (.tup e'), kit_ty (by decide +kernel), true, rfl, ?_⟩
    refine iteF ?_
    refine ⟨_, rfl, _, _, rfl, .inr (SqT.of e'), rfl, _, rfl, ?_⟩
    refine iteNS rfl ?_
    refine ⟨_, rfl, h, _, rfl, SqT.of e', rfl, ?_⟩
    refine ⟨_, _, rfl, _, _, rfl, _, _, rfl, rfl, ?_⟩
    refine ⟨_, rfl, q1, rfl, z1, fun H1 s1 => ⟨_, rfl, ?_⟩⟩
    refine iteB (fun h1 => ?_) (fun h1 => ?_)
    · refine ⟨_, rfl, q2, rfl, z2, fun H2 s2 => ⟨_, rfl, ?_⟩⟩
      refine iteB (fun h2 => ?_) (fun h2 => ?_)
      · refine ⟨_, rfl, _, _, _, _, true, rfl, .ty "bool", .base (.bl q3), kit_ty (by decide +kernel), ?_⟩
        have e3 : (My.nameB q1 && My.nameB q2) = true := by rw [h1, h2]; rfl
        exact e3 ▸ kk H2 (s1.trans s2)
      · have e3 : (My.nameB q1 && My.nameB q2) = false := by rw [h1, h2]; rfl
        exact e3 ▸ kk H2 (s1.trans s2)
    · have e3 : (My.nameB q1 && My.nameB q2) = false := by rw [h1]; rfl
      exact e3 ▸ kk H1 s1
def fitsB (q : My.Pr) (ps : List My.Pr) : Bool := decide (ps.length < 6) && !decide (q.1 ∈ ps.map (·.1)) && !decide (q.2.1 ∈ ps.map (·.2.1))
def sp_fits_pairs : Sp := fun vs H Q _ => ∃ (h l : Addr) (q : My.Pr) (as : List Addr) (ps : List My.Pr), vs = [.ref h, .ref l] ∧ H h = some (prO q) ∧ H l = some (.lst (as.map V.ref)) ∧ Objs H as prO ps ∧ ps.length ≤ 10000 ∧ ∀ H', Same H H' → Q (.bl (fitsB q ps)) H'
theorem ok_p_fits_pairs (T : Txt K mg a) : FnOk P w K mg base CX0 1 a.f_p_fits_pairs a.d_p_fits_pairs ["pair", "ahead"] sp_fits_pairs := by
  refine T.F_p_fits_pairs.ok sc_p_fits_pairs (fun vs H Q E h => ?_) (fun cdv A outer s H vs Q E hr h => ?_)
  · obtain ⟨h, l, q, as, ps, rfl, _⟩ := h
    rfl
  · obtain ⟨h, l, ⟨q1, q2, q3⟩, as, ps, rfl, e, el, ob, hz, kk⟩ := h
    have e' : H h = some (.tup [.str q1, .str q2, .bl q3]) := e
    have asl := ob.len
    refine ⟨_, (pss_cons (ps_setLc (i := 2) (own := [("one", 4)]) (g := gName 4) (te := tOp (rIxT K) (tVar 4) (tC (.int 0))) (tt := tYes) rfl sc_p_fits_pairs.nd rfl rfl (sw_true rfl rfl rfl (by decide +kernel)) (pi_list (pv 1)) (blkOk_by (own := [("one", 4)]) (N := ["pair", "ahead", "nears", "fars", "one"]) (sc := defScope s_p_fits_pairs) (by decide +kernel)) (fun _ _ _ _ _ => pg_name (i := 4) sc_p_fits_pairs.nd rfl (Or.inl rfl)) (fun _ _ _ _ _ => pts_nil) (fun _ _ _ _ _ => by exact (pe_ix ix_tup (pv 4) pe_int (fun _ _ => rfl))))
      (pss_cons (ps_setLc (i := 3) (own := [("one", 4)]) (g := gName 4) (te := tOp (rIxT K) (tVar 4) (tC (.int 1))) (tt := tYes) rfl sc_p_fits_pairs.nd rfl rfl (sw_true rfl rfl rfl (by decide +kernel)) (pi_list (pv 1)) (blkOk_by (own := [("one", 4)]) (N := ["pair", "ahead", "nears", "fars", "one"]) (sc := defScope s_p_fits_pairs) (by decide +kernel)) (fun _ _ _ _ _ => pg_name (i := 4) sc_p_fits_pairs.nd rfl (Or.inl rfl)) (fun _ _ _ _ _ => pts_nil) (fun _ _ _ _ _ => by exact (pe_ix ix_tup (pv 4) pe_int (fun _ _ => rfl))))
      (pss_one (ps_ret (pe_and (pe_cmpR op_lt (pe_callB call_len_seq (by rfl) T.z_len (by decide +kernel) (pa_cons (pv 1) pa_nil)) (pe_glob (v := .int 6) rfl T.v_MOST_PAIRS ⟨_, rfl⟩) (nomark _)) (pe_and (pe_cmpR op_notIn_seq (pe_ix ix_tup (pv 0) pe_int (fun _ _ => rfl)) (pv 2) (by rfl)) (pe_one (pe_cmpR op_notIn_seq (pe_ix ix_tup (pv 0) pe_int (fun _ _ => rfl)) (pv 3) (by rfl))))))))), ?_⟩
    refine ⟨_, rfl, l, rfl, ⟨_, SqL.of el⟩, fun D hD => ?_⟩
    have nlD : l ≠ D := ne_of_none el hD
    refine lc_list (K := K) (a := l) (xs := as.map V.ref) (fun i H1 => Blk (H1 = upd H D (.lst (((ps.take i).map (·.1)).map V.str)))) (Blk.of rfl) (fun i H1 _ hB => ?_) ?_ ?_
    · obtain rfl := hB.out
      exact SqL.of ((upd_ne nlD).trans el)
    · intro i y H1 hi hB
      obtain rfl := hB.out
      obtain ⟨x, hx, rfl⟩ := refs_get hi
      obtain ⟨r, hr1, hr2⟩ := ob.get hx
      have := get_lt hr1
      refine ⟨rfl, ?_⟩
      dsimp only [tYes]
      refine iteT ?_
      refine ⟨_, rfl, _, _, _, _, rfl, rfl, SqT.of ((upd_ne (ne_of_none hr2 hD)).trans hr2), rfl, ?_⟩
      refine ⟨_, upd_same, by rw [List.length_map, List.length_map, List.length_take]; exact small (by omega), Blk.of ?_⟩
      rw [upd_upd, take_snoc hr1, List.map_append, List.map_append]
      rfl
    · intro H1 hB
      obtain rfl := hB.out
      have e1 : ps.take (as.map V.ref).length = ps := by rw [List.length_map, asl, List.take_length]
      rw [e1]
      refine ⟨_, rfl, l, rfl, ⟨_, SqL.of ((upd_ne nlD).trans el)⟩, fun G hG => ?_⟩
      have nDG : D ≠ G := ne_of_none upd_same hG
      have hG0 : H G = none := (upd_ne nDG.symm).symm.trans hG
      have nlG : l ≠ G := ne_of_none el hG0
      refine lc_list (K := K) (a := l) (xs := as.map V.ref) (fun i H1 => Blk (H1 = upd (upd H D (.lst ((ps.map (·.1)).map V.str))) G (.lst (((ps.take i).map (·.2.1)).map V.str)))) (Blk.of rfl) (fun i H1 _ hB => ?_) ?_ ?_
      · obtain rfl := hB.out
        exact SqL.of ((upd_ne nlG).trans ((upd_ne nlD).trans el))
      · intro i y H1 hi hB
        obtain rfl := hB.out
        obtain ⟨x, hx, rfl⟩ := refs_get hi
        obtain ⟨r, hr1, hr2⟩ := ob.get hx
        have := get_lt hr1
        refine ⟨rfl, ?_⟩
        dsimp only [tYes]
        refine iteT ?_
        refine ⟨_, rfl, _, _, _, _, rfl, rfl, SqT.of ((upd_ne (ne_of_none hr2 hG0)).trans ((upd_ne (ne_of_none hr2 hD)).trans hr2)), rfl, ?_⟩
        refine ⟨_, upd_same, by rw [List.length_map, List.length_map, List.length_take]; exact small (by omega), Blk.of ?_⟩
        rw [upd_upd, take_snoc hr1, List.map_append, List.map_append]
        rfl
      · intro H1 hB
        obtain rfl := hB.out
        rw [e1]
        have sH : Same H (upd (upd H D (.lst ((ps.map (·.1)).map V.str))) G (.lst ((ps.map (·.2.1)).map V.str))) := ((Same.refl H).upd hD).upd hG0
        have hq := sH _ _ e'
        have hDl : (upd (upd H D (.lst ((ps.map (·.1)).map V.str))) G (.lst ((ps.map (·.2.1)).map V.str))) D = some (.lst ((ps.map (·.1)).map V.str)) := (upd_ne nDG).trans upd_same
        have hGl : (upd (upd H D (.lst ((ps.map (·.1)).map V.str))) G (.lst ((ps.map (·.2.1)).map V.str))) G = some (.lst ((ps.map (·.2.1)).map V.str)) := upd_same
        have fin := kk _ sH
        generalize (upd (upd H D (.lst ((ps.map (·.1)).map V.str))) G (.lst ((ps.map (·.2.1)).map V.str))) = H2 at sH hq hDl hGl fin
        have el2 := sH _ _ el
        refine ⟨_, rfl, l, _, rfl, .inl (SqL.of el2), _, _, rfl, rfl, _, rfl, ?_⟩
        have ec : (((as.map V.ref).length : Nat) : Int) = (ps.length : Int) := by rw [List.length_map, asl]
        rw [ec]
        refine iteD (fun c1 => ?_) (fun c1 => ?_)
        · refine ⟨_, rfl, _, _, _, _, rfl, rfl, SqT.of hq, rfl, ?_⟩
          refine ⟨_, rfl, D, _, rfl, .inl (SqL.of hDl), rfl, flat_str _, _, rfl, ?_⟩
          rw [if_pos rfl, inV_str]
          refine iteB (fun c2 => ?_) (fun c2 => ?_)
          · refine ⟨_, rfl, _, _, _, _, rfl, rfl, SqT.of hq, rfl, ?_⟩
            refine ⟨_, rfl, G, _, rfl, .inl (SqL.of hGl), rfl, flat_str _, ?_⟩
            rw [if_pos rfl, inV_str]
            have e3 : fitsB (q1, q2, q3) ps = !decide (q2 ∈ ps.map (·.2.1)) := by
              unfold fitsB
              rw [c2, decide_eq_true (by omega : ps.length < 6)]
              rfl
            exact e3 ▸ fin
          · have e3 : fitsB (q1, q2, q3) ps = false := by
              unfold fitsB
              rw [c2]
              simp
            exact e3 ▸ fin
        · have e3 : fitsB (q1, q2, q3) ps = false := by
            unfold fitsB
            rw [decide_eq_false (by omega : ¬ ps.length < 6)]
            simp
          exact e3 ▸ fin

/-! ### helpers' pacts -/
open My (Hr)
/-- at as stand things of which R speaks -/
structure AllAt {α : Type} (R : Addr → α → Prop) (as : List Addr) (xs : List α) : Prop where
  len : as.length = xs.length
  at_ : ∀ (i : Nat) (h : Addr) (x : α), as[i]? = some h → xs[i]? = some x → R h x
theorem AllAt.imp {α : Type} {R R' : Addr → α → Prop} {as : List Addr} {xs : List α} (o : AllAt R as xs) (h : ∀ a x, R a x → R' a x) : AllAt R' as xs := ⟨o.len, fun i a x e1 e2 => h a x (o.at_ i a x e1 e2)⟩
theorem AllAt.get {α : Type} {R : Addr → α → Prop} {as : List Addr} {xs : List α} (o : AllAt R as xs) {i : Nat} {h : Addr} (e : as[i]? = some h) : ∃ x, xs[i]? = some x ∧ R h x := by
  have hl := get_lt e
  rw [o.len] at hl
  have e2 : xs[i]? = some xs[i] := List.getElem?_eq_getElem hl
  exact ⟨_, e2, o.at_ i h _ e e2⟩
theorem AllAt.nil {α : Type} {R : Addr → α → Prop} : AllAt R [] [] := ⟨rfl, fun i h x e => by simp at e⟩
theorem AllAt.snoc {α : Type} {R : Addr → α → Prop} {as : List Addr} {xs : List α} (o : AllAt R as xs) {h : Addr} {x : α} (e : R h x) : AllAt R (as ++ [h]) (xs ++ [x]) := by
  refine ⟨by rw [List.length_append, List.length_append, o.len]; rfl, fun i h' x' e1 e2 => ?_⟩
  by_cases hi : i < as.length
  · rw [List.getElem?_append_left hi] at e1
    rw [List.getElem?_append_left (by rw [← o.len]; exact hi)] at e2
    exact o.at_ i h' x' e1 e2
  · have hl := get_lt e1
    rw [List.length_append, List.length_singleton] at hl
    obtain rfl : i = as.length := by omega
    have e3 : as.length = xs.length := o.len
    simp at e1
    rw [e3] at e2
    simp at e2
    subst e1 e2
    exact e
theorem AllAt.take {α : Type} {R : Addr → α → Prop} {as : List Addr} {xs : List α} (o : AllAt R as xs) (n : Nat) : AllAt R (as.take n) (xs.take n) := by
  refine ⟨by rw [List.length_take, List.length_take, o.len], fun i h x e1 e2 => ?_⟩
  by_cases hi : i < n
  · rw [List.getElem?_take, if_pos hi] at e1 e2
    exact o.at_ i h x e1 e2
  · rw [List.getElem?_take, if_neg hi] at e1
    cases e1
/-- the tuple of a helper's pact -/
def HrAt (H : Hp) (h : Addr) (x : Hr) : Prop := ∃ tk th : Addr, H h = some (.tup [.str x.name, .int x.side, .ref tk, .bl x.gives, .ref th]) ∧ TupF H tk (x.takes.map V.str) ∧ TupF H th (x.throws.map V.str)
theorem _root_.L2.TupF.same {H H' : Hp} {h : Addr} {xs : List V} (e : TupF H h xs) (s : Same H H') : TupF H' h xs := let ⟨o, ho, q⟩ := e; ⟨o, ho, s _ _ q⟩
theorem HrAt.same {H H' : Hp} {h : Addr} {x : Hr} (e : HrAt H h x) (s : Same H H') : HrAt H' h x := by
  obtain ⟨tk, th, e1, e2, e3⟩ := e
  exact ⟨tk, th, s _ _ e1, e2.same s, e3.same s⟩
def NoTup (H : Hp) (R : List Addr) : Prop := ∀ x, x ∈ R → ∀ ys, H x ≠ some (.tup ys) ∧ ∀ o, H x ≠ some (.frz o (.tup ys))
theorem NoTup.one {H : Hp} {x : Addr} {o : HO} (h : H x = some o) (n1 : ∀ ys, o ≠ .tup ys) (n2 : ∀ b ys, o ≠ .frz b (.tup ys)) : NoTup H [x] := fun y hy ys => by
  simp at hy
  subst hy
  rw [h]
  exact ⟨fun e => n1 ys (Option.some.inj e), fun b e => n2 b ys (Option.some.inj e)⟩
theorem NoTup.lst {H : Hp} {x : Addr} {xs : List V} (h : H x = some (.lst xs)) : NoTup H [x] := NoTup.one h (fun _ e => by cases e) fun _ _ e => by cases e
theorem tupF_keep {H H' : Hp} {R : List Addr} {h : Addr} {xs : List V} (e : TupF H h xs) (k : Keeps R H H') (n : NoTup H R) : TupF H' h xs := let ⟨o, ho, q⟩ := e; ⟨o, ho, k _ _ q fun z => (n _ z _).2 o q⟩
theorem HrAt.keep {H H' : Hp} {R : List Addr} {h : Addr} {x : Hr} (e : HrAt H h x) (k : Keeps R H H') (n : NoTup H R) : HrAt H' h x := by
  obtain ⟨tk, th, e1, e2, e3⟩ := e
  exact ⟨tk, th, k _ _ e1 fun q => (n _ q _).1 e1, tupF_keep e2 k n, tupF_keep e3 k n⟩
theorem Objs.keepN {H H' : Hp} {R as : List Addr} {ps : List My.Pr} (o : Objs H as prO ps) (k : Keeps R H H') (n : NoTup H R) : Objs H' as prO ps :=
  ⟨o.len, fun i h x e1 e2 => by
    have e := o.at_ i h x e1 e2
    exact k _ _ e fun q => (n _ q _).1 e⟩
abbrev Crew (H : Hp) (as : List Addr) (xs : List Hr) : Prop := AllAt (HrAt H) as xs
theorem Crew.same {H H' : Hp} {as : List Addr} {xs : List Hr} (o : Crew H as xs) (s : Same H H') : Crew H' as xs := o.imp fun _ _ e => e.same s
theorem Crew.keep {H H' : Hp} {R as : List Addr} {xs : List Hr} (o : Crew H as xs) (k : Keeps R H H') (n : NoTup H R) : Crew H' as xs := o.imp fun _ _ e => e.keep k n
theorem bools_step {α : Type} {D : Addr} {H : Hp} {xs : List α} {f : α → Bool} {i : Nat} {x : α} (h : xs[i]? = some x) (hz : xs.length ≤ 10000) :
    ∃ acc, upd H D (.lst (((xs.take i).map f).map V.bl)) D = some (.lst acc) ∧ acc.length < sizeLine ∧ upd (upd H D (.lst (((xs.take i).map f).map V.bl))) D (.lst (acc ++ [.bl (f x)])) = upd H D (.lst (((xs.take (i + 1)).map f).map V.bl)) := by
  refine ⟨_, upd_same, ?_, ?_⟩
  · rw [List.length_map, List.length_map, List.length_take]
    have := get_lt h
    exact small (by omega)
  · rw [upd_upd, take_snoc h, List.map_append, List.map_append]
    rfl
theorem all_map_id {α : Type} (l : List α) (f : α → Bool) : (l.map f).all id = l.all f := by rw [List.all_map]; rfl
def sp_are_takes : Sp := fun vs H Q _ => ∃ (t : Addr) (ts : List Str), vs = [.ref t] ∧ TupF H t (ts.map V.str) ∧ ts.length ≤ 10000 ∧ ∀ H', Same H H' → Q (.bl (My.takesB ts)) H'
theorem ok_p_are_takes (T : Txt K mg a) : FnOk P w K mg base CX0 1 a.f_p_are_takes a.d_p_are_takes ["takes"] sp_are_takes := by
  refine T.F_p_are_takes.ok sc_p_are_takes (fun vs H Q E h => ?_) (fun cdv A outer s H vs Q E hr h => ?_)
  · obtain ⟨t, ts, rfl, _⟩ := h
    rfl
  · obtain ⟨t, ts, rfl, ⟨ob, hob, e⟩, hz, kk⟩ := h
    have eq : ∀ {H' : Hp}, H' t = some (.frz ob (.tup (ts.map V.str))) → SqT K H' t (ts.map V.str) := fun e => .inl (.inr ⟨ob, e⟩)
    refine ⟨_, (pss_cons (ps_if (PW.pt (pw_or (pt_not (pt_val (pe_callB call_isi (by rfl) T.z_isinstance (by decide +kernel) (pa_cons (pv 0) (pa_cons (pe_bltn (v := .ty "tuple") (by rfl) T.z_tuple (by decide +kernel) rfl) pa_nil))))) (pw_or1 (pt_cmpR op_gt (pe_callB call_len_seq (by rfl) T.z_len (by decide +kernel) (pa_cons (pv 0) pa_nil)) (pe_glob (v := .int 3) rfl T.v_MOST_TAKES ⟨_, rfl⟩) (nomark _))))) (pss_one (ps_ret pe_bl)) pss_nil)
      (pss_one (ps_ret (pe_callB (cr_all rfl) (by rfl) T.z_all (by decide +kernel) (pa_cons (pe_lc (own := [("take", 1)]) (g := gName 1) (te := tOp (rIn K false) (tVar 1) (tC (.ref a.t_TAKES))) (tt := tYes) rfl sc_p_are_takes.nd (pi_tup (pv 0)) (blkOk_by (own := [("take", 1)]) (N := ["takes", "take"]) (sc := defScope s_p_are_takes) (by decide +kernel)) (fun _ _ _ _ _ => pg_name (i := 1) sc_p_are_takes.nd rfl (Or.inl rfl)) (fun _ _ _ _ _ => pts_nil) (fun _ _ _ _ _ => by exact (pe_cmpR op_in_seq (pv 1) (pe_glob (v := .ref a.t_TAKES) rfl T.v_TAKES rfl) (by rfl)))) pa_nil))))), ?_⟩
    refine ⟨_, rfl, _, _, _, _, true, rfl, .ty "tuple", .fTuple e, kit_ty (by decide +kernel), true, rfl, ?_⟩
    refine iteF ?_
    refine ⟨_, rfl, t, _, rfl, .inr (eq e), _, _, rfl, rfl, _, rfl, ?_⟩
    have el : (((ts.map V.str).length : Nat) : Int) = (ts.length : Int) := by rw [List.length_map]
    rw [el]
    refine iteD (fun c => ?_) (fun c => ?_)
    · have eb : My.takesB ts = false := by
        unfold My.takesB
        rw [decide_eq_false (by omega)]
        rfl
      exact eb ▸ kk H (Same.refl H)
    · refine ⟨_, rfl, t, rfl, ⟨_, eq e⟩, fun D hD => ?_⟩
      have nD : t ≠ D := ne_of_none e hD
      refine lc_tup (K := K) (a := t) (xs := ts.map V.str) (fun i H1 => Blk (H1 = upd H D (.lst (((ts.take i).map fun t => decide (t ∈ (["lent", "given"] : List Str))).map V.bl)))) (Blk.of rfl) (fun i H1 _ hB => ?_) ?_ ?_
      · obtain rfl := hB.out
        exact eq ((upd_ne nD).trans e)
      · intro i y H1 hi hB
        obtain rfl := hB.out
        obtain ⟨x, hx, rfl⟩ := strs_get hi
        refine ⟨rfl, ?_⟩
        dsimp only [tYes]
        refine iteT ?_
        refine ⟨_, rfl, _, _, rfl, .inr (T.q_TAKES _), rfl, rfl, ?_⟩
        rw [if_neg Bool.false_ne_true]
        have ei : inV (.str x) [.str "lent", .str "given"] = decide (x ∈ (["lent", "given"] : List Str)) := inV_str x ["lent", "given"]
        rw [ei]
        obtain ⟨acc, h1, h2, h3⟩ := bools_step (D := D) (H := H) (f := fun t => decide (t ∈ (["lent", "given"] : List Str))) hx hz
        exact ⟨acc, h1, h2, Blk.of h3⟩
      · intro H1 hB
        obtain rfl := hB.out
        refine ⟨D, _, rfl, SqL.of upd_same, ?_⟩
        rw [List.length_map, List.take_length, all_map_id]
        have eb : ts.all (fun t => decide (t ∈ (["lent", "given"] : List Str))) = My.takesB ts := by
          unfold My.takesB
          rw [decide_eq_true (by omega : ts.length ≤ 3)]
          rfl
        rw [eb]
        exact kk _ ((Same.refl H).upd hD)
def sp_are_throws : Sp := fun vs H Q _ => ∃ (t : Addr) (ts : List Str), vs = [.ref t] ∧ TupF H t (ts.map V.str) ∧ ts.length ≤ 10000 ∧ ∀ H', Same H H' → Q (.bl (My.throwsB ts)) H'
theorem ok_p_are_throws (T : Txt K mg a) : FnOk P w K mg base CX0 1 a.f_p_are_throws a.d_p_are_throws ["throws"] sp_are_throws := by
  refine T.F_p_are_throws.ok sc_p_are_throws (fun vs H Q E h => ?_) (fun cdv A outer s H vs Q E hr h => ?_)
  · obtain ⟨t, ts, rfl, _⟩ := h
    rfl
  · obtain ⟨t, ts, rfl, ⟨ob, hob, e⟩, hz, kk⟩ := h
    have eq : ∀ {H' : Hp}, H' t = some (.frz ob (.tup (ts.map V.str))) → SqT K H' t (ts.map V.str) := fun e => .inl (.inr ⟨ob, e⟩)
    refine ⟨_, (pss_cons (ps_if (PW.pt (pw_or (pt_not (pt_val (pe_callB call_isi (by rfl) T.z_isinstance (by decide +kernel) (pa_cons (pv 0) (pa_cons (pe_bltn (v := .ty "tuple") (by rfl) T.z_tuple (by decide +kernel) rfl) pa_nil))))) (pw_or1 (pt_cmpR op_gt (pe_callB call_len_seq (by rfl) T.z_len (by decide +kernel) (pa_cons (pv 0) pa_nil)) (pe_glob (v := .int 4) rfl T.v_MOST_THROWS ⟨_, rfl⟩) (nomark _))))) (pss_one (ps_ret pe_bl)) pss_nil)
      (pss_one (ps_ret (pe_callB (cr_all rfl) (by rfl) T.z_all (by decide +kernel) (pa_cons (pe_lc (own := [("word", 1)]) (g := gName 1) (te := tOp rEq (tBMF (rCntS K) (tVar 0) (tCons (tVar 1) tNil)) (tC (.int 1))) (tt := tYes) rfl sc_p_are_throws.nd (pi_tup (pv 0)) (blkOk_by (own := [("word", 1)]) (N := ["throws", "word"]) (sc := defScope s_p_are_throws) (by decide +kernel)) (fun _ _ _ _ _ => pg_name (i := 1) sc_p_are_throws.nd rfl (Or.inl rfl)) (fun _ _ _ _ _ => pts_nil) (fun _ _ _ _ _ => by exact (pe_cmpR op_eq (pe_bmF PySem.F.plainAttrs_tuple PySem.F.slot_tuple_count PySem.F.type_tuple_count mt_tcount (pv 0) (pa_cons (pv 1) pa_nil)) pe_int (nomark _)))) pa_nil))))), ?_⟩
    refine ⟨_, rfl, _, _, _, _, true, rfl, .ty "tuple", .fTuple e, kit_ty (by decide +kernel), true, rfl, ?_⟩
    refine iteF ?_
    refine ⟨_, rfl, t, _, rfl, .inr (eq e), _, _, rfl, rfl, _, rfl, ?_⟩
    have el : (((ts.map V.str).length : Nat) : Int) = (ts.length : Int) := by rw [List.length_map]
    rw [el]
    refine iteD (fun c => ?_) (fun c => ?_)
    · have eb : My.throwsB ts = false := by
        unfold My.throwsB
        rw [decide_eq_false (by omega)]
        rfl
      exact eb ▸ kk H (Same.refl H)
    · refine ⟨_, rfl, t, rfl, ⟨_, eq e⟩, fun D hD => ?_⟩
      have nD : t ≠ D := ne_of_none e hD
      refine lc_tup (K := K) (a := t) (xs := ts.map V.str) (fun i H1 => Blk (H1 = upd H D (.lst (((ts.take i).map fun t => decide (ts.count t = 1)).map V.bl)))) (Blk.of rfl) (fun i H1 _ hB => ?_) ?_ ?_
      · obtain rfl := hB.out
        exact eq ((upd_ne nD).trans e)
      · intro i y H1 hi hB
        obtain rfl := hB.out
        obtain ⟨x, hx, rfl⟩ := strs_get hi
        refine ⟨rfl, ?_⟩
        dsimp only [tYes]
        refine iteT ?_
        have e2 : ∀ o, upd H D o t = some (.frz ob (.tup (ts.map V.str))) := fun o => (upd_ne nD).trans e
        refine ⟨_, rfl, ⟨t, _, rfl, ob, hob, e2 _⟩, _, rfl, t, ts, x, rfl, rfl, eq (e2 _), rfl, ?_⟩
        have ed : decide (V.int ((ts.count x : Nat) : Int) = V.int 1) = decide (ts.count x = 1) := by
          by_cases h : ts.count x = 1
          · rw [h]; rfl
          · rw [decide_eq_false h, decide_eq_false fun z => h (by have := V.int.inj z; omega)]
        rw [ed]
        obtain ⟨acc, h1, h2, h3⟩ := bools_step (D := D) (H := H) (f := fun t => decide (ts.count t = 1)) hx hz
        exact ⟨acc, h1, h2, Blk.of h3⟩
      · intro H1 hB
        obtain rfl := hB.out
        refine ⟨D, _, rfl, SqL.of upd_same, ?_⟩
        rw [List.length_map, List.take_length, all_map_id]
        have eb : ts.all (fun t => decide (ts.count t = 1)) = My.throwsB ts := by
          unfold My.throwsB
          rw [decide_eq_true (by omega : ts.length ≤ 4)]
          rfl
        rw [eb]
        exact kk _ ((Same.refl H).upd hD)

open My (Hr)
theorem lenI (n : Nat) (xs : List V) (h : xs.length = n) : ((xs.length : Nat) : Int) = (n : Int) := by rw [h]
def sp_is_pact : Sp := fun vs H Q _ => ∃ (h : Addr) (x : Hr), vs = [.ref h] ∧ HrAt H h x ∧ x.name.length ≤ sizeLine ∧ x.takes.length ≤ 10000 ∧ x.throws.length ≤ 10000 ∧ ∀ H', Same H H' → Q (.bl (My.pactB x)) H'
theorem ok_p_is_pact (T : Txt K mg a) : FnOk P w K mg base CX0 3 a.f_p_is_pact a.d_p_is_pact ["pact"] sp_is_pact := by
  refine T.F_p_is_pact.ok sc_p_is_pact (fun vs H Q E h => ?_) (fun cdv A outer s H vs Q E hr h => ?_)
  · obtain ⟨h, x, rfl, _⟩ := h
    rfl
  · obtain ⟨h, x, rfl, ⟨tk, th, e, etk, eth⟩, z1, z2, z3, kk⟩ := h
    refine ⟨_, (pss_cons (ps_if (PW.pt (pw_or (pt_not (pt_val (pe_callB call_isi (by rfl) T.z_isinstance (by decide +kernel) (pa_cons (pv 0) (pa_cons (pe_bltn (v := .ty "tuple") (by rfl) T.z_tuple (by decide +kernel) rfl) pa_nil))))) (pw_or1 (pt_cmpR op_ne (pe_callB call_len_seq (by rfl) T.z_len (by decide +kernel) (pa_cons (pv 0) pa_nil)) pe_int (nomark _))))) (pss_one (ps_ret pe_bl)) pss_nil)
      (pss_cons (ps_asg (pv 0) (pg_tup (by rfl) (pgs_cons (pg_name (i := 1) sc_p_is_pact.nd rfl (Or.inl rfl)) (pgs_cons (pg_name (i := 2) sc_p_is_pact.nd rfl (Or.inl rfl)) (pgs_cons (pg_name (i := 3) sc_p_is_pact.nd rfl (Or.inl rfl)) (pgs_cons (pg_name (i := 4) sc_p_is_pact.nd rfl (Or.inl rfl)) (pgs_cons (pg_name (i := 5) sc_p_is_pact.nd rfl (Or.inl rfl)) pgs_nil)))))))
      (pss_cons (ps_if (PW.pt (pw_or (pt_not (pt_val (pe_call (ok_is_name T) (hr.mono (by decide)) rfl T.g_is_name T.k_is_name T.B_is_name .nil pass0 (pa_cons (pv 1) pa_nil)))) (pw_or (pt_not (pt_val (pe_call (ok_is_side T) (hr.mono (by decide)) rfl T.g_is_side T.k_is_side T.B_is_side .nil pass0 (pa_cons (pv 2) pa_nil)))) (pw_or1 (pt_not (pt_val (pe_callB call_isi (by rfl) T.z_isinstance (by decide +kernel) (pa_cons (pv 4) (pa_cons (pe_bltn (v := .ty "bool") (by rfl) T.z_bool (by decide +kernel) rfl) pa_nil))))))))) (pss_one (ps_ret pe_bl)) pss_nil)
      (pss_one (ps_ret (pe_and (pe_call (ok_p_are_takes T) (hr.mono (by decide)) rfl T.g_p_are_takes T.k_p_are_takes T.B_p_are_takes .nil pass0 (pa_cons (pv 3) pa_nil)) (pe_one (pe_call (ok_p_are_throws T) (hr.mono (by decide)) rfl T.g_p_are_throws T.k_p_are_throws T.B_p_are_throws .nil pass0 (pa_cons (pv 5) pa_nil))))))))), ?_⟩
    refine ⟨_, rfl, _, _, _, _, true, rfl, .ty "tuple", .base (.tup e), kit_ty (by decide +kernel), true, rfl, ?_⟩
    refine iteF ?_
    refine ⟨_, rfl, _, _, rfl, .inr (SqT.of e), rfl, _, rfl, ?_⟩
    refine iteNS rfl ?_
    refine ⟨_, rfl, h, _, rfl, SqT.of e, rfl, ?_⟩
    refine ⟨_, _, rfl, _, _, rfl, _, _, rfl, _, _, rfl, _, _, rfl, rfl, ?_⟩
    have no : ∀ {H1 : Hp}, Same H H1 → (My.nameB x.name && My.sideB x.side) = false → Q (.bl false) H1 := fun s c => by
      have e2 : My.pactB x = false := by unfold My.pactB; rw [c]; rfl
      exact e2 ▸ kk _ s
    refine ⟨_, rfl, x.name, rfl, z1, fun H1 s1 => ⟨_, rfl, ?_⟩⟩
    refine iteB (fun c1 => ?_) (fun c1 => ?_)
    · have c : My.nameB x.name = false := by simpa using c1
      exact iteT (no s1 (by rw [c]; rfl))
    · have c1' : My.nameB x.name = true := by simpa using c1
      refine ⟨_, rfl, x.side, rfl, fun H2 s2 => ⟨_, rfl, ?_⟩⟩
      refine iteB (fun c2 => ?_) (fun c2 => ?_)
      · have c : My.sideB x.side = false := by
          show decide (x.side = 0 ∨ x.side = 1) = false
          cases hq : decide (x.side = 0 ∨ x.side = 1) with
          | true => rw [hq] at c2; cases c2
          | false => rfl
        exact iteT (no (s1.trans s2) (by rw [c, Bool.and_false]))
      · have c2' : My.sideB x.side = true := by
          show decide (x.side = 0 ∨ x.side = 1) = true
          cases hq : decide (x.side = 0 ∨ x.side = 1) with
          | true => rfl
          | false => rw [hq] at c2; cases c2
        refine ⟨_, rfl, _, _, _, _, true, rfl, .ty "bool", .base (.bl x.gives), kit_ty (by decide +kernel), true, rfl, ?_⟩
        refine iteF ?_
        have s12 := s1.trans s2
        refine ⟨_, rfl, tk, x.takes, rfl, etk.same s12, z2, fun H3 s3 => ⟨_, rfl, ?_⟩⟩
        obtain ⟨ob, hob, eth2⟩ := eth
        refine iteB (fun c3 => ?_) (fun c3 => ?_)
        · refine ⟨_, rfl, th, x.throws, rfl, ⟨ob, hob, s3 _ _ (s12 _ _ eth2)⟩, z3, fun H4 s4 => ?_⟩
          have e2 : My.pactB x = My.throwsB x.throws := by unfold My.pactB; rw [c1', c2', c3]; rfl
          exact e2 ▸ kk _ ((s12.trans s3).trans s4)
        · have e2 : My.pactB x = false := by unfold My.pactB; rw [c3]; simp
          exact e2 ▸ kk _ (s12.trans s3)
def sp_fits_helpers : Sp := fun vs H Q _ => ∃ (h l L : Addr) (x : Hr) (as has : List Addr) (ps : List My.Pr) (hs : List Hr), vs = [.ref h, .ref l, .ref L] ∧ HrAt H h x ∧ (x.side = 0 ∨ x.side = 1) ∧ H l = some (.lst (as.map V.ref)) ∧ Objs H as prO ps ∧ H L = some (.lst (has.map V.ref)) ∧ Crew H has hs ∧
  ps.length ≤ 10000 ∧ hs.length ≤ 10000 ∧ x.throws.length ≤ 10000 ∧ ∀ H', Same H H' → Q (.bl (My.fitsHB x ps hs)) H'
theorem wd_at2 {i : Int} (hi : i = 0 ∨ i = 1) (p : My.Pr) : atI [V.str p.1, .str p.2.1, .bl p.2.2] i = some (.str (My.wd i p)) := by
  rcases hi with rfl | rfl <;> rfl
theorem ok_p_fits_helpers (T : Txt K mg a) : FnOk P w K mg base CX0 1 a.f_p_fits_helpers a.d_p_fits_helpers ["pact", "pairs", "ahead"] sp_fits_helpers := by
  refine T.F_p_fits_helpers.ok sc_p_fits_helpers (fun vs H Q E h => ?_) (fun cdv A outer s H vs Q E hr h => ?_)
  · obtain ⟨h, l, L, x, as, has, ps, hs, rfl, _⟩ := h
    rfl
  · obtain ⟨h, l, L, x, as, has, ps, hs, rfl, ⟨tk, th, e, etk, ob, hob, eth⟩, hside, el, obs, eL, crew, hz1, hz2, hz3, kk⟩ := h
    refine ⟨_, (pss_cons (ps_asg (pv 0) (pg_tup (by rfl) (pgs_cons (pg_name (i := 3) sc_p_fits_helpers.nd rfl (Or.inl rfl)) (pgs_cons (pg_name (i := 4) sc_p_fits_helpers.nd rfl (Or.inr rfl)) (pgs_cons (pg_name (i := 5) sc_p_fits_helpers.nd rfl (Or.inl rfl)) (pgs_cons (pg_name (i := 5) sc_p_fits_helpers.nd rfl (Or.inl rfl)) (pgs_cons (pg_name (i := 6) sc_p_fits_helpers.nd rfl (Or.inl rfl)) pgs_nil)))))))
      (pss_cons (ps_setLc (i := 7) (own := [("one", 9)]) (g := gName 9) (te := tVar 9) (tt := tTest (tOp rEq (tOp (rIxT K) (tVar 9) (tC (.int 1))) (tVar 4))) rfl sc_p_fits_helpers.nd rfl rfl (sw_true rfl rfl rfl (by decide +kernel)) (pi_list (pv 2)) (blkOk_by (own := [("one", 9)]) (N := ["pact", "pairs", "ahead", "name", "side", "_", "throws", "fellows", "words", "one", "pair", "word"]) (sc := defScope s_p_fits_helpers) (by decide +kernel)) (fun _ _ _ _ _ => pg_name (i := 9) sc_p_fits_helpers.nd rfl (Or.inl rfl)) (fun _ _ _ _ _ => pts_one (pt_cmpR op_eq (pe_ix ix_tup (pv 9) pe_int (fun _ _ => rfl)) (pv 4) (nomark _))) (fun _ _ _ _ _ => by exact (pv 9)))
      (pss_cons (ps_if (PW.pt (pw_or (pt_cmpR op_eq (pe_callB call_len_seq (by rfl) T.z_len (by decide +kernel) (pa_cons (pv 7) pa_nil)) (pe_glob (v := .int 4) rfl T.v_MOST_HELPERS ⟨_, rfl⟩) (nomark _)) (pw_or1 (pt_cmpR op_in_seq (pv 3) (pe_lc (own := [("one", 9)]) (g := gName 9) (te := tOp (rIxT K) (tVar 9) (tC (.int 0))) (tt := tYes) rfl sc_p_fits_helpers.nd (pi_list (pv 2)) (blkOk_by (own := [("one", 9)]) (N := ["pact", "pairs", "ahead", "name", "side", "_", "throws", "fellows", "words", "one", "pair", "word"]) (sc := defScope s_p_fits_helpers) (by decide +kernel)) (fun _ _ _ _ _ => pg_name (i := 9) sc_p_fits_helpers.nd rfl (Or.inl rfl)) (fun _ _ _ _ _ => pts_nil) (fun _ _ _ _ _ => by exact (pe_ix ix_tup (pv 9) pe_int (fun _ _ => rfl)))) (by rfl))))) (pss_one (ps_ret pe_bl)) pss_nil)
      (pss_cons (ps_set (i := 8) sc_p_fits_helpers.nd rfl (Or.inr rfl) (pe_lc (own := [("pair", 10)]) (g := gName 10) (te := tOp (rIxT K) (tVar 10) (tVar 4)) (tt := tYes) rfl sc_p_fits_helpers.nd (pi_list (pv 1)) (blkOk_by (own := [("pair", 10)]) (N := ["pact", "pairs", "ahead", "name", "side", "_", "throws", "fellows", "words", "one", "pair", "word"]) (sc := defScope s_p_fits_helpers) (by decide +kernel)) (fun _ _ _ _ _ => pg_name (i := 10) sc_p_fits_helpers.nd rfl (Or.inl rfl)) (fun _ _ _ _ _ => pts_nil) (fun _ _ _ _ _ => by exact (pe_ix ix_tup (pv 10) (pv 4) (fun _ _ => rfl)))))
      (pss_one (ps_ret (pe_callB (cr_all rfl) (by rfl) T.z_all (by decide +kernel) (pa_cons (pe_lc (own := [("word", 11)]) (g := gName 11) (te := tOp (rIn K false) (tVar 11) (tVar 8)) (tt := tYes) rfl sc_p_fits_helpers.nd (pi_tup (pv 6)) (blkOk_by (own := [("word", 11)]) (N := ["pact", "pairs", "ahead", "name", "side", "_", "throws", "fellows", "words", "one", "pair", "word"]) (sc := defScope s_p_fits_helpers) (by decide +kernel)) (fun _ _ _ _ _ => pg_name (i := 11) sc_p_fits_helpers.nd rfl (Or.inl rfl)) (fun _ _ _ _ _ => pts_nil) (fun _ _ _ _ _ => by exact (pe_cmpR op_in_seq (pv 11) (pv 8) (by rfl)))) pa_nil)))))))), ?_⟩
    refine ⟨_, rfl, h, _, rfl, SqT.of e, rfl, ?_⟩
    refine ⟨_, _, rfl, _, _, rfl, _, _, rfl, _, _, rfl, _, _, rfl, rfl, ?_⟩
    have asl := obs.len
    have hasl := crew.len
    -- fellows
    refine ⟨_, rfl, L, rfl, ⟨_, SqL.of eL⟩, fun D hD => ?_⟩
    have nLD : L ≠ D := ne_of_none eL hD
    refine lc_list (K := K) (a := L) (xs := has.map V.ref) (fun i H1 => Blk (∃ fs : List Addr, H1 = upd H D (.lst (fs.map V.ref)) ∧ fs.length = ((hs.take i).filter fun z => decide (z.side = x.side)).length)) (Blk.of ⟨[], rfl, rfl⟩) (fun i H1 _ hB => ?_) ?_ ?_
    · obtain ⟨fs, rfl, _⟩ := hB.out
      exact SqL.of ((upd_ne nLD).trans eL)
    · intro i y H1 hi hB
      obtain ⟨fs, rfl, hf⟩ := hB.out
      obtain ⟨b, hb, rfl⟩ := refs_get hi
      obtain ⟨z, hz, tk2, th2, ez, _⟩ := crew.get hb
      have hil := get_lt hz
      refine ⟨rfl, ?_⟩
      refine ⟨_, rfl, _, _, _, _, rfl, rfl, SqT.of ((upd_ne (ne_of_none ez hD)).trans ez), rfl, _, rfl, rfl, _, rfl, ?_⟩
      have ed : decide (V.int z.side = V.int x.side) = decide (z.side = x.side) := by
        by_cases c : z.side = x.side
        · rw [c]; simp
        · rw [decide_eq_false c, decide_eq_false fun q => c (V.int.inj q)]
      rw [ed]
      have et : (hs.take (i + 1)).filter (fun z => decide (z.side = x.side)) = (hs.take i).filter (fun z => decide (z.side = x.side)) ++ (if z.side = x.side then [z] else []) := by
        rw [take_snoc hz, List.filter_append]
        by_cases c : z.side = x.side
        · simp [c]
        · simp [c]
      have hfl : fs.length ≤ i := by
        rw [hf]
        refine Nat.le_trans (List.length_filter_le _ _) ?_
        rw [List.length_take]
        omega
      refine iteD (fun c => ?_) (fun c => ?_)
      · refine ⟨_, rfl, _, upd_same, by rw [List.length_map]; exact small (by omega), Blk.of ⟨fs ++ [b], ?_, ?_⟩⟩
        · rw [upd_upd, List.map_append]; rfl
        · rw [et, if_pos c, List.length_append, List.length_append, hf]; rfl
      · exact Blk.of ⟨fs, rfl, by rw [et, if_neg c, List.append_nil, hf]⟩
    · intro H1 hB
      obtain ⟨fs, rfl, hf⟩ := hB.out
      rw [List.length_map, hasl, List.take_length] at hf
      have sD : Same H (upd H D (.lst (fs.map V.ref))) := (Same.refl H).upd hD
      have hD1 : (upd H D (.lst (fs.map V.ref))) D = some (.lst (fs.map V.ref)) := upd_same
      show _
      generalize (upd H D (.lst (fs.map V.ref))) = H1 at sD hD1
      have eL1 := sD _ _ eL
      have no : ∀ {H2 : Hp}, Same H H2 → (decide ((hs.filter fun z => decide (z.side = x.side)).length = 4) || decide (x.name ∈ hs.map (·.name))) = true → Q (.bl false) H2 := fun s c => by
        have e2 : My.fitsHB x ps hs = false := by unfold My.fitsHB; rw [c]; rfl
        exact e2 ▸ kk _ s
      refine ⟨_, rfl, D, _, rfl, .inl (SqL.of hD1), rfl, _, rfl, ?_⟩
      have el1 : decide (V.int (((fs.map V.ref).length : Nat) : Int) = V.int 4) = decide ((hs.filter fun z => decide (z.side = x.side)).length = 4) := by
        rw [List.length_map, hf]
        by_cases c : (hs.filter fun z => decide (z.side = x.side)).length = 4
        · rw [c]; rfl
        · rw [decide_eq_false c, decide_eq_false fun q => c (by have := V.int.inj q; omega)]
      rw [el1]
      refine iteB (fun c1 => iteT (no sD (by rw [c1]; rfl))) (fun c1 => ?_)
      refine ⟨_, rfl, _, rfl, L, rfl, ⟨_, SqL.of eL1⟩, fun G hG => ?_⟩
      have nLG : L ≠ G := ne_of_none eL1 hG
      refine lc_list (K := K) (a := L) (xs := has.map V.ref) (fun i H2 => Blk (H2 = upd H1 G (.lst (((hs.take i).map (·.name)).map V.str)))) (Blk.of rfl) (fun i H2 _ hB => ?_) ?_ ?_
      · obtain rfl := hB.out
        exact SqL.of ((upd_ne nLG).trans eL1)
      · intro i y H2 hi hB
        obtain rfl := hB.out
        obtain ⟨b, hb, rfl⟩ := refs_get hi
        obtain ⟨z, hz, tk2, th2, ez, _⟩ := crew.get hb
        have ez1 := sD _ _ ez
        have hil := get_lt hz
        refine ⟨rfl, ?_⟩
        dsimp only [tYes]
        refine iteT ?_
        refine ⟨_, rfl, _, _, _, _, rfl, rfl, SqT.of ((upd_ne (ne_of_none ez1 hG)).trans ez1), rfl, ?_⟩
        refine ⟨_, upd_same, by rw [List.length_map, List.length_map, List.length_take]; exact small (by omega), Blk.of ?_⟩
        rw [upd_upd, take_snoc hz, List.map_append, List.map_append]
        rfl
      · intro H2 hB
        obtain rfl := hB.out
        have e1 : hs.take (has.map V.ref).length = hs := by rw [List.length_map, hasl, List.take_length]
        rw [e1]
        have sG : Same H (upd H1 G (.lst ((hs.map (·.name)).map V.str))) := sD.trans ((Same.refl H1).upd hG)
        refine ⟨G, _, rfl, .inl (SqL.of upd_same), rfl, flat_str _, _, rfl, ?_⟩
        rw [if_neg Bool.false_ne_true, inV_str]
        refine iteB (fun c2 => no sG (by rw [c2, Bool.or_true])) (fun c2 => ?_)
        show _
        generalize (upd H1 G (.lst ((hs.map (·.name)).map V.str))) = H2 at sG
        have el2 := sG _ _ el
        refine ⟨_, rfl, l, rfl, ⟨_, SqL.of el2⟩, fun J hJ => ?_⟩
        have nlJ : l ≠ J := ne_of_none el2 hJ
        refine lc_list (K := K) (a := l) (xs := as.map V.ref) (fun i H3 => Blk (H3 = upd H2 J (.lst (((ps.take i).map (My.wd x.side)).map V.str)))) (Blk.of rfl) (fun i H3 _ hB => ?_) ?_ ?_
        · obtain rfl := hB.out
          exact SqL.of ((upd_ne nlJ).trans el2)
        · intro i y H3 hi hB
          obtain rfl := hB.out
          obtain ⟨b, hb, rfl⟩ := refs_get hi
          obtain ⟨z, hz, ez⟩ := obs.get hb
          have ez1 := sG _ _ ez
          have hil := get_lt hz
          refine ⟨rfl, ?_⟩
          dsimp only [tYes]
          refine iteT ?_
          refine ⟨_, rfl, _, rfl, _, _, _, _, rfl, rfl, SqT.of ((upd_ne (ne_of_none ez1 hJ)).trans ez1), wd_at2 hside z, ?_⟩
          refine ⟨_, upd_same, by rw [List.length_map, List.length_map, List.length_take]; exact small (by omega), Blk.of ?_⟩
          rw [upd_upd, take_snoc hz, List.map_append, List.map_append]
          rfl
        · intro H3 hB
          obtain rfl := hB.out
          have e2 : ps.take (as.map V.ref).length = ps := by rw [List.length_map, asl, List.take_length]
          rw [e2]
          have sJ : Same H (upd H2 J (.lst ((ps.map (My.wd x.side)).map V.str))) := sG.trans ((Same.refl H2).upd hJ)
          have hJ3 : (upd H2 J (.lst ((ps.map (My.wd x.side)).map V.str))) J = some (.lst ((ps.map (My.wd x.side)).map V.str)) := upd_same
          show _
          generalize (upd H2 J (.lst ((ps.map (My.wd x.side)).map V.str))) = H3 at sJ hJ3
          have eth3 := sJ _ _ eth
          have eqT : ∀ {H' : Hp}, H' th = some (.frz ob (.tup (x.throws.map V.str))) → SqT K H' th (x.throws.map V.str) := fun e => .inl (.inr ⟨ob, e⟩)
          refine ⟨_, rfl, th, rfl, ⟨_, eqT eth3⟩, fun M hM => ?_⟩
          have ntM : th ≠ M := ne_of_none eth3 hM
          have nJM : J ≠ M := ne_of_none hJ3 hM
          refine lc_tup (K := K) (a := th) (xs := x.throws.map V.str) (fun i H4 => Blk (H4 = upd H3 M (.lst (((x.throws.take i).map fun t => decide (t ∈ ps.map (My.wd x.side))).map V.bl)))) (Blk.of rfl) (fun i H4 _ hB => ?_) ?_ ?_
          · obtain rfl := hB.out
            exact eqT ((upd_ne ntM).trans eth3)
          · intro i y H4 hi hB
            obtain rfl := hB.out
            obtain ⟨t, ht, rfl⟩ := strs_get hi
            refine ⟨rfl, ?_⟩
            dsimp only [tYes]
            refine iteT ?_
            refine ⟨_, rfl, _, rfl, J, _, rfl, .inl (SqL.of ((upd_ne nJM).trans hJ3)), rfl, flat_str _, ?_⟩
            rw [if_neg Bool.false_ne_true, inV_str]
            obtain ⟨acc, h1, h2, h3⟩ := bools_step (D := M) (H := H3) (f := fun t => decide (t ∈ ps.map (My.wd x.side))) ht hz3
            exact ⟨acc, h1, h2, Blk.of h3⟩
          · intro H4 hB
            obtain rfl := hB.out
            refine ⟨M, _, rfl, SqL.of upd_same, ?_⟩
            rw [List.length_map, List.take_length, all_map_id]
            have eb : x.throws.all (fun t => decide (t ∈ ps.map (My.wd x.side))) = My.fitsHB x ps hs := by
              unfold My.fitsHB
              rw [c1, c2]
              rfl
            rw [eb]
            exact kk _ (sJ.trans ((Same.refl H3).upd hM))

open My (Hr)
/-! ### helpers that are drawn -/
theorem AllAt.append {α : Type} {R : Addr → α → Prop} {as bs : List Addr} {xs ys : List α} (o : AllAt R as xs) (q : AllAt R bs ys) : AllAt R (as ++ bs) (xs ++ ys) := by
  refine ⟨by rw [List.length_append, List.length_append, o.len, q.len], fun i h x e1 e2 => ?_⟩
  by_cases hi : i < as.length
  · rw [List.getElem?_append_left hi] at e1
    rw [List.getElem?_append_left (by rw [← o.len]; exact hi)] at e2
    exact o.at_ i h x e1 e2
  · rw [List.getElem?_append_right (by omega)] at e1
    rw [List.getElem?_append_right (by rw [← o.len]; omega), ← o.len] at e2
    exact q.at_ _ h x e1 e2
theorem AllAt.drop {α : Type} {R : Addr → α → Prop} {as : List Addr} {xs : List α} (o : AllAt R as xs) (n : Nat) : AllAt R (as.drop n) (xs.drop n) := by
  refine ⟨by rw [List.length_drop, List.length_drop, o.len], fun i h x e1 e2 => ?_⟩
  rw [List.getElem?_drop] at e1 e2
  exact o.at_ _ h x e1 e2
theorem AllAt.one {α : Type} {R : Addr → α → Prop} {h : Addr} {x : α} (e : R h x) : AllAt R [h] [x] := AllAt.nil.snoc e
/-- a text that may be told -/
def WOk (s : Str) : Prop := s.length ≤ 10000 ∧ PyData.strOk s = true
theorem letters_ok {s : Str} (h : s.cps.toList.all My.letter = true) : PyData.strOk s = true := by
  unfold PyData.strOk
  rw [← Array.all_toList]
  refine List.all_eq_true.mpr fun c hc => ?_
  have h4 := (List.all_eq_true.mp h) c hc
  unfold My.letter at h4
  simp only [Bool.and_eq_true, decide_eq_true_eq] at h4
  exact decide_eq_true (by omega)
theorem name_wok {s : Str} (h : My.nameB s = true) : WOk s := ⟨by have := name_len h; omega, letters_ok (nameB_out h).2.2⟩
structure HrOk (x : Hr) : Prop where
  nm : WOk x.name
  tl : x.takes.length ≤ 10000
  tk : ∀ t, t ∈ x.takes → WOk t
  hl : x.throws.length ≤ 10000
  th : ∀ t, t ∈ x.throws → WOk t
def rLenK (K : PySem.W.Frag) : List V → Hp → VK → Prop := fun xs H Q => ∃ p ys, xs = [V.ref p] ∧ (SqL K H p ys ∨ SqT K H p ys) ∧ Q (.int ys.length) H
theorem erase_map {α β : Type} (f : α → β) : ∀ (l : List α) (n : Nat), (l.map f).eraseIdx n = (l.eraseIdx n).map f
  | [], _ => rfl
  | _ :: _, 0 => rfl
  | x :: l, n + 1 => by
    show f x :: (l.map f).eraseIdx n = f x :: (l.eraseIdx n).map f
    rw [erase_map f l n]
theorem drop_le {α : Type} {xs : List α} {n : Nat} {x : α} (h : x ∈ xs.drop n) : x ∈ xs := List.mem_of_mem_drop h
def sp_some : Sp := fun vs H Q _ => ∃ (b g l L : Addr) (n m : Int) (xs : List Str), vs = [.ref b, .ref L, .int m] ∧ BoxAt H b g l n ∧ 0 ≤ n ∧ n < 8000000 ∧ H L = some (.lst (xs.map V.str)) ∧ xs.length ≤ 1000 ∧ 0 ≤ m ∧ m ≤ 4 ∧
  ∀ (p : Addr) (ys : List Str) (n' : Int) (H' : Hp), H p = none → H' p = some (.lst (ys.map V.str)) → ys.length ≤ 4 → (∀ y, y ∈ ys → y ∈ xs) → (xs.Nodup → ys.Nodup) → n ≤ n' → n' ≤ n + 5 → BoxAt H' b g l n' → Keeps [b, g] H H' → Q (.ref p) H'
theorem min_two (m k : Int) : (if k < m then k else m) ≤ m ∧ (if k < m then k else m) ≤ k := by
  split <;> omega
theorem ok_some (T : Txt K mg a) : FnOk P w K mg base CX0 3 a.f_some a.d_some ["_law_box_here", "_law_things", "_law_most"] sp_some := by
  refine T.F_some.ok sc_some (fun vs H Q E h => ?_) (fun cdv A outer s H vs Q E hr h => ?_)
  · obtain ⟨b, g, l, L, n, m, xs, rfl, _⟩ := h
    rfl
  · obtain ⟨b, g, l, L, n, m, xs, rfl, bx, n0, n1, hL, hz, m0, m1, kk⟩ := h
    refine ⟨_, (pss_cons (ps_set (i := 3) sc_some.nd rfl (Or.inr rfl) (pe_callTy call_list_of (by rfl) T.z_list (by decide +kernel) (pa_cons (pv 1) pa_nil)))
      (pss_one (ps_ret (pe_lc (own := [("_law_k", 4)]) (g := gName 4) (te := tBM K "list" rPopAt (tVar 3) (tCons (tCall sp_take [] (fun _ _ _ => False) (tCons (tVar 0) (tCons (tCB (rLenK K) (tCons (tVar 3) tNil)) tNil))) tNil)) (tt := tYes) rfl sc_some.nd (pi_range1 (by rfl) T.z_range (pa_cons (pe_call (ok_take T) (hr.mono (by decide)) rfl T.g_take T.k_take T.B_take .nil pass0 (pa_cons (pv 0) (pa_cons (pe_op op_add (pe_callB (call_min2 rfl) (by rfl) T.z_min (by decide +kernel) (pa_cons (pv 2) (pa_cons (pe_callB call_len_seq (by rfl) T.z_len (by decide +kernel) (pa_cons (pv 3) pa_nil)) pa_nil))) pe_int) pa_nil))) pa_nil)) (blkOk_by (own := [("_law_k", 4)]) (N := ["_law_box_here", "_law_things", "_law_most", "_law_pool", "_law_k"]) (sc := defScope s_some) (by decide +kernel)) (fun _ _ _ _ _ => pg_name (i := 4) sc_some.nd rfl (Or.inl rfl)) (fun _ _ _ _ _ => pts_nil) (fun _ _ _ _ _ => by exact (pe_bm PySem.F.plainAttrs_list PySem.F.slot_list_pop PySem.F.type_list_pop mt_popAt (pv 3) (pa_cons (pe_call (ok_take T) (hr.mono (by decide)) rfl T.g_take T.k_take T.B_take .nil pass0 (pa_cons (pv 0) (pa_cons (pe_callB call_len_seq (by rfl) T.z_len (by decide +kernel) (pa_cons (pv 3) pa_nil)) pa_nil))) pa_nil))))))), ?_⟩
    refine ⟨_, rfl, L, _, rfl, .inl (SqL.of hL), fun p hp => ?_⟩
    have hp1 : (upd H p (.lst (xs.map V.str))) p = some (.lst (xs.map V.str)) := upd_same
    have bx1 := bx.upd (o := .lst (xs.map V.str)) hp
    have hpo := offbox bx hp
    have hpo3 := offbox3 bx hp
    have k01 : Keeps [b, g] H (upd H p (.lst (xs.map V.str))) := (Keeps.refl [b, g] H).upd (.inr hp)
    show _
    generalize (upd H p (.lst (xs.map V.str))) = H1 at hp1 bx1 k01
    refine ⟨_, rfl, _, rfl, _, rfl, p, _, rfl, .inl (SqL.of hp1), _, _, rfl, ?_⟩
    have el : (((xs.map V.str).length : Nat) : Int) = (xs.length : Int) := by rw [List.length_map]
    rw [el]
    have mt := min_two m (xs.length : Int)
    have mp : 0 ≤ (if (xs.length : Int) < m then (xs.length : Int) else m) := by split <;> omega
    generalize (if (xs.length : Int) < m then (xs.length : Int) else m) = c at mt mp
    refine ⟨_, _, rfl, rfl, ?_⟩
    have lc : (c + 1).natAbs.log2 < 9000 := by
      have : c = 0 ∨ c = 1 ∨ c = 2 ∨ c = 3 ∨ c = 4 := by omega
      rcases this with rfl | rfl | rfl | rfl | rfl <;> decide
    refine ⟨b, g, l, n, c + 1, rfl, bx1, n0, by omega, by omega, lc, fun k H2 k0 k1 bx2 kp2 => ?_⟩
    have hp2 := kp2 _ _ hp1 hpo
    have k02 := k01.trans kp2
    refine ⟨k, rfl, by omega, by omega, fun D hD => ?_⟩
    have npD : p ≠ D := ne_of_none hp2 hD
    have hDo := offbox bx2 hD
    have hDo3 := offbox3 bx2 hD
    have hD0 : H D = none := by
      rcases k02.fresh hD with q | q
      · exact absurd q hDo
      · exact q
    refine lc_range (lo := 0) (n := k.toNat) (fun i H3 => Blk (∃ zs ys : List Str, zs.length + i = xs.length ∧ (∀ z, z ∈ zs → z ∈ xs) ∧ ys.length = i ∧ (∀ y, y ∈ ys → y ∈ xs) ∧ (ys ++ zs).Perm xs ∧ H3 p = some (.lst (zs.map V.str)) ∧ H3 D = some (.lst (ys.map V.str)) ∧ BoxAt H3 b g l (n + 1 + i) ∧ Keeps [b, g] H H3)) ?_ ?_ ?_
    · refine Blk.of ⟨xs, [], rfl, fun z hz => hz, rfl, fun y hy => by simp at hy, List.Perm.refl _, (upd_ne npD).trans hp2, upd_same, ?_, k02.upd (.inr hD0)⟩
      have e : n + 1 + ((0 : Nat) : Int) = n + 1 := by omega
      rw [e]
      exact bx2.upd hD
    · intro i H3 hi hB
      obtain ⟨zs, ys, hzl, hzs, rfl, hys, hpm, h3p, h3D, bx3, k03⟩ := hB.out
      have zpos : 0 < zs.length := by omega
      refine ⟨rfl, ?_⟩
      dsimp only [tYes]
      refine iteT ?_
      have elz : (((zs.map V.str).length : Nat) : Int) = (zs.length : Int) := by rw [List.length_map]
      refine ⟨_, rfl, .inl ⟨rfl, _, SqL.of h3p⟩, ?_⟩
      refine ⟨_, rfl, _, rfl, p, _, rfl, .inl (SqL.of h3p), ?_⟩
      rw [elz]
      have lz : ((zs.length : Nat) : Int).natAbs.log2 < 9000 := by
        rw [Int.natAbs_natCast]
        by_cases h0 : zs.length = 0
        · rw [h0]; decide
        · have : zs.length.log2 < 17 := (Nat.log2_lt h0).mpr (by omega)
          omega
      refine ⟨b, g, l, _, _, rfl, bx3, by omega, by omega, by omega, lz, fun j H4 j0 j1 bx4 kp4 => ?_⟩
      have h4p := kp4 _ _ h3p hpo
      have h4D := kp4 _ _ h3D hDo
      obtain ⟨jn, rfl⟩ : ∃ m : Nat, j = m := ⟨j.toNat, by omega⟩
      have hj : jn < zs.length := by omega
      have hzj : zs[jn]? = some zs[jn] := List.getElem?_eq_getElem hj
      have hmem := List.mem_of_getElem? hzj
      generalize zs[jn] = z at hzj hmem
      refine ⟨p, _, _, jn, .str z, rfl, rfl, h4p, by omega, by omega, seqIndex_of (by omega) (by rw [List.length_map]; omega), by rw [List.getElem?_map, hzj]; rfl, ?_⟩
      have e1 : (zs.map V.str).eraseIdx jn = (zs.eraseIdx jn).map V.str := erase_map V.str zs jn
      rw [e1]
      refine ⟨_, (upd_ne npD.symm).trans h4D, by rw [List.length_map]; exact small (by omega), Blk.of ⟨zs.eraseIdx jn, ys ++ [z], ?_, ?_, by rw [List.length_append]; rfl, ?_, ?_, ?_, ?_, ?_, ?_⟩⟩
      · rw [List.length_eraseIdx, if_pos hj]
        omega
      · intro y hy
        exact hzs y (List.mem_of_mem_eraseIdx hy)
      · intro y hy
        rcases List.mem_append.mp hy with e | e
        · exact hys y e
        · simp at e; subst e; exact hzs _ hmem
      · refine List.Perm.trans ?_ hpm
        rw [List.append_assoc]
        refine List.Perm.append_left _ ?_
        obtain ⟨hl2, e2⟩ := List.getElem?_eq_some_iff.mp hzj
        rw [List.eraseIdx_eq_take_drop_succ]
        have p := (List.perm_middle (a := z) (l₁ := zs.take jn) (l₂ := zs.drop (jn + 1))).symm
        have e3 : zs.take jn ++ z :: zs.drop (jn + 1) = zs := by
          rw [← e2, List.getElem_cons_drop hl2, List.take_append_drop]
        rw [e3] at p
        exact p
      · rw [upd_ne npD, upd_same]
      · rw [upd_same, List.map_append]; rfl
      · have e : n + 1 + ((ys.length + 1 : Nat) : Int) = n + 1 + (ys.length : Int) + 1 := by omega
        rw [e]
        exact box_put (box_put bx4 hpo3) hDo3
      · exact ((k03.trans kp4).upd (.inr hp)).upd (.inr hD0)
    · intro H3 hB
      obtain ⟨zs, ys, hzl, hzs, hyl, hys, hpm, h3p, h3D, bx3, k03⟩ := hB.out
      exact kk D ys _ H3 hD0 h3D (by omega) hys (fun nd => (List.nodup_append.mp (hpm.nodup_iff.mpr nd)).1) (by omega) (by omega) bx3 k03

open My (Hr)
theorem box_notup {b g l : Addr} {n : Int} {H : Hp} (bx : BoxAt H b g l n) : NoTup H [b, g] := by
  obtain ⟨gs, ls, cur, e1, e2, _⟩ := bx
  intro x hx ys
  simp at hx
  rcases hx with rfl | rfl
  · rw [e1]; exact ⟨fun e => (by cases e), fun o e => (by cases e)⟩
  · rw [e2]; exact ⟨fun e => (by cases e), fun o e => (by cases e)⟩
/-- the words of a side, as they are read off the pairs: the comprehension's own name in slot sl -/
theorem words_comp {K : PySem.W.Frag} {L : Addr} {as : List Addr} {ps : List My.Pr} {H1 : Hp} {i : Int} {te : TE} {σ : L2.St} {D : Addr} {Qd : Hp → Prop} {sl : Nat} (ob : Objs H1 as prO ps) (hL : H1 L = some (.lst (as.map V.ref))) (hD : H1 D = none) (hz : ps.length ≤ 10000)
    (hw : ∀ x : Option V, wipe ((wipe σ [sl]).set sl x) [sl] = wipe σ [sl])
    (ht : ∀ (h : Addr) (q : My.Pr) (H2 : Hp) (R : VK), H2 h = some (prO q) → R (.str (My.wd i q)) H2 → te ((wipe σ [sl]).set sl (some (.ref h))) H2 R)
    (hd : ∀ H2 : Hp, Same H1 H2 → H2 D = some (.lst ((ps.map (My.wd i)).map V.str)) → Qd H2) :
    ∃ W : Nat → Nat → Hp → Prop, (∃ m, W 0 m (upd H1 D (.lst []))) ∧ ∀ i m H, W i m H →
      ((Itl K L).stop i H ∧ Qd H) ∨ ((Itl K L).go i H ∧ ∃ Nx : Hp → Prop, (∀ H', Nx H' → ∃ m', m' < m ∧ W (i + 1) m' H') ∧ ∀ x H', (Itl K L).yld i H x H' → gName sl x (wipe σ [sl]) H' fun σ2 H2 => wipe σ2 [sl] = wipe σ [sl] ∧ tYes σ2 H2 fun b H3 =>
        if b = true then te σ2 H3 fun y H4 => ∃ acc, H4 D = some (.lst acc) ∧ acc.length < sizeLine ∧ Nx (upd H4 D (.lst (acc ++ [y]))) else Nx H3) := by
  have nLD : L ≠ D := ne_of_none hL hD
  have asl := ob.len
  refine lc_list (K := K) (a := L) (xs := as.map V.ref) (fun k H2 => Blk (H2 = upd H1 D (.lst (((ps.take k).map (My.wd i)).map V.str)))) (Blk.of rfl) (fun k H2 _ hB => ?_) ?_ ?_
  · obtain rfl := hB.out
    exact SqL.of ((upd_ne nLD).trans hL)
  · intro k y H2 hy hB
    obtain rfl := hB.out
    obtain ⟨h, hh, rfl⟩ := refs_get hy
    obtain ⟨q, hq, hq2⟩ := ob.get hh
    have hk := get_lt hq
    refine ⟨hw _, ?_⟩
    dsimp only [tYes]
    refine iteT ?_
    refine ht h q _ _ ((upd_ne (ne_of_none hq2 hD)).trans hq2) ⟨_, upd_same, by rw [List.length_map, List.length_map, List.length_take]; exact small (by omega), Blk.of ?_⟩
    rw [upd_upd, take_snoc hq, List.map_append, List.map_append]
    rfl
  · intro H2 hB
    obtain rfl := hB.out
    have e : ps.take (as.map V.ref).length = ps := by rw [List.length_map, asl, List.take_length]
    rw [e]
    exact hd _ ((Same.refl H1).upd hD) upd_same
def cap (i : Int) (k : Nat) (s : Int) : Nat := if s < i then 4 else if s = i then k else 0
/-- the helpers so far, and the names that are left -/
structure Mo (ps : List My.Pr) (hs : List Hr) (ns : List Str) (c : Int → Nat) : Prop where
  nd : (hs.map (·.name) ++ ns).Nodup
  ok : ∀ x, x ∈ hs → My.pactB x = true ∧ ∀ t, t ∈ x.throws → t ∈ ps.map (My.wd x.side)
  few : ∀ s : Int, (hs.filter fun z => decide (z.side = s)).length ≤ c s
theorem ins_perm {hs : List Hr} {x : Hr} (n : Nat) : (hs.take n ++ [x] ++ hs.drop n).Perm (x :: hs) := by
  have h : (hs.take n ++ [x] ++ hs.drop n).Perm (x :: (hs.take n ++ hs.drop n)) := by
    rw [List.append_assoc]
    exact List.perm_middle
  rw [List.take_append_drop] at h
  exact h
theorem Mo.insert {ps : List My.Pr} {hs : List Hr} {nl : List Str} {i : Int} {k : Nat} {x : Hr} (m : Mo ps hs (nl ++ [x.name]) (cap i k)) (n : Nat) (hi : x.side = i) (b : My.pactB x = true) (ht : ∀ t, t ∈ x.throws → t ∈ ps.map (My.wd x.side)) : Mo ps (hs.take n ++ [x] ++ hs.drop n) nl (cap i (k + 1)) := by
  have p := ins_perm (hs := hs) (x := x) n
  refine ⟨?_, fun z hz => ?_, fun s => ?_⟩
  · have p2 : ((hs.take n ++ [x] ++ hs.drop n).map (·.name) ++ nl).Perm (hs.map (·.name) ++ (nl ++ [x.name])) := by
      refine ((p.map (·.name)).append_right nl).trans ?_
      rw [List.map_cons, ← List.append_assoc]
      exact (List.perm_append_comm (l₁ := [x.name])).trans (List.Perm.refl _)
    exact p2.nodup_iff.mpr m.nd
  · rcases List.mem_cons.mp (p.mem_iff.mp hz) with rfl | e
    · exact ⟨b, ht⟩
    · exact m.ok z e
  · have l := (p.filter fun z => decide (z.side = s)).length_eq
    rw [l]
    have f := m.few s
    unfold cap at f ⊢
    by_cases c : x.side = s
    · rw [List.filter_cons, if_pos (by simp [c]), List.length_cons]
      subst hi
      rw [if_neg (by omega), if_pos c.symm] at f ⊢
      omega
    · rw [List.filter_cons, if_neg (by simp [c])]
      subst hi
      by_cases d : s < x.side
      · rw [if_pos d] at f ⊢
        exact f
      · rw [if_neg d, if_neg fun q => c q.symm] at f ⊢
        exact f
theorem Mo.mono {ps : List My.Pr} {hs : List Hr} {ns : List Str} {c d : Int → Nat} (m : Mo ps hs ns c) (h : ∀ s, c s ≤ d s) : Mo ps hs ns d := ⟨m.nd, m.ok, fun s => Nat.le_trans (m.few s) (h s)⟩
theorem Mo.crew {ps : List My.Pr} {hs : List Hr} {ns : List Str} {i : Int} {k : Nat} (m : Mo ps hs ns (cap i k)) (hk : k ≤ 4) : My.CrewOk ps hs := ⟨m.ok, (List.nodup_append.mp m.nd).1, fun s => Nat.le_trans (m.few s) (by
  unfold cap
  split
  · omega
  · split <;> omega)⟩
theorem words_nodup {ps : List My.Pr} (ok : My.PairsOk ps) {i : Int} (hi : i = 0 ∨ i = 1) : (ps.map (My.wd i)).Nodup := by
  rcases hi with rfl | rfl
  · exact ok.nears
  · exact ok.fars
structure HelpSt (H0 H : Hp) (b g l L N Cn F : Addr) (as : List Addr) (ps : List My.Pr) (c0 c1 n : Int) (has : List Addr) (hs : List Hr) (ns : List Str) (tot : Nat) : Prop where
  bx : BoxAt H b g l n
  hF : H F = some (.lst (has.map V.ref))
  cr : Crew H has hs
  ok : ∀ x, x ∈ hs → HrOk x ∧ (x.side = 0 ∨ x.side = 1) ∧ x.throws.length ≤ 4
  hN : H N = some (.lst (ns.map V.str))
  nl : ns.length + hs.length = tot
  nm : ∀ s, s ∈ ns → My.nameB s = true
  hC : H Cn = some (.lst [.int c0, .int c1])
  hL : H L = some (.lst (as.map V.ref))
  ob : Objs H as prO ps
  kp : Keeps [b, g] H0 H
theorem HelpSt.box {H0 H H' : Hp} {b g l L N Cn F : Addr} {as : List Addr} {ps : List My.Pr} {c0 c1 n n' : Int} {has : List Addr} {hs : List Hr} {ns : List Str} {tot : Nat} (s : HelpSt H0 H b g l L N Cn F as ps c0 c1 n has hs ns tot)
    (bx : BoxAt H' b g l n') (k : Keeps [b, g] H H') (o : ∀ x, x ∈ [L, N, Cn, F] → x ∉ [b, g]) : HelpSt H0 H' b g l L N Cn F as ps c0 c1 n' has hs ns tot :=
  ⟨bx, k _ _ s.hF (o F (by simp)), Crew.keep s.cr k (box_notup s.bx), s.ok, k _ _ s.hN (o N (by simp)), s.nl, s.nm, k _ _ s.hC (o Cn (by simp)), k _ _ s.hL (o L (by simp)), s.ob.keepN k (box_notup s.bx), s.kp.trans k⟩
theorem Same.keeps {R : List Addr} {H H' : Hp} (s : Same H H') : Keeps R H H' := fun c o e _ => s c o e
theorem HelpSt.same {H0 H H' : Hp} {b g l L N Cn F : Addr} {as : List Addr} {ps : List My.Pr} {c0 c1 n : Int} {has : List Addr} {hs : List Hr} {ns : List Str} {tot : Nat} (s : HelpSt H0 H b g l L N Cn F as ps c0 c1 n has hs ns tot)
    (k : Same H H') : HelpSt H0 H' b g l L N Cn F as ps c0 c1 n has hs ns tot :=
  ⟨s.bx.same k, k _ _ s.hF, Crew.same s.cr k, s.ok, k _ _ s.hN, s.nl, s.nm, k _ _ s.hC, k _ _ s.hL, s.ob.same k, s.kp.trans (Same.keeps k)⟩
theorem lent_wok : ∀ t, t ∈ (["lent", "given"] : List Str) → WOk t := by
  intro t ht
  have : t = "lent" ∨ t = "given" := by simpa using ht
  rcases this with rfl | rfl
  · exact ⟨by decide +kernel, by decide +kernel⟩
  · exact ⟨by decide +kernel, by decide +kernel⟩
theorem log_le {n : Nat} (h : n ≤ 10000) : ((n : Nat) : Int).natAbs.log2 < 9000 := by
  rw [Int.natAbs_natCast]
  by_cases h0 : n = 0
  · subst h0; decide
  · have : n.log2 < 17 := (Nat.log2_lt h0).mpr (by omega)
    omega
def sp_helpers : Sp := fun vs H Q _ => ∃ (b g l L : Addr) (n : Int) (as : List Addr) (ps : List My.Pr), vs = [.ref b, .ref L] ∧ BoxAt H b g l n ∧ 0 ≤ n ∧ n < 6000000 ∧ H L = some (.lst (as.map V.ref)) ∧ L ∉ [b, g] ∧ Objs H as prO ps ∧ My.PairsOk ps ∧
  ∀ (p : Addr) (has : List Addr) (hs : List Hr) (n' : Int) (H' : Hp), H p = none → H' p = some (.lst (has.map V.ref)) → Crew H' has hs → hs.length ≤ 8 → (∀ x, x ∈ hs → HrOk x) → My.CrewOk ps hs → n ≤ n' → n' ≤ n + 400 → BoxAt H' b g l n' → Keeps [b, g] H H' → Q (.ref p) H'
theorem ok_helpers (T : Txt K mg a) : FnOk P w K mg base CX0 5 a.f_helpers a.d_helpers ["_law_box_here", "_law_pairs_here"] sp_helpers := by
  refine T.F_helpers.ok sc_helpers (fun vs H Q E h => ?_) (fun cdv A outer s H vs Q E hr h => ?_)
  · obtain ⟨b, g, l, L, n, as, ps, rfl, _⟩ := h
    rfl
  · obtain ⟨b, g, l, L, n, as, ps, rfl, bx, n0, n1, hL, oL, ob, pok, kk⟩ := h
    have hz := pok.many
    have hw : ∀ q, q ∈ ps → WOk q.1 ∧ WOk q.2.1 := fun q hq => ⟨name_wok (pok.nm q hq).1, name_wok (pok.nm q hq).2⟩
    refine ⟨_, (pss_cons (ps_set (i := 2) sc_helpers.nd rfl (Or.inl rfl) (pe_call (ok_names T) (hr.mono (by decide)) rfl T.g_names T.k_names T.B_names .nil pass0 (pa_cons (pv 0) (pa_cons pe_int pa_nil))))
      (pss_cons (ps_set (i := 3) sc_helpers.nd rfl (Or.inl rfl) (pe_lst (pa_cons (pe_call (ok_take T) (hr.mono (by decide)) rfl T.g_take T.k_take T.B_take .nil pass0 (pa_cons (pv 0) (pa_cons pe_int pa_nil))) (pa_cons (pe_call (ok_take T) (hr.mono (by decide)) rfl T.g_take T.k_take T.B_take .nil pass0 (pa_cons (pv 0) (pa_cons pe_int pa_nil))) pa_nil))))
      (pss_cons (ps_set (i := 4) sc_helpers.nd rfl (Or.inl rfl) (pe_lst pa_nil))
      (pss_cons (ps_for PassesOwn.never rfl (pi_range1 (by rfl) T.z_range (pa_cons pe_int pa_nil)) (pg_name (i := 5) sc_helpers.nd rfl (Or.inr rfl)) (pss_one (ps_for PassesOwn.never rfl (pi_range1 (by rfl) T.z_range (pa_cons (pe_ix ix_list (pv 3) (pv 5) (fun _ _ => rfl)) pa_nil)) (pg_name (i := 6) sc_helpers.nd rfl (Or.inl rfl)) (pss_cons (ps_set (i := 7) sc_helpers.nd rfl (Or.inl rfl) (pe_callTy call_tupleF (by rfl) T.z_tuple (by decide +kernel) (pa_cons (pe_lc (own := [("_law_j", 10)]) (g := gName 10) (te := tOp (rIxL K) (tLst (tCons (tC (.str "lent")) (tCons (tC (.str "given")) tNil))) (tCall sp_take [] (fun _ _ _ => False) (tCons (tVar 0) (tCons (tC (.int 2)) tNil)))) (tt := tYes) rfl sc_helpers.nd (pi_range1 (by rfl) T.z_range (pa_cons (pe_call (ok_take T) (hr.mono (by decide)) rfl T.g_take T.k_take T.B_take .nil pass0 (pa_cons (pv 0) (pa_cons pe_int pa_nil))) pa_nil)) (blkOk_by (own := [("_law_j", 10)]) (N := ["_law_box_here", "_law_pairs_here", "_law_names_here", "_law_counts", "_law_found", "_law_side", "_law_k", "_law_takes", "_law_throws", "_law_helper", "_law_j", "_law_pair"]) (sc := defScope s_helpers) (by decide +kernel)) (fun _ _ _ _ _ => pg_name (i := 10) sc_helpers.nd rfl (Or.inl rfl)) (fun _ _ _ _ _ => pts_nil) (fun _ _ _ _ _ => by exact (pe_ix ix_list (pe_lst (pa_cons pe_str (pa_cons pe_str pa_nil))) (pe_call (ok_take T) (hr.mono (by decide)) rfl T.g_take T.k_take T.B_take .nil pass0 (pa_cons (pv 0) (pa_cons pe_int pa_nil))) (fun _ _ => rfl)))) pa_nil)))
      (pss_cons (ps_set (i := 8) sc_helpers.nd rfl (Or.inl rfl) (pe_callTy call_tupleF (by rfl) T.z_tuple (by decide +kernel) (pa_cons (pe_call (ok_some T) (hr.mono (by decide)) rfl T.g_some T.k_some T.B_some .nil pass0 (pa_cons (pv 0) (pa_cons (pe_lc (own := [("_law_pair", 11)]) (g := gName 11) (te := tOp (rIxT K) (tVar 11) (tVar 5)) (tt := tYes) rfl sc_helpers.nd (pi_list (pv 1)) (blkOk_by (own := [("_law_pair", 11)]) (N := ["_law_box_here", "_law_pairs_here", "_law_names_here", "_law_counts", "_law_found", "_law_side", "_law_k", "_law_takes", "_law_throws", "_law_helper", "_law_j", "_law_pair"]) (sc := defScope s_helpers) (by decide +kernel)) (fun _ _ _ _ _ => pg_name (i := 11) sc_helpers.nd rfl (Or.inl rfl)) (fun _ _ _ _ _ => pts_nil) (fun _ _ _ _ _ => by exact (pe_ix ix_tup (pv 11) (pv 5) (fun _ _ => rfl)))) (pa_cons pe_int pa_nil)))) pa_nil)))
      (pss_cons (ps_set (i := 9) sc_helpers.nd rfl (Or.inl rfl) (pe_tup (pa_cons (pe_bm0 PySem.F.plainAttrs_list PySem.F.slot_list_pop PySem.F.type_list_pop mt_pop (pv 2)) (pa_cons (pv 5) (pa_cons (pv 7) (pa_cons (pe_cmpR op_eq (pe_call (ok_take T) (hr.mono (by decide)) rfl T.g_take T.k_take T.B_take .nil pass0 (pa_cons (pv 0) (pa_cons pe_int pa_nil))) pe_int (nomark _)) (pa_cons (pv 8) pa_nil)))))))
      (pss_one (ps_expr (pe_bm PySem.F.plainAttrs_list PySem.F.slot_list_insert PySem.F.type_list_insert mt_insert (pv 4) (pa_cons (pe_call (ok_take T) (hr.mono (by decide)) rfl T.g_take T.k_take T.B_take .nil pass0 (pa_cons (pv 0) (pa_cons (pe_op op_add (pe_callB call_len_seq (by rfl) T.z_len (by decide +kernel) (pa_cons (pv 4) pa_nil)) pe_int) pa_nil))) (pa_cons (pv 9) pa_nil)))))))))))
      (pss_one (ps_ret (pv 4))))))), ?_⟩
    refine ⟨_, rfl, b, g, l, n, 8, rfl, bx, n0, by omega, by omega, by omega, fun N ns n2 H2 hN hN2 hl2 nm2 nd2 a2 b2 bx2 kp2 => ?_⟩
    refine ⟨_, rfl, b, g, l, n2, 5, rfl, bx2, by omega, by omega, by decide, by decide, fun c0 H3 c00 c01 bx3 kp3 => ?_⟩
    refine ⟨_, rfl, b, g, l, n2 + 1, 5, rfl, bx3, by omega, by omega, by decide, by decide, fun c1 H4 c10 c11 bx4 kp4 => ?_⟩
    have k04 := (kp2.trans kp3).trans kp4
    have oN := offbox bx hN
    have oN3 := offbox3 bx hN
    have hN4 := kp4 _ _ (kp3 _ _ hN2 oN) oN
    refine ⟨by show 2 ≤ sizeLine; decide, fun Cn hCn => ?_⟩
    have oC := offbox bx4 hCn
    have oC3 := offbox3 bx4 hCn
    have nNC : N ≠ Cn := ne_of_none hN4 hCn
    refine ⟨by show 0 ≤ sizeLine; decide, fun F hF => ?_⟩
    have nCF : Cn ≠ F := ne_of_none upd_same hF
    have hF4 : H4 F = none := (upd_ne nCF.symm).symm.trans hF
    have nNF : N ≠ F := ne_of_none hN4 hF4
    have oF := offbox bx4 hF4
    have oF3 := offbox3 bx4 hF4
    have hF0 : H F = none := by
      rcases k04.fresh hF4 with q | q
      · exact absurd q oF
      · exact q
    have nLF : L ≠ F := ne_of_none hL hF0
    have nLN : L ≠ N := ne_of_none hL hN
    have hC0 : H Cn = none := by
      rcases k04.fresh hCn with q | q
      · exact absurd q oC
      · exact q
    have off : ∀ x, x ∈ [L, N, Cn, F] → x ∉ [b, g] := fun x hx => by
      simp at hx
      rcases hx with rfl | rfl | rfl | rfl
      · exact oL
      · exact oN
      · exact oC
      · exact oF
    have st5 : HelpSt H (upd (upd H4 Cn (.lst [.int c0, .int c1])) F (.lst [])) b g l L N Cn F as ps c0 c1 (n2 + 1 + 1) [] [] ns 8 := by
      have s45 : Same H4 (upd (upd H4 Cn (.lst [.int c0, .int c1])) F (.lst [])) := ((Same.refl H4).upd hCn).upd hF4
      exact ⟨bx4.same s45, upd_same, AllAt.nil, fun x hx => by simp at hx, s45 _ _ hN4, by simp; omega, nm2, (upd_ne nCF).trans upd_same, s45 _ _ (k04 _ _ hL oL), (ob.keepN k04 (box_notup bx)).same s45, k04.trans (Same.keeps s45)⟩
    show _
    generalize (upd (upd H4 Cn (.lst [.int c0, .int c1])) F (.lst [])) = H5 at st5
    refine ⟨2, rfl, by decide, by decide, ?_⟩
    refine for_range (lo := 0) (n := 2) (fun i σ H6 => Blk (∃ v5 v6 v7 v8 v9 n6 has hs ns, σ = [some (.ref b), some (.ref L), some (.ref N), some (.ref Cn), some (.ref F), v5, v6, v7, v8, v9, none, none] ∧ HelpSt H H6 b g l L N Cn F as ps c0 c1 n6 has hs ns 8 ∧ n ≤ n6 ∧ n6 ≤ n + 100 + 20 * hs.length ∧ hs.length ≤ 4 * i ∧ Mo ps hs ns (cap (0 + (i : Nat)) 0))) ?_ ?_ ?_
    · exact Blk.of ⟨_, _, _, _, _, _, _, _, _, rfl, st5, by omega, by simp; omega, by simp, ⟨by simpa using nd2, fun x hx => by simp at hx, fun s => by simp⟩⟩
    · intro i σ H6 hi hB
      obtain ⟨v5, v6, v7, v8, v9, n6, has, hs, ns, rfl, st6, a6, b6, l6, mo6⟩ := hB.out
      have si : (0 : Int) + (i : Nat) = 0 ∨ (0 : Int) + (i : Nat) = 1 := by omega
      have cnt : ∃ c : Int, atI [V.int c0, .int c1] (0 + (i : Nat)) = some (.int c) ∧ 0 ≤ c ∧ c ≤ 4 := by
        have : i = 0 ∨ i = 1 := by omega
        rcases this with rfl | rfl
        · exact ⟨c0, rfl, by omega, by omega⟩
        · exact ⟨c1, rfl, by omega, by omega⟩
      obtain ⟨c, hc, hc0, hc4⟩ := cnt
      generalize esd : (0 : Int) + (i : Nat) = sd at hc si mo6
      refine ⟨_, rfl, _, rfl, _, _, _, _, rfl, rfl, SqL.of st6.hC, hc, c, rfl, by omega, by omega, ?_⟩
      refine for_range (lo := 0) (n := c.toNat) (fun k σ H7 => Blk (∃ v6 v7 v8 v9 n7 has hs ns, σ = [some (.ref b), some (.ref L), some (.ref N), some (.ref Cn), some (.ref F), some (.int sd), v6, v7, v8, v9, none, none] ∧ HelpSt H H7 b g l L N Cn F as ps c0 c1 n7 has hs ns 8 ∧ n ≤ n7 ∧ n7 ≤ n + 100 + 20 * hs.length ∧ hs.length ≤ 4 * i + k ∧ Mo ps hs ns (cap sd k))) ?_ ?_ ?_
      · exact Blk.of ⟨_, _, _, _, _, _, _, _, rfl, st6, a6, b6, by omega, mo6⟩
      · intro k σ H7 hk hB
        obtain ⟨v6, v7, v8, v9, n7, has, hs, ns, rfl, st, a7, b7, l7, mo7⟩ := hB.out
        have hs7 : hs.length ≤ 7 := by omega
        -- takes
        refine ⟨_, rfl, b, g, l, n7, 4, rfl, st.bx, by omega, by omega, by decide, by decide, fun m H8 m0 m1 bx8 kp8 => ?_⟩
        have st8 := st.box bx8 kp8 off
        refine ⟨m, rfl, by omega, by omega, fun D hD => ?_⟩
        have oD := offbox bx8 hD
        have oD3 := offbox3 bx8 hD
        refine lc_range (lo := 0) (n := m.toNat) (fun j H9 => Blk (∃ (ts : List Str), ts.length = j ∧ (∀ t, t ∈ ts → t ∈ (["lent", "given"] : List Str)) ∧ H9 D = some (.lst (ts.map V.str)) ∧ HelpSt H H9 b g l L N Cn F as ps c0 c1 (n7 + 1 + j) has hs ns 8)) ?_ ?_ ?_
        · refine Blk.of ⟨[], rfl, fun t ht => by simp at ht, upd_same, ?_⟩
          have e : n7 + 1 + ((0 : Nat) : Int) = n7 + 1 := by omega
          rw [e]
          exact st8.same ((Same.refl H8).upd hD)
        · intro j H9 hj hB
          obtain ⟨ts, rfl, hts, h9D, st9⟩ := hB.out
          refine ⟨rfl, ?_⟩
          dsimp only [tYes]
          refine iteT ?_
          refine ⟨by show 2 ≤ sizeLine; decide, fun G hG => ?_⟩
          have nDG : D ≠ G := ne_of_none h9D hG
          have oG := offbox st9.bx hG
          refine ⟨_, rfl, b, g, l, _, 2, rfl, st9.bx.upd hG, by omega, by omega, by decide, by decide, fun z H10 z0 z1 bx10 kp10 => ?_⟩
          have hG10 := kp10 _ _ upd_same oG
          have h10D := kp10 _ _ ((upd_ne nDG).trans h9D) oD
          have st10 := (st9.same ((Same.refl H9).upd (o := .lst [.str "lent", .str "given"]) hG)).box bx10 kp10 off
          obtain ⟨t, ht, htm⟩ : ∃ t : Str, atI [V.str "lent", .str "given"] z = some (.str t) ∧ t ∈ (["lent", "given"] : List Str) := by
            have : z = 0 ∨ z = 1 := by omega
            rcases this with rfl | rfl
            · exact ⟨_, rfl, by simp⟩
            · exact ⟨_, rfl, by simp⟩
          refine ⟨_, _, _, _, rfl, rfl, SqL.of hG10, ht, ?_⟩
          have hDn : NoTup H10 [D] := NoTup.lst h10D
          have kD : ∀ o, Keeps [D] H10 (upd H10 D o) := fun o => (Keeps.refl _ H10).upd (.inl (by simp))
          have nDx : ∀ x, x ∈ [L, N, Cn, F] → x ≠ D := fun x hx q => by
            subst q
            simp at hx
            rcases hx with rfl | rfl | rfl | rfl
            · rw [st8.hL] at hD; cases hD
            · rw [st8.hN] at hD; cases hD
            · rw [st8.hC] at hD; cases hD
            · rw [st8.hF] at hD; cases hD
          have hD0 : H D = none := by
            rcases st8.kp.fresh hD with q | q
            · exact absurd q oD
            · exact q
          refine ⟨_, h10D, by rw [List.length_map]; exact small (by omega), Blk.of ⟨ts ++ [t], by rw [List.length_append]; rfl, ?_, ?_, ?_⟩⟩
          · intro y hy
            rcases List.mem_append.mp hy with e | e
            · exact hts y e
            · simp at e; subst e; exact htm
          · rw [upd_same, List.map_append]; rfl
          · have e : n7 + 1 + ((ts.length + 1 : Nat) : Int) = n7 + 1 + (ts.length : Int) + 1 := by omega
            rw [e]
            exact ⟨box_put bx10 oD3, (upd_ne (nDx F (by simp))).trans st10.hF, Crew.keep st10.cr (kD _) hDn, st10.ok, (upd_ne (nDx N (by simp))).trans st10.hN, st10.nl, st10.nm, (upd_ne (nDx Cn (by simp))).trans st10.hC, (upd_ne (nDx L (by simp))).trans st10.hL, st10.ob.keepN (kD _) hDn, st10.kp.upd (.inr hD0)⟩
        · intro H9 hB
          obtain ⟨ts, htl, hts, h9D, st9⟩ := hB.out
          refine ⟨D, _, rfl, SqL.of h9D, fun tk ob1 htk hob1 => ?_⟩
          have sA : Same H9 (upd H9 tk (.frz ob1 (.tup (ts.map V.str)))) := (Same.refl H9).upd htk
          have stA := st9.same sA
          have tkA : TupF (upd H9 tk (.frz ob1 (.tup (ts.map V.str)))) tk (ts.map V.str) := ⟨ob1, hob1, upd_same⟩
          show _
          generalize (upd H9 tk (.frz ob1 (.tup (ts.map V.str)))) = HA at stA tkA
          -- throws
          refine ⟨_, rfl, _, rfl, L, rfl, ⟨_, SqL.of stA.hL⟩, fun W hW => ?_⟩
          refine words_comp (i := sd) (sl := 11) stA.ob stA.hL hW (by omega) (fun _ => rfl) (fun h q H2 R hq hR => ⟨_, rfl, _, rfl, _, _, _, _, rfl, rfl, SqT.of hq, wd_at2 si q, hR⟩) fun HB sB hWB => ?_
          have stB := stA.same sB
          have tkB := tkA.same sB
          have oW := offbox stA.bx hW
          refine ⟨b, g, l, W, _, 4, ps.map (My.wd sd), rfl, stB.bx, by omega, by omega, hWB, by rw [List.length_map]; omega, by omega, by omega, fun Y ys n9 HC hY hYC yl ym ynd an bn bxC kpC => ?_⟩
          have stC := stB.box bxC kpC off
          have tkC := tupF_keep tkB kpC (box_notup stB.bx)
          refine ⟨Y, _, rfl, SqL.of hYC, fun th ob2 hth hob2 => ?_⟩
          have sD : Same HC (upd HC th (.frz ob2 (.tup (ys.map V.str)))) := (Same.refl HC).upd hth
          have stD := stC.same sD
          have tkD := tkC.same sD
          have thD : TupF (upd HC th (.frz ob2 (.tup (ys.map V.str)))) th (ys.map V.str) := ⟨ob2, hob2, upd_same⟩
          show _
          generalize (upd HC th (.frz ob2 (.tup (ys.map V.str)))) = HD at stD tkD thD
          -- the helper
          obtain ⟨nl, s, rfl⟩ : ∃ nl s, ns = nl ++ [s] := by
            have hne : ns ≠ [] := fun e => by
              have := st.nl
              rw [e] at this
              simp at this
              omega
            exact ⟨ns.dropLast, ns.getLast hne, (List.dropLast_concat_getLast hne).symm⟩
          have hsn := st.nm s (by simp)
          refine ⟨_, rfl, .inl ⟨rfl, _, SqL.of stD.hN⟩, N, _, .str s, rfl, rfl, stD.hN, ?_, ?_⟩
          · rw [List.map_append, List.length_append, List.map_singleton, List.length_singleton, Nat.add_sub_cancel, List.getElem?_append_right (Nat.le_refl _)]
            simp
          have edl : ((nl ++ [s]).map V.str).dropLast = nl.map V.str := by rw [List.map_append]; simp
          rw [edl]
          have nLN' : L ≠ N := nLN
          have nNn : NoTup HD [N] := NoTup.lst stD.hN
          have kN : ∀ o, Keeps [N] HD (upd HD N o) := fun o => (Keeps.refl _ HD).upd (.inl (by simp))
          have stE : HelpSt H (upd HD N (.lst (nl.map V.str))) b g l L N Cn F as ps c0 c1 n9 has hs nl 7 :=
            ⟨box_put stD.bx oN3, (upd_ne nNF.symm).trans stD.hF, Crew.keep stD.cr (kN _) nNn, stD.ok, upd_same, by have := stD.nl; rw [List.length_append, List.length_singleton] at this; omega, fun x hx => stD.nm x (by simp [hx]), (upd_ne nNC.symm).trans stD.hC, (upd_ne nLN).trans stD.hL, stD.ob.keepN (kN _) nNn, stD.kp.upd (.inr hN)⟩
          have tkE := tupF_keep tkD (kN (.lst (nl.map V.str))) nNn
          have thE := tupF_keep thD (kN (.lst (nl.map V.str))) nNn
          show _
          generalize (upd HD N (.lst (nl.map V.str))) = HE at stE tkE thE
          refine ⟨_, rfl, _, rfl, _, rfl, b, g, l, n9, 2, rfl, stE.bx, by omega, by omega, by decide, by decide, fun z HG z0 z1 bxG kpG => ?_⟩
          have stG := stE.box bxG kpG off
          have tkG := tupF_keep tkE kpG (box_notup stE.bx)
          have thG := tupF_keep thE kpG (box_notup stE.bx)
          refine ⟨rfl, _, rfl, by show 5 ≤ sizeLine; decide, fun hp hhp => ?_⟩
          have sH : Same HG (upd HG hp (.tup [.str s, .int sd, .ref tk, .bl (decide (V.int z = V.int 1)), .ref th])) := (Same.refl HG).upd hhp
          have stH := stG.same sH
          have hrH : HrAt (upd HG hp (.tup [.str s, .int sd, .ref tk, .bl (decide (V.int z = V.int 1)), .ref th])) hp ⟨s, sd, ts, decide (V.int z = V.int 1), ys⟩ := ⟨tk, th, upd_same, tkG.same sH, thG.same sH⟩
          show _
          generalize (upd HG hp (.tup [.str s, .int sd, .ref tk, .bl (decide (V.int z = V.int 1)), .ref th])) = HH at stH hrH
          have hrk : HrOk ⟨s, sd, ts, decide (V.int z = V.int 1), ys⟩ := ⟨name_wok hsn, by show ts.length ≤ 10000; omega, fun t ht => lent_wok t (hts t ht), by show ys.length ≤ 10000; omega, fun t ht => by
            obtain ⟨q, hq, e⟩ := List.mem_map.mp (ym t ht)
            subst e
            obtain ⟨w1, w2⟩ := hw q hq
            unfold My.wd
            split
            · exact w1
            · exact w2⟩
          have asl : has.length = hs.length := AllAt.len stH.cr
          have elF : (((has.map V.ref).length : Nat) : Int) = (hs.length : Int) := by rw [List.length_map, asl]
          refine ⟨_, rfl, .inl ⟨rfl, _, SqL.of stH.hF⟩, ?_⟩
          refine ⟨_, rfl, _, rfl, F, _, rfl, .inl (SqL.of stH.hF), _, _, rfl, rfl, ?_⟩
          rw [elF]
          refine ⟨b, g, l, n9 + 1, _, rfl, stH.bx, by omega, by omega, by omega, log_le (n := hs.length + 1) (by omega), fun at_ HJ at0 at1 bxJ kpJ => ?_⟩
          have stJ := stH.box bxJ kpJ off
          have hrJ := hrH.keep kpJ (box_notup stH.bx)
          refine ⟨_, rfl, F, _, at_, _, rfl, rfl, stJ.hF, by rw [List.length_map]; exact small (by omega), at0, by omega, ?_⟩
          have nFn : NoTup HJ [F] := NoTup.lst stJ.hF
          have kF : ∀ o, Keeps [F] HJ (upd HJ F o) := fun o => (Keeps.refl _ HJ).upd (.inl (by simp))
          refine Blk.of ⟨_, _, _, _, n9 + 1 + 1, has.take at_.toNat ++ [hp] ++ has.drop at_.toNat, hs.take at_.toNat ++ [⟨s, sd, ts, decide (V.int z = V.int 1), ys⟩] ++ hs.drop at_.toNat, nl, rfl, ?_, by omega, ?_, ?_, mo7.insert (x := ⟨s, sd, ts, decide (V.int z = V.int 1), ys⟩) _ rfl (by
            unfold My.pactB My.sideB My.takesB
            rw [hsn, decide_eq_true si, My.throwsB_of yl (ynd (words_nodup pok si)), decide_eq_true (show ts.length ≤ 3 by omega)]
            simp only [Bool.true_and, Bool.and_true]
            exact List.all_eq_true.mpr fun t ht => decide_eq_true (hts t ht)) ym⟩
          · refine ⟨box_put stJ.bx oF3, ?_, ?_, ?_, (upd_ne nNF).trans stJ.hN, ?_, stJ.nm, (upd_ne nCF).trans stJ.hC, (upd_ne nLF).trans stJ.hL, stJ.ob.keepN (kF _) nFn, stJ.kp.upd (.inr hF0)⟩
            · rw [upd_same, List.map_append, List.map_append, List.map_take, List.map_drop]
              rfl
            · exact ((AllAt.take (Crew.keep stJ.cr (kF _) nFn) _).append (AllAt.one (hrJ.keep (kF _) nFn))).append (AllAt.drop (Crew.keep stJ.cr (kF _) nFn) _)
            · intro x hx
              simp only [List.mem_append, List.mem_singleton] at hx
              rcases hx with (hx | rfl) | hx
              · exact stJ.ok x (List.mem_of_mem_take hx)
              · exact ⟨hrk, si, by show ys.length ≤ 4; omega⟩
              · exact stJ.ok x (List.mem_of_mem_drop hx)
            · have := stJ.nl
              rw [List.length_append, List.length_append, List.length_take, List.length_drop, List.length_singleton]
              omega
          · rw [List.length_append, List.length_append, List.length_take, List.length_drop, List.length_singleton]
            omega
          · rw [List.length_append, List.length_append, List.length_take, List.length_drop, List.length_singleton]
            omega
      · intro σ H7 hB
        obtain ⟨v6, v7, v8, v9, n7, has, hs, ns, rfl, st, a7, b7, l7, mo7⟩ := hB.out
        exact Blk.of ⟨_, _, _, _, _, _, _, _, _, rfl, st, a7, b7, by omega, mo7.mono fun s => by
          have e : (0 : Int) + ((i + 1 : Nat) : Int) = sd + 1 := by omega
          rw [e]
          unfold cap
          by_cases d : s < sd
          · rw [if_pos d, if_pos (by omega)]
            omega
          · by_cases f : s = sd
            · rw [if_neg d, if_pos f, if_pos (by omega)]
              omega
            · rw [if_neg d, if_neg f]
              omega⟩
    · intro σ H6 hB
      obtain ⟨v5, v6, v7, v8, v9, n6, has, hs, ns, rfl, st6, a6, b6, l6, mo6⟩ := hB.out
      exact ⟨_, rfl, kk F has hs n6 H6 hF0 st6.hF st6.cr (by omega) (fun x hx => (st6.ok x hx).1) (mo6.crew (by omega)) a6 (by omega) st6.bx st6.kp⟩

open My (Hr)
def prD (z : My.Pr) : PyData := .tuple [.str z.1, .str z.2.1, .bool z.2.2]
def hrD (x : Hr) : PyData := .tuple [.str x.name, .int x.side, .tuple (x.takes.map PyData.str), .bool x.gives, .tuple (x.throws.map PyData.str)]
theorem strs_lay : ∀ ts : List Str, (∀ t, t ∈ ts → WOk t) → PyData.canLayAll0 (ts.map PyData.str) = true
  | [], _ => rfl
  | t :: r, h => by
    rw [List.map_cons, PyData.canLayAll0, PyData.canLay0, (h t List.mem_cons_self).2, strs_lay r fun q hq => h q (List.mem_cons_of_mem _ hq)]
    rfl
theorem strs_deep : ∀ ts : List Str, PyData.depthAll (ts.map PyData.str) ≤ 0
  | [] => by simp [PyData.depthAll]
  | t :: r => by
    rw [List.map_cons, PyData.depthAll, PyData.depth]
    have := strs_deep r
    omega
theorem prD_lay {z : My.Pr} (h : WOk z.1 ∧ WOk z.2.1) : (prD z).canLay0 = true := by simp [prD, PyData.canLay0, PyData.canLayAll0, h.1.2, h.2.2]
theorem prD_deep (z : My.Pr) : (prD z).depth = 1 := by simp [prD, PyData.depth, PyData.depthAll]
theorem hrD_lay {x : Hr} (h : HrOk x) : (hrD x).canLay0 = true := by
  simp [hrD, PyData.canLay0, PyData.canLayAll0, h.nm.2, strs_lay _ h.tk, strs_lay _ h.th]
theorem hrD_deep (x : Hr) : (hrD x).depth ≤ 3 := by
  have h1 := strs_deep x.takes
  have h2 := strs_deep x.throws
  simp only [hrD, PyData.depth, PyData.depthAll]
  omega
theorem all_lay {α : Type} (f : α → PyData) : ∀ zs : List α, (∀ z, z ∈ zs → (f z).canLay0 = true) → PyData.canLayAll0 (zs.map f) = true
  | [], _ => rfl
  | z :: r, h => by
    rw [List.map_cons, PyData.canLayAll0, h z List.mem_cons_self, all_lay f r fun q hq => h q (List.mem_cons_of_mem _ hq)]
    rfl
theorem all_deep {α : Type} (f : α → PyData) (n : Nat) (h : ∀ z, (f z).depth ≤ n) : ∀ zs : List α, PyData.depthAll (zs.map f) ≤ n
  | [] => by simp [PyData.depthAll]
  | z :: r => by
    rw [List.map_cons, PyData.depthAll]
    have h1 := all_deep f n h r
    have h2 := h z
    omega
theorem dp_prs {K : PySem.W.Frag} {H : Hp} : ∀ {as : List Addr} {ps : List My.Pr}, Objs H as prO ps → DpAll K H (as.map V.ref) (ps.map prD)
  | [], [], _ => .nil
  | h :: hs, z :: zs, o => .cons (.tup (SqT.of (o.at_ 0 h z rfl rfl)) (.cons (.str _) (.cons (.str _) (.cons (.bl _) .nil)))) (dp_prs ⟨by have := o.len; simpa using this, fun i h' z' a b => o.at_ (i + 1) h' z' (by simpa using a) (by simpa using b)⟩)
  | [], _ :: _, o => by have := o.len; simp at this
  | _ :: _, [], o => by have := o.len; simp at this
theorem dp_strs {K : PySem.W.Frag} {H : Hp} : ∀ ts : List Str, DpAll K H (ts.map V.str) (ts.map PyData.str)
  | [] => .nil
  | t :: r => .cons (.str t) (dp_strs r)
theorem dp_hr {K : PySem.W.Frag} {H : Hp} {h : Addr} {x : Hr} (e : HrAt H h x) : Dp K H (.ref h) (hrD x) := by
  obtain ⟨tk, th, e1, e2, e3⟩ := e
  exact .tup (SqT.of e1) (.cons (.str _) (.cons (.int _) (.cons (.tup e2.seq (dp_strs _)) (.cons (.bl _) (.cons (.tup e3.seq (dp_strs _)) .nil)))))
theorem dp_hrs {K : PySem.W.Frag} {H : Hp} : ∀ {as : List Addr} {hs : List Hr}, Crew H as hs → DpAll K H (as.map V.ref) (hs.map hrD)
  | [], [], _ => .nil
  | h :: hs, z :: zs, o => .cons (dp_hr (AllAt.at_ o 0 h z rfl rfl)) (dp_hrs ⟨by have := AllAt.len o; simpa using this, fun i h' z' a b => AllAt.at_ o (i + 1) h' z' (by simpa using a) (by simpa using b)⟩)
  | [], _ :: _, o => by have := AllAt.len o; simp at this
  | _ :: _, [], o => by have := AllAt.len o; simp at this
theorem shaped_of {d : PyData} (h1 : d.canLay0 = true) (h2 : d.depth ≤ 60) : SeqAt.shaped d = true := by
  unfold SeqAt.shaped
  rw [h1]
  exact decide_eq_true (by omega)

/-! ### the law's own looks -/
def abc : Str := "abcdefghijklmnopqrstuvwxyz"
theorem in_abc (c : Nat) : decide (c ∈ abc.cps.toList) = My.letter c := by
  have e : abc.cps.toList = (List.range 26).map (97 + ·) := by decide +kernel
  rw [e]
  unfold My.letter
  by_cases h : 97 ≤ c ∧ c ≤ 122
  · rw [decide_eq_true h.1, decide_eq_true h.2]
    refine decide_eq_true (List.mem_map.mpr ⟨c - 97, List.mem_range.mpr (by omega), by omega⟩)
  · have h2 : (decide (97 ≤ c) && decide (c ≤ 122)) = false := by
      by_cases h1 : 97 ≤ c
      · rw [decide_eq_false (by omega : ¬ c ≤ 122)]; simp
      · rw [decide_eq_false h1]; rfl
    rw [h2]
    refine decide_eq_false fun z => h ?_
    obtain ⟨k, hk, rfl⟩ := List.mem_map.mp z
    have := List.mem_range.mp hk
    omega
theorem ok_w_is_name (T : Txt K mg a) : FnOk P w K mg base CX0 1 a.f_w_is_name a.d_w_is_name ["_law_word"] sp_is_name := by
  refine T.F_w_is_name.ok sc_w_is_name (fun vs H Q E h => ?_) (fun cdv A outer s H vs Q E hr h => ?_)
  · obtain ⟨s, rfl, _⟩ := h
    rfl
  · obtain ⟨s, rfl, hz, kk⟩ := h
    refine ⟨_, (pss_one (ps_ret (pe_and (pe_chain op_lt op_lt pe_int (pe_callB call_len_str (by rfl) T.z_len (by decide +kernel) (pa_cons (pv 0) pa_nil)) pe_int) (pe_one (pe_callB (cr_all rfl) (by rfl) T.z_all (by decide +kernel) (pa_cons (pe_lc (own := [("_law_sign", 1)]) (g := gName 1) (tt := tYes) rfl sc_w_is_name.nd (pi_str (pv 0)) (blkOk_by (own := [("_law_sign", 1)]) (N := ["_law_word", "_law_sign"]) (sc := defScope s_w_is_name) (by decide +kernel)) (fun _ _ _ _ _ => pg_name (i := 1) sc_w_is_name.nd rfl (Or.inl rfl)) (fun _ _ _ _ _ => pts_nil) (fun _ _ _ _ _ => by exact (pe_cmpR op_in_sign (pv 1) pe_str (by rfl)))) pa_nil)))))), ?_⟩
    have no : ¬ (1 ≤ s.cps.size ∧ s.cps.size ≤ 8) → Q (.bl false) H := fun n => by
      have e : My.nameB s = false := by
        unfold My.nameB
        by_cases h1 : 1 ≤ s.cps.size
        · rw [decide_eq_false fun z => n ⟨h1, z⟩]; simp
        · rw [decide_eq_false h1]; simp
      exact e ▸ kk H (Same.refl H)
    refine ⟨_, rfl, s, rfl, hz, _, _, rfl, rfl, _, rfl, ?_⟩
    refine iteD (fun h1 => ?_) (fun h1 => ?_)
    · refine ⟨_, _, rfl, rfl, _, rfl, ?_⟩
      refine iteD (fun h2 => ?_) (fun h2 => ?_)
      · have b1 : 1 ≤ s.cps.size := by
          have : (0 : Int) < (s.cps.size : Int) := h1
          omega
        have b2 : s.cps.size ≤ 8 := by
          have : (s.cps.size : Int) < 9 := h2
          omega
        refine ⟨_, rfl, s, rfl, fun D hD => ?_⟩
        refine lc_it walk_str (fun i H1 => Blk (H1 = upd H D (.lst (((s.cps.toList.take i).map My.letter).map V.bl)) ∧ i ≤ s.cps.size)) (Blk.of ⟨rfl, by omega⟩) (fun i H1 _ hB => trivial) ?_ ?_
        · intro i y H1 H2 hi hB hy
          obtain ⟨rfl, hi2⟩ := hB.out
          obtain ⟨rfl, c, hc, rfl⟩ := hy
          have hc2 : s.cps.toList[i]? = some c := by rw [Array.getElem?_toList]; exact hc
          refine ⟨rfl, ?_⟩
          dsimp only [tYes]
          refine iteT ?_
          refine ⟨_, rfl, c, abc, rfl, rfl, ?_⟩
          rw [in_abc]
          refine ⟨_, upd_same, ?_, Blk.of ⟨?_, by omega⟩⟩
          · rw [List.length_map, List.length_map, List.length_take]
            exact small (by omega)
          · rw [upd_upd, take_snoc hc2, List.map_append, List.map_append]
            rfl
        · intro H1 hB
          obtain ⟨rfl, _⟩ := hB.out
          refine ⟨D, _, rfl, SqL.of upd_same, ?_⟩
          have el : s.cps.toList.take s.cps.size = s.cps.toList := by rw [← Array.length_toList, List.take_length]
          rw [el, all_id]
          have en : s.cps.toList.all My.letter = My.nameB s := by
            unfold My.nameB
            rw [decide_eq_true b1, decide_eq_true b2]
            rfl
          rw [en]
          exact kk _ ((Same.refl H).upd hD)
      · refine no fun z => h2 ?_
        show (s.cps.size : Int) < 9
        omega
    · refine ⟨_, rfl, ?_⟩
      refine iteF (no fun z => h1 ?_)
      show (0 : Int) < (s.cps.size : Int)
      omega
def pairB (q : My.Pr) (ps : List My.Pr) : Bool := (My.nameB q.1 && My.nameB q.2.1) && fitsB q ps
def sp_pair_fits : Sp := fun vs H Q _ => ∃ (h l : Addr) (q : My.Pr) (as : List Addr) (ps : List My.Pr), vs = [.ref l, .ref h] ∧ H h = some (prO q) ∧ H l = some (.lst (as.map V.ref)) ∧ Objs H as prO ps ∧ ps.length ≤ 10000 ∧ q.1.length ≤ sizeLine ∧ q.2.1.length ≤ sizeLine ∧ ∀ H', Same H H' → Q (.bl (pairB q ps)) H'
theorem ok_pair_fits (T : Txt K mg a) : FnOk P w K mg base CX0 2 a.f_pair_fits a.d_pair_fits ["_law_ahead", "_law_pair"] sp_pair_fits := by
  refine T.F_pair_fits.ok sc_pair_fits (fun vs H Q E h => ?_) (fun cdv A outer s H vs Q E hr h => ?_)
  · obtain ⟨h, l, q, as, ps, rfl, _⟩ := h
    rfl
  · obtain ⟨h, l, ⟨q1, q2, q3⟩, as, ps, rfl, e, el, ob, hz, z1, z2, kk⟩ := h
    have e' : H h = some (.tup [.str q1, .str q2, .bl q3]) := e
    have asl := ob.len
    refine ⟨_, (pss_cons (ps_asg (pv 1) (pg_tup (by rfl) (pgs_cons (pg_name (i := 2) sc_pair_fits.nd rfl (Or.inl rfl)) (pgs_cons (pg_name (i := 3) sc_pair_fits.nd rfl (Or.inl rfl)) (pgs_cons (pg_name (i := 4) sc_pair_fits.nd rfl (Or.inl rfl)) pgs_nil)))))
      (pss_cons (ps_if (PW.pt (pw_or (pt_cmpR op_gt (pe_callB call_len_seq (by rfl) T.z_len (by decide +kernel) (pa_cons (pv 0) pa_nil)) pe_int (nomark _)) (pw_or (pt_not (pt_val (pe_call (ok_w_is_name T) (hr.mono (by decide)) rfl T.g_w_is_name T.k_w_is_name T.B_w_is_name .nil pass0 (pa_cons (pv 2) pa_nil)))) (pw_or1 (pt_not (pt_val (pe_call (ok_w_is_name T) (hr.mono (by decide)) rfl T.g_w_is_name T.k_w_is_name T.B_w_is_name .nil pass0 (pa_cons (pv 3) pa_nil)))))))) (pss_one (ps_ret pe_bl)) pss_nil)
      (pss_one (ps_ret (pe_and (pe_cmpR op_notIn_seq (pv 2) (pe_lc (own := [("_law_one", 5)]) (g := gName 5) (te := tOp (rIxT K) (tVar 5) (tC (.int 0))) (tt := tYes) rfl sc_pair_fits.nd (pi_list (pv 0)) (blkOk_by (own := [("_law_one", 5)]) (N := ["_law_ahead", "_law_pair", "_law_near", "_law_far", "_law_laden", "_law_one"]) (sc := defScope s_pair_fits) (by decide +kernel)) (fun _ _ _ _ _ => pg_name (i := 5) sc_pair_fits.nd rfl (Or.inl rfl)) (fun _ _ _ _ _ => pts_nil) (fun _ _ _ _ _ => by exact (pe_ix ix_tup (pv 5) pe_int (fun _ _ => rfl)))) (by rfl)) (pe_one (pe_cmpR op_notIn_seq (pv 3) (pe_lc (own := [("_law_one", 5)]) (g := gName 5) (te := tOp (rIxT K) (tVar 5) (tC (.int 1))) (tt := tYes) rfl sc_pair_fits.nd (pi_list (pv 0)) (blkOk_by (own := [("_law_one", 5)]) (N := ["_law_ahead", "_law_pair", "_law_near", "_law_far", "_law_laden", "_law_one"]) (sc := defScope s_pair_fits) (by decide +kernel)) (fun _ _ _ _ _ => pg_name (i := 5) sc_pair_fits.nd rfl (Or.inl rfl)) (fun _ _ _ _ _ => pts_nil) (fun _ _ _ _ _ => by exact (pe_ix ix_tup (pv 5) pe_int (fun _ _ => rfl)))) (by rfl)))))))), ?_⟩
    refine ⟨_, rfl, h, _, rfl, SqT.of e', rfl, ?_⟩
    refine ⟨_, _, rfl, _, _, rfl, _, _, rfl, rfl, ?_⟩
    have no : ∀ {H1 : Hp}, Same H H1 → pairB (q1, q2, q3) ps = false → Q (.bl false) H1 := fun s c => c ▸ kk _ s
    refine ⟨_, rfl, l, _, rfl, .inl (SqL.of el), _, _, rfl, rfl, _, rfl, ?_⟩
    have ec : (((as.map V.ref).length : Nat) : Int) = (ps.length : Int) := by rw [List.length_map, asl]
    rw [ec]
    refine iteD (fun c1 => ?_) (fun c1 => ?_)
    · refine iteT (no (Same.refl H) ?_)
      unfold pairB fitsB
      rw [decide_eq_false (by omega : ¬ ps.length < 6)]
      simp
    · refine ⟨_, rfl, q1, rfl, z1, fun H1 s1 => ⟨_, rfl, ?_⟩⟩
      refine iteB (fun c2 => ?_) (fun c2 => ?_)
      · have c2' : My.nameB q1 = false := by simpa using c2
        refine iteT (no s1 ?_)
        unfold pairB
        rw [c2']; rfl
      · have c2' : My.nameB q1 = true := by simpa using c2
        refine ⟨_, rfl, q2, rfl, z2, fun H2 s2 => ⟨_, rfl, ?_⟩⟩
        refine iteB (fun c3 => ?_) (fun c3 => ?_)
        · have c3' : My.nameB q2 = false := by simpa using c3
          refine no (s1.trans s2) ?_
          unfold pairB
          rw [c2', c3']; rfl
        · have c3' : My.nameB q2 = true := by simpa using c3
          have s12 := s1.trans s2
          refine ⟨_, rfl, _, rfl, l, rfl, ⟨_, SqL.of (s12 _ _ el)⟩, fun D hD => ?_⟩
          refine words_comp (i := 0) (ob.same s12) (s12 _ _ el) hD hz (fun _ => rfl) (fun h q H3 R hq hR => ?_) fun H3 s3 hD3 => ?_
          · exact ⟨_, rfl, _, _, _, _, rfl, rfl, SqT.of hq, rfl, hR⟩
          refine ⟨D, _, rfl, .inl (SqL.of hD3), rfl, flat_str _, _, rfl, ?_⟩
          rw [if_pos rfl, inV_str]
          have s13 := s12.trans s3
          have eN : ps.map (My.wd 0) = ps.map (·.1) := rfl
          have eF : ps.map (My.wd 1) = ps.map (·.2.1) := rfl
          have eq : pairB (q1, q2, q3) ps = (!decide (q1 ∈ ps.map (My.wd 0)) && !decide (q2 ∈ ps.map (My.wd 1))) := by
            unfold pairB fitsB
            rw [c2', c3', decide_eq_true (by omega : ps.length < 6), eN, eF]
            rfl
          refine iteB (fun c4 => ?_) (fun c4 => ?_)
          · refine ⟨_, rfl, _, rfl, l, rfl, ⟨_, SqL.of (s13 _ _ el)⟩, fun G hG => ?_⟩
            refine words_comp (i := 1) (ob.same s13) (s13 _ _ el) hG hz (fun _ => rfl) (fun h q H4 R hq hR => ?_) fun H4 s4 hG4 => ?_
            · exact ⟨_, rfl, _, _, _, _, rfl, rfl, SqT.of hq, rfl, hR⟩
            refine ⟨G, _, rfl, .inl (SqL.of hG4), rfl, flat_str _, ?_⟩
            rw [if_pos rfl, inV_str]
            rw [c4, Bool.true_and] at eq
            have fin := kk _ (s13.trans s4)
            rw [eq] at fin
            exact fin
          · rw [c4] at eq
            exact no s13 eq

open My (Hr)
theorem nodup_ahead {α : Type} {xs : List α} (h : ∀ (i : Nat) (t : α), xs[i]? = some t → t ∉ xs.take i) : xs.Nodup := by
  refine List.pairwise_iff_getElem.mpr fun i j hi hj hij e => ?_
  refine h j xs[j] (List.getElem?_eq_getElem hj) ?_
  rw [← e]
  exact List.mem_take_iff_getElem.mpr ⟨i, by omega, rfl⟩
theorem cut_to (xs : List V) (i : Nat) : cutV xs none (some (i : Int)) = xs.take i := by
  unfold cutV
  rw [HT.sIx_nat, HT.sIx_none, List.drop_zero, Nat.sub_zero]
  by_cases h : i ≤ xs.length
  · rw [Nat.min_eq_left h]
  · rw [Nat.min_eq_right (by omega), List.take_length, List.take_of_length_le (by omega)]
theorem cut_from (xs : List V) (i : Nat) : cutV xs (some (i : Int)) none = xs.drop i := by
  unfold cutV
  rw [HT.sIx_nat, HT.sIx_none]
  by_cases h : i ≤ xs.length
  · rw [Nat.min_eq_left h, List.take_of_length_le (by rw [List.length_drop]; omega)]
  · rw [Nat.min_eq_right (by omega), List.drop_length, List.drop_of_length_le (by omega), List.take_nil]
theorem cut_upto {xs : List Str} {i : Nat} : cutV (xs.map V.str) none (some (i : Int)) = (xs.take i).map V.str := by rw [cut_to, List.map_take]
theorem nodup_nin {xs : List Str} (nd : xs.Nodup) {i : Nat} {t : Str} (h : xs[i]? = some t) : t ∉ xs.take i := fun hc => by
  have := My.nin_take (f := id) (xs := xs) (by simpa using nd) h
  exact this (by simpa using hc)
def sp_helper_fits : Sp := fun vs H Q _ => ∃ (h l L : Addr) (x : Hr) (as has : List Addr) (ps : List My.Pr) (hs : List Hr), vs = [.ref l, .ref L, .ref h] ∧ HrAt H h x ∧ H l = some (.lst (as.map V.ref)) ∧ Objs H as prO ps ∧ H L = some (.lst (has.map V.ref)) ∧ Crew H has hs ∧
  ps.length ≤ 10000 ∧ hs.length ≤ 10000 ∧ x.name.length ≤ sizeLine ∧ x.takes.length ≤ 10000 ∧ x.throws.length ≤ 10000 ∧ (hs.filter fun z => decide (z.side = x.side)).length ≤ 4 ∧ ∀ H', Same H H' → Q (.bl (My.pactB x && My.fitsHB x ps hs)) H'
theorem ok_helper_fits (T : Txt K mg a) : FnOk P w K mg base CX0 2 a.f_helper_fits a.d_helper_fits ["_law_pairs_here", "_law_ahead", "_law_helper"] sp_helper_fits := by
  refine T.F_helper_fits.ok sc_helper_fits (fun vs H Q E h => ?_) (fun cdv A outer s H vs Q E hr h => ?_)
  · obtain ⟨h, l, L, x, as, has, ps, hs, rfl, _⟩ := h
    rfl
  · obtain ⟨h, l, L, x, as, has, ps, hs, rfl, ⟨tk, th, e, etk, eth⟩, el, obs, eL, crew, hz1, hz2, z1, z2, z3, few, kk⟩ := h
    refine ⟨_, (pss_cons (ps_asg (pv 2) (pg_tup (by rfl) (pgs_cons (pg_name (i := 3) sc_helper_fits.nd rfl (Or.inl rfl)) (pgs_cons (pg_name (i := 4) sc_helper_fits.nd rfl (Or.inr rfl)) (pgs_cons (pg_name (i := 5) sc_helper_fits.nd rfl (Or.inl rfl)) (pgs_cons (pg_name (i := 6) sc_helper_fits.nd rfl (Or.inl rfl)) (pgs_cons (pg_name (i := 7) sc_helper_fits.nd rfl (Or.inl rfl)) pgs_nil)))))))
      (pss_cons (ps_if (PW.pt (pw_or (pt_not (pt_val (pe_call (ok_w_is_name T) (hr.mono (by decide)) rfl T.g_w_is_name T.k_w_is_name T.B_w_is_name .nil pass0 (pa_cons (pv 3) pa_nil)))) (pw_or (pt_cmpR op_in_seq (pv 3) (pe_lc (own := [("_law_one", 11)]) (g := gName 11) (te := tOp (rIxT K) (tVar 11) (tC (.int 0))) (tt := tYes) rfl sc_helper_fits.nd (pi_list (pv 1)) (blkOk_by (own := [("_law_one", 11)]) (N := ["_law_pairs_here", "_law_ahead", "_law_helper", "_law_name_here", "_law_side", "_law_takes", "_law_gives", "_law_throws", "_law_words", "_law_at", "_law_word", "_law_one", "_law_pair", "_law_how"]) (sc := defScope s_helper_fits) (by decide +kernel)) (fun _ _ _ _ _ => pg_name (i := 11) sc_helper_fits.nd rfl (Or.inl rfl)) (fun _ _ _ _ _ => pts_nil) (fun _ _ _ _ _ => by exact (pe_ix ix_tup (pv 11) pe_int (fun _ _ => rfl)))) (by rfl)) (pw_or (pt_cmpR op_lt (pv 4) pe_int (nomark _)) (pw_or1 (pt_cmpR op_gt (pv 4) pe_int (nomark _))))))) (pss_one (ps_ret pe_bl)) pss_nil)
      (pss_cons (ps_if (PW.pt (pw_or (pt_cmpR op_gt (pe_callB call_len_seq (by rfl) T.z_len (by decide +kernel) (pa_cons (pe_lc (own := [("_law_one", 11)]) (g := gName 11) (te := tVar 11) (tt := tTest (tOp rEq (tOp (rIxT K) (tVar 11) (tC (.int 1))) (tVar 4))) rfl sc_helper_fits.nd (pi_list (pv 1)) (blkOk_by (own := [("_law_one", 11)]) (N := ["_law_pairs_here", "_law_ahead", "_law_helper", "_law_name_here", "_law_side", "_law_takes", "_law_gives", "_law_throws", "_law_words", "_law_at", "_law_word", "_law_one", "_law_pair", "_law_how"]) (sc := defScope s_helper_fits) (by decide +kernel)) (fun _ _ _ _ _ => pg_name (i := 11) sc_helper_fits.nd rfl (Or.inl rfl)) (fun _ _ _ _ _ => pts_one (pt_cmpR op_eq (pe_ix ix_tup (pv 11) pe_int (fun _ _ => rfl)) (pv 4) (nomark _))) (fun _ _ _ _ _ => by exact (pv 11))) pa_nil)) pe_int (nomark _)) (pw_or (pt_cmpR op_gt (pe_callB call_len_seq (by rfl) T.z_len (by decide +kernel) (pa_cons (pv 5) pa_nil)) pe_int (nomark _)) (pw_or1 (pt_cmpR op_gt (pe_callB call_len_seq (by rfl) T.z_len (by decide +kernel) (pa_cons (pv 7) pa_nil)) pe_int (nomark _)))))) (pss_one (ps_ret pe_bl)) pss_nil)
      (pss_cons (ps_setLc (i := 8) (own := [("_law_pair", 12)]) (g := gName 12) (te := tOp (rIxT K) (tVar 12) (tVar 4)) (tt := tYes) rfl sc_helper_fits.nd rfl rfl (sw_true rfl rfl rfl (by decide +kernel)) (pi_list (pv 0)) (blkOk_by (own := [("_law_pair", 12)]) (N := ["_law_pairs_here", "_law_ahead", "_law_helper", "_law_name_here", "_law_side", "_law_takes", "_law_gives", "_law_throws", "_law_words", "_law_at", "_law_word", "_law_one", "_law_pair", "_law_how"]) (sc := defScope s_helper_fits) (by decide +kernel)) (fun _ _ _ _ _ => pg_name (i := 12) sc_helper_fits.nd rfl (Or.inl rfl)) (fun _ _ _ _ _ => pts_nil) (fun _ _ _ _ _ => by exact (pe_ix ix_tup (pv 12) (pv 4) (fun _ _ => rfl))))
      (pss_cons (ps_for PassesOwn.never rfl (pi_enumT (by rfl) T.z_enumerate (pa_cons (pv 7) pa_nil)) (pg_tup rfl (pgs_cons (pg_name (i := 9) sc_helper_fits.nd rfl (Or.inl rfl)) (pgs_cons (pg_name (i := 10) sc_helper_fits.nd rfl (Or.inl rfl)) pgs_nil))) (pss_one (ps_if (PW.pt (pw_or (pt_cmpR op_notIn_seq (pv 10) (pv 8) (by rfl)) (pw_or1 (pt_cmpR op_in_seq (pv 10) (pe_slice sl_tupF (pv 7) po_none (po_some (pv 9))) (by rfl))))) (pss_one (ps_ret pe_bl)) pss_nil)))
      (pss_one (ps_ret (pe_callB (cr_all rfl) (by rfl) T.z_all (by decide +kernel) (pa_cons (pe_lc (own := [("_law_how", 13)]) (g := gName 13) (te := tOp (rIn K false) (tVar 13) (tLst (tCons (tC (.str "lent")) (tCons (tC (.str "given")) tNil)))) (tt := tYes) rfl sc_helper_fits.nd (pi_tup (pv 5)) (blkOk_by (own := [("_law_how", 13)]) (N := ["_law_pairs_here", "_law_ahead", "_law_helper", "_law_name_here", "_law_side", "_law_takes", "_law_gives", "_law_throws", "_law_words", "_law_at", "_law_word", "_law_one", "_law_pair", "_law_how"]) (sc := defScope s_helper_fits) (by decide +kernel)) (fun _ _ _ _ _ => pg_name (i := 13) sc_helper_fits.nd rfl (Or.inl rfl)) (fun _ _ _ _ _ => pts_nil) (fun _ _ _ _ _ => by exact (pe_cmpR op_in_seq (pv 13) (pe_lst (pa_cons pe_str (pa_cons pe_str pa_nil))) (by rfl)))) pa_nil))))))))), ?_⟩
    have asl := obs.len
    have hasl := crew.len
    have no : ∀ {H1 : Hp}, Same H H1 → (My.pactB x && My.fitsHB x ps hs) = false → Q (.bl false) H1 := fun s c => c ▸ kk _ s
    refine ⟨_, rfl, h, _, rfl, SqT.of e, rfl, ?_⟩
    refine ⟨_, _, rfl, _, _, rfl, _, _, rfl, _, _, rfl, _, _, rfl, rfl, ?_⟩
    refine ⟨_, rfl, x.name, rfl, z1, fun H1 s1 => ⟨_, rfl, ?_⟩⟩
    refine iteB (fun c1 => ?_) (fun c1 => ?_)
    · have c : My.nameB x.name = false := by simpa using c1
      refine iteT (no s1 ?_)
      unfold My.pactB
      rw [c]; rfl
    have c1' : My.nameB x.name = true := by simpa using c1
    refine ⟨_, rfl, _, rfl, L, rfl, ⟨_, SqL.of (s1 _ _ eL)⟩, fun D hD => ?_⟩
    have eL1 := s1 _ _ eL
    have crew1 := Crew.same crew s1
    have nLD : L ≠ D := ne_of_none eL1 hD
    refine lc_list (K := K) (a := L) (xs := has.map V.ref) (fun i H2 => Blk (H2 = upd H1 D (.lst (((hs.take i).map (·.name)).map V.str)))) (Blk.of rfl) (fun i H2 _ hB => ?_) ?_ ?_
    · obtain rfl := hB.out
      exact SqL.of ((upd_ne nLD).trans eL1)
    · intro i y H2 hi hB
      obtain rfl := hB.out
      obtain ⟨b, hb, rfl⟩ := refs_get hi
      obtain ⟨z, hz, tk2, th2, ez, _⟩ := crew1.get hb
      have hil := get_lt hz
      refine ⟨rfl, ?_⟩
      dsimp only [tYes]
      refine iteT ?_
      refine ⟨_, rfl, _, _, _, _, rfl, rfl, SqT.of ((upd_ne (ne_of_none ez hD)).trans ez), rfl, ?_⟩
      refine ⟨_, upd_same, by rw [List.length_map, List.length_map, List.length_take]; exact small (by omega), Blk.of ?_⟩
      rw [upd_upd, take_snoc hz, List.map_append, List.map_append]
      rfl
    intro H2 hB
    obtain rfl := hB.out
    have e1 : hs.take (has.map V.ref).length = hs := by rw [List.length_map, hasl, List.take_length]
    rw [e1]
    have sD : Same H (upd H1 D (.lst ((hs.map (·.name)).map V.str))) := s1.trans ((Same.refl H1).upd hD)
    have hDl : (upd H1 D (.lst ((hs.map (·.name)).map V.str))) D = some (.lst ((hs.map (·.name)).map V.str)) := upd_same
    show _
    generalize (upd H1 D (.lst ((hs.map (·.name)).map V.str))) = H2 at sD hDl
    refine ⟨D, _, rfl, .inl (SqL.of hDl), rfl, flat_str _, _, rfl, ?_⟩
    rw [if_neg Bool.false_ne_true, inV_str]
    refine iteD (fun c2 => ?_) (fun c2 => ?_)
    · refine iteT (no sD ?_)
      unfold My.fitsHB
      rw [decide_eq_true c2]
      simp
    refine ⟨_, rfl, _, _, rfl, rfl, _, rfl, ?_⟩
    refine iteD (fun c3 => ?_) (fun c3 => ?_)
    · refine iteT (no sD ?_)
      unfold My.pactB My.sideB
      rw [decide_eq_false (by omega : ¬ (x.side = 0 ∨ x.side = 1))]
      simp
    refine ⟨_, rfl, _, _, rfl, rfl, _, rfl, ?_⟩
    refine iteD (fun c4 => ?_) (fun c4 => ?_)
    · refine no sD ?_
      unfold My.pactB My.sideB
      rw [decide_eq_false (by omega : ¬ (x.side = 0 ∨ x.side = 1))]
      simp
    have hside : x.side = 0 ∨ x.side = 1 := by omega
    -- fellows
    have eL2 := sD _ _ eL
    have crew2 := Crew.same crew sD
    refine ⟨_, rfl, L, rfl, ⟨_, SqL.of eL2⟩, fun G hG => ?_⟩
    have nLG : L ≠ G := ne_of_none eL2 hG
    refine lc_list (K := K) (a := L) (xs := has.map V.ref) (fun i H1 => Blk (∃ fs : List Addr, H1 = upd H2 G (.lst (fs.map V.ref)) ∧ fs.length = ((hs.take i).filter fun z => decide (z.side = x.side)).length)) (Blk.of ⟨[], rfl, rfl⟩) (fun i H1 _ hB => ?_) ?_ ?_
    · obtain ⟨fs, rfl, _⟩ := hB.out
      exact SqL.of ((upd_ne nLG).trans eL2)
    · intro i y H1 hi hB
      obtain ⟨fs, rfl, hf⟩ := hB.out
      obtain ⟨b, hb, rfl⟩ := refs_get hi
      obtain ⟨z, hz, tk2, th2, ez, _⟩ := crew2.get hb
      have hil := get_lt hz
      refine ⟨rfl, ?_⟩
      refine ⟨_, rfl, _, _, _, _, rfl, rfl, SqT.of ((upd_ne (ne_of_none ez hG)).trans ez), rfl, _, rfl, rfl, _, rfl, ?_⟩
      have ed : decide (V.int z.side = V.int x.side) = decide (z.side = x.side) := by
        by_cases c : z.side = x.side
        · rw [c]; simp
        · rw [decide_eq_false c, decide_eq_false fun q => c (V.int.inj q)]
      rw [ed]
      have et : (hs.take (i + 1)).filter (fun z => decide (z.side = x.side)) = (hs.take i).filter (fun z => decide (z.side = x.side)) ++ (if z.side = x.side then [z] else []) := by
        rw [take_snoc hz, List.filter_append]
        by_cases c : z.side = x.side
        · simp [c]
        · simp [c]
      have hfl : fs.length ≤ i := by
        rw [hf]
        refine Nat.le_trans (List.length_filter_le _ _) ?_
        rw [List.length_take]
        omega
      refine iteD (fun c => ?_) (fun c => ?_)
      · refine ⟨_, rfl, _, upd_same, by rw [List.length_map]; exact small (by omega), Blk.of ⟨fs ++ [b], ?_, ?_⟩⟩
        · rw [upd_upd, List.map_append]; rfl
        · rw [et, if_pos c, List.length_append, List.length_append, hf]; rfl
      · exact Blk.of ⟨fs, rfl, by rw [et, if_neg c, List.append_nil, hf]⟩
    intro H3 hB
    obtain ⟨fs, rfl, hf⟩ := hB.out
    rw [List.length_map, hasl, List.take_length] at hf
    have sG : Same H (upd H2 G (.lst (fs.map V.ref))) := sD.trans ((Same.refl H2).upd hG)
    have hG1 : (upd H2 G (.lst (fs.map V.ref))) G = some (.lst (fs.map V.ref)) := upd_same
    show _
    generalize (upd H2 G (.lst (fs.map V.ref))) = H3 at sG hG1
    refine ⟨G, _, rfl, .inl (SqL.of hG1), _, _, rfl, rfl, _, rfl, ?_⟩
    have el1 : (((fs.map V.ref).length : Nat) : Int) = (((hs.filter fun z => decide (z.side = x.side)).length : Nat) : Int) := by rw [List.length_map, hf]
    rw [el1]
    refine iteD (fun c5 => ?_) (fun c5 => ?_)
    · refine iteT (no sG ?_)
      unfold My.fitsHB
      rw [decide_eq_true (by omega : (hs.filter fun z => decide (z.side = x.side)).length = 4)]
      simp
    have etk3 := etk.same sG
    have eth3 := eth.same sG
    refine ⟨_, rfl, tk, _, rfl, .inr etk3.seq, _, _, rfl, rfl, _, rfl, ?_⟩
    have etl : (((x.takes.map V.str).length : Nat) : Int) = (x.takes.length : Int) := by rw [List.length_map]
    rw [etl]
    refine iteD (fun c6 => ?_) (fun c6 => ?_)
    · refine iteT (no sG ?_)
      unfold My.pactB My.takesB
      rw [decide_eq_false (by omega : ¬ x.takes.length ≤ 3)]
      simp
    refine ⟨_, rfl, th, _, rfl, .inr eth3.seq, _, _, rfl, rfl, _, rfl, ?_⟩
    have ehl : (((x.throws.map V.str).length : Nat) : Int) = (x.throws.length : Int) := by rw [List.length_map]
    rw [ehl]
    refine iteD (fun c7 => ?_) (fun c7 => ?_)
    · refine no sG ?_
      unfold My.pactB My.throwsB
      rw [decide_eq_false (by omega : ¬ x.throws.length ≤ 4)]
      simp
    -- words
    refine ⟨_, rfl, l, rfl, ⟨_, SqL.of (sG _ _ el)⟩, fun J hJ => ?_⟩
    refine words_comp (i := x.side) (obs.same sG) (sG _ _ el) hJ hz1 (fun _ => rfl) (fun h q H4 R hq hR => ?_) fun H4 s4 hJ4 => ?_
    · exact ⟨_, rfl, _, rfl, _, _, _, _, rfl, rfl, SqT.of hq, wd_at2 hside q, hR⟩
    have sJ := sG.trans s4
    have eth4 := eth.same sJ
    refine ⟨_, rfl, th, _, rfl, eth4.seq, ?_⟩
    refine for_it (walk_enumT (K := K) (a := th) (xs := x.throws.map V.str)) (fun i σ H5 => Blk (∃ v9 v10, σ = [some (.ref l), some (.ref L), some (.ref h), some (.str x.name), some (.int x.side), some (.ref tk), some (.bl x.gives), some (.ref th), some (.ref J), v9, v10, none, none, none] ∧ Same H4 H5 ∧ ∀ (j : Nat) (t : Str), j < i → x.throws[j]? = some t → t ∈ ps.map (My.wd x.side) ∧ t ∉ x.throws.take j)) ?_ ?_ ?_ ?_
    · exact Blk.of ⟨_, _, rfl, Same.refl H4, fun j t hj => absurd hj (by omega)⟩
    · intro i σ H5 _ hB
      obtain ⟨v9, v10, _, s5, _⟩ := hB.out
      exact (eth4.same s5).seq
    · intro i y σ H5 H6 hi hB hy
      obtain ⟨v9, v10, rfl, s5, ahead⟩ := hB.out
      obtain ⟨Tt, u, v, rfl, hT, rfl, hu, hv⟩ := hy
      obtain rfl := Option.some.inj hu
      obtain ⟨t, ht, rfl⟩ := strs_get hv
      have s6 : Same H4 (upd H5 Tt (.tup [.int (i : Nat), .str t])) := s5.trans ((Same.refl H5).upd hT)
      have hT6 : (upd H5 Tt (.tup [.int (i : Nat), .str t])) Tt = some (.tup [.int (i : Nat), .str t]) := upd_same
      show _
      generalize (upd H5 Tt (.tup [.int (i : Nat), .str t])) = H6 at s6 hT6
      refine ⟨Tt, _, rfl, SqT.of hT6, rfl, _, _, rfl, _, _, rfl, rfl, ?_⟩
      have hJ6 := s6 _ _ hJ4
      have eth6 := eth4.same s6
      have bad : (t ∈ ps.map (My.wd x.side) ∧ t ∉ x.throws.take i → False) → (My.pactB x && My.fitsHB x ps hs) = false := fun n => by
        cases hb : (My.pactB x && My.fitsHB x ps hs) with
        | false => rfl
        | true =>
          exfalso
          rw [Bool.and_eq_true] at hb
          obtain ⟨b1, b2⟩ := hb
          unfold My.pactB at b1
          unfold My.fitsHB at b2
          rw [Bool.and_eq_true] at b1 b2
          exact n ⟨of_decide_eq_true (List.all_eq_true.mp b2.2 t (List.mem_of_getElem? ht)), nodup_nin (My.throwsB_nodup b1.2).2 ht⟩
      refine ⟨_, rfl, _, rfl, J, _, rfl, .inl (SqL.of hJ6), rfl, flat_str _, _, rfl, ?_⟩
      rw [if_pos rfl, inV_str]
      refine iteB (fun d1 => ?_) (fun d1 => ?_)
      · have d1' : t ∉ ps.map (My.wd x.side) := by simpa using d1
        exact no (sJ.trans s6) (bad fun z => d1' z.1)
      have d1' : t ∈ ps.map (My.wd x.side) := by simpa using d1
      walk_at "rd"
      refine ⟨th, _, rfl, eth6, fun p H7 s7 e7 => ?_⟩
      rw [cut_upto] at e7
      refine ⟨p, _, rfl, .inr e7.seq, rfl, flat_str _, ?_⟩
      rw [if_neg Bool.false_ne_true, inV_str]
      refine ⟨_, rfl, ?_⟩
      have s67 := s6.trans s7
      refine iteD (fun d2 => ?_) (fun d2 => ?_)
      · exact no (sJ.trans s67) (bad fun z => z.2 d2)
      · refine Blk.of ⟨_, _, rfl, s67, fun j t2 hj e2 => ?_⟩
        by_cases c : j = i
        · subst c
          rw [ht] at e2
          obtain rfl := Option.some.inj e2
          exact ⟨d1', d2⟩
        · exact ahead j t2 (by omega) e2
    · intro σ H5 hB
      obtain ⟨v9, v10, rfl, s5, ahead⟩ := hB.out
      have e1 : (x.throws.map V.str).length = x.throws.length := List.length_map ..
      have good : (My.pactB x && My.fitsHB x ps hs) = x.takes.all fun t => decide (t ∈ (["lent", "given"] : List Str)) := by
        have nd : x.throws.Nodup := nodup_ahead fun j t hj => (ahead j t (by rw [e1]; exact get_lt hj) hj).2
        have al : x.throws.all (fun t => decide (t ∈ ps.map (My.wd x.side))) = true := List.all_eq_true.mpr fun t ht => by
          obtain ⟨j, hj⟩ := List.getElem?_of_mem ht
          exact decide_eq_true (ahead j t (by rw [e1]; exact get_lt hj) hj).1
        unfold My.pactB My.fitsHB My.takesB My.sideB
        rw [c1', My.throwsB_of (by omega) nd, al, decide_eq_true hside, decide_eq_false c2, decide_eq_false (by omega : ¬ (hs.filter fun z => decide (z.side = x.side)).length = 4), decide_eq_true (by omega : x.takes.length ≤ 3)]
        simp
      have sF := sJ.trans s5
      have etk5 := etk.same sF
      refine ⟨_, rfl, tk, rfl, ⟨_, etk5.seq⟩, fun N hN => ?_⟩
      obtain ⟨ob, hob, etk6⟩ := etk5
      have nN : tk ≠ N := ne_of_none etk6 hN
      refine lc_tup (K := K) (a := tk) (xs := x.takes.map V.str) (fun i H6 => Blk (Same H5 H6 ∧ H6 N = some (.lst (((x.takes.take i).map fun t => decide (t ∈ (["lent", "given"] : List Str))).map V.bl)))) (Blk.of ⟨(Same.refl H5).upd hN, upd_same⟩) (fun i H6 _ hB => ?_) ?_ ?_
      · obtain ⟨s6, _⟩ := hB.out
        exact .inl (.inr ⟨ob, s6 _ _ etk6⟩)
      · intro i y H6 hi hB
        obtain ⟨s6, hN6⟩ := hB.out
        obtain ⟨t, ht, rfl⟩ := strs_get hi
        refine ⟨rfl, ?_⟩
        dsimp only [tYes]
        refine iteT ?_
        refine ⟨_, rfl, by show 2 ≤ sizeLine; decide, fun M hM => ?_⟩
        refine ⟨M, _, rfl, .inl (SqL.of upd_same), rfl, rfl, ?_⟩
        rw [if_neg Bool.false_ne_true]
        have ei : inV (.str t) [.str "lent", .str "given"] = decide (t ∈ (["lent", "given"] : List Str)) := inV_str t ["lent", "given"]
        rw [ei]
        have nNM : N ≠ M := ne_of_none hN6 hM
        refine ⟨_, (upd_ne nNM).trans hN6, by rw [List.length_map, List.length_map, List.length_take]; exact small (by omega), Blk.of ⟨?_, ?_⟩⟩
        · exact (s6.trans ((Same.refl H6).upd hM)).upd hN
        · rw [upd_same, take_snoc ht, List.map_append, List.map_append]
          rfl
      · intro H6 hB
        obtain ⟨s6, hN6⟩ := hB.out
        refine ⟨N, _, rfl, SqL.of hN6, ?_⟩
        rw [List.length_map, List.take_length, all_map_id, ← good]
        exact kk _ (sF.trans s6)

open My (Hr)
theorem of_not {b : Bool} (h : (!b) = true) : b = false := by cases b with | false => rfl | true => cases h
theorem of_notF {b : Bool} (h : (!b) = false) : b = true := by cases b with | true => rfl | false => cases h
/-! ### the first that does not fit -/
def okPB (ps : List My.Pr) (i : Nat) : Prop := ∀ q, ps[i]? = some q → pairB q (ps.take i) = true
def okHB (ps : List My.Pr) (hs : List Hr) (i : Nat) : Prop := ∀ x, hs[i]? = some x → (My.pactB x && My.fitsHB x ps (hs.take i)) = true
/-- n is the number of the first that does not fit -/
def Bad (ps : List My.Pr) (hs : List Hr) (n : Nat) : Prop :=
  (n < ps.length ∧ (∀ j, j < n → okPB ps j) ∧ ¬ okPB ps n) ∨ ((∀ j, okPB ps j) ∧ ∃ k, n = ps.length + k ∧ k < hs.length ∧ (∀ j, j < k → okHB ps hs j) ∧ ¬ okHB ps hs k)
def Good (ps : List My.Pr) (hs : List Hr) : Prop := (∀ j, okPB ps j) ∧ ∀ j, okHB ps hs j
theorem okPB_out {ps : List My.Pr} {i : Nat} (h : ps.length ≤ i) : okPB ps i := fun q e => by
  have := get_lt e
  omega
theorem okHB_out {ps : List My.Pr} {hs : List Hr} {i : Nat} (h : hs.length ≤ i) : okHB ps hs i := fun q e => by
  have := get_lt e
  omega
/-- ahead of the first that does not fit no side has more than four -/
theorem few_ahead {ps : List My.Pr} {hs : List Hr} {s : Int} : ∀ {i : Nat}, (∀ j, j < i → okHB ps hs j) → ((hs.take i).filter fun z => decide (z.side = s)).length ≤ 4
  | 0, _ => by simp
  | i + 1, h => by
    have ih := few_ahead (s := s) fun j (hj : j < i) => h j (by omega)
    by_cases c : i < hs.length
    · have e : hs[i]? = some hs[i] := List.getElem?_eq_getElem c
      have b := h i (by omega) _ e
      rw [take_snoc e, List.filter_append, List.length_append]
      generalize hs[i] = x at e b
      by_cases d : x.side = s
      · rw [Bool.and_eq_true] at b
        have b2 := b.2
        unfold My.fitsHB at b2
        rw [Bool.and_eq_true] at b2
        have b3 := b2.1
        rw [d] at b3
        have b4 : ¬ ((hs.take i).filter fun z => decide (z.side = s)).length = 4 := fun e => by
          rw [decide_eq_true e] at b3
          simp at b3
        have : ([x].filter fun z => decide (z.side = s)).length ≤ 1 := List.length_filter_le _ _
        omega
      · rw [List.filter_cons, if_neg (by simpa using d)]
        simpa using ih
    · rw [List.take_of_length_le (by omega)] at ih ⊢
      exact ih
def badI (o : Option Nat) : Int := match o with | some n => (n : Int) | none => -1
def BadIs (ps : List My.Pr) (hs : List Hr) : Option Nat → Prop
  | some n => Bad ps hs n
  | none => Good ps hs
theorem bad_lt {ps : List My.Pr} {hs : List Hr} {n : Nat} (h : Bad ps hs n) : n < ps.length + hs.length := by
  rcases h with h | ⟨_, k, rfl, hk, _⟩
  · omega
  · omega
theorem bad_one {ps : List My.Pr} {hs : List Hr} {n m : Nat} (h : Bad ps hs n) (h2 : Bad ps hs m) : n = m := by
  rcases h with ⟨a1, a2, a3⟩ | ⟨a1, k, rfl, a2, a3, a4⟩
  · rcases h2 with ⟨b1, b2, b3⟩ | ⟨b1, _⟩
    · rcases Nat.lt_trichotomy n m with c | c | c
      · exact absurd (b2 n c) a3
      · exact c
      · exact absurd (a2 m c) b3
    · exact absurd (b1 n) a3
  · rcases h2 with ⟨b1, b2, b3⟩ | ⟨b1, k2, rfl, b2, b3, b4⟩
    · exact absurd (a1 m) b3
    · rcases Nat.lt_trichotomy k k2 with c | c | c
      · exact absurd (b3 k c) a4
      · rw [c]
      · exact absurd (a3 k2 c) b4
theorem bad_not {ps : List My.Pr} {hs : List Hr} {n : Nat} (h : Bad ps hs n) (g : Good ps hs) : False := by
  rcases h with ⟨a1, a2, a3⟩ | ⟨a1, k, rfl, a2, a3, a4⟩
  · exact a3 (g.1 n)
  · exact a4 (g.2 k)
theorem bad_is {ps : List My.Pr} {hs : List Hr} {o p : Option Nat} (h : BadIs ps hs o) (h2 : BadIs ps hs p) : o = p := by
  cases o with
  | none =>
    cases p with
    | none => rfl
    | some m => exact (bad_not h2 h).elim
  | some n =>
    cases p with
    | none => exact (bad_not h h2).elim
    | some m => exact congrArg some (bad_one h h2)
/-- helpers and pairs as they are drawn, spoilt or not -/
structure Drawn (ps : List My.Pr) (hs : List Hr) : Prop where
  pl : ps.length ≤ 10000
  pw : ∀ q, q ∈ ps → WOk q.1 ∧ WOk q.2.1
  hl : hs.length ≤ 10000
  hw : ∀ x, x ∈ hs → HrOk x
def sp_first_bad : Sp := fun vs H Q _ => ∃ (l L : Addr) (as has : List Addr) (ps : List My.Pr) (hs : List Hr), vs = [.ref l, .ref L] ∧ H l = some (.lst (as.map V.ref)) ∧ Objs H as prO ps ∧ H L = some (.lst (has.map V.ref)) ∧ Crew H has hs ∧ Drawn ps hs ∧
  ∀ (o : Option Nat) (H' : Hp), BadIs ps hs o → Same H H' → Q (.int (badI o)) H'
theorem ok_first_bad (T : Txt K mg a) : FnOk P w K mg base CX0 3 a.f_first_bad a.d_first_bad ["_law_pairs_here", "_law_helpers_here"] sp_first_bad := by
  refine T.F_first_bad.ok sc_first_bad (fun vs H Q E h => ?_) (fun cdv A outer s H vs Q E hr h => ?_)
  · obtain ⟨l, L, as, has, ps, hs, rfl, _⟩ := h
    rfl
  · obtain ⟨l, L, as, has, ps, hs, rfl, el, ob, eL, crew, dr, kk⟩ := h
    have asl := ob.len
    have hasl := crew.len
    have zl := sizeLine_eq
    have pl := dr.pl
    have hl := dr.hl
    refine ⟨_, (pss_cons (ps_for PassesOwn.never rfl (pi_enum (by rfl) T.z_enumerate (pa_cons (pv 0) pa_nil)) (pg_tup rfl (pgs_cons (pg_name (i := 2) sc_first_bad.nd rfl (Or.inl rfl)) (pgs_cons (pg_name (i := 3) sc_first_bad.nd rfl (Or.inl rfl)) pgs_nil))) (pss_one (ps_if (pt_not (pt_val (pe_call (ok_pair_fits T) (hr.mono (by decide)) rfl T.g_pair_fits T.k_pair_fits T.B_pair_fits .nil pass0 (pa_cons (pe_slice sl_list (pv 0) po_none (po_some (pv 2))) (pa_cons (pv 3) pa_nil))))) (pss_one (ps_ret (pv 2))) pss_nil)))
      (pss_cons (ps_for PassesOwn.never rfl (pi_enum (by rfl) T.z_enumerate (pa_cons (pv 1) pa_nil)) (pg_tup rfl (pgs_cons (pg_name (i := 2) sc_first_bad.nd rfl (Or.inl rfl)) (pgs_cons (pg_name (i := 4) sc_first_bad.nd rfl (Or.inl rfl)) pgs_nil))) (pss_one (ps_if (pt_not (pt_val (pe_call (ok_helper_fits T) (hr.mono (by decide)) rfl T.g_helper_fits T.k_helper_fits T.B_helper_fits .nil pass0 (pa_cons (pv 0) (pa_cons (pe_slice sl_list (pv 1) po_none (po_some (pv 2))) (pa_cons (pv 4) pa_nil)))))) (pss_one (ps_ret (pe_op op_add (pe_callB call_len_seq (by rfl) T.z_len (by decide +kernel) (pa_cons (pv 0) pa_nil)) (pv 2)))) pss_nil)))
      (pss_one (ps_ret (pe_un un_neg pe_int))))), ?_⟩
    refine ⟨_, rfl, l, _, rfl, SqL.of el, ?_⟩
    refine for_it (walk_enum (K := K) (a := l) (xs := as.map V.ref)) (fun i σ H1 => Blk (∃ v2 v3, σ = [some (.ref l), some (.ref L), v2, v3, none] ∧ Same H H1 ∧ ∀ j, j < i → okPB ps j)) ?_ ?_ ?_ ?_
    · exact Blk.of ⟨_, _, rfl, Same.refl H, fun j hj => absurd hj (by omega)⟩
    · intro i σ H1 _ hB
      obtain ⟨v2, v3, _, s1, _⟩ := hB.out
      exact SqL.of (s1 _ _ el)
    · intro i y σ H1 H2 hi hB hy
      obtain ⟨v2, v3, rfl, s1, ahead⟩ := hB.out
      obtain ⟨Tt, u, v, rfl, hT, rfl, hu, hv⟩ := hy
      obtain rfl := Option.some.inj hu
      obtain ⟨h, hh, rfl⟩ := refs_get hv
      have s2 : Same H (upd H1 Tt (.tup [.int (i : Nat), .ref h])) := s1.trans ((Same.refl H1).upd hT)
      have hT2 : (upd H1 Tt (.tup [.int (i : Nat), .ref h])) Tt = some (.tup [.int (i : Nat), .ref h]) := upd_same
      show _
      generalize (upd H1 Tt (.tup [.int (i : Nat), .ref h])) = H2 at s2 hT2
      refine ⟨Tt, _, rfl, SqT.of hT2, rfl, _, _, rfl, _, _, rfl, rfl, ?_⟩
      have ob2 := ob.same s2
      obtain ⟨q, hq, hq2⟩ := ob2.get hh
      obtain ⟨w1, w2⟩ := dr.pw q (List.mem_of_getElem? hq)
      have wl1 := w1.1
      have wl2 := w2.1
      walk_at "rd"
      refine ⟨l, _, rfl, SqL.of (s2 _ _ el), fun p hp => ?_⟩
      rw [cut_to, ← List.map_take]
      have s3 : Same H (upd H2 p (.lst ((as.take i).map V.ref))) := s2.trans ((Same.refl H2).upd hp)
      have hp3 : (upd H2 p (.lst ((as.take i).map V.ref))) p = some (.lst ((as.take i).map V.ref)) := upd_same
      have hq3 : (upd H2 p (.lst ((as.take i).map V.ref))) h = some (prO q) := (upd_ne (ne_of_none hq2 hp)).trans hq2
      show _
      generalize (upd H2 p (.lst ((as.take i).map V.ref))) = H3 at s3 hp3 hq3
      refine ⟨_, rfl, h, p, q, as.take i, ps.take i, rfl, hq3, hp3, (ob.same s3).take i, by rw [List.length_take]; omega, by omega, by omega, fun H4 s4 => ⟨_, rfl, ?_⟩⟩
      have s04 := s3.trans s4
      refine iteB (fun c => ?_) (fun c => ?_)
      · have c' : pairB q (ps.take i) = false := of_not c
        refine ⟨_, rfl, kk (some i) H4 (.inl ⟨get_lt hq, ahead, fun z => ?_⟩) s04⟩
        have := z q hq
        rw [c'] at this
        cases this
      · have c' : pairB q (ps.take i) = true := of_notF c
        refine Blk.of ⟨_, _, rfl, s04, fun j hj => ?_⟩
        by_cases d : j = i
        · subst d
          intro q2 e2
          rw [hq] at e2
          obtain rfl := Option.some.inj e2
          exact c'
        · exact ahead j (by omega)
    · intro σ H1 hB
      obtain ⟨v2, v3, rfl, s1, ahead⟩ := hB.out
      rw [List.length_map, asl] at ahead
      have allp : ∀ j, okPB ps j := fun j => by
        by_cases c : j < ps.length
        · exact ahead j c
        · exact okPB_out (by omega)
      refine ⟨_, rfl, L, _, rfl, SqL.of (s1 _ _ eL), ?_⟩
      refine for_it (walk_enum (K := K) (a := L) (xs := has.map V.ref)) (fun i σ H2 => Blk (∃ v2 v3 v4, σ = [some (.ref l), some (.ref L), v2, v3, v4] ∧ Same H H2 ∧ ∀ j, j < i → okHB ps hs j)) ?_ ?_ ?_ ?_
      · exact Blk.of ⟨_, _, _, rfl, s1, fun j hj => absurd hj (by omega)⟩
      · intro i σ H2 _ hB
        obtain ⟨v2, v3, v4, _, s2, _⟩ := hB.out
        exact SqL.of (s2 _ _ eL)
      · intro i y σ H2 H3 hi hB hy
        obtain ⟨v2, v3, v4, rfl, s2, ahead⟩ := hB.out
        obtain ⟨Tt, u, v, rfl, hT, rfl, hu, hv⟩ := hy
        obtain rfl := Option.some.inj hu
        obtain ⟨h, hh, rfl⟩ := refs_get hv
        have s3 : Same H (upd H2 Tt (.tup [.int (i : Nat), .ref h])) := s2.trans ((Same.refl H2).upd hT)
        have hT3 : (upd H2 Tt (.tup [.int (i : Nat), .ref h])) Tt = some (.tup [.int (i : Nat), .ref h]) := upd_same
        show _
        generalize (upd H2 Tt (.tup [.int (i : Nat), .ref h])) = H3 at s3 hT3
        refine ⟨Tt, _, rfl, SqT.of hT3, rfl, _, _, rfl, _, _, rfl, rfl, ?_⟩
        have crew3 := Crew.same crew s3
        obtain ⟨x, hx, hx2⟩ := AllAt.get crew3 hh
        have xw := dr.hw x (List.mem_of_getElem? hx)
        walk_at "rd"
        refine ⟨L, _, rfl, SqL.of (s3 _ _ eL), fun p hp => ?_⟩
        rw [cut_to, ← List.map_take]
        have s4 : Same H (upd H3 p (.lst ((has.take i).map V.ref))) := s3.trans ((Same.refl H3).upd hp)
        have hp4 : (upd H3 p (.lst ((has.take i).map V.ref))) p = some (.lst ((has.take i).map V.ref)) := upd_same
        have hx4 : HrAt (upd H3 p (.lst ((has.take i).map V.ref))) h x := hx2.same ((Same.refl H3).upd hp)
        show _
        generalize (upd H3 p (.lst ((has.take i).map V.ref))) = H4 at s4 hp4 hx4
        have nmz := xw.nm.1
        refine ⟨_, rfl, h, l, p, x, as, has.take i, ps, hs.take i, rfl, hx4, s4 _ _ el, ob.same s4, hp4, AllAt.take (Crew.same crew s4) i, by omega, by rw [List.length_take]; omega, by omega, by have := xw.tl; omega, by have := xw.hl; omega, few_ahead ahead, fun H5 s5 => ⟨_, rfl, ?_⟩⟩
        have s05 := s4.trans s5
        refine iteB (fun c => ?_) (fun c => ?_)
        · have c' : (My.pactB x && My.fitsHB x ps (hs.take i)) = false := of_not c
          refine ⟨_, rfl, l, _, rfl, .inl (SqL.of (s05 _ _ el)), _, rfl, _, _, rfl, rfl, ?_⟩
          have bad : Bad ps hs (ps.length + i) := .inr ⟨allp, i, rfl, get_lt hx, ahead, fun z => by
            have := z x hx
            rw [c'] at this
            cases this⟩
          have fin := kk (some (ps.length + i)) H5 bad s05
          have e : badI (some (ps.length + i)) = (((as.map V.ref).length : Nat) : Int) + (i : Int) := by
            rw [List.length_map, asl]
            show (((ps.length + i : Nat) : Int)) = _
            omega
          rw [e] at fin
          exact fin
        · have c' : (My.pactB x && My.fitsHB x ps (hs.take i)) = true := of_notF c
          refine Blk.of ⟨_, _, _, rfl, s05, fun j hj => ?_⟩
          by_cases d : j = i
          · subst d
            intro q2 e2
            rw [hx] at e2
            obtain rfl := Option.some.inj e2
            exact c'
          · exact ahead j (by omega)
      · intro σ H2 hB
        obtain ⟨v2, v3, v4, rfl, s2, ahead⟩ := hB.out
        rw [List.length_map, hasl] at ahead
        walk_at "rd"
        refine kk none H2 ⟨allp, fun j => ?_⟩ s2
        by_cases c : j < hs.length
        · exact ahead j c
        · exact okHB_out (by omega)

open My (Hr)
abbrev pfs (pl hl : Addr) : List (Str × V) := [("_pairs", .ref pl), ("_helpers", .ref hl)]
theorem pfs_p {pl hl : Addr} : (pfs pl hl).lookup ("_pairs" : Str) = some (.ref pl) := by kernel_rfl
theorem pfs_h {pl hl : Addr} : (pfs pl hl).lookup ("_helpers" : Str) = some (.ref hl) := by kernel_rfl
theorem pfs_make {pl hl : Addr} : putF "_helpers" (.ref hl) (putF "_pairs" (.ref pl) []) = pfs pl hl := by kernel_rfl
theorem fits_next {ps : List My.Pr} (ok : My.PairsOk ps) {i : Nat} {q : My.Pr} (h : ps[i]? = some q) : fitsB q (ps.take i) = true := by
  have hl := get_lt h
  have hm := ok.many
  unfold fitsB
  rw [decide_eq_true (by rw [List.length_take]; omega), decide_eq_false (My.nin_take (f := fun z : My.Pr => z.1) ok.nears h), decide_eq_false (My.nin_take (f := fun z : My.Pr => z.2.1) ok.fars h)]
  rfl
/-- the Pacts at p: its lists at pl and hl; the pairs -/
structure PactsAt (C : Addr) (H : Hp) (p pl hl : Addr) (as : List Addr) (ps : List My.Pr) : Prop where
  ob : ∃ dx, H p = some (.ins C dx (pfs pl hl))
  lp : H pl = some (.lst (as.map V.ref))
  ps : Objs H as prO ps
theorem PactsAt.same {C : Addr} {H H' : Hp} {p pl hl : Addr} {as : List Addr} {ps : List My.Pr} (h : PactsAt C H p pl hl as ps) (k : Same H H') : PactsAt C H' p pl hl as ps := by
  obtain ⟨⟨dx, e⟩, e1, e3⟩ := h
  exact ⟨⟨dx, k _ _ e⟩, k _ _ e1, e3.same k⟩
/-- .. the helpers -/
structure CrewAt (H : Hp) (hl : Addr) (has : List Addr) (hs : List Hr) : Prop where
  lh : H hl = some (.lst (has.map V.ref))
  hs : Crew H has hs
theorem CrewAt.same {H H' : Hp} {hl : Addr} {has : List Addr} {hs : List Hr} (h : CrewAt H hl has hs) (k : Same H H') : CrewAt H' hl has hs := ⟨k _ _ h.lh, h.hs.same k⟩
theorem filter_sides {hs : List Hr} (h : ∀ x, x ∈ hs → x.side = 0 ∨ x.side = 1) : hs.length = (hs.filter fun z => decide (z.side = 0)).length + (hs.filter fun z => decide (z.side = 1)).length := by
  induction hs with
  | nil => rfl
  | cons x r ih =>
    have h2 := ih fun z hz => h z (List.mem_cons_of_mem _ hz)
    rcases h x List.mem_cons_self with e | e
    · rw [List.filter_cons, if_pos (by simp [e]), List.filter_cons, if_neg (by simp [e]), List.length_cons, List.length_cons]
      omega
    · rw [List.filter_cons, if_neg (by simp [e]), List.filter_cons, if_pos (by simp [e]), List.length_cons, List.length_cons]
      omega
theorem pactB_out {x : Hr} (h : My.pactB x = true) : My.nameB x.name = true ∧ (x.side = 0 ∨ x.side = 1) ∧ My.takesB x.takes = true ∧ My.throwsB x.throws = true := by
  unfold My.pactB at h
  simp only [Bool.and_eq_true] at h
  exact ⟨h.1.1.1, of_decide_eq_true h.1.1.2, h.1.2, h.2⟩
theorem takesB_len {ts : List Str} (h : My.takesB ts = true) : ts.length ≤ 3 := by
  unfold My.takesB at h
  simp only [Bool.and_eq_true, decide_eq_true_eq] at h
  exact h.1
theorem crew_many {ps : List My.Pr} {hs : List Hr} (ok : My.CrewOk ps hs) : hs.length ≤ 8 := by
  have h1 := ok.few 0
  have h2 := ok.few 1
  have := filter_sides fun x hx => (pactB_out (ok.one x hx).1).2.1
  omega
/-- a refusal that bears a number is being made -/
def sp_at (C : Addr) : Sp := fun vs H Q _ => ∃ (e : Addr) (n : Nat), vs = [.ref e, .int n] ∧ H e = some (exo e C none) ∧ n ≤ 200000 ∧
  ∀ (d : Addr) (H' : Hp), H d = none → d ≠ e → H' e = some (exo e C (some d)) → H' d = some (exd d [("at", .int n)]) → Keeps [e] H H' → Q .non H'
theorem num_small {m k : Str} {n : Nat} (h : m.length ≤ 40000) (hk : k.length = n) (hn : n ≤ 200000) : (k ++ m).length ≤ sizeLine := by
  rw [strLen_append, hk, sizeLine_eq]
  omega
theorem nat_log {n : Nat} (h : n ≤ 200000) : ((n : Nat) : Int).natAbs.log2 < 1920 := by
  rw [Int.natAbs_natCast]
  by_cases h0 : n = 0
  · subst h0; decide
  · have : n.log2 < 18 := (Nat.log2_lt h0).mpr (by omega)
    omega
theorem ok_NoPact_init (T : Txt K mg a) : FnOk P w K mg base CX0 1 a.f_NoPact_init a.d_NoPact_init ["self", "at"] (sp_at a.c_NoPact) := by
  refine T.F_NoPact_init.ok sc_NoPact_init (fun vs H Q E h => ?_) (fun cdv A outer s H vs Q E hr h => ?_)
  · obtain ⟨e, n, rfl, _⟩ := h
    rfl
  · obtain ⟨e, n, rfl, he, hn, kk⟩ := h
    refine ⟨_, (pss_cons (ps_expr (pe_midInit T.md_PactError (by rfl) T.g_PactError (pa_cons (pv 0) (pa_cons (pe_joined (.cons pe_str (.cons (pe_fmt (pv 1)) .nil))) pa_nil))))
      (pss_one (ps_ost (pv 0) (pv 1) rfl))), ?_⟩
    refine ⟨_, rfl, _, rfl, by rw [sizeLine_eq]; decide +kernel, ?_⟩
    refine ⟨_, rfl, .inr ⟨n, rfl, nat_log hn, ?_⟩⟩
    have tl := PyProof.Rows.int_text_len_1921 (nat_log hn)
    refine ⟨_, rfl, num_small (by omega) (by decide +kernel : _ = 24) (by decide), ?_⟩
    refine ⟨e, a.c_NoPact, _, rfl, by show 1 ≤ 1000; decide, T.x_NoPact, he, ?_⟩
    refine ⟨_, rfl, _, rfl, e, a.c_NoPact, rfl, T.x_NoPact, T.n_NoPact_at, .inl ⟨he, fun d hd nd => ?_⟩⟩
    refine kk d _ hd nd upd_same ?_ ?_
    · rw [upd_ne nd, upd_same]
    · exact ((Keeps.refl [e] H).upd (.inr hd)).upd (.inl (by simp))
def OutP (CN : Addr) (R : List Addr) (n : Nat) (H : Hp) (E : XK) : Prop := ∀ (d : Addr) (H' : Hp), Keeps R H H' → H' d = some (.xd [("at", .int n)]) → E (.ref CN) (some d) H'
theorem mk_num {C : Addr} {R : List Addr} {H H1 : Hp} {n : Nat} {m : Int} {E : XK} (em : m = (n : Int)) (k1 : Keeps R H H1) (hn : n ≤ 200000) (kk : OutP C R n H E) (e : Addr) (he : H1 e = none) :
    sp_at C (.ref e :: ([.int m] ++ [])) (upd H1 e (exo e C none)) (fun v H2 => v = .non ∧ ∃ (d : Addr) (fs : List (Str × V)), H2 e = some (exo e C (some d)) ∧ H2 d = some (exd d fs) ∧ H1 d = none ∧ E (.ref C) (some d) (upd (del H2 e) d (.xd fs))) (fun _ _ _ => False) := by
  subst em
  refine ⟨e, n, rfl, upd_same, hn, fun d H2 hd nde h1 h2 kp => ⟨rfl, d, _, h1, h2, ?_, ?_⟩⟩
  · exact (upd_ne nde).symm.trans hd
  · have hd1 : H1 d = none := (upd_ne nde).symm.trans hd
    refine kk d _ (fun c o ec hc => ?_) upd_same
    have e1 := k1 _ _ ec hc
    have n1 : c ≠ e := ne_of_none e1 he
    have n2 : c ≠ d := ne_of_none e1 hd1
    rw [upd_ne n2, del_ne n1]
    exact kp c o ((upd_ne n1).trans e1) (by simp [n1])
def sp_PinitX (C CN : Addr) : Sp := fun vs H Q E => ∃ (p dx L Lh : Addr) (as has : List Addr) (ps : List My.Pr) (hs : List Hr), vs = [.ref p, .ref L, .ref Lh] ∧ H p = some (.ins C dx []) ∧ H L = some (.lst (as.map V.ref)) ∧ H Lh = some (.lst (has.map V.ref)) ∧ Objs H as prO ps ∧ Crew H has hs ∧ Drawn ps hs ∧
  (Good ps hs → ∀ (pl hl : Addr) (H' : Hp), H pl = none → H hl = none → PactsAt C H' p pl hl as ps → CrewAt H' hl has hs → Keeps [p] H H' → Q .non H') ∧ ∀ n, Bad ps hs n → OutP CN [p] n H E
theorem ok_Pacts_initX (T : Txt K mg a) : FnOk P w K mg base (L2.CX P w) 4 a.f_Pacts_init a.d_Pacts_init ["self", "pairs", "helpers"] (sp_PinitX a.c_Pacts a.c_NoPact) := by
  refine T.F_Pacts_init.okX sc_Pacts_init (fun vs H Q E h => ?_) (fun cdv A outer s H vs Q E hr h => ?_)
  · obtain ⟨p, dx, L, Lh, as, has, ps, hs, rfl, _⟩ := h
    rfl
  · obtain ⟨p, dx, L, Lh, as, has, ps, hs, rfl, hp, hL, hLh, ob, crew, dr, kk, ek⟩ := h
    refine ⟨_, (pss_cons (ps_fld (pv 0) (pe_lst pa_nil) rfl)
      (pss_cons (ps_fld (pv 0) (pe_lst pa_nil) rfl)
      (pss_cons (ps_for (passes_of rfl) rfl (pi_list (pv 1)) (pg_name (i := 3) sc_Pacts_init.nd rfl (Or.inl rfl)) (pss_cons (ps_if (PW.pt (pw_or (pt_not (pt_val (pe_call (ok_p_is_pair T) (hr.mono (by decide)) rfl T.g_p_is_pair T.k_p_is_pair T.B_p_is_pair .nil pass0 (pa_cons (pv 3) pa_nil)))) (pw_or1 (pt_not (pt_val (pe_call (ok_p_fits_pairs T) (hr.mono (by decide)) rfl T.g_p_fits_pairs T.k_p_fits_pairs T.B_p_fits_pairs .nil pass0 (pa_cons (pv 3) (pa_cons (pe_fld (pv 0) rfl) pa_nil)))))))) (pss_one (ps_raise rfl (W := fun cls d _ H => E cls d H) (takes_of rfl rfl rfl rfl) (pmk_oex T.x_NoPact T.xi_NoPact T.xt_NoPact (ok_NoPact_init T) (hr.mono (by decide)) T.B_NoPact_init .nil pass0 (by rfl) T.g_NoPact (pa_cons (pe_callB call_len_seq (by rfl) T.z_len (by decide +kernel) (pa_cons (pe_fld (pv 0) rfl) pa_nil)) pa_nil)))) pss_nil)
      (pss_one (ps_expr (pe_bm PySem.F.plainAttrs_list PySem.F.slot_list_append PySem.F.type_list_append mt_append (pe_fld (pv 0) rfl) (pa_cons (pv 3) pa_nil))))))
      (pss_one (ps_for (passes_of rfl) rfl (pi_list (pv 2)) (pg_name (i := 4) sc_Pacts_init.nd rfl (Or.inl rfl)) (pss_cons (ps_if (PW.pt (pw_or (pt_not (pt_val (pe_call (ok_p_is_pact T) (hr.mono (by decide)) rfl T.g_p_is_pact T.k_p_is_pact T.B_p_is_pact .nil pass0 (pa_cons (pv 4) pa_nil)))) (pw_or1 (pt_not (pt_val (pe_call (ok_p_fits_helpers T) (hr.mono (by decide)) rfl T.g_p_fits_helpers T.k_p_fits_helpers T.B_p_fits_helpers .nil pass0 (pa_cons (pv 4) (pa_cons (pe_fld (pv 0) rfl) (pa_cons (pe_fld (pv 0) rfl) pa_nil))))))))) (pss_one (ps_raise rfl (W := fun cls d _ H => E cls d H) (takes_of rfl rfl rfl rfl) (pmk_oex T.x_NoPact T.xi_NoPact T.xt_NoPact (ok_NoPact_init T) (hr.mono (by decide)) T.B_NoPact_init .nil pass0 (by rfl) T.g_NoPact (pa_cons (pe_op op_add (pe_callB call_len_seq (by rfl) T.z_len (by decide +kernel) (pa_cons (pe_fld (pv 0) rfl) pa_nil)) (pe_callB call_len_seq (by rfl) T.z_len (by decide +kernel) (pa_cons (pe_fld (pv 0) rfl) pa_nil))) pa_nil)))) pss_nil)
      (pss_one (ps_expr (pe_bm PySem.F.plainAttrs_list PySem.F.slot_list_append PySem.F.type_list_append mt_append (pe_fld (pv 0) rfl) (pa_cons (pv 4) pa_nil)))))))))), ?_⟩
    have c0 := T.cl_Pacts
    have c1 := T.n_Pacts__pairs
    have c2 := T.n_Pacts__helpers
    have asl := ob.len
    have many := dr.pl
    have hmany := dr.hl
    have zl := sizeLine_eq
    refine ⟨by show 0 ≤ sizeLine; decide, fun pl hpl => ?_⟩
    have n1 : p ≠ pl := ne_of_none hp hpl
    walk_at "rd"
    refine ⟨by show 0 ≤ sizeLine; decide, fun hl hhl => ?_⟩
    have n2 : p ≠ hl := fun e => by subst e; rw [upd_same] at hhl; cases hhl
    have hhl1 := (upd_ne n2.symm).symm.trans hhl
    have n3 : pl ≠ hl := ne_of_none upd_same hhl1
    have hhl0 : H hl = none := (upd_ne n3.symm).symm.trans hhl1
    refine ⟨_, rfl, _, _, _, _, rfl, (by walk_at "hp"), c0, c2, (by show 1 < 1000; decide), ?_⟩
    have nLp : L ≠ p := ne_of hL hp (fun q => by cases q)
    have nHp : Lh ≠ p := ne_of hLh hp (fun q => by cases q)
    have k0 : Keeps [p] H (upd (upd (upd (upd H pl (.lst [])) p (.ins a.c_Pacts dx (putF "_pairs" (.ref pl) []))) hl (.lst [])) p (.ins a.c_Pacts dx (putF "_helpers" (.ref hl) (putF "_pairs" (.ref pl) [])))) :=
      ((((Keeps.refl [p] H).upd (.inr hpl)).upd (.inl (by simp))).upd (.inr hhl0)).upd (.inl (by simp))
    have e0 : (upd (upd (upd (upd H pl (.lst [])) p (.ins a.c_Pacts dx (putF "_pairs" (.ref pl) []))) hl (.lst [])) p (.ins a.c_Pacts dx (putF "_helpers" (.ref hl) (putF "_pairs" (.ref pl) [])))) p = some (.ins a.c_Pacts dx (pfs pl hl)) := by
      rw [upd_same]
      exact congrArg (fun q => some (HO.ins a.c_Pacts dx q)) pfs_make
    have e1 : (upd (upd (upd (upd H pl (.lst [])) p (.ins a.c_Pacts dx (putF "_pairs" (.ref pl) []))) hl (.lst [])) p (.ins a.c_Pacts dx (putF "_helpers" (.ref hl) (putF "_pairs" (.ref pl) [])))) pl = some (.lst []) := by
      walk_at "hp"
    have e2 : (upd (upd (upd (upd H pl (.lst [])) p (.ins a.c_Pacts dx (putF "_pairs" (.ref pl) []))) hl (.lst [])) p (.ins a.c_Pacts dx (putF "_helpers" (.ref hl) (putF "_pairs" (.ref pl) [])))) hl = some (.lst []) := by
      walk_at "hp"
    generalize (upd (upd (upd (upd H pl (.lst [])) p (.ins a.c_Pacts dx (putF "_pairs" (.ref pl) []))) hl (.lst [])) p (.ins a.c_Pacts dx (putF "_helpers" (.ref hl) (putF "_pairs" (.ref pl) [])))) = H1 at k0 e0 e1 e2
    have np : NoTup H [p] := NoTup.one hp (fun _ e => by cases e) fun _ _ e => by cases e
    have ob1 : Objs H1 as prO ps := ob.keepN k0 np
    have crew1 : Crew H1 has hs := Crew.keep crew k0 np
    refine ⟨_, rfl, L, rfl, ⟨_, SqL.of (k0 _ _ hL (by simp [nLp]))⟩, ?_⟩
    refine for_list (K := K) (a := L) (xs := as.map V.ref) (fun i σ H2 => Blk (∃ v3, σ = [some (.ref p), some (.ref L), some (.ref Lh), v3, none] ∧ H2 p = some (.ins a.c_Pacts dx (pfs pl hl)) ∧ H2 pl = some (.lst ((as.take i).map V.ref)) ∧ H2 hl = some (.lst []) ∧ Objs H2 as prO ps ∧ Crew H2 has hs ∧ Keeps [p] H H2 ∧ ∀ j, j < i → okPB ps j)) ?_ ?_ ?_ ?_
    · exact Blk.of ⟨_, rfl, e0, e1, e2, ob1, crew1, k0, fun j hj => absurd hj (by omega)⟩
    · intro i σ H2 _ hB
      obtain ⟨v3, _, _, _, _, _, _, k2, _⟩ := hB.out
      exact SqL.of (k2 _ _ hL (by simp [nLp]))
    · intro i y σ H2 hi hB
      obtain ⟨v3, rfl, f0, f1, f2, ob2, cr2, k2, ahead⟩ := hB.out
      obtain ⟨h, hh, rfl⟩ := refs_get hi
      obtain ⟨q, hq, hq2⟩ := ob2.get hh
      have hil := get_lt hq
      obtain ⟨w1, w2⟩ := dr.pw q (List.mem_of_getElem? hq)
      have wl1 := w1.1
      have wl2 := w2.1
      refine ⟨_, rfl, h, q, rfl, hq2, by omega, by omega, fun H3 s3 => ⟨_, rfl, ?_⟩⟩
      have bad : pairB q (ps.take i) = false → Bad ps hs i := fun c => .inl ⟨hil, ahead, fun z => by
        have := z q hq
        rw [c] at this
        cases this⟩
      refine iteB (fun c => ?_) (fun c => ?_)
      · have f03 := s3 _ _ f0
        have f13 := s3 _ _ f1
        refine ⟨_, rfl, _, _, _, _, _, rfl, f03, c0, c1, @pfs_p pl hl, pl, _, rfl, .inl (SqL.of f13), by show 1 ≤ 1000; decide, ?_⟩
        have el : ((((as.take i).map V.ref).length : Nat) : Int) = (i : Int) := by rw [List.length_map, List.length_take]; omega
        have kr : Keeps [p] H H3 := k2.trans (fun c o e _ => s3 c o e)
        refine mk_num el kr (by omega) (ek i (bad ?_))
        unfold pairB
        rw [of_not c]
        rfl
      have nm := of_notF c
      have f03 := s3 _ _ f0
      have f13 := s3 _ _ f1
      have k1 := @pfs_p pl hl
      refine ⟨_, rfl, ?_⟩
      refine ⟨_, rfl, _, _, _, _, _, rfl, f03, c0, c1, k1, ?_⟩
      refine ⟨h, pl, q, as.take i, ps.take i, rfl, s3 _ _ hq2, f13, (ob2.same s3).take i, by rw [List.length_take]; omega, fun H4 s4 => ⟨_, rfl, ?_⟩⟩
      refine iteB (fun d => ?_) (fun d => ?_)
      · have f14 := s4 _ _ f13
        have f04 := s4 _ _ f03
        refine ⟨_, rfl, _, _, _, _, _, rfl, f04, c0, c1, @pfs_p pl hl, pl, _, rfl, .inl (SqL.of f14), by show 1 ≤ 1000; decide, ?_⟩
        have el : ((((as.take i).map V.ref).length : Nat) : Int) = (i : Int) := by rw [List.length_map, List.length_take]; omega
        have kr : Keeps [p] H H4 := (k2.trans (fun c o e _ => s3 c o e)).trans (fun c o e _ => s4 c o e)
        refine mk_num el kr (by omega) (ek i (bad ?_))
        unfold pairB
        rw [of_not d, Bool.and_false]
      have ft := of_notF d
      have f04 := s4 _ _ f03
      have f14 := s4 _ _ f13
      have f24 := s4 _ _ (s3 _ _ f2)
      refine ⟨_, rfl, _, _, _, _, _, rfl, f04, c0, c1, k1, ?_⟩
      refine ⟨.inl ⟨rfl, _, SqL.of f14⟩, _, rfl, pl, _, _, rfl, rfl, f14, by rw [List.length_map, List.length_take]; exact small (by omega), ?_⟩
      have kpl : ∀ o, Keeps [pl] H4 (upd H4 pl o) := fun o => (Keeps.refl _ H4).upd (.inl (by simp))
      have npl : NoTup H4 [pl] := NoTup.lst f14
      refine Blk.of ⟨_, rfl, (upd_ne n1).trans f04, ?_, (upd_ne n3.symm).trans f24, ?_, ?_, ?_⟩
      · rw [upd_same, take_snoc hh, List.map_append]; rfl
      · exact ((ob2.same s3).same s4).keepN (kpl _) npl
      · exact Crew.keep ((Crew.same cr2 s3).same s4) (kpl _) npl
      · have k4 : Keeps [p] H H4 := (k2.trans (fun c o e _ => s3 c o e)).trans (fun c o e _ => s4 c o e)
        exact ⟨k4.upd (.inr hpl), fun j hj => by
          by_cases e : j = i
          · subst e
            intro q2 e2
            rw [hq] at e2
            obtain rfl := Option.some.inj e2
            unfold pairB
            rw [nm, ft]
            rfl
          · exact ahead j (by omega)⟩
    · intro σ H2 hB
      obtain ⟨v3, rfl, f0, f1, f2, ob2, cr2, k2, ahead⟩ := hB.out
      have et : as.take (as.map V.ref).length = as := by rw [List.length_map, List.take_length]
      rw [et] at f1
      have allp : ∀ j, okPB ps j := fun j => by
        by_cases c : j < ps.length
        · exact ahead j (by rw [List.length_map, asl]; exact c)
        · exact okPB_out (by omega)
      refine ⟨_, rfl, Lh, rfl, ⟨_, SqL.of (k2 _ _ hLh (by simp [nHp]))⟩, ?_⟩
      refine for_list (K := K) (a := Lh) (xs := has.map V.ref) (fun i σ H3 => Blk (∃ v3 v4, σ = [some (.ref p), some (.ref L), some (.ref Lh), v3, v4] ∧ H3 p = some (.ins a.c_Pacts dx (pfs pl hl)) ∧ H3 pl = some (.lst (as.map V.ref)) ∧ H3 hl = some (.lst ((has.take i).map V.ref)) ∧ Objs H3 as prO ps ∧ Crew H3 has hs ∧ Keeps [p] H H3 ∧ ∀ j, j < i → okHB ps hs j)) ?_ ?_ ?_ ?_
      · exact Blk.of ⟨_, _, rfl, f0, f1, f2, ob2, cr2, k2, fun j hj => absurd hj (by omega)⟩
      · intro i σ H3 _ hB
        obtain ⟨v3, v4, _, _, _, _, _, _, k3, _⟩ := hB.out
        exact SqL.of (k3 _ _ hLh (by simp [nHp]))
      · intro i y σ H3 hi hB
        obtain ⟨v3, v4, rfl, f0, f1, f2, ob3, cr3, k3, aheadH⟩ := hB.out
        obtain ⟨h, hh, rfl⟩ := refs_get hi
        obtain ⟨x, hx, hx2⟩ := AllAt.get cr3 hh
        have hil := get_lt hx
        have xw := dr.hw x (List.mem_of_getElem? hx)
        have t0 := xw.nm.1
        have t1 := xw.tl
        have t2 := xw.hl
        have badH : (My.pactB x && My.fitsHB x ps (hs.take i)) = false → Bad ps hs (ps.length + i) := fun c => .inr ⟨allp, i, rfl, hil, aheadH, fun z => by
          have := z x hx
          rw [c] at this
          cases this⟩
        have k1 := @pfs_p pl hl
        have k4 := @pfs_h pl hl
        refine ⟨_, rfl, h, x, rfl, hx2, by omega, by omega, by omega, fun H4 s4 => ⟨_, rfl, ?_⟩⟩
        refine iteB (fun c => ?_) (fun c => ?_)
        · have f04 := s4 _ _ f0
          have f14 := s4 _ _ f1
          have f24 := s4 _ _ f2
          refine ⟨_, rfl, _, _, _, _, _, rfl, f04, c0, c1, @pfs_p pl hl, pl, _, rfl, .inl (SqL.of f14), _, rfl, _, _, _, _, _, rfl, f04, c0, c2, @pfs_h pl hl, hl, _, rfl, .inl (SqL.of f24), _, _, rfl, rfl, by show 1 ≤ 1000; decide, ?_⟩
          have el : (((as.map V.ref).length : Nat) : Int) + ((((has.take i).map V.ref).length : Nat) : Int) = ((ps.length + i : Nat) : Int) := by
            rw [List.length_map, asl, List.length_map, List.length_take, AllAt.len cr3]
            omega
          have kr : Keeps [p] H H4 := k3.trans (fun c o e _ => s4 c o e)
          refine mk_num el kr (by omega) (ek _ (badH ?_))
          rw [of_not c]
          rfl
        have b1 := of_notF c
        obtain ⟨nm, sd, tkb, thb⟩ := pactB_out b1
        have f04 := s4 _ _ f0
        refine ⟨_, rfl, _, rfl, _, _, _, _, _, rfl, f04, c0, c1, k1, _, rfl, _, _, _, _, _, rfl, f04, c0, c2, k4, ?_⟩
        refine ⟨h, pl, hl, x, as, has.take i, ps, hs.take i, rfl, hx2.same s4, sd, s4 _ _ f1, ob3.same s4, s4 _ _ f2, AllAt.take (Crew.same cr3 s4) i, by omega, by rw [List.length_take]; omega, by omega, fun H5 s5 => ⟨_, rfl, ?_⟩⟩
        refine iteB (fun d => ?_) (fun d => ?_)
        · have f05 := s5 _ _ f04
          have f15 := s5 _ _ (s4 _ _ f1)
          have f25 := s5 _ _ (s4 _ _ f2)
          refine ⟨_, rfl, _, _, _, _, _, rfl, f05, c0, c1, @pfs_p pl hl, pl, _, rfl, .inl (SqL.of f15), _, rfl, _, _, _, _, _, rfl, f05, c0, c2, @pfs_h pl hl, hl, _, rfl, .inl (SqL.of f25), _, _, rfl, rfl, by show 1 ≤ 1000; decide, ?_⟩
          have el : (((as.map V.ref).length : Nat) : Int) + ((((has.take i).map V.ref).length : Nat) : Int) = ((ps.length + i : Nat) : Int) := by
            rw [List.length_map, asl, List.length_map, List.length_take, AllAt.len cr3]
            omega
          have kr : Keeps [p] H H5 := (k3.trans (fun c o e _ => s4 c o e)).trans (fun c o e _ => s5 c o e)
          refine mk_num el kr (by omega) (ek _ (badH ?_))
          rw [of_not d, Bool.and_false]
        have b2 := of_notF d
        have f05 := s5 _ _ f04
        have f15 := s5 _ _ (s4 _ _ f1)
        have f25 := s5 _ _ (s4 _ _ f2)
        refine ⟨_, rfl, _, _, _, _, _, rfl, f05, c0, c2, k4, ?_⟩
        refine ⟨.inl ⟨rfl, _, SqL.of f25⟩, _, rfl, hl, _, _, rfl, rfl, f25, by rw [List.length_map, List.length_take]; exact small (by omega), ?_⟩
        have khl : ∀ o, Keeps [hl] H5 (upd H5 hl o) := fun o => (Keeps.refl _ H5).upd (.inl (by simp))
        have nhl : NoTup H5 [hl] := NoTup.lst f25
        refine Blk.of ⟨_, _, rfl, (upd_ne n2).trans f05, (upd_ne n3).trans f15, ?_, ?_, ?_, ?_⟩
        · rw [upd_same, take_snoc hh, List.map_append]; rfl
        · exact ((ob3.same s4).same s5).keepN (khl _) nhl
        · exact Crew.keep ((Crew.same cr3 s4).same s5) (khl _) nhl
        · have k5 : Keeps [p] H H5 := (k3.trans (fun c o e _ => s4 c o e)).trans (fun c o e _ => s5 c o e)
          exact ⟨k5.upd (.inr hhl0), fun j hj => by
            by_cases e : j = i
            · subst e
              intro q2 e2
              rw [hx] at e2
              obtain rfl := Option.some.inj e2
              rw [b1, b2]
              rfl
            · exact aheadH j (by omega)⟩
      · intro σ H3 hB
        obtain ⟨v3, v4, rfl, f0, f1, f2, ob3, cr3, k3, aheadH⟩ := hB.out
        have et2 : has.take (has.map V.ref).length = has := by rw [List.length_map, List.take_length]
        rw [et2] at f2
        refine kk ⟨allp, fun j => ?_⟩ pl hl _ hpl hhl0 ⟨⟨dx, f0⟩, f1, ob3⟩ ⟨f2, cr3⟩ k3
        by_cases c : j < hs.length
        · exact aheadH j (by rw [List.length_map, AllAt.len crew]; exact c)
        · exact okHB_out (by omega)

open My (Hr wd)
/-! ### what is told of the helpers -/
def sp_Ppairs (C : Addr) : Sp := fun vs H Q _ => ∃ (p pl hl : Addr) (as : List Addr) (ps : List My.Pr), vs = [.ref p] ∧ PactsAt C H p pl hl as ps ∧ ∀ (r : Addr) (H' : Hp), H r = none → H' r = some (.lst (as.map V.ref)) → Same H H' → Q (.ref r) H'
theorem ok_Pacts_pairs (T : Txt K mg a) : FnOk P w K mg base CX0 1 a.f_Pacts_pairs a.d_Pacts_pairs ["self"] (sp_Ppairs a.c_Pacts) := by
  refine T.F_Pacts_pairs.ok sc_Pacts_pairs (fun vs H Q E h => ?_) (fun cdv A outer s H vs Q E hr h => ?_)
  · obtain ⟨p, pl, hl, as, ps, rfl, _⟩ := h
    rfl
  · obtain ⟨p, pl, hl, as, ps, rfl, pa, kk⟩ := h
    refine ⟨_, (pss_one (ps_ret (pe_callTy call_list_of (by rfl) T.z_list (by decide +kernel) (pa_cons (pe_fld (pv 0) rfl) pa_nil)))), ?_⟩
    obtain ⟨dx, e0⟩ := pa.ob
    refine ⟨_, rfl, _, _, _, _, _, rfl, e0, T.cl_Pacts, T.n_Pacts__pairs, pfs_p, ?_⟩
    exact ⟨pl, _, rfl, .inl (SqL.of pa.lp), fun r hr => kk r _ hr upd_same ((Same.refl H).upd hr)⟩
def sp_Plen (C : Addr) : Sp := fun vs H Q _ => ∃ (p pl hl : Addr) (as has : List Addr) (ps : List My.Pr) (hs : List Hr), vs = [.ref p] ∧ PactsAt C H p pl hl as ps ∧ CrewAt H hl has hs ∧ Q (.int hs.length) H
theorem ok_Pacts_len (T : Txt K mg a) : FnOk P w K mg base CX0 1 a.f_Pacts_len a.d_Pacts_len ["self"] (sp_Plen a.c_Pacts) := by
  refine T.F_Pacts_len.ok sc_Pacts_len (fun vs H Q E h => ?_) (fun cdv A outer s H vs Q E hr h => ?_)
  · obtain ⟨p, pl, hl, as, has, ps, hs, rfl, _⟩ := h
    rfl
  · obtain ⟨p, pl, hl, as, has, ps, hs, rfl, pa, cr, kk⟩ := h
    refine ⟨_, (pss_one (ps_ret (pe_callB call_len_seq (by rfl) T.z_len (by decide +kernel) (pa_cons (pe_fld (pv 0) rfl) pa_nil)))), ?_⟩
    obtain ⟨dx, e0⟩ := pa.ob
    refine ⟨_, rfl, _, _, _, _, _, rfl, e0, T.cl_Pacts, T.n_Pacts__helpers, pfs_h, ?_⟩
    have hl := AllAt.len cr.hs
    refine ⟨_, _, rfl, .inl (SqL.of cr.lh), ?_⟩
    rw [List.length_map, hl]
    exact kk
theorem find_first {α : Type} {P : α → Prop} [DecidablePred P] : ∀ {xs : List α} {k : Nat} {q : α}, (∀ (j : Nat) (z : α), j < k → xs[j]? = some z → ¬ P z) → xs[k]? = some q → P q → xs.find? (fun z => decide (P z)) = some q
  | [], k, q, _, h, _ => by simp at h
  | x :: r, 0, q, _, h, hp => by
    obtain rfl := Option.some.inj (show some x = some q from h)
    rw [List.find?_cons, decide_eq_true hp]
  | x :: r, k + 1, q, hn, h, hp => by
    rw [List.find?_cons, decide_eq_false (hn 0 x (by omega) rfl)]
    exact find_first (k := k) (fun j z hj e => hn (j + 1) z (by omega) e) h hp
theorem find_no {α : Type} {P : α → Prop} [DecidablePred P] {xs : List α} (hn : ∀ (j : Nat) (z : α), j < xs.length → xs[j]? = some z → ¬ P z) : xs.find? (fun z => decide (P z)) = none := by
  rw [List.find?_eq_none]
  intro x hx
  obtain ⟨j, hj⟩ := List.getElem?_of_mem hx
  simpa using hn j x (get_lt hj) hj
def crewOf (w : Str) (hs : List Hr) : Option Hr := hs.find? fun z => decide (z.name = w)
def sp_Ppact (C : Addr) : Sp := fun vs H Q _ => ∃ (p pl hl : Addr) (as has : List Addr) (ps : List My.Pr) (hs : List Hr) (w : Str) (x : Hr), vs = [.ref p, .str w] ∧ PactsAt C H p pl hl as ps ∧ CrewAt H hl has hs ∧ crewOf w hs = some x ∧
  ∀ (h : Addr), HrAt H h x → Q (.ref h) H
theorem ok_Pacts_pact (T : Txt K mg a) : FnOk P w K mg base CX0 1 a.f_Pacts_pact a.d_Pacts_pact ["self", "name"] (sp_Ppact a.c_Pacts) := by
  refine T.F_Pacts_pact.ok sc_Pacts_pact (fun vs H Q E h => ?_) (fun cdv A outer s H vs Q E hr h => ?_)
  · obtain ⟨p, pl, hl, as, has, ps, hs, w, x, rfl, _⟩ := h
    rfl
  · obtain ⟨p, pl, hl, as, has, ps, hs, w, x, rfl, pa, cr, hx, kk⟩ := h
    refine ⟨_, (pss_cons (ps_for PassesOwn.never rfl (pi_list (pe_fld (pv 0) rfl)) (pg_name (i := 2) sc_Pacts_pact.nd rfl (Or.inl rfl)) (pss_one (ps_if (pt_cmpR op_eq (pe_ix ix_tup (pv 2) pe_int (fun _ _ => rfl)) (pv 1) (nomark _)) (pss_one (ps_ret (pv 2))) pss_nil)))
      (pss_one ps_never)), ?_⟩
    obtain ⟨dx, e0⟩ := pa.ob
    have eL := cr.lh
    refine ⟨_, rfl, _, _, _, _, _, rfl, e0, T.cl_Pacts, T.n_Pacts__helpers, pfs_h, hl, rfl, ⟨_, SqL.of eL⟩, ?_⟩
    refine for_list (K := K) (a := hl) (xs := has.map V.ref) (fun k σ H2 => Blk (∃ v2, σ = [some (.ref p), some (.str w), v2] ∧ H2 = H ∧ ∀ (j : Nat) (z : Hr), j < k → hs[j]? = some z → ¬ z.name = w)) ?_ ?_ ?_ ?_
    · exact Blk.of ⟨_, rfl, rfl, fun j z h => absurd h (by omega)⟩
    · intro k σ H2 _ hB
      obtain ⟨v2, _, rfl, _⟩ := hB.out
      exact SqL.of eL
    · intro k y σ H2 hy hB
      obtain ⟨v2, rfl, rfl, no⟩ := hB.out
      obtain ⟨h, hh, rfl⟩ := refs_get hy
      obtain ⟨z, hz, hz2⟩ := AllAt.get cr.hs hh
      obtain ⟨tk2, th2, ez, _⟩ := id hz2
      refine ⟨_, rfl, _, _, _, _, rfl, rfl, SqT.of ez, rfl, ?_⟩
      refine ⟨_, rfl, rfl, _, rfl, ?_⟩
      refine iteD (fun c => ?_) (fun c => ?_)
      · have c' : z.name = w := V.str.inj c
        have := find_first (P := fun z : Hr => z.name = w) no hz c'
        have e : some z = some x := this.symm.trans hx
        obtain rfl := Option.some.inj e
        exact ⟨_, rfl, kk h hz2⟩
      · refine Blk.of ⟨_, rfl, rfl, fun j z' hj e => ?_⟩
        by_cases e2 : j = k
        · subst e2
          rw [hz] at e
          obtain rfl := Option.some.inj e
          exact fun c2 => c (congrArg V.str c2)
        · exact no j z' (by omega) e
    · intro σ H2 hB
      obtain ⟨v2, rfl, rfl, no⟩ := hB.out
      rw [List.length_map, AllAt.len cr.hs] at no
      have : crewOf w hs = none := find_no no
      rw [hx] at this
      cases this
theorem pfs_no1 {pl hl : Addr} : (pfs pl hl).lookup ("pairs" : Str) = none := by kernel_rfl
theorem pfs_no4 {pl hl : Addr} : (pfs pl hl).lookup ("pact" : Str) = none := by kernel_rfl

open My (Hr)
/-! ### when data of pairs and helpers are equal -/
theorem beq_dec {α : Type} [BEq α] [LawfulBEq α] [DecidableEq α] (a b : α) : (a == b) = decide (a = b) := by
  by_cases h : a = b
  · rw [decide_eq_true h, h]
    exact beq_self_eq_true b
  · rw [decide_eq_false h]
    exact beq_eq_false_iff_ne.mpr h
theorem prD_eqv (p q : My.Pr) : PyData.eqv (prD p) (prD q) = decide (p = q) := by
  obtain ⟨p1, p2, p3⟩ := p
  obtain ⟨q1, q2, q3⟩ := q
  simp [prD, PyData.eqv, PyData.eqvAll, beq_dec]
theorem all_eqv {α : Type} [DecidableEq α] {f : α → PyData} (h : ∀ a b, PyData.eqv (f a) (f b) = decide (a = b)) : ∀ xs ys : List α, PyData.eqvAll (xs.map f) (ys.map f) = decide (xs = ys)
  | [], [] => by simp [PyData.eqvAll]
  | [], _ :: _ => by simp [PyData.eqvAll]
  | _ :: _, [] => by simp [PyData.eqvAll]
  | x :: xs, y :: ys => by
    simp [PyData.eqvAll, h, all_eqv h xs ys]
theorem str_eqv (s t : Str) : PyData.eqv (PyData.str s) (PyData.str t) = decide (s = t) := by simp [PyData.eqv, beq_dec]
theorem hrD_eqv (x y : Hr) : PyData.eqv (hrD x) (hrD y) = decide (x = y) := by
  obtain ⟨x1, x2, x3, x4, x5⟩ := x
  obtain ⟨y1, y2, y3, y4, y5⟩ := y
  have h3 := all_eqv str_eqv x3 y3
  have h5 := all_eqv str_eqv x5 y5
  simp [hrD, PyData.eqv, PyData.eqvAll, beq_dec, h3, h5]
theorem prs_eqv (ps qs : List My.Pr) : PyData.eqv (.list (ps.map prD)) (.list (qs.map prD)) = decide (ps = qs) := by
  rw [PyData.eqv]
  exact all_eqv prD_eqv ps qs
theorem hrs_eqv (hs ks : List Hr) : PyData.eqv (.list (hs.map hrD)) (.list (ks.map hrD)) = decide (hs = ks) := by
  rw [PyData.eqv]
  exact all_eqv hrD_eqv hs ks
/-! ### == of Pacts -/
theorem prs_data {ps : List My.Pr} (ok : My.PairsOk ps) : SeqAt.shaped (.list (ps.map prD)) = true := by
  have lay1 : (PyData.list (ps.map prD)).canLay0 = true := by rw [PyData.canLay0]; exact all_lay prD ps fun z hz => prD_lay ⟨name_wok (ok.nm z hz).1, name_wok (ok.nm z hz).2⟩
  have dp1 := all_deep prD 1 (fun z => by rw [prD_deep]; omega) ps
  exact shaped_of lay1 (by simp only [PyData.depth]; omega)
theorem hrs_data {hs : List Hr} (ok : ∀ x, x ∈ hs → HrOk x) : SeqAt.shaped (.list (hs.map hrD)) = true := by
  have lay1 : (PyData.list (hs.map hrD)).canLay0 = true := by rw [PyData.canLay0]; exact all_lay hrD hs fun z hz => hrD_lay (ok z hz)
  have dp1 := all_deep hrD 3 hrD_deep hs
  exact shaped_of lay1 (by simp only [PyData.depth]; omega)
theorem cls_Pacts (T : Txt K mg a) : CmpC K a.c_Pacts a.f_Pacts_eq := ⟨T.m_Pacts_eq.at_, T.pn_1, T.m_Pacts_eq.fn, T.pn_2⟩
def sp_Peq (C : Addr) : Sp := fun vs H Q _ => ∃ (p pl hl q ql kl : Addr) (as has bs kas : List Addr) (ps qs : List My.Pr) (hs ks : List Hr), vs = [.ref p, .ref q] ∧ PactsAt C H p pl hl as ps ∧ CrewAt H hl has hs ∧ PactsAt C H q ql kl bs qs ∧ CrewAt H kl kas ks ∧
  My.PairsOk ps ∧ My.PairsOk qs ∧ (∀ x, x ∈ hs → HrOk x) ∧ (∀ x, x ∈ ks → HrOk x) ∧ Q (.bl (decide (ps = qs) && decide (hs = ks))) H
theorem ok_Pacts_eq (T : Txt K mg a) : FnOk P w K mg base CX0 1 a.f_Pacts_eq a.d_Pacts_eq ["self", "other"] (sp_Peq a.c_Pacts) := by
  refine T.F_Pacts_eq.ok sc_Pacts_eq (fun vs H Q E h => ?_) (fun cdv A outer s H vs Q E hr h => ?_)
  · obtain ⟨p, pl, hl, q, ql, kl, as, has, bs, kas, ps, qs, hs, ks, rfl, _⟩ := h
    rfl
  · obtain ⟨p, pl, hl, q, ql, kl, as, has, bs, kas, ps, qs, hs, ks, rfl, pa, cr, qa, dr, pok, qok, hok, kok, kk⟩ := h
    refine ⟨_, (pss_one (ps_ret (pe_and (pe_callB call_isi (by rfl) T.z_isinstance (by decide +kernel) (pa_cons (pv 1) (pa_cons (pe_glob (v := .ref a.c_Pacts) rfl T.g_Pacts rfl) pa_nil))) (pe_and (pe_cmpR (op_eqD hr.units) (pe_fld (pv 0) rfl) (pe_fld (pv 1) rfl) (nomark _)) (pe_one (pe_cmpR (op_eqD hr.units) (pe_fld (pv 0) rfl) (pe_fld (pv 1) rfl) (nomark _))))))), ?_⟩
    obtain ⟨dx, e0⟩ := pa.ob
    obtain ⟨dy, f0⟩ := qa.ob
    refine ⟨_, rfl, _, _, _, _, true, rfl, .own _, .base (.ins f0 T.cl_Pacts T.pn_7 T.fg T.ft T.pn_2), T.pn_8, true, rfl, ?_⟩
    refine iteT ?_
    refine ⟨_, rfl, _, _, _, _, _, rfl, e0, T.cl_Pacts, T.n_Pacts__pairs, pfs_p, _, rfl, _, _, _, _, _, rfl, f0, T.cl_Pacts, T.n_Pacts__pairs, pfs_p, ?_⟩
    refine ⟨.list (ps.map prD), .list (qs.map prD), .lst (SqL.of pa.lp) (dp_prs pa.ps), .lst (SqL.of qa.lp) (dp_prs qa.ps), prs_data pok, prs_data qok, ?_⟩
    rw [prs_eqv]
    refine ⟨_, rfl, ?_⟩
    refine iteD (fun c1 => ?_) (fun c1 => ?_)
    · refine ⟨_, rfl, _, _, _, _, _, rfl, e0, T.cl_Pacts, T.n_Pacts__helpers, pfs_h, _, rfl, _, _, _, _, _, rfl, f0, T.cl_Pacts, T.n_Pacts__helpers, pfs_h, ?_⟩
      refine ⟨.list (hs.map hrD), .list (ks.map hrD), .lst (SqL.of cr.lh) (dp_hrs cr.hs), .lst (SqL.of dr.lh) (dp_hrs dr.hs), hrs_data hok, hrs_data kok, ?_⟩
      rw [hrs_eqv]
      rw [decide_eq_true c1, Bool.true_and] at kk
      exact kk
    · rw [decide_eq_false c1, Bool.false_and] at kk
      exact kk

open My (Hr)
/-- a helper that fits, its sizes -/
def WS (s : Str) : Prop := s.length ≤ 20 ∧ True
structure HrS (x : Hr) : Prop where
  nm : WS x.name
  tl : x.takes.length ≤ 8
  tk : ∀ t, t ∈ x.takes → WS t
  hl : x.throws.length ≤ 8
  th : ∀ t, t ∈ x.throws → WS t
theorem hrS_of {ps : List My.Pr} {hs : List Hr} (pok : My.PairsOk ps) (cok : My.CrewOk ps hs) {x : Hr} (hx : x ∈ hs) : HrS x := by
  obtain ⟨b, th⟩ := cok.one x hx
  obtain ⟨h1, h2, h3, h4⟩ := pactB_out b
  have h3' := h3
  unfold My.takesB at h3'
  simp only [Bool.and_eq_true, decide_eq_true_eq, List.all_eq_true] at h3'
  have t4 := My.throwsB_nodup h4
  refine ⟨⟨by have := name_len h1; omega, trivial⟩, by omega, fun t ht => ⟨?_, trivial⟩, by omega, fun t ht => ⟨?_, trivial⟩⟩
  · have e : ("lent" : Str).length ≤ 20 ∧ ("given" : Str).length ≤ 20 := by decide +kernel
    have := h3'.2 t ht
    simp at this
    rcases this with rfl | rfl
    · exact e.1
    · exact e.2
  · obtain ⟨q, hq, rfl⟩ := List.mem_map.mp (th t ht)
    have n := pok.nm q hq
    have n1 := name_len n.1
    have n2 := name_len n.2
    unfold My.wd
    split <;> omega
/-! ### the text -/
def pairLine (q : My.Pr) : Str := if q.2.2 = true then Str.empty ++ "word " ++ q.1 ++ " " ++ q.2.1 ++ " laden" else Str.empty ++ "word " ++ q.1 ++ " " ++ q.2.1
def strB (s : Int) : Str := toString s
def helperWords (x : Hr) : List Str := "helper" :: x.name :: strB x.side :: (x.takes ++ ((if x.gives = true then [("gives" : Str)] else []) ++ ((if x.throws = [] then [] else ("throws" : Str) :: x.throws) ++ [])))
def helperLine (x : Hr) : Str := Txt.join " " (helperWords x)
def textOf (ps : List My.Pr) (hs : List Hr) : Str := Txt.join "\n" (ps.map pairLine ++ hs.map helperLine)
theorem lit_len : (Str.empty : Str).length = 0 ∧ ("word " : Str).length = 5 ∧ (" " : Str).length = 1 ∧ (" laden" : Str).length = 6 := by decide +kernel
def sp_pline : Sp := fun vs H Q _ => ∃ (h : Addr) (q : My.Pr), vs = [.ref h] ∧ H h = some (prO q) ∧ q.1.length ≤ 1000 ∧ q.2.1.length ≤ 1000 ∧ Q (.str (pairLine q)) H
theorem ok_p_pair_line (T : Txt K mg a) : FnOk P w K mg base CX0 1 a.f_p_pair_line a.d_p_pair_line ["pair"] sp_pline := by
  refine T.F_p_pair_line.ok sc_p_pair_line (fun vs H Q E h => ?_) (fun cdv A outer s H vs Q E hr h => ?_)
  · obtain ⟨h, q, rfl, _⟩ := h
    rfl
  · obtain ⟨h, ⟨q1, q2, q3⟩, rfl, e, l1, l2, kk⟩ := h
    refine ⟨_, (pss_cons (ps_asg (pv 0) (pg_tup (by rfl) (pgs_cons (pg_name (i := 1) sc_p_pair_line.nd rfl (Or.inl rfl)) (pgs_cons (pg_name (i := 2) sc_p_pair_line.nd rfl (Or.inl rfl)) (pgs_cons (pg_name (i := 3) sc_p_pair_line.nd rfl (Or.inl rfl)) pgs_nil)))))
      (pss_one (ps_ret (pe_ifExp (pt_val (pv 3)) (pe_joined (.cons pe_str (.cons (pe_fmt (pv 1)) (.cons pe_str (.cons (pe_fmt (pv 2)) (.cons pe_str .nil)))))) (pe_joined (.cons pe_str (.cons (pe_fmt (pv 1)) (.cons pe_str (.cons (pe_fmt (pv 2)) .nil))))))))), ?_⟩
    have e' : H h = some (.tup [.str q1, .str q2, .bl q3]) := e
    refine ⟨_, rfl, h, _, rfl, SqT.of e', rfl, ?_⟩
    refine ⟨_, _, rfl, _, _, rfl, _, _, rfl, rfl, ?_⟩
    refine ⟨_, rfl, q3, rfl, ?_⟩
    refine iteB (fun c => ?_) (fun c => ?_)
    · have lt := lit_len
      have l1 : q1.length ≤ 1000 := l1
      have l2 : q2.length ≤ 1000 := l2
      have kk : Q (.str (Str.empty ++ "word " ++ q1 ++ " " ++ q2 ++ " laden")) H := by
        have e : pairLine (q1, q2, q3) = Str.empty ++ "word " ++ q1 ++ " " ++ q2 ++ " laden" := if_pos c
        rw [← e]
        exact kk
      refine ⟨_, rfl, by simp only [strLen_append]; rw [sizeLine_eq]; omega, ?_⟩
      refine ⟨_, rfl, .inl ⟨q1, rfl, by rw [sizeLine_eq]; omega, _, rfl, by simp only [strLen_append]; rw [sizeLine_eq]; omega, ?_⟩⟩
      refine ⟨_, rfl, by simp only [strLen_append]; rw [sizeLine_eq]; omega, ?_⟩
      refine ⟨_, rfl, .inl ⟨q2, rfl, by rw [sizeLine_eq]; omega, _, rfl, by simp only [strLen_append]; rw [sizeLine_eq]; omega, ?_⟩⟩
      refine ⟨_, rfl, by simp only [strLen_append]; rw [sizeLine_eq]; omega, ?_⟩
      exact kk
    · have lt := lit_len
      have l1 : q1.length ≤ 1000 := l1
      have l2 : q2.length ≤ 1000 := l2
      have kk : Q (.str (Str.empty ++ "word " ++ q1 ++ " " ++ q2)) H := by
        have e : pairLine (q1, q2, q3) = Str.empty ++ "word " ++ q1 ++ " " ++ q2 := if_neg (by rw [c]; exact Bool.false_ne_true)
        rw [← e]
        exact kk
      refine ⟨_, rfl, by simp only [strLen_append]; rw [sizeLine_eq]; omega, ?_⟩
      refine ⟨_, rfl, .inl ⟨q1, rfl, by rw [sizeLine_eq]; omega, _, rfl, by simp only [strLen_append]; rw [sizeLine_eq]; omega, ?_⟩⟩
      refine ⟨_, rfl, by simp only [strLen_append]; rw [sizeLine_eq]; omega, ?_⟩
      refine ⟨_, rfl, .inl ⟨q2, rfl, by rw [sizeLine_eq]; omega, _, rfl, by simp only [strLen_append]; rw [sizeLine_eq]; omega, ?_⟩⟩
      exact kk
theorem sum_le : ∀ {ys : List Str} {n : Nat}, (∀ y, y ∈ ys → y.length ≤ n) → (ys.map (·.length)).sum ≤ n * ys.length
  | [], n, _ => by simp
  | y :: ys, n, h => by
    have h1 := sum_le fun z hz => h z (List.mem_cons_of_mem _ hz)
    have h2 := h y List.mem_cons_self
    rw [List.map_cons, List.sum_cons, List.length_cons, Nat.mul_succ]
    omega
theorem words_len {x : Hr} (ok : HrS x) (sd : x.side = 0 ∨ x.side = 1) : (helperWords x).length ≤ 30 ∧ ∀ y, y ∈ helperWords x → y.length ≤ 20 := by
  have h1 := ok.tl
  have h2 := ok.hl
  have e1 : (strB 0).length ≤ 20 ∧ (strB 1).length ≤ 20 ∧ ("helper" : Str).length ≤ 20 ∧ ("gives" : Str).length ≤ 20 ∧ ("throws" : Str).length ≤ 20 := by decide +kernel
  unfold helperWords
  refine ⟨?_, fun y hy => ?_⟩
  · simp only [List.length_cons, List.length_append]
    split <;> split <;> simp <;> omega
  · rcases List.mem_cons.mp hy with rfl | hy
    · exact e1.2.2.1
    rcases List.mem_cons.mp hy with rfl | hy
    · exact ok.nm.1
    rcases List.mem_cons.mp hy with rfl | hy
    · rcases sd with e | e <;> rw [e]
      · exact e1.1
      · exact e1.2.1
    rcases List.mem_append.mp hy with hy | hy
    · exact (ok.tk y hy).1
    rcases List.mem_append.mp hy with hy | hy
    · split at hy
      · simp at hy
        subst hy
        exact e1.2.2.2.1
      · simp at hy
    rw [List.append_nil] at hy
    split at hy
    · simp at hy
    · rcases List.mem_cons.mp hy with rfl | hy
      · exact e1.2.2.2.2
      · exact (ok.th y hy).1
def sp_hline : Sp := fun vs H Q _ => ∃ (h : Addr) (x : Hr), vs = [.ref h] ∧ HrAt H h x ∧ HrS x ∧ (x.side = 0 ∨ x.side = 1) ∧ ∀ H', Same H H' → Q (.str (helperLine x)) H'
theorem ok_p_helper_line (T : Txt K mg a) : FnOk P w K mg base CX0 1 a.f_p_helper_line a.d_p_helper_line ["pact"] sp_hline := by
  refine T.F_p_helper_line.ok sc_p_helper_line (fun vs H Q E h => ?_) (fun cdv A outer s H vs Q E hr h => ?_)
  · obtain ⟨h, x, rfl, _⟩ := h
    rfl
  · obtain ⟨h, x, rfl, hx, xok, sd, kk⟩ := h
    refine ⟨_, (pss_cons (ps_asg (pv 0) (pg_tup (by rfl) (pgs_cons (pg_name (i := 1) sc_p_helper_line.nd rfl (Or.inl rfl)) (pgs_cons (pg_name (i := 2) sc_p_helper_line.nd rfl (Or.inl rfl)) (pgs_cons (pg_name (i := 3) sc_p_helper_line.nd rfl (Or.inl rfl)) (pgs_cons (pg_name (i := 4) sc_p_helper_line.nd rfl (Or.inl rfl)) (pgs_cons (pg_name (i := 5) sc_p_helper_line.nd rfl (Or.inl rfl)) pgs_nil)))))))
      (C8.pss_cut (ps_set (i := 6) sc_p_helper_line.nd rfl (Or.inl rfl) (pe_ifExp (pt_val (pv 4)) (pe_lst (pa_cons pe_str pa_nil)) (pe_lst pa_nil)))
      (C8.pss_cut (ps_set (i := 7) sc_p_helper_line.nd rfl (Or.inl rfl) (pe_ifExp (pt_truth (pv 5) (by intro _; rfl)) (pe_lst (pa_cons pe_str (StX.pa_star (pv 5) pa_nil))) (pe_lst pa_nil)))
      (pss_one (ps_ret (pe_join pe_str (pe_lst (pa_cons pe_str (pa_cons (pv 1) (pa_cons (pe_callTy call_str_int (by rfl) T.z_str (by decide +kernel) (pa_cons (pv 2) pa_nil)) (StX.pa_star (pv 3) (StX.pa_star (pv 6) (StX.pa_star (pv 7) pa_nil))))))))))))), ?_⟩
    obtain ⟨tk, th, e, tkF, thF⟩ := id hx
    refine ⟨_, rfl, h, _, rfl, SqT.of e, rfl, ?_⟩
    refine ⟨_, _, rfl, _, _, rfl, _, _, rfl, _, _, rfl, _, _, rfl, rfl, ?_⟩
    refine ⟨fun σ H1 => Blk (∃ B : Addr, σ = [some (.ref h), some (.str x.name), some (.int x.side), some (.ref tk), some (.bl x.gives), some (.ref th), some (.ref B), none] ∧ Same H H1 ∧ H1 B = some (.lst ((if x.gives = true then [("gives" : Str)] else []).map V.str))), ?_, ?_⟩
    · refine ⟨_, rfl, x.gives, rfl, ?_⟩
      refine iteB (fun c => ?_) (fun c => ?_)
      · refine ⟨by show 1 ≤ sizeLine; decide, fun B hB => ?_⟩
        refine Blk.of ⟨B, rfl, (Same.refl H).upd hB, ?_⟩
        rw [c, upd_same]
        rfl
      · refine ⟨by show 0 ≤ sizeLine; decide, fun B hB => ?_⟩
        refine Blk.of ⟨B, rfl, (Same.refl H).upd hB, ?_⟩
        rw [c, upd_same]
        rfl
    · rintro σ H1 hB
      obtain ⟨B, rfl, s1, hB1⟩ := hB.out
      refine ⟨fun σ H2 => Blk (∃ D : Addr, σ = [some (.ref h), some (.str x.name), some (.int x.side), some (.ref tk), some (.bl x.gives), some (.ref th), some (.ref B), some (.ref D)] ∧ Same H1 H2 ∧ H2 D = some (.lst ((if x.throws = [] then [] else ("throws" : Str) :: x.throws).map V.str))), ?_, ?_⟩
      · have th1 := thF.same s1
        have hl := xok.hl
        refine ⟨_, rfl, _, .inr (.inl ⟨_, th1.seq, rfl⟩), ?_⟩
        refine iteB (fun c => ?_) (fun c => ?_)
        · have ne : ¬ x.throws = [] := fun e => by rw [e] at c; exact absurd c (by decide)
          refine ⟨_, rfl, th, _, rfl, .inl th1.seq, ?_⟩
          refine ⟨by show (x.throws.map V.str ++ []).length + 1 ≤ sizeLine; rw [List.length_append, List.length_map]; exact Nat.le_of_lt (small (by show _ + 0 + 1 ≤ _; omega)), fun D hD => ?_⟩
          refine Blk.of ⟨D, rfl, (Same.refl H1).upd hD, ?_⟩
          rw [if_neg ne, upd_same, List.append_nil]
          rfl
        · have ne : x.throws = [] := by
            cases hh : x.throws with
            | nil => rfl
            | cons a b => rw [hh] at c; exact nomatch (show true = false from c)
          refine ⟨by show 0 ≤ sizeLine; decide, fun D hD => ?_⟩
          refine Blk.of ⟨D, rfl, (Same.refl H1).upd hD, ?_⟩
          rw [if_pos ne, upd_same]
          rfl
      · rintro σ H2 hB
        obtain ⟨D, rfl, s2, hD2⟩ := hB.out
        have sA := s1.trans s2
        have ew : (V.str "helper" :: V.str x.name :: V.str (strB x.side) :: (x.takes.map V.str ++ ((if x.gives = true then [("gives" : Str)] else []).map V.str ++ ((if x.throws = [] then [] else ("throws" : Str) :: x.throws).map V.str ++ [])))) = (helperWords x).map V.str := by
          unfold helperWords
          simp [List.map_append]
        have hwl := words_len xok sd
        refine ⟨⟨_, rfl⟩, ?_⟩
        refine ⟨_, rfl, _, rfl, x.side, rfl, by rcases sd with e | e <;> rw [e] <;> decide, ?_⟩
        refine ⟨_, rfl, tk, _, rfl, .inl ((tkF.same sA).seq), ?_⟩
        refine ⟨_, rfl, B, _, rfl, .inr (SqL.of (s2 _ _ hB1)), ?_⟩
        refine ⟨_, rfl, D, _, rfl, .inr (SqL.of hD2), ?_⟩
        have el := congrArg List.length ew
        rw [List.length_map] at el
        refine ⟨Nat.le_trans (Nat.le_of_eq el) (Nat.le_of_lt (small (by omega))), fun W hW => ?_⟩
        have sm := sum_le hwl.2
        refine ⟨_, W, helperWords x, rfl, rfl, .inl (SqL.of (upd_same.trans (congrArg (fun z => some (HO.lst z)) ew))), ?_, ?_⟩
        · rw [lit_len.2.2.1]
          omega
        · exact kk _ (sA.upd (sA.free hW))
theorem joinL_len (S : List Nat) : ∀ ls : List (List Nat), (TL.joinL S ls).length ≤ (ls.map (·.length)).sum + ls.length * S.length
  | [] => by simp [TL.joinL]
  | [x] => by simp [TL.joinL]
  | x :: y :: r => by
    have ih := joinL_len S (y :: r)
    have e : TL.joinL S (x :: y :: r) = x ++ S ++ TL.joinL S (y :: r) := by simp [TL.joinL]
    rw [e, List.length_append, List.length_append, List.map_cons, List.sum_cons, List.length_cons, Nat.succ_mul]
    omega
theorem S_cps (t : Str) : SX.S t.cps.toList = t := by
  cases t
  simp [SX.S]
theorem join_le (sep : Str) (ys : List Str) : (Txt.join sep ys).length ≤ (ys.map (·.length)).sum + ys.length * sep.length := by
  have e1 : ys = (ys.map fun y => y.cps.toList).map SX.S := by
    rw [List.map_map]
    have : SX.S ∘ (fun y : Str => y.cps.toList) = id := funext fun y => S_cps y
    rw [this, List.map_id]
  have e2 : sep = SX.S sep.cps.toList := (S_cps sep).symm
  have e3 : Txt.join sep ys = SX.S (TL.joinL sep.cps.toList (ys.map fun y => y.cps.toList)) := by
    conv => lhs; rw [e1, e2]
    exact SX.join_S _ _
  have ln : ∀ l : List Nat, (SX.S l).length = l.length := fun l => by simp [SX.S, Str.length]
  have h := joinL_len sep.cps.toList (ys.map fun y => y.cps.toList)
  rw [e3, ln]
  rw [List.map_map, List.length_map] at h
  have e4 : (fun x : List Nat => x.length) ∘ (fun y : Str => y.cps.toList) = fun y : Str => y.length := funext fun y => by show y.cps.toList.length = y.cps.size; simp
  rw [e4] at h
  have e5 : sep.cps.toList.length = sep.length := by show sep.cps.toList.length = sep.cps.size; simp
  rw [e5] at h
  exact h
theorem pairLine_len {q : My.Pr} (h1 : q.1.length ≤ 8) (h2 : q.2.1.length ≤ 8) : (pairLine q).length ≤ 1000 := by
  have lt := lit_len
  unfold pairLine
  split <;> simp only [strLen_append] <;> omega
theorem helperLine_len {x : Hr} (ok : HrS x) (sd : x.side = 0 ∨ x.side = 1) : (helperLine x).length ≤ 1000 := by
  have h := words_len ok sd
  have sm := sum_le h.2
  have jl := join_le " " (helperWords x)
  rw [lit_len.2.2.1] at jl
  unfold helperLine
  omega
def sp_Pstr (C : Addr) : Sp := fun vs H Q _ => ∃ (p pl hl : Addr) (as has : List Addr) (ps : List My.Pr) (hs : List Hr), vs = [.ref p] ∧ PactsAt C H p pl hl as ps ∧ CrewAt H hl has hs ∧ My.PairsOk ps ∧ My.CrewOk ps hs ∧ (∀ x, x ∈ hs → HrS x) ∧ ∀ H', Same H H' → Q (.str (textOf ps hs)) H'
theorem ok_Pacts_str (T : Txt K mg a) : FnOk P w K mg base CX0 2 a.f_Pacts_str a.d_Pacts_str ["self"] (sp_Pstr a.c_Pacts) := by
  refine T.F_Pacts_str.ok sc_Pacts_str (fun vs H Q E h => ?_) (fun cdv A outer s H vs Q E hr h => ?_)
  · obtain ⟨p, pl, hl, as, has, ps, hs, rfl, _⟩ := h
    rfl
  · obtain ⟨p, pl, hl, as, has, ps, hs, rfl, pa, cr, pok, cok, hok, kk⟩ := h
    refine ⟨_, (pss_cons (ps_setLc (i := 1) (own := [("pair", 3)]) (g := gName 3) (tt := tYes) rfl sc_Pacts_str.nd rfl rfl (sw_true rfl rfl rfl (by decide +kernel)) (pi_list (pe_fld (pv 0) rfl)) (blkOk_by (own := [("pair", 3)]) (N := ["self", "words", "helpers", "pair", "pact"]) (sc := defScope s_Pacts_str) (by decide +kernel)) (fun _ _ _ _ _ => pg_name (i := 3) sc_Pacts_str.nd rfl (Or.inl rfl)) (fun _ _ _ _ _ => pts_nil) (fun _ _ _ _ _ => by exact (pe_call (ok_p_pair_line T) (hr.mono (by decide)) rfl T.g_p_pair_line T.k_p_pair_line T.B_p_pair_line .nil pass0 (pa_cons (pv 3) pa_nil))))
      (pss_cons (ps_setLc (i := 2) (own := [("pact", 4)]) (g := gName 4) (tt := tYes) rfl sc_Pacts_str.nd rfl rfl (sw_true rfl rfl rfl (by decide +kernel)) (pi_list (pe_fld (pv 0) rfl)) (blkOk_by (own := [("pact", 4)]) (N := ["self", "words", "helpers", "pair", "pact"]) (sc := defScope s_Pacts_str) (by decide +kernel)) (fun _ _ _ _ _ => pg_name (i := 4) sc_Pacts_str.nd rfl (Or.inl rfl)) (fun _ _ _ _ _ => pts_nil) (fun _ _ _ _ _ => by exact (pe_call (ok_p_helper_line T) (hr.mono (by decide)) rfl T.g_p_helper_line T.k_p_helper_line T.B_p_helper_line .nil pass0 (pa_cons (pv 4) pa_nil))))
      (pss_one (ps_ret (pe_join pe_str (pe_op op_cat (pv 1) (pv 2))))))), ?_⟩
    obtain ⟨dx, e0⟩ := pa.ob
    have many := pok.many
    have hmany := crew_many cok
    have crl := AllAt.len cr.hs
    have pol := pa.ps.len
    refine ⟨_, rfl, _, _, _, _, _, rfl, e0, T.cl_Pacts, T.n_Pacts__pairs, pfs_p, pl, rfl, ⟨_, SqL.of pa.lp⟩, fun D hD => ?_⟩
    have nlD : pl ≠ D := ne_of_none pa.lp hD
    refine lc_list (K := K) (a := pl) (xs := as.map V.ref) (fun k H1 => Blk (H1 = upd H D (.lst (((ps.take k).map pairLine).map V.str)))) (Blk.of rfl) (fun k H1 _ hB => ?_) ?_ ?_
    · obtain rfl := hB.out
      exact SqL.of ((upd_ne nlD).trans pa.lp)
    · intro k y H1 hy hB
      obtain rfl := hB.out
      obtain ⟨h, hh, rfl⟩ := refs_get hy
      obtain ⟨q, hq, hq2⟩ := pa.ps.get hh
      have hk := get_lt hq
      have nm := pok.nm q (List.mem_of_getElem? hq)
      have n1 := name_len nm.1
      have n2 := name_len nm.2
      refine ⟨rfl, ?_⟩
      dsimp only [tYes]
      refine iteT ?_
      refine ⟨_, rfl, h, q, rfl, (upd_ne (ne_of_none hq2 hD)).trans hq2, by omega, by omega, ?_⟩
      refine ⟨_, upd_same, by rw [List.length_map, List.length_map, List.length_take]; exact small (by omega), Blk.of ?_⟩
      rw [upd_upd, take_snoc hq, List.map_append, List.map_append]
      rfl
    · intro H1 hB
      obtain rfl := hB.out
      have e1 : ps.take (as.map V.ref).length = ps := by rw [List.length_map, pol, List.take_length]
      rw [e1]
      have s1 : Same H (upd H D (.lst ((ps.map pairLine).map V.str))) := (Same.refl H).upd hD
      have h1 : (upd H D (.lst ((ps.map pairLine).map V.str))) D = some (.lst ((ps.map pairLine).map V.str)) := upd_same
      generalize (upd H D (.lst ((ps.map pairLine).map V.str))) = H2 at s1 h1
      have cr2 := cr.same s1
      refine ⟨_, rfl, _, _, _, _, _, rfl, s1 _ _ e0, T.cl_Pacts, T.n_Pacts__helpers, pfs_h, hl, rfl, ⟨_, SqL.of cr2.lh⟩, fun G hG => ?_⟩
      have nDG : D ≠ G := ne_of_none h1 hG
      refine lc_list (K := K) (a := hl) (xs := has.map V.ref) (fun k H3 => Blk (Same H2 H3 ∧ H3 G = some (.lst (((hs.take k).map helperLine).map V.str)))) (Blk.of ⟨(Same.refl H2).upd hG, upd_same⟩) (fun k H3 _ hB => ?_) ?_ ?_
      · obtain ⟨s3, _⟩ := hB.out
        exact SqL.of (s3 _ _ cr2.lh)
      · intro k y H3 hy hB
        obtain ⟨s3, h3⟩ := hB.out
        obtain ⟨h, hh, rfl⟩ := refs_get hy
        obtain ⟨x, hx, hx2⟩ := AllAt.get (Crew.same cr2.hs s3) hh
        have hk := get_lt hx
        have xm := List.mem_of_getElem? hx
        refine ⟨rfl, ?_⟩
        dsimp only [tYes]
        refine iteT ?_
        refine ⟨_, rfl, h, x, rfl, hx2, hok x xm, (pactB_out (cok.one x xm).1).2.1, fun H4 s4 => ?_⟩
        refine ⟨_, s4 _ _ h3, by rw [List.length_map, List.length_map, List.length_take]; exact small (by omega), Blk.of ⟨(s3.trans s4).upd hG, ?_⟩⟩
        rw [upd_same, take_snoc hx, List.map_append, List.map_append]
        rfl
      · intro H3 hB
        obtain ⟨s3, h3⟩ := hB.out
        have e2 : hs.take (has.map V.ref).length = hs := by rw [List.length_map, crl, List.take_length]
        rw [e2] at h3
        have ew : (ps.map pairLine).map V.str ++ (hs.map helperLine).map V.str = (ps.map pairLine ++ hs.map helperLine).map V.str := (List.map_append ..).symm
        have lw : (ps.map pairLine ++ hs.map helperLine).length ≤ 14 := by
          rw [List.length_append, List.length_map, List.length_map]
          omega
        have sm := sum_le (ys := ps.map pairLine ++ hs.map helperLine) (n := 1000) fun y hy => by
          rcases List.mem_append.mp hy with hy | hy
          · obtain ⟨q, hq, rfl⟩ := List.mem_map.mp hy
            have nm := pok.nm q hq
            exact pairLine_len (name_len nm.1) (name_len nm.2)
          · obtain ⟨x, hx, rfl⟩ := List.mem_map.mp hy
            exact helperLine_len (hok x hx) (pactB_out (cok.one x hx).1).2.1
        refine ⟨⟨_, rfl⟩, ?_⟩
        refine ⟨_, rfl, _, rfl, D, G, _, _, rfl, rfl, s3 _ _ h1, h3, by rw [List.length_map, List.length_map, List.length_map, List.length_map]; exact Nat.le_of_lt (small (by omega)), fun W hW => ?_⟩
        refine ⟨_, W, ps.map pairLine ++ hs.map helperLine, rfl, rfl, .inl (SqL.of (upd_same.trans (congrArg (fun z => some (HO.lst z)) ew))), ?_, ?_⟩
        · have : ("\n" : Str).length = 1 := by decide +kernel
          rw [this]
          omega
        · exact kk _ ((s1.trans s3).upd ((s1.trans s3).free hW))

/-! ### rows that all fit; the text by words -/
open My (Hr lineOf pairWords helpWords pageOf rowsWords wordOk readW pgWords glue cut ReadOk)
theorem good_pairs {ps : List My.Pr} {hs : List Hr} (g : Good ps hs) : My.PairsOk ps := by
  have at_ : ∀ (i : Nat) (q : My.Pr), ps[i]? = some q → (My.nameB q.1 = true ∧ My.nameB q.2.1 = true) ∧ (ps.take i).length < 6 ∧ q.1 ∉ (ps.take i).map (·.1) ∧ q.2.1 ∉ (ps.take i).map (·.2.1) := fun i q h => by
    have := g.1 i q h
    unfold pairB fitsB at this
    simp only [Bool.and_eq_true, decide_eq_true_eq, Bool.not_eq_true', decide_eq_false_iff_not] at this
    exact ⟨this.1, this.2.1.1, this.2.1.2, this.2.2⟩
  have get : ∀ q, q ∈ ps → ∃ i : Nat, ps[i]? = some q := fun q hq => by
    obtain ⟨i, hi, e⟩ := List.getElem_of_mem hq
    exact ⟨i, by rw [List.getElem?_eq_getElem hi, e]⟩
  refine ⟨?_, fun p hp => ?_, nodup_ahead fun i t h => ?_, nodup_ahead fun i t h => ?_⟩
  · by_cases c : ps.length ≤ 6
    · exact c
    · have hi : 6 < ps.length := by omega
      have := (at_ 6 _ (List.getElem?_eq_getElem hi)).2.1
      rw [List.length_take] at this
      omega
  · obtain ⟨i, h⟩ := get p hp
    exact (at_ i p h).1
  · rw [List.getElem?_map] at h
    obtain ⟨q, hq, rfl⟩ := Option.map_eq_some_iff.mp h
    rw [← List.map_take]
    exact (at_ i q hq).2.2.1
  · rw [List.getElem?_map] at h
    obtain ⟨q, hq, rfl⟩ := Option.map_eq_some_iff.mp h
    rw [← List.map_take]
    exact (at_ i q hq).2.2.2
theorem good_crew {ps : List My.Pr} {hs : List Hr} (g : Good ps hs) : My.CrewOk ps hs := by
  have at_ : ∀ (i : Nat) (x : Hr), hs[i]? = some x → My.pactB x = true ∧ x.name ∉ (hs.take i).map (·.name) ∧ ∀ t, t ∈ x.throws → t ∈ ps.map (My.wd x.side) := fun i x h => by
    have := g.2 i x h
    unfold My.fitsHB at this
    simp only [Bool.and_eq_true, decide_eq_true_eq, Bool.not_eq_true', Bool.or_eq_false_iff, decide_eq_false_iff_not, List.all_eq_true] at this
    exact ⟨this.1, this.2.1.2, this.2.2⟩
  refine ⟨fun x hx => ?_, nodup_ahead fun i t h => ?_, fun s => ?_⟩
  · obtain ⟨i, hi, e⟩ := List.getElem_of_mem hx
    have := at_ i x (by rw [List.getElem?_eq_getElem hi, e])
    exact ⟨this.1, this.2.2⟩
  · rw [List.getElem?_map] at h
    obtain ⟨q, hq, rfl⟩ := Option.map_eq_some_iff.mp h
    rw [← List.map_take]
    exact (at_ i q hq).2.1
  · have := few_ahead (s := s) (i := hs.length) fun j _ => g.2 j
    rwa [List.take_length] at this
theorem glue_two (c : Nat) (a b : Str) (r : List Str) : (glue c (a :: b :: r)).cps.toList = a.cps.toList ++ (c :: (glue c (b :: r)).cps.toList) := by
  have e : ∀ xs : List Str, (glue c xs).cps.toList = TL.joinL [c] (xs.map fun x => x.cps.toList) := fun xs => by
    have e1 : xs = (xs.map fun x => x.cps.toList).map SX.S := by
      rw [List.map_map]
      have : (SX.S ∘ fun x : Str => x.cps.toList) = id := funext fun x => SX.S_tl x
      rw [this, List.map_id]
    have := My.glue_eq c (xs.map fun x => x.cps.toList)
    rw [← e1] at this
    rw [this]
  rw [e, e]
  simp [TL.joinL]
theorem glue_one (c : Nat) (a : Str) : glue c [a] = a := by
  show Txt.join ⟨#[c]⟩ [a] = a
  have := SX.join_S [c] [a.cps.toList]
  have e : [a] = [a.cps.toList].map SX.S := by simp [SX.S_tl]
  have e2 : (⟨#[c]⟩ : Str) = SX.S [c] := rfl
  rw [e, e2, this]
  simp [TL.joinL, SX.S_tl]
theorem pairLine_words (q : My.Pr) : pairLine q = lineOf (pairWords q) := by
  obtain ⟨a, b, c⟩ := q
  have l1 : (Str.empty ++ "word " : Str).cps.toList = ("word" : Str).cps.toList ++ [32] := by decide +kernel
  have l2 : (" " : Str).cps.toList = [32] := by decide +kernel
  have l3 : (" laden" : Str).cps.toList = 32 :: ("laden" : Str).cps.toList := by decide +kernel
  refine TL.ext_tl ?_
  unfold pairLine lineOf pairWords
  cases c with
  | true =>
    rw [if_pos rfl, if_pos rfl]
    show TL.tl _ = (glue 32 _).cps.toList
    rw [glue_two, glue_two, glue_two, glue_one]
    simp only [TL.tl_append]
    have l1' : TL.tl Str.empty ++ TL.tl ("word " : Str) = ("word" : Str).cps.toList ++ [32] := by rw [← TL.tl_append]; exact l1
    rw [l1']
    show ((((("word" : Str).cps.toList ++ [32]) ++ a.cps.toList) ++ (" " : Str).cps.toList) ++ b.cps.toList) ++ (" laden" : Str).cps.toList = _
    rw [l2, l3]
    simp
  | false =>
    rw [if_neg (by simp), if_neg (by simp)]
    show TL.tl _ = (glue 32 _).cps.toList
    rw [glue_two, glue_two, glue_one]
    simp only [TL.tl_append]
    have l1' : TL.tl Str.empty ++ TL.tl ("word " : Str) = ("word" : Str).cps.toList ++ [32] := by rw [← TL.tl_append]; exact l1
    rw [l1']
    show (((("word" : Str).cps.toList ++ [32]) ++ a.cps.toList) ++ (" " : Str).cps.toList) ++ b.cps.toList = _
    rw [l2]
    simp
theorem helperWords_eq {x : Hr} (sd : x.side = 0 ∨ x.side = 1) : helperWords x = helpWords x := by
  have e0 : strB 0 = "0" ∧ strB 1 = "1" := by decide +kernel
  unfold helperWords helpWords My.sideW My.throwsW
  rcases sd with e | e
  · rw [e, e0.1]; simp
  · rw [e, e0.2]; simp
theorem helperLine_words {x : Hr} (sd : x.side = 0 ∨ x.side = 1) : helperLine x = lineOf (helpWords x) := by
  unfold helperLine
  rw [helperWords_eq sd]
  have : (" " : Str) = ⟨#[32]⟩ := by decide +kernel
  rw [this]
  rfl
theorem textOf_page {ps : List My.Pr} {hs : List Hr} (sd : ∀ x, x ∈ hs → x.side = 0 ∨ x.side = 1) : textOf ps hs = pageOf ps hs := by
  unfold textOf pageOf rowsWords
  have : ("\n" : Str) = ⟨#[10]⟩ := by decide +kernel
  rw [this]
  show glue 10 _ = glue 10 _
  congr 1
  rw [List.map_append, List.map_map, List.map_map]
  congr 1
  · exact List.map_congr_left fun q _ => pairLine_words q
  · exact List.map_congr_left fun x hx => helperLine_words (sd x hx)

open My (Hr)
/-! ### the form of a line -/
theorem tw_step : ∀ {r : List Str} {i : Nat}, i ≤ (r.takeWhile My.isTake).length → (∀ t, r[i]? = some t → My.isTake t = true → i + 1 ≤ (r.takeWhile My.isTake).length) ∧ (r[i]? = none → i = (r.takeWhile My.isTake).length) ∧ ∀ t, r[i]? = some t → My.isTake t = false → i = (r.takeWhile My.isTake).length
  | [], i, h => by
    have : i = 0 := by simpa using h
    subst this
    refine ⟨fun t e => ?_, fun _ => rfl, fun t e => ?_⟩ <;> simp at e
  | a :: r, i, h => by
    cases ha : My.isTake a with
    | false =>
      have e : (a :: r).takeWhile My.isTake = [] := by simp [List.takeWhile, ha]
      rw [e] at h ⊢
      have : i = 0 := by simpa using h
      subst this
      refine ⟨fun t e1 e2 => ?_, fun e1 => ?_, fun t e1 e2 => rfl⟩
      · simp at e1
        subst e1
        rw [ha] at e2; cases e2
      · simp at e1
    | true =>
      have e : (a :: r).takeWhile My.isTake = a :: r.takeWhile My.isTake := by simp [List.takeWhile, ha]
      rw [e] at h ⊢
      rw [List.length_cons] at h ⊢
      cases i with
      | zero =>
        refine ⟨fun t _ _ => by omega, fun e1 => ?_, fun t e1 e2 => ?_⟩
        · simp at e1
        · simp at e1
          subst e1
          rw [ha] at e2; cases e2
      | succ i =>
        obtain ⟨h1, h2, h3⟩ := tw_step (r := r) (i := i) (by omega)
        exact ⟨fun t e1 e2 => by have := h1 t (by simpa using e1) e2; omega, fun e1 => by have := h2 (by simpa using e1); omega, fun t e1 e2 => by have := h3 t (by simpa using e1) e2; omega⟩
def takesEnd (ws : List Str) : Nat := 3 + ((ws.drop 3).takeWhile My.isTake).length
theorem str_ix {ws : List Str} {i : Nat} {t : Str} (h : ws[i]? = some t) : atI (ws.map V.str) (i : Int) = some (.str t) := by
  exact atI_nat (by rw [List.getElem?_map, h]; rfl)
def sp_takes_end : Sp := fun vs H Q _ => ∃ (W : Addr) (ws : List Str), vs = [.ref W] ∧ H W = some (.lst (ws.map V.str)) ∧ ws.length ≤ 20000 ∧ Q (.int (takesEnd ws)) H
theorem ok_p_takes_end (T : Txt K mg a) : FnOk P w K mg base CX0 1 a.f_p_takes_end a.d_p_takes_end ["words"] sp_takes_end := by
  refine T.F_p_takes_end.ok sc_p_takes_end (fun vs H Q E h => ?_) (fun cdv A outer s H vs Q E hr h => ?_)
  · obtain ⟨W, ws, rfl, _⟩ := h
    rfl
  · obtain ⟨W, ws, rfl, hW, hl, kk⟩ := h
    refine ⟨_, (pss_cons (ps_set (i := 1) sc_p_takes_end.nd rfl (Or.inl rfl) pe_int)
      (pss_cons (ps_while PassesOwn.never (PW.pt (pw_and (pt_cmpR op_lt (pv 1) (pe_callB call_len_seq (by rfl) T.z_len (by decide +kernel) (pa_cons (pv 0) pa_nil)) (nomark _)) (pw_and1 (pt_cmpR op_in_seq (pe_ix ix_list (pv 0) (pv 1) (fun _ _ => rfl)) (pe_glob (v := .ref a.t_TAKES) rfl T.v_TAKES rfl) (by rfl))))) (pss_one (ps_aug (i := 1) sc_p_takes_end.nd rfl (Or.inl rfl) pe_int ip_add)))
      (pss_one (ps_ret (pv 1))))), ?_⟩
    refine while_by (fun σ H1 => H1 = H ∧ ∃ i : Nat, i ≤ ((ws.drop 3).takeWhile My.isTake).length ∧ σ = [some (.ref W), some (.int ((3 + i : Nat) : Int))])
      (fun σ _ => match σ with | [_, some (.int r)] => ((20003 : Int) - r).toNat | _ => 0) ⟨rfl, 0, Nat.zero_le _, rfl⟩ ?_ ?_
    · rintro σ H1 ⟨rfl, i, hi, rfl⟩
      obtain ⟨s1, s2, s3⟩ := tw_step hi
      rw [List.getElem?_drop] at s1 s2 s3
      refine ⟨_, rfl, _, rfl, _, _, rfl, .inl (SqL.of hW), _, _, rfl, rfl, ?_⟩
      refine ⟨_, rfl, iteD (fun hc => ?_) (fun hc => ?_)⟩
      · rw [List.length_map] at hc
        obtain ⟨t, ht⟩ : ∃ t, ws[3 + i]? = some t := ⟨_, List.getElem?_eq_getElem (by omega)⟩
        refine ⟨_, rfl, _, rfl, _, _, _, _, rfl, rfl, SqL.of hW, str_ix ht, ?_⟩
        refine ⟨_, _, rfl, .inr (T.q_TAKES _), rfl, rfl, ?_⟩
        rw [if_neg Bool.false_ne_true]
        have ei : inV (.str t) [.str "lent", .str "given"] = My.isTake t := inV_str t ["lent", "given"]
        rw [ei]
        refine ⟨_, rfl, ?_⟩
        refine iteB (fun c => ?_) (fun c => ?_)
        · have i1 := s1 t ht c
          refine ⟨_, rfl, _, _, rfl, rfl, ⟨rfl, i + 1, i1, ?_⟩, ?_⟩
          · have : ((3 + i : Nat) : Int) + 1 = ((3 + (i + 1) : Nat) : Int) := by omega
            show [some (V.ref W), some (V.int (((3 + i : Nat) : Int) + 1))] = _
            rw [this]
          · have l1 := (List.takeWhile_sublist (l := ws.drop 3) My.isTake).length_le
            rw [List.length_drop] at l1
            show ((20003 : Int) - (((3 + i : Nat) : Int) + 1)).toNat < ((20003 : Int) - ((3 + i : Nat) : Int)).toNat
            omega
        · have i1 := s3 t ht c
          refine ⟨_, rfl, ?_⟩
          unfold takesEnd at kk
          rw [← i1] at kk
          exact kk
      · rw [List.length_map] at hc
        have hn : ws[3 + i]? = none := List.getElem?_eq_none_iff.mpr (by omega)
        have i1 := s2 hn
        refine ⟨_, rfl, ?_⟩
        unfold takesEnd at kk
        rw [← i1] at kk
        exact kk
    · intro σ H Q Q' hq h
      obtain ⟨v, e1, p, e2, q, ys, e3, e4, a1, a2, e5, e6, k, e7, h⟩ := h
      refine ⟨v, e1, p, e2, q, ys, e3, e4, a1, a2, e5, e6, k, e7, ?_⟩
      cases k with
      | false => exact hq _ _ h
      | true =>
        rw [if_pos rfl] at h ⊢
        obtain ⟨v, e1, v2, e2, p, xs, i, z, e3, e4, e5, e6, b, zs, e7, e8, e9, e10, h⟩ := h
        refine ⟨v, e1, v2, e2, p, xs, i, z, e3, e4, e5, e6, b, zs, e7, e8, e9, e10, ?_⟩
        rw [if_neg Bool.false_ne_true] at h ⊢
        obtain ⟨k, e11, h⟩ := h
        exact ⟨k, e11, hq _ _ h⟩
theorem iteL {k : Nat} {n : Int} {A B : Prop} (h1 : (k : Int) = n → A) (h2 : (k : Int) ≠ n → B) : if decide (V.int (k : Int) = V.int n) = true then A else B := iteD (fun h => h1 (by injection h)) (fun h => h2 (fun e => h (by rw [e])))
theorem iteNS {a b : Str} {A B : Prop} (h1 : a ≠ b → A) (h2 : a = b → B) : if (!decide (V.str a = V.str b)) = true then A else B := by
  by_cases h : a = b
  · rw [decide_eq_true (by rw [h])]; exact h2 h
  · rw [decide_eq_false (fun e => h (by injection e))]; exact h1 h
theorem iteS {a b : Str} {A B : Prop} (h1 : a = b → A) (h2 : a ≠ b → B) : if decide (V.str a = V.str b) = true then A else B := by
  by_cases h : a = b
  · rw [decide_eq_true (by rw [h])]; exact h1 h
  · rw [decide_eq_false (fun e => h (by injection e))]; exact h2 h
theorem no_empty {b : Str} (h : ¬ ("" : Str) ∈ b :: []) : b ≠ "" := fun e => h (by simp [e])
/-- a line's words at W -/
theorem lst_ix {K : PySem.W.Frag} {H : Hp} {W : Addr} {ws : List Str} {i : Nat} {t : Str} {Q : V → Hp → Prop} (hW : H W = some (.lst (ws.map V.str))) (h : ws[i]? = some t) (q : Q (.str t) H) : rIxL K (.ref W) (.int (i : Int)) H Q := ⟨_, _, _, _, rfl, rfl, SqL.of hW, str_ix h, q⟩
def sp_pair_form : Sp := fun vs H Q _ => ∃ (W : Addr) (ws : List Str), vs = [.ref W] ∧ H W = some (.lst (ws.map V.str)) ∧ ws ≠ [] ∧ ws.length ≤ 20000 ∧ Q (.bl (My.pairOf ws).isSome) H
theorem ok_p_has_pair_form (T : Txt K mg a) : FnOk P w K mg base CX0 1 a.f_p_has_pair_form a.d_p_has_pair_form ["words"] sp_pair_form := by
  refine T.F_p_has_pair_form.ok sc_p_has_pair_form (fun vs H Q E h => ?_) (fun cdv A outer s H vs Q E hr h => ?_)
  · obtain ⟨W, ws, rfl, _⟩ := h
    rfl
  · obtain ⟨W, ws, rfl, hW, ne, hl, kk⟩ := h
    refine ⟨_, (pss_cons (ps_if (PW.pt (pw_or (pt_cmpR op_in_seq pe_str (pv 0) (by rfl)) (pw_or1 (pt_cmpR op_ne (pe_ix ix_list (pv 0) pe_int (fun _ _ => rfl)) pe_str (nomark _))))) (pss_one (ps_ret pe_bl)) pss_nil)
      (pss_one (ps_ret (pe_or (pe_cmpR op_eq (pe_callB call_len_seq (by rfl) T.z_len (by decide +kernel) (pa_cons (pv 0) pa_nil)) pe_int (nomark _)) (pe_one (pe_and (pe_cmpR op_eq (pe_callB call_len_seq (by rfl) T.z_len (by decide +kernel) (pa_cons (pv 0) pa_nil)) pe_int (nomark _)) (pe_one (pe_cmpR op_eq (pe_ix ix_list (pv 0) pe_int (fun _ _ => rfl)) pe_str (nomark _))))))))), ?_⟩
    refine ⟨_, rfl, _, _, rfl, .inl (SqL.of hW), rfl, flat_str _, ?_⟩
    rw [if_neg Bool.false_ne_true, inV_str]
    have hk : ∀ b, (My.pairOf ws).isSome = b → Q (.bl b) H := fun b e => by rw [← e]; exact kk
    refine ⟨_, rfl, iteD (fun hm => ?_) (fun hm => ?_)⟩
    · refine iteT ?_
      refine hk _ ?_
      unfold My.pairOf
      rw [if_pos hm]
      rfl
    · match ws, ne with
      | a0 :: r, _ =>
        refine ⟨_, rfl, _, _, _, _, rfl, rfl, SqL.of hW, at_of (j := 0) rfl rfl, ?_⟩
        refine ⟨rfl, ?_⟩
        refine ⟨_, rfl, ?_⟩
        have hp : a0 ≠ "word" → My.pairOf (a0 :: r) = none := fun n => by
          unfold My.pairOf
          rw [if_neg hm]
          split
          · rename_i e
            injection e with e1 _
            rw [if_neg (by rw [← e1]; exact n)]
          · rename_i e
            injection e with e1 _
            rw [if_neg (fun q => n (by rw [e1]; exact q.1))]
          · rfl
        refine iteNS (fun n => hk _ (by rw [hp n]; rfl)) (fun e => ?_)
        subst e
        refine ⟨_, rfl, _, _, rfl, .inl (SqL.of hW), rfl, ?_⟩
        refine ⟨_, rfl, ?_⟩
        have ew : ("" : Str) ∈ ("word" :: r : List Str) → False := hm
        refine iteL (fun hc => hk _ ?_) (fun hc => ?_)
        · rw [List.length_map] at hc
          match r, hc with
          | [b, c], _ =>
            unfold My.pairOf
            rw [if_neg hm]
            simp
        · refine ⟨_, rfl, _, _, rfl, .inl (SqL.of hW), rfl, ?_⟩
          refine ⟨_, rfl, ?_⟩
          refine iteL (fun hd => ?_) (fun hd => hk _ ?_)
          · rw [List.length_map] at hd
            match r, hd with
            | [b, c, d], _ =>
              refine ⟨_, rfl, _, _, _, _, rfl, rfl, SqL.of hW, at_of (j := 3) rfl rfl, ?_⟩
              refine ⟨rfl, ?_⟩
              refine hk _ ?_
              unfold My.pairOf
              rw [if_neg hm]
              by_cases e : d = "laden"
              · subst e
                simp
              · rw [decide_eq_false (fun q => e (by injection q))]
                simp [e]
          · rw [List.length_map] at hc hd
            unfold My.pairOf
            rw [if_neg hm]
            split
            · rename_i e
              injection e with _ e
              subst e
              exact absurd rfl hc
            · rename_i e
              injection e with _ e
              subst e
              exact absurd rfl hd
            · rfl

open My (Hr)
theorem drop_run (r : List Str) : r.drop (r.takeWhile My.isTake).length = r.dropWhile My.isTake := by
  have e : r = r.takeWhile My.isTake ++ r.dropWhile My.isTake := (List.takeWhile_append_dropWhile ..).symm
  conv => lhs; rhs; rw [e]
  exact List.drop_left
def restOf (ws : List Str) : List Str := ws.drop (takesEnd ws)
theorem restOf_eq {h n s : Str} {r : List Str} : restOf (h :: n :: s :: r) = r.dropWhile My.isTake := by
  unfold restOf takesEnd
  show (h :: n :: s :: r).drop (3 + (r.takeWhile My.isTake).length) = _
  rw [Nat.add_comm, ← drop_run r]
  rfl
theorem helpOf_form {h n s : Str} {r : List Str} (hm : ("" : Str) ∉ h :: n :: s :: r) (e : h = "helper") (e2 : s = "0" ∨ s = "1") : (My.helpOf (h :: n :: s :: r)).isSome = (My.thrown (My.behind (restOf (h :: n :: s :: r))).2).isSome := by
  unfold My.helpOf
  rw [if_neg hm, restOf_eq]
  dsimp only
  rw [if_pos ⟨e, e2⟩, Option.isSome_map]
theorem cut_frm (xs : List Str) (i : Nat) : cutV (xs.map V.str) (some (i : Int)) none = (xs.drop i).map V.str := by rw [cut_from, List.map_drop]
def sp_help_form : Sp := fun vs H Q _ => ∃ (W : Addr) (ws : List Str), vs = [.ref W] ∧ H W = some (.lst (ws.map V.str)) ∧ ws ≠ [] ∧ ws.length ≤ 20000 ∧ ∀ H', Same H H' → Q (.bl (My.helpOf ws).isSome) H'
theorem ok_p_has_helper_form (T : Txt K mg a) : FnOk P w K mg base CX0 2 a.f_p_has_helper_form a.d_p_has_helper_form ["words"] sp_help_form := by
  refine T.F_p_has_helper_form.ok sc_p_has_helper_form (fun vs H Q E h => ?_) (fun cdv A outer s H vs Q E hr h => ?_)
  · obtain ⟨W, ws, rfl, _⟩ := h
    rfl
  · obtain ⟨W, ws, rfl, hW, ne, hl, kk⟩ := h
    refine ⟨_, (pss_cons (ps_if (PW.pt (pw_or (pt_cmpR op_in_seq pe_str (pv 0) (by rfl)) (pw_or1 (pt_cmpR op_ne (pe_ix ix_list (pv 0) pe_int (fun _ _ => rfl)) pe_str (nomark _))))) (pss_one (ps_ret pe_bl)) pss_nil)
      (pss_cons (ps_if (PW.pt (pw_or (pt_cmpR op_lt (pe_callB call_len_seq (by rfl) T.z_len (by decide +kernel) (pa_cons (pv 0) pa_nil)) pe_int (nomark _)) (pw_or1 (pt_cmpR op_notIn_seq (pe_ix ix_list (pv 0) pe_int (fun _ _ => rfl)) (pe_tup (pa_cons pe_str (pa_cons pe_str pa_nil))) (by rfl))))) (pss_one (ps_ret pe_bl)) pss_nil)
      (pss_cons (ps_set (i := 1) sc_p_has_helper_form.nd rfl (Or.inl rfl) (pe_slice sl_list (pv 0) (po_some (pe_call (ok_p_takes_end T) (hr.mono (by decide)) rfl T.g_p_takes_end T.k_p_takes_end T.B_p_takes_end .nil pass0 (pa_cons (pv 0) pa_nil))) po_none))
      (C8.pss_cut (ps_if (PW.pt (pw_and (pt_truth (pv 1) (by intro _; rfl)) (pw_and1 (pt_cmpR op_eq (pe_ix ix_list (pv 1) pe_int (fun _ _ => rfl)) pe_str (nomark _))))) (pss_one (ps_set (i := 1) sc_p_has_helper_form.nd rfl (Or.inl rfl) (pe_slice sl_list (pv 1) (po_some pe_int) po_none))) pss_nil)
      (pss_one (ps_ret (pe_or (pe_notT (pv 1)) (pe_one (pe_and (pe_cmpR op_eq (pe_ix ix_list (pv 1) pe_int (fun _ _ => rfl)) pe_str (nomark _)) (pe_one (pe_cmpR op_gt (pe_callB call_len_seq (by rfl) T.z_len (by decide +kernel) (pa_cons (pv 1) pa_nil)) pe_int (nomark _)))))))))))), ?_⟩
    refine ⟨_, rfl, _, _, rfl, .inl (SqL.of hW), rfl, flat_str _, ?_⟩
    rw [if_neg Bool.false_ne_true, inV_str]
    have hk : ∀ b H', Same H H' → (My.helpOf ws).isSome = b → Q (.bl b) H' := fun b H' s e => by rw [← e]; exact kk H' s
    refine ⟨_, rfl, iteD (fun hm => ?_) (fun hm => ?_)⟩
    · refine iteT ?_
      refine hk _ _ (Same.refl H) ?_
      unfold My.helpOf
      rw [if_pos hm]
      rfl
    · match ws, ne with
      | a0 :: r0, _ =>
        refine ⟨_, rfl, _, _, _, _, rfl, rfl, SqL.of hW, at_of (j := 0) rfl rfl, ?_⟩
        refine ⟨rfl, ?_⟩
        refine ⟨_, rfl, ?_⟩
        refine iteNS (fun n => hk _ _ (Same.refl H) ?_) (fun e => ?_)
        · unfold My.helpOf
          rw [if_neg hm]
          split
          · rename_i e
            injection e with e1 _
            rw [if_neg (by rw [← e1]; exact fun q => n q.1)]
            rfl
          · rfl
        · refine ⟨_, rfl, _, _, rfl, .inl (SqL.of hW), _, _, rfl, rfl, _, rfl, iteD (fun hc => ?_) (fun hc => ?_)⟩
          · refine iteT ?_
            refine hk _ _ (Same.refl H) ?_
            rw [List.length_map] at hc
            unfold My.helpOf
            rw [if_neg hm]
            split
            · rename_i e1
              rw [e1] at hc
              simp at hc
              omega
            · rfl
          · rw [List.length_map] at hc
            obtain ⟨n0, s0, r, rfl⟩ : ∃ n0 s0 r, r0 = n0 :: s0 :: r := by
              match r0, hc with
              | n0 :: s0 :: r, _ => exact ⟨n0, s0, r, rfl⟩
              | [x], h => exact absurd h (by simp)
              | [], h => exact absurd h (by simp)
            refine ⟨_, rfl, _, _, _, _, rfl, rfl, SqL.of hW, at_of (j := 2) rfl rfl, ?_⟩
            refine ⟨by show 2 ≤ sizeLine; decide, fun Tp hTp => ?_⟩
            have s1 : Same H (upd H Tp (.tup [.str "0", .str "1"])) := (Same.refl H).upd hTp
            have t1 : (upd H Tp (.tup [.str "0", .str "1"])) Tp = some (.tup [.str "0", .str "1"]) := upd_same
            generalize (upd H Tp (.tup [.str "0", .str "1"])) = H1 at s1 t1 ⊢
            refine ⟨_, _, rfl, .inr (SqT.of t1), rfl, rfl, ?_⟩
            have ei : inV (.str s0) [.str "0", .str "1"] = decide (s0 ∈ (["0", "1"] : List Str)) := inV_str s0 ["0", "1"]
            rw [if_pos rfl, ei]
            refine ⟨_, rfl, ?_⟩
            refine iteB (fun c => ?_) (fun c => ?_)
            · have c : s0 ∉ (["0", "1"] : List Str) := of_decide_eq_false (of_not c)
              refine hk _ _ s1 ?_
              unfold My.helpOf
              rw [if_neg hm]
              dsimp only
              rw [if_neg (fun q => c (by simpa using q.2))]
              rfl
            · have c : s0 ∈ (["0", "1"] : List Str) := of_decide_eq_true (of_notF c)
              have hs : s0 = "0" ∨ s0 = "1" := by simpa using c
              have hf := helpOf_form hm e hs
              rw [hf] at hk
              have hlr : (restOf (a0 :: n0 :: s0 :: r)).length ≤ 20000 := by unfold restOf; rw [List.length_drop]; omega
              refine ⟨_, rfl, _, rfl, W, _, rfl, s1 _ _ hW, hl, ?_⟩
              refine ⟨_, rfl, W, _, rfl, SqL.of (s1 _ _ hW), fun R hR => ?_⟩
              rw [cut_frm]
              have s2 : Same H (upd H1 R (.lst ((restOf (a0 :: n0 :: s0 :: r)).map V.str))) := s1.trans ((Same.refl H1).upd hR)
              have t2 : (upd H1 R (.lst ((restOf (a0 :: n0 :: s0 :: r)).map V.str))) R = some (.lst ((restOf (a0 :: n0 :: s0 :: r)).map V.str)) := upd_same
              show gName 1 (.ref R) _ (upd H1 R (.lst ((restOf (a0 :: n0 :: s0 :: r)).map V.str))) _
              generalize (upd H1 R (.lst ((restOf (a0 :: n0 :: s0 :: r)).map V.str))) = H2 at s2 t2 ⊢
              generalize restOf (a0 :: n0 :: s0 :: r) = d at hk t2 hlr
              refine ⟨fun σ H3 => Blk (∃ R2 : Addr, σ = [some (.ref W), some (.ref R2)] ∧ Same H H3 ∧ H3 R2 = some (.lst ((My.behind d).2.map V.str))), ?_, ?_⟩
              · refine ⟨_, rfl, _, .inl ⟨_, SqL.of t2, rfl⟩, ?_⟩
                cases d with
                | nil =>
                  refine iteF ?_
                  exact Blk.of ⟨R, rfl, s2, t2⟩
                | cons x q =>
                  refine iteT ?_
                  refine ⟨_, rfl, _, _, _, _, rfl, rfl, SqL.of t2, at_of (j := 0) rfl rfl, ?_⟩
                  refine ⟨rfl, ?_⟩
                  refine ⟨_, rfl, ?_⟩
                  refine iteS (fun e => ?_) (fun n => ?_)
                  · refine ⟨_, rfl, _, rfl, R, _, rfl, SqL.of t2, fun R2 hR2 => ?_⟩
                    refine Blk.of ⟨R2, rfl, s2.trans ((Same.refl H2).upd hR2), ?_⟩
                    rw [upd_same]
                    unfold My.behind
                    dsimp only
                    rw [if_pos e]
                    exact congrArg (fun z => some (HO.lst z)) (cut_frm (x :: q) 1)
                  · refine Blk.of ⟨R, rfl, s2, ?_⟩
                    unfold My.behind
                    dsimp only
                    rw [if_neg n]
                    exact t2
              · rintro σ H3 hB
                obtain ⟨R2, rfl, s3, t3⟩ := hB.out
                have hk := fun b => hk b H3 s3
                generalize (My.behind d).2 = g at hk t3
                refine ⟨_, rfl, _, .inl ⟨_, SqL.of t3, rfl⟩, ?_⟩
                refine ⟨_, rfl, ?_⟩
                cases g with
                | nil =>
                  refine iteT ?_
                  exact hk _ rfl
                | cons x q =>
                  refine iteF ?_
                  refine ⟨_, rfl, _, _, _, _, rfl, rfl, SqL.of t3, at_of (j := 0) rfl rfl, ?_⟩
                  refine ⟨rfl, ?_⟩
                  refine ⟨_, rfl, ?_⟩
                  refine iteS (fun e => ?_) (fun n => ?_)
                  · refine ⟨_, rfl, _, _, rfl, .inl (SqL.of t3), _, _, rfl, rfl, ?_⟩
                    refine hk _ ?_
                    cases q with
                    | nil => rfl
                    | cons y q =>
                      show (if x = "throws" then some (y :: q) else none).isSome = decide ((1 : Int) < (((x :: y :: q).map V.str).length : Int))
                      rw [if_pos e, decide_eq_true (by simp; omega)]
                      rfl
                  · refine hk _ ?_
                    cases q with
                    | nil => rfl
                    | cons y q =>
                      show (if x = "throws" then some (y :: q) else none).isSome = false
                      rw [if_neg n]
                      rfl

open My (Hr)
/-! ### a helper's line read -/
theorem cut_mid (xs : List V) (i j : Nat) (h : i ≤ j) : cutV xs (some (i : Int)) (some (j : Int)) = (xs.drop i).take (j - i) := by
  unfold cutV
  rw [HT.sIx_nat, HT.sIx_nat]
  by_cases h1 : i ≤ xs.length
  · rw [Nat.min_eq_left h1]
    by_cases h2 : j ≤ xs.length
    · rw [Nat.min_eq_left h2]
    · rw [Nat.min_eq_right (by omega), List.take_of_length_le (by rw [List.length_drop]; omega), List.take_of_length_le (by rw [List.length_drop]; omega)]
  · rw [Nat.min_eq_right (show xs.length ≤ i by omega), Nat.min_eq_right (show xs.length ≤ j by omega), List.drop_length, List.drop_of_length_le (show xs.length ≤ i by omega), List.take_nil, List.take_nil]
theorem cut_mids (xs : List Str) (i j : Nat) (h : i ≤ j) : cutV (xs.map V.str) (some (i : Int)) (some (j : Int)) = ((xs.drop i).take (j - i)).map V.str := by rw [cut_mid _ _ _ h, ← List.map_drop, ← List.map_take]
theorem lay_strs : ∀ ts : List Str, (∀ t, t ∈ ts → PyData.strOk t = true) → PyData.canLayAll0 (ts.map PyData.str) = true
  | [], _ => rfl
  | t :: r, h => by
    rw [List.map_cons, PyData.canLayAll0, PyData.canLay0, h t List.mem_cons_self, lay_strs r fun q hq => h q (List.mem_cons_of_mem _ hq)]
    rfl
theorem data_strs {ts : List Str} (h : ∀ t, t ∈ ts → PyData.strOk t = true) : SeqAt.shaped (.list (ts.map PyData.str)) = true := by
  have := strs_deep ts
  exact shaped_of (by rw [PyData.canLay0]; exact lay_strs ts h) (by rw [PyData.depth]; omega)
/-- the parts of a helper's line -/
theorem helpOf_parts {ws : List Str} {x : Hr} (h : My.helpOf ws = some x) : ∃ hd r sw, ws = hd :: x.name :: sw :: r ∧ PySem.intText? sw = some x.side ∧ sw.length ≤ 640 ∧ (ws.drop 3).take (takesEnd ws - 3) = x.takes ∧
    (decide ((restOf ws).take 1 = [("gives" : Str)])) = x.gives ∧ (if x.gives = true then (restOf ws).drop 2 else (restOf ws).drop 1) = x.throws := by
  unfold My.helpOf at h
  by_cases hm : ("" : Str) ∈ ws
  · rw [if_pos hm] at h; cases h
  rw [if_neg hm] at h
  split at h
  · rename_i hw n s r
    split at h
    · rename_i e
      obtain ⟨th, ht, hx⟩ := Option.map_eq_some_iff.mp h
      subst hx
      refine ⟨hw, r, s, rfl, ?_, ?_, ?_, ?_, ?_⟩
      · rcases e.2 with q | q
        · subst q
          dsimp only
          rw [if_pos rfl]
          decide +kernel
        · subst q
          dsimp only
          rw [if_neg (by decide +kernel)]
          decide +kernel
      · rcases e.2 with q | q
        · subst q; decide +kernel
        · subst q; decide +kernel
      · unfold takesEnd
        rw [Nat.add_sub_cancel_left]
        show r.take (r.takeWhile My.isTake).length = _
        have e1 : r = r.takeWhile My.isTake ++ r.dropWhile My.isTake := (List.takeWhile_append_dropWhile ..).symm
        conv => lhs; rhs; rw [e1]
        exact List.take_left
      · rw [restOf_eq]
        dsimp only
        generalize r.dropWhile My.isTake = d
        cases d with
        | nil => rfl
        | cons a q =>
          unfold My.behind
          by_cases ea : a = "gives"
          · simp [ea]
          · simp [ea]
      · rw [restOf_eq]
        dsimp only
        generalize r.dropWhile My.isTake = d at ht ⊢
        have key : ∀ g : List Str, My.thrown g = some th → g.drop 1 = th := fun g hg => by
          unfold My.thrown at hg
          split at hg
          · cases hg; rfl
          · split at hg
            · cases hg; rfl
            · cases hg
          · cases hg
        cases d with
        | nil => exact key _ ht
        | cons a q =>
          unfold My.behind at ht ⊢
          by_cases ea : a = "gives"
          · simp only [ea, if_true] at ht ⊢
            exact key _ ht
          · simp only [ea, if_false] at ht ⊢
            simpa using key _ ht
    · cases h
  · cases h
def sp_read_helper : Sp := fun vs H Q _ => ∃ (W : Addr) (ws : List Str) (x : Hr), vs = [.ref W] ∧ H W = some (.lst (ws.map V.str)) ∧ ws.length ≤ 20000 ∧ (∀ w, w ∈ ws → PyData.strOk w = true) ∧ My.helpOf ws = some x ∧ ∀ (h : Addr) (H' : Hp), H h = none → HrAt H' h x → Same H H' → Q (.ref h) H'
theorem ok_p_read_helper (T : Txt K mg a) : FnOk P w K mg base CX0 2 a.f_p_read_helper a.d_p_read_helper ["words"] sp_read_helper := by
  refine T.F_p_read_helper.ok sc_p_read_helper (fun vs H Q E h => ?_) (fun cdv A outer s H vs Q E hr h => ?_)
  · obtain ⟨W, ws, x, rfl, _⟩ := h
    rfl
  · obtain ⟨W, ws, x, rfl, hW, hl, hso, hx, kk⟩ := h
    obtain ⟨hd, r, sw, ew, e1, e2, e3, e4, e5⟩ := helpOf_parts hx
    have hte : 3 ≤ takesEnd ws := by unfold takesEnd; omega
    refine ⟨_, (pss_cons (ps_set (i := 1) sc_p_read_helper.nd rfl (Or.inl rfl) (pe_call (ok_p_takes_end T) (hr.mono (by decide)) rfl T.g_p_takes_end T.k_p_takes_end T.B_p_takes_end .nil pass0 (pa_cons (pv 0) pa_nil)))
      (pss_cons (ps_set (i := 2) sc_p_read_helper.nd rfl (Or.inl rfl) (pe_callTy call_tupleF (by rfl) T.z_tuple (by decide +kernel) (pa_cons (pe_slice sl_list (pv 0) (po_some pe_int) (po_some (pv 1))) pa_nil)))
      (pss_cons (ps_set (i := 3) sc_p_read_helper.nd rfl (Or.inl rfl) (pe_cmpR (op_eqD hr.units) (pe_slice sl_list (pv 0) (po_some (pv 1)) (po_some (pe_op op_add (pv 1) pe_int))) (pe_lst (pa_cons pe_str pa_nil)) (nomark _)))
      (pss_cons (ps_set (i := 4) sc_p_read_helper.nd rfl (Or.inl rfl) (pe_ifExp (pt_val (pv 3)) (pe_op op_add (pv 1) pe_int) (pv 1)))
      (pss_cons (ps_set (i := 5) sc_p_read_helper.nd rfl (Or.inl rfl) (pe_callTy call_tupleF (by rfl) T.z_tuple (by decide +kernel) (pa_cons (pe_slice sl_list (pv 0) (po_some (pe_op op_add (pv 4) pe_int)) po_none) pa_nil)))
      (pss_one (ps_ret (pe_tup (pa_cons (pe_ix ix_list (pv 0) pe_int (fun _ _ => rfl)) (pa_cons (pe_callTy call_int_str (by rfl) T.z_int (by decide +kernel) (pa_cons (pe_ix ix_list (pv 0) pe_int (fun _ _ => rfl)) pa_nil)) (pa_cons (pv 2) (pa_cons (pv 3) (pa_cons (pv 5) pa_nil))))))))))))), ?_⟩
    refine ⟨_, rfl, W, _, rfl, hW, hl, ?_⟩
    refine ⟨_, rfl, _, rfl, _, rfl, _, rfl, W, _, rfl, SqL.of hW, fun p1 hp1 => ?_⟩
    rw [show (3 : Int) = ((3 : Nat) : Int) from rfl, cut_mids ws 3 (takesEnd ws) hte, e3]
    have s1 : Same H (upd H p1 (.lst (x.takes.map V.str))) := (Same.refl H).upd hp1
    have t1 : (upd H p1 (.lst (x.takes.map V.str))) p1 = some (.lst (x.takes.map V.str)) := upd_same
    generalize (upd H p1 (.lst (x.takes.map V.str))) = H1 at s1 t1 ⊢
    refine ⟨p1, _, rfl, SqL.of t1, fun tk ob htk hob => ?_⟩
    have s2 : Same H (upd H1 tk (.frz ob (.tup (x.takes.map V.str)))) := s1.trans ((Same.refl H1).upd htk)
    have tkF : TupF (upd H1 tk (.frz ob (.tup (x.takes.map V.str)))) tk (x.takes.map V.str) := ⟨ob, hob, upd_same⟩
    show gName 2 (.ref tk) _ (upd H1 tk (.frz ob (.tup (x.takes.map V.str)))) _
    generalize (upd H1 tk (.frz ob (.tup (x.takes.map V.str)))) = H2 at s2 tkF ⊢
    refine ⟨_, rfl, _, rfl, _, rfl, _, rfl, _, _, rfl, rfl, _, rfl, W, _, rfl, SqL.of (s2 _ _ hW), fun p3 hp3 => ?_⟩
    have e6 : cutV (ws.map V.str) (some (takesEnd ws : Int)) (some ((takesEnd ws : Int) + 1)) = ((restOf ws).take 1).map V.str := by
      have := cut_mids ws (takesEnd ws) (takesEnd ws + 1) (by omega)
      rw [Nat.add_sub_cancel_left] at this
      exact this
    rw [e6]
    have s3 : Same H (upd H2 p3 (.lst (((restOf ws).take 1).map V.str))) := s2.trans ((Same.refl H2).upd hp3)
    have s23 : Same H2 (upd H2 p3 (.lst (((restOf ws).take 1).map V.str))) := (Same.refl H2).upd hp3
    have t3 : (upd H2 p3 (.lst (((restOf ws).take 1).map V.str))) p3 = some (.lst (((restOf ws).take 1).map V.str)) := upd_same
    generalize (upd H2 p3 (.lst (((restOf ws).take 1).map V.str))) = H3 at s3 s23 t3 ⊢
    have tkF := tkF.same s23
    refine ⟨by show 1 ≤ sizeLine; decide, fun p4 hp4 => ?_⟩
    have s34 : Same H3 (upd H3 p4 (.lst [.str "gives"])) := (Same.refl H3).upd hp4
    have t4 : (upd H3 p4 (.lst [.str "gives"])) p4 = some (.lst [.str "gives"]) := upd_same
    generalize (upd H3 p4 (.lst [.str "gives"])) = H4 at s34 t4 ⊢
    have tkF := tkF.same s34
    have s4 := s3.trans s34
    have hin : ∀ t, t ∈ (restOf ws).take 1 → PyData.strOk t = true := fun t ht => hso t (List.mem_of_mem_drop (List.mem_of_mem_take ht))
    refine ⟨.list (((restOf ws).take 1).map PyData.str), .list ([("gives" : Str)].map PyData.str), .lst (SqL.of (s34 _ _ t3)) (dp_strs _), .lst (SqL.of t4) (dp_strs [("gives" : Str)]), data_strs hin, data_strs (by decide +kernel), ?_⟩
    have ev : PyData.eqv (.list (((restOf ws).take 1).map PyData.str)) (.list ([("gives" : Str)].map PyData.str)) = x.gives := by
      rw [PyData.eqv, all_eqv str_eqv, e4]
    rw [ev]
    refine ⟨_, rfl, x.gives, rfl, ?_⟩
    have ed : ∀ n : Nat, (ws.drop (takesEnd ws + n)) = (restOf ws).drop n := fun n => by unfold restOf; rw [List.drop_drop]
    refine iteB (fun c => ?_) (fun c => ?_)
    · rw [if_pos c] at e5
      refine ⟨_, rfl, _, _, rfl, rfl, ?_⟩
      refine ⟨_, rfl, _, rfl, _, _, rfl, rfl, _, rfl, W, _, rfl, SqL.of (s4 _ _ hW), fun p5 hp5 => ?_⟩
      have e7 : cutV (ws.map V.str) (some ((takesEnd ws : Int) + 1 + 1)) none = x.throws.map V.str := by
        have := cut_frm ws (takesEnd ws + 2)
        rw [ed, e5] at this
        rw [← this]
        rfl
      rw [e7]
      have s45 : Same H4 (upd H4 p5 (.lst (x.throws.map V.str))) := (Same.refl H4).upd hp5
      have t5 : (upd H4 p5 (.lst (x.throws.map V.str))) p5 = some (.lst (x.throws.map V.str)) := upd_same
      generalize (upd H4 p5 (.lst (x.throws.map V.str))) = H5 at s45 t5 ⊢
      refine ⟨p5, _, rfl, SqL.of t5, fun th ob2 hth hob2 => ?_⟩
      have s56 : Same H5 (upd H5 th (.frz ob2 (.tup (x.throws.map V.str)))) := (Same.refl H5).upd hth
      have thF : TupF (upd H5 th (.frz ob2 (.tup (x.throws.map V.str)))) th (x.throws.map V.str) := ⟨ob2, hob2, upd_same⟩
      show gName 5 (.ref th) _ (upd H5 th (.frz ob2 (.tup (x.throws.map V.str)))) _
      generalize (upd H5 th (.frz ob2 (.tup (x.throws.map V.str)))) = H6 at s56 thF ⊢
      have tkF := (tkF.same s45).same s56
      have s6 := (s4.trans s45).trans s56
      subst ew
      refine ⟨_, rfl, _, _, _, _, rfl, rfl, SqL.of (s6 _ _ hW), at_of (j := 1) rfl rfl, ?_⟩
      refine ⟨_, rfl, _, _, _, _, rfl, rfl, SqL.of (s6 _ _ hW), at_of (j := 2) rfl rfl, ?_⟩
      refine ⟨_, _, rfl, e1, e2, ?_⟩
      refine ⟨_, rfl, _, rfl, _, rfl, by show 5 ≤ sizeLine; decide, fun h hh => ?_⟩
      have s7 : Same H6 (upd H6 h (.tup [.str x.name, .int x.side, .ref tk, .bl x.gives, .ref th])) := (Same.refl H6).upd hh
      exact kk h _ (s6.free hh) ⟨tk, th, upd_same, tkF.same s7, thF.same s7⟩ (s6.trans s7)
    · rw [if_neg (by rw [c]; exact Bool.false_ne_true)] at e5
      refine ⟨_, rfl, ?_⟩
      refine ⟨_, rfl, _, rfl, _, _, rfl, rfl, _, rfl, W, _, rfl, SqL.of (s4 _ _ hW), fun p5 hp5 => ?_⟩
      have e7 : cutV (ws.map V.str) (some ((takesEnd ws : Int) + 1)) none = x.throws.map V.str := by
        have := cut_frm ws (takesEnd ws + 1)
        rw [ed, e5] at this
        rw [← this]
        rfl
      rw [e7]
      have s45 : Same H4 (upd H4 p5 (.lst (x.throws.map V.str))) := (Same.refl H4).upd hp5
      have t5 : (upd H4 p5 (.lst (x.throws.map V.str))) p5 = some (.lst (x.throws.map V.str)) := upd_same
      generalize (upd H4 p5 (.lst (x.throws.map V.str))) = H5 at s45 t5 ⊢
      refine ⟨p5, _, rfl, SqL.of t5, fun th ob2 hth hob2 => ?_⟩
      have s56 : Same H5 (upd H5 th (.frz ob2 (.tup (x.throws.map V.str)))) := (Same.refl H5).upd hth
      have thF : TupF (upd H5 th (.frz ob2 (.tup (x.throws.map V.str)))) th (x.throws.map V.str) := ⟨ob2, hob2, upd_same⟩
      show gName 5 (.ref th) _ (upd H5 th (.frz ob2 (.tup (x.throws.map V.str)))) _
      generalize (upd H5 th (.frz ob2 (.tup (x.throws.map V.str)))) = H6 at s56 thF ⊢
      have tkF := (tkF.same s45).same s56
      have s6 := (s4.trans s45).trans s56
      subst ew
      refine ⟨_, rfl, _, _, _, _, rfl, rfl, SqL.of (s6 _ _ hW), at_of (j := 1) rfl rfl, ?_⟩
      refine ⟨_, rfl, _, _, _, _, rfl, rfl, SqL.of (s6 _ _ hW), at_of (j := 2) rfl rfl, ?_⟩
      refine ⟨_, _, rfl, e1, e2, ?_⟩
      refine ⟨_, rfl, _, rfl, _, rfl, by show 5 ≤ sizeLine; decide, fun h hh => ?_⟩
      have s7 : Same H6 (upd H6 h (.tup [.str x.name, .int x.side, .ref tk, .bl x.gives, .ref th])) := (Same.refl H6).upd hh
      exact kk h _ (s6.free hh) ⟨tk, th, upd_same, tkF.same s7, thF.same s7⟩ (s6.trans s7)

open My (Hr pgLines pgWords readW rowsWords)
/-! ### the text read -/
def chOk (s : Str) : Prop := ∀ d, d ∈ s.cps.toList → d < 1114112
theorem strOk_of {s : Str} (h : chOk s) : PyData.strOk s = true := by
  unfold PyData.strOk
  rw [← Array.all_toList]
  exact List.all_eq_true.mpr fun c hc => decide_eq_true (h c hc)
theorem line_in {page line : Str} (h : line ∈ pgLines page) : line.length ≤ page.length ∧ ∀ d, d ∈ line.cps.toList → d ∈ page.cps.toList := by
  unfold pgLines at h
  split at h
  · cases h
  · exact ⟨My.cut_len (by decide) h, (My.cut_mem (by decide) h).2⟩
theorem lines_many (page : Str) : (pgLines page).length ≤ page.length + 1 := by
  unfold pgLines
  split
  · simp
  · exact My.cut_many (by decide) page
theorem words_in {page : Str} {ws : List Str} (h : ws ∈ pgWords page) : ws ≠ [] ∧ ws.length ≤ page.length + 1 ∧ ∀ w, w ∈ ws → w.length ≤ page.length ∧ ∀ d, d ∈ w.cps.toList → d ∈ page.cps.toList := by
  unfold pgWords at h
  obtain ⟨line, hl, rfl⟩ := List.mem_map.mp h
  have l1 := line_in hl
  have l2 := My.cut_many (c := 32) (by decide) line
  refine ⟨My.cut_ne (by decide) line, by omega, fun w hw => ⟨?_, fun d hd => l1.2 d ((My.cut_mem (by decide) hw).2 d hd)⟩⟩
  have := My.cut_len (by decide) hw
  omega
theorem words_many (page : Str) : (pgWords page).length ≤ page.length + 1 := by
  unfold pgWords
  rw [List.length_map]
  exact lines_many page
theorem drawn_of {page : Str} {ps : List My.Pr} {hs : List Hr} (h : readW (pgWords page) = some (ps, hs)) (hl : page.length ≤ 9998) (hc : chOk page) : Drawn ps hs := by
  have e := (My.read_words _ rfl h).1
  have m := words_many page
  rw [e] at m
  unfold rowsWords at m
  rw [List.length_append, List.length_map, List.length_map] at m
  have inW : ∀ ws, ws ∈ rowsWords ps hs → ws.length ≤ 9999 ∧ ∀ w, w ∈ ws → WOk w := fun ws hw => by
    rw [← e] at hw
    obtain ⟨_, h2, h3⟩ := words_in hw
    exact ⟨by omega, fun w hw' => ⟨by have := (h3 w hw').1; omega, strOk_of fun d hd => hc d ((h3 w hw').2 d hd)⟩⟩
  refine ⟨by omega, fun q hq => ?_, by omega, fun x hx => ?_⟩
  · have := (inW (My.pairWords q) (List.mem_append.mpr (.inl (List.mem_map.mpr ⟨q, hq, rfl⟩)))).2
    exact ⟨this _ (by simp [My.pairWords]), this _ (by simp [My.pairWords])⟩
  · obtain ⟨h1, h2⟩ := inW (My.helpWords x) (List.mem_append.mpr (.inr (List.mem_map.mpr ⟨x, hx, rfl⟩)))
    have hlen : x.takes.length + x.throws.length ≤ 9999 := by
      unfold My.helpWords My.throwsW at h1
      by_cases e : x.throws = []
      · rw [e]
        simp only [List.length_cons, List.length_append] at h1
        simp only [List.length_nil]
        omega
      · rw [if_neg e] at h1
        simp only [List.length_cons, List.length_append] at h1
        omega
    refine ⟨h2 _ (by simp [My.helpWords]), by omega, fun t ht => h2 t (by simp [My.helpWords, ht]), by omega, fun t ht => h2 t ?_⟩
    have : x.throws ≠ [] := fun q => by rw [q] at ht; cases ht
    simp [My.helpWords, My.throwsW, this, ht]
theorem pairs_noHelp {ws : List Str} {q : My.Pr} (h : My.pairOf ws = some q) : My.helpOf ws = none := by
  obtain ⟨e, hm⟩ := My.words_pairOf h
  cases hh : My.helpOf ws with
  | none => rfl
  | some x =>
    have e2 := (My.words_helpOf hh).1
    rw [e] at e2
    have k : ("word" : Str) ≠ "helper" := by decide +kernel
    injection e2 with e3 _
    exact absurd e3 k
theorem ok_NoText_init (T : Txt K mg a) : FnOk P w K mg base CX0 1 a.f_NoText_init a.d_NoText_init ["self", "at"] (sp_at a.c_NoText) := by
  refine T.F_NoText_init.ok sc_NoText_init (fun vs H Q E h => ?_) (fun cdv A outer s H vs Q E hr h => ?_)
  · obtain ⟨e, n, rfl, _⟩ := h
    rfl
  · obtain ⟨e, n, rfl, he, hn, kk⟩ := h
    refine ⟨_, (pss_cons (ps_expr (pe_midInit T.md_PactError (by rfl) T.g_PactError (pa_cons (pv 0) (pa_cons (pe_joined (.cons pe_str (.cons (pe_fmt (pv 1)) .nil))) pa_nil))))
      (pss_one (ps_ost (pv 0) (pv 1) rfl))), ?_⟩
    refine ⟨_, rfl, _, rfl, by rw [sizeLine_eq]; decide +kernel, ?_⟩
    refine ⟨_, rfl, .inr ⟨n, rfl, nat_log hn, ?_⟩⟩
    have tl := PyProof.Rows.int_text_len_1921 (nat_log hn)
    refine ⟨_, rfl, num_small (by omega) (by decide +kernel : _ = 28) (by decide), ?_⟩
    refine ⟨e, a.c_NoText, _, rfl, by show 1 ≤ 1000; decide, T.x_NoText, he, ?_⟩
    refine ⟨_, rfl, _, rfl, e, a.c_NoText, rfl, T.x_NoText, T.n_NoText_at, .inl ⟨he, fun d hd nd => ?_⟩⟩
    refine kk d _ hd nd upd_same ?_ ?_
    · rw [upd_ne nd, upd_same]
    · exact ((Keeps.refl [e] H).upd (.inr hd)).upd (.inl (by simp))

open My (Hr readW rowsWords)
theorem outP_from {CN : Addr} {R R' : List Addr} {n : Nat} {H H1 : Hp} {E : XK} (k : ∀ (H2 : Hp), Keeps R' H1 H2 → Keeps R H H2) (h : OutP CN R n H E) : OutP CN R' n H1 E := fun d H' kp e => h d H' (k H' kp) e
/-- the lists as they stand after i lines -/
structure RdAt (H H1 : Hp) (PA HA : Addr) (page : Str) (i : Nat) (as has : List Addr) (ps : List My.Pr) (hs : List Hr) : Prop where
  rd : readW ((My.pgWords page).take i) = some (ps, hs)
  lp : H1 PA = some (.lst (as.map V.ref))
  ob : Objs H1 as prO ps
  lh : H1 HA = some (.lst (has.map V.ref))
  cr : Crew H1 has hs
  nn : PA ≠ HA
  mp : ps.length ≤ i
  mh : hs.length ≤ i
  s : Same H H1
theorem RdAt.same {H H1 H2 : Hp} {PA HA : Addr} {page : Str} {i : Nat} {as has : List Addr} {ps : List My.Pr} {hs : List Hr} (r : RdAt H H1 PA HA page i as has ps hs) (s : Same H1 H2) : RdAt H H2 PA HA page i as has ps hs :=
  ⟨r.rd, s _ _ r.lp, r.ob.same s, s _ _ r.lh, Crew.same r.cr s, r.nn, r.mp, r.mh, r.s.trans s⟩
theorem lines_by {page : Str} {tc : TT} {ta tb : TE} {σ : L2.St} {H0 : Hp} {Q : VK} (h1 : ∀ QQ : Bool → Hp → Prop, QQ (!decide (page = "")) H0 → tc σ H0 QQ)
    (h2 : ∀ QV : VK, (∀ p, H0 p = none → QV (.ref p) (upd H0 p (.lst ((My.cut 10 page).map V.str)))) → ta σ H0 QV) (h3 : ∀ QV : VK, (∀ p, H0 p = none → QV (.ref p) (upd H0 p (.lst []))) → tb σ H0 QV)
    (main : ∀ (LA : Addr) (H1 : Hp), H0 LA = none → Same H0 H1 → H1 LA = some (.lst ((My.pgLines page).map V.str)) → Q (.ref LA) H1) : tIf tc ta tb σ H0 Q := by
  refine h1 _ ?_
  by_cases e : page = ""
  · rw [decide_eq_true e]
    refine h3 _ fun p hp => main p _ hp ((Same.refl H0).upd hp) ?_
    rw [upd_same]
    unfold My.pgLines
    rw [if_pos e]
    rfl
  · rw [decide_eq_false e]
    refine h2 _ fun p hp => main p _ hp ((Same.refl H0).upd hp) ?_
    rw [upd_same]
    unfold My.pgLines
    rw [if_neg e]
theorem brk_eq : ("\n" : Str) = ⟨#[10]⟩ := by decide +kernel
theorem blank_eq : (" " : Str) = ⟨#[32]⟩ := by decide +kernel
theorem str_truth (page : Str) : (!decide (page = "")) = ((page.length : Int) != 0) := by
  by_cases e : page = ""
  · subst e; decide +kernel
  · have : page.length ≠ 0 := fun h => e (TL.ext_tl (by
      have h2 : page.cps.toList = [] := List.length_eq_zero_iff.mp (by rw [Array.length_toList]; exact h)
      show page.cps.toList = _
      rw [h2]
      decide +kernel))
    rw [decide_eq_false e]
    symm
    simp
    omega
theorem RdAt.pair {H H1 : Hp} {PA HA z : Addr} {page : Str} {i : Nat} {as has : List Addr} {ps : List My.Pr} {hs : List Hr} {q : My.Pr} (r : RdAt H H1 PA HA page i as has ps hs) (hPA : H PA = none) (hz : H1 z = some (prO q))
    (st : readW ((My.pgWords page).take (i + 1)) = some (ps ++ [q], hs)) : RdAt H (upd H1 PA (.lst (as.map V.ref ++ [.ref z]))) PA HA page (i + 1) (as ++ [z]) has (ps ++ [q]) hs := by
  have k : Keeps [PA] H1 (upd H1 PA (.lst (as.map V.ref ++ [.ref z]))) := (Keeps.refl [PA] H1).upd (.inl (by simp))
  have nt := NoTup.lst r.lp
  have m1 := r.mp
  have m2 := r.mh
  refine ⟨st, by rw [upd_same, List.map_append]; rfl, (r.ob.snoc hz).keepN k nt, by rw [upd_ne r.nn.symm]; exact r.lh, Crew.keep r.cr k nt, r.nn, by rw [List.length_append, List.length_singleton]; omega, by omega, r.s.upd hPA⟩
theorem RdAt.help {H H1 : Hp} {PA HA z : Addr} {page : Str} {i : Nat} {as has : List Addr} {ps : List My.Pr} {hs : List Hr} {x : Hr} (r : RdAt H H1 PA HA page i as has ps hs) (hHA : H HA = none) (hz : HrAt H1 z x)
    (st : readW ((My.pgWords page).take (i + 1)) = some (ps, hs ++ [x])) : RdAt H (upd H1 HA (.lst (has.map V.ref ++ [.ref z]))) PA HA page (i + 1) as (has ++ [z]) ps (hs ++ [x]) := by
  have k : Keeps [HA] H1 (upd H1 HA (.lst (has.map V.ref ++ [.ref z]))) := (Keeps.refl [HA] H1).upd (.inl (by simp))
  have nt := NoTup.lst r.lh
  have m1 := r.mp
  have m2 := r.mh
  refine ⟨st, by rw [upd_ne r.nn]; exact r.lp, r.ob.keepN k nt, by rw [upd_same, List.map_append]; rfl, Crew.keep (AllAt.snoc r.cr hz) k nt, r.nn, by omega, by rw [List.length_append, List.length_singleton]; omega, r.s.upd hHA⟩
def sp_read (C CN CT : Addr) : Sp := fun vs H Q E => ∃ page : Str, vs = [.str page] ∧ page.length ≤ 9998 ∧ chOk page ∧
  (∀ n, My.BadAt (My.pgWords page) n → n < (My.pgWords page).length → OutP CT [] n H E) ∧
  ∀ ps hs, readW (My.pgWords page) = some (ps, hs) → (∀ m, Bad ps hs m → OutP CN [] m H E) ∧
    (Good ps hs → ∀ (p pl hl : Addr) (as has : List Addr) (H' : Hp), H p = none → H pl = none → H hl = none → PactsAt C H' p pl hl as ps → CrewAt H' hl has hs → Same H H' → Q (.ref p) H')
theorem ok_read_pacts (T : Txt K mg a) : FnOk P w K mg base (L2.CX P w) 6 a.f_read_pacts a.d_read_pacts ["text"] (sp_read a.c_Pacts a.c_NoPact a.c_NoText) := by
  refine T.F_read_pacts.okX sc_read_pacts (fun vs H Q E h => ?_) (fun cdv A outer s H vs Q E hr h => ?_)
  · obtain ⟨page, rfl, _⟩ := h
    rfl
  · obtain ⟨page, rfl, hl, hch, ek, gk⟩ := h
    have zl := sizeLine_eq
    refine ⟨_, (pss_cons (ps_set (i := 1) sc_read_pacts.nd rfl (Or.inl rfl) (pe_lst pa_nil))
      (pss_cons (ps_set (i := 2) sc_read_pacts.nd rfl (Or.inl rfl) (pe_lst pa_nil))
      (pss_cons (ps_set (i := 3) sc_read_pacts.nd rfl (Or.inl rfl) (pe_ifExp (pt_truth (pv 0) (by intro _; rfl)) (pe_split (pv 0) pe_str) (pe_lst pa_nil)))
      (pss_cons (ps_for (passes_of rfl) rfl (pi_enum (by rfl) T.z_enumerate (pa_cons (pv 3) pa_nil)) (pg_tup rfl (pgs_cons (pg_name (i := 4) sc_read_pacts.nd rfl (Or.inl rfl)) (pgs_cons (pg_name (i := 5) sc_read_pacts.nd rfl (Or.inl rfl)) pgs_nil))) (pss_cons (ps_set (i := 6) sc_read_pacts.nd rfl (Or.inl rfl) (pe_split (pv 5) pe_str))
      (pss_one (ps_if (PW.pt (pw_and (pt_val (pe_call (ok_p_has_pair_form T) (hr.mono (by decide)) rfl T.g_p_has_pair_form T.k_p_has_pair_form T.B_p_has_pair_form .nil pass0 (pa_cons (pv 6) pa_nil))) (pw_and1 (pt_not (pt_truth (pv 2) (by intro _; rfl)))))) (pss_one (ps_expr (pe_bm PySem.F.plainAttrs_list PySem.F.slot_list_append PySem.F.type_list_append mt_append (pv 1) (pa_cons (pe_tup (pa_cons (pe_ix ix_list (pv 6) pe_int (fun _ _ => rfl)) (pa_cons (pe_ix ix_list (pv 6) pe_int (fun _ _ => rfl)) (pa_cons (pe_cmpR op_eq (pe_callB call_len_seq (by rfl) T.z_len (by decide +kernel) (pa_cons (pv 6) pa_nil)) pe_int (nomark _)) pa_nil)))) pa_nil)))) (pss_one (ps_if (pt_val (pe_call (ok_p_has_helper_form T) (hr.mono (by decide)) rfl T.g_p_has_helper_form T.k_p_has_helper_form T.B_p_has_helper_form .nil pass0 (pa_cons (pv 6) pa_nil))) (pss_one (ps_expr (pe_bm PySem.F.plainAttrs_list PySem.F.slot_list_append PySem.F.type_list_append mt_append (pv 2) (pa_cons (pe_call (ok_p_read_helper T) (hr.mono (by decide)) rfl T.g_p_read_helper T.k_p_read_helper T.B_p_read_helper .nil pass0 (pa_cons (pv 6) pa_nil)) pa_nil)))) (pss_one (ps_raise rfl (W := fun cls d _ H => E cls d H) (takes_of rfl rfl rfl rfl) (pmk_oex T.x_NoText T.xi_NoText T.xt_NoText (ok_NoText_init T) (hr.mono (by decide)) T.B_NoText_init .nil pass0 (by rfl) T.g_NoText (pa_cons (pv 4) pa_nil))))))))))
      (pss_one (ps_ret (pe_make T.mk_Pacts (ok_Pacts_initX T) (hr.mono (by decide)) rfl T.g_Pacts T.B_Pacts_init .nil (passes_call (W := fun cls d _ H => E cls d H) (takes_of rfl rfl rfl rfl) (fun _ _ _ _ z => z)) (pa_cons (pv 1) (pa_cons (pv 2) pa_nil))))))))), ?_⟩
    refine ⟨by show 0 ≤ sizeLine; decide, fun PA hPA => ?_⟩
    refine ⟨by show 0 ≤ sizeLine; decide, fun HA hHA => ?_⟩
    have nn : PA ≠ HA := ne_of_none upd_same hHA
    have hHA0 : H HA = none := (upd_ne nn.symm).symm.trans hHA
    have s0 : Same H (upd (upd H PA (.lst [])) HA (.lst [])) := ((Same.refl H).upd hPA).upd hHA0
    have p0 : (upd (upd H PA (.lst [])) HA (.lst [])) PA = some (.lst []) := by rw [upd_ne nn]; exact upd_same
    have h0 : (upd (upd H PA (.lst [])) HA (.lst [])) HA = some (.lst []) := upd_same
    show gName 2 (.ref HA) _ (upd (upd H PA (.lst [])) HA (.lst [])) _
    generalize (upd (upd H PA (.lst [])) HA (.lst [])) = H0 at s0 p0 h0 ⊢
    -- the lines
    dsimp only [gName, tSeq, tAsg]
    with_reducible refine lines_by (page := page) ?_ ?_ ?_ ?_
    · exact fun QQ q => ⟨_, rfl, _, ⟨by omega, rfl⟩, by rw [← str_truth]; exact q⟩
    · exact fun QV q => ⟨_, rfl, ⟨_, rfl⟩, page, "\n", rfl, rfl, by decide +kernel, by omega, fun p hp => by rw [brk_eq]; exact q p hp⟩
    · exact fun QV q => ⟨by show 0 ≤ sizeLine; decide, q⟩
    intro LA H1 hLA0 s1 hLA
    have nPL : LA ≠ PA := (ne_of_none p0 hLA0).symm
    have nHL : LA ≠ HA := (ne_of_none h0 hLA0).symm
    refine ⟨_, rfl, LA, _, rfl, SqL.of hLA, ?_⟩
    refine for_it (walk_enum (K := K) (a := LA) (xs := (My.pgLines page).map V.str)) (fun i σ H2 => Blk (∃ v4 v5 v6, σ = [some (.str page), some (.ref PA), some (.ref HA), some (.ref LA), v4, v5, v6] ∧ H2 LA = some (.lst ((My.pgLines page).map V.str)) ∧ ∃ as has ps hs, RdAt H H2 PA HA page i as has ps hs)) ?_ ?_ ?_ ?_
    · exact Blk.of ⟨_, _, _, rfl, hLA, [], [], [], [], rfl, s1 _ _ p0, Objs.nil, s1 _ _ h0, AllAt.nil, nn, by simp, by simp, s0.trans s1⟩
    · intro i σ H2 _ hB
      obtain ⟨v4, v5, v6, _, hLA2, _⟩ := hB.out
      exact SqL.of hLA2
    · intro i y σ H2 H3 hi hB hy
      obtain ⟨v4, v5, v6, rfl, hLA2, as, has, ps, hs, rd⟩ := hB.out
      obtain ⟨Tt, u, v, rfl, hT, rfl, hu, hv⟩ := hy
      obtain rfl := Option.some.inj hu
      obtain ⟨line, hline, rfl⟩ := strs_get hv
      have hil := get_lt hline
      have hm := lines_many page
      have hws : (My.pgWords page)[i]? = some (My.cut 32 line) := by unfold My.pgWords; rw [List.getElem?_map, hline]; rfl
      have win := words_in (List.mem_of_getElem? hws)
      have hstep := My.readW_take hws
      rw [rd.rd] at hstep
      have lin := line_in (List.mem_of_getElem? hline)
      have sT : Same H2 (upd H2 Tt (.tup [.int (i : Nat), .str line])) := (Same.refl H2).upd hT
      have hT2 : (upd H2 Tt (.tup [.int (i : Nat), .str line])) Tt = some (.tup [.int (i : Nat), .str line]) := upd_same
      show _
      generalize (upd H2 Tt (.tup [.int (i : Nat), .str line])) = H3 at sT hT2 ⊢
      have rd3 := rd.same sT
      have hLA3 := sT _ _ hLA2
      refine ⟨Tt, _, rfl, SqT.of hT2, rfl, _, _, rfl, _, _, rfl, rfl, ?_⟩
      refine ⟨_, rfl, ⟨_, rfl⟩, line, " ", rfl, rfl, by decide +kernel, by omega, fun W hW => ?_⟩
      rw [blank_eq]
      have hws2 : (upd H3 W (.lst ((My.cut 32 line).map V.str))) W = some (.lst ((My.cut 32 line).map V.str)) := upd_same
      have sW : Same H3 (upd H3 W (.lst ((My.cut 32 line).map V.str))) := (Same.refl H3).upd hW
      show gName 6 (.ref W) _ (upd H3 W (.lst ((My.cut 32 line).map V.str))) _
      generalize (upd H3 W (.lst ((My.cut 32 line).map V.str))) = H4 at hws2 sW ⊢
      have rd4 := rd3.same sW
      have hLA4 := sW _ _ hLA3
      generalize My.cut 32 line = ws at hws win hstep hws2
      have bad : My.stepR (some (ps, hs)) ws = none → OutP a.c_NoText [] i H4 E := fun e => by
        refine outP_from (R := []) (H := H) (fun H5 k => Keeps.trans (fun c o z _ => rd4.s c o z) k) (ek i ⟨by rw [rd.rd]; simp, by rw [hstep]; exact e⟩ (get_lt hws))
      have crl := AllAt.len rd4.cr
      have pol := rd4.ob.len
      have m1 := rd4.mp
      have m2 := rd4.mh
      refine ⟨_, rfl, W, ws, rfl, hws2, win.1, by omega, ?_⟩
      cases hp : My.pairOf ws with
      | some q =>
        refine ⟨_, rfl, ?_⟩
        refine iteT ?_
        refine ⟨_, rfl, _, .inl ⟨_, SqL.of rd4.lh, rfl⟩, ?_⟩
        cases has with
        | nil =>
          obtain rfl : hs = [] := List.length_eq_zero_iff.mp crl.symm
          refine iteT ?_
          obtain ⟨ew, _⟩ := My.words_pairOf hp
          subst ew
          refine ⟨_, rfl, .inl ⟨rfl, _, SqL.of rd4.lp⟩, ?_⟩
          refine ⟨_, rfl, _, _, _, _, rfl, rfl, SqL.of hws2, at_of (j := 1) rfl rfl, ?_⟩
          refine ⟨_, rfl, _, _, _, _, rfl, rfl, SqL.of hws2, at_of (j := 2) rfl rfl, ?_⟩
          refine ⟨_, rfl, _, _, rfl, .inl (SqL.of hws2), rfl, ?_⟩
          refine ⟨by show 3 ≤ sizeLine; decide, fun z hz => ?_⟩
          have eb : decide (V.int (((My.pairWords q).map V.str).length : Int) = V.int 4) = q.2.2 := by
            obtain ⟨q1, q2, q3⟩ := q
            cases q3 <;> rfl
          rw [eb]
          have sz : Same H4 (upd H4 z (.tup [.str q.1, .str q.2.1, .bl q.2.2])) := (Same.refl H4).upd hz
          have hz2 : (upd H4 z (.tup [.str q.1, .str q.2.1, .bl q.2.2])) z = some (prO q) := upd_same
          generalize (upd H4 z (.tup [.str q.1, .str q.2.1, .bl q.2.2])) = H5 at sz hz2 ⊢
          have rd5 := rd4.same sz
          have st : readW ((My.pgWords page).take (i + 1)) = some (ps ++ [q], []) := by
            rw [hstep]
            unfold My.stepR
            simp only [hp]
          refine ⟨PA, _, _, rfl, rfl, rd5.lp, by rw [List.length_map]; exact small (by omega), ?_⟩
          exact Blk.of ⟨_, _, _, rfl, by rw [upd_ne nPL]; exact sz _ _ hLA4, as ++ [z], [], ps ++ [q], [], rd5.pair hPA hz2 st⟩
        | cons h1 has =>
          obtain ⟨x1, hs, rfl⟩ : ∃ x r, hs = x :: r := by
            cases hs with
            | nil => exact absurd crl (by simp)
            | cons x r => exact ⟨x, r, rfl⟩
          refine iteF ?_
          refine ⟨_, rfl, W, ws, rfl, hws2, win.1, by omega, fun H5 s5 => ?_⟩
          rw [pairs_noHelp hp]
          refine ⟨_, rfl, ?_⟩
          refine iteF ?_
          refine ⟨_, rfl, by show 1 ≤ 1000; decide, mk_num (R := []) rfl (fun c o z _ => s5 c o z) (by omega) (bad ?_)⟩
          unfold My.stepR
          simp only [hp, pairs_noHelp hp]
          rfl
      | none =>
        refine ⟨_, rfl, ?_⟩
        refine iteF ?_
        refine ⟨_, rfl, W, ws, rfl, hws2, win.1, by omega, fun H5 s5 => ?_⟩
        cases hh : My.helpOf ws with
        | none =>
          refine ⟨_, rfl, ?_⟩
          refine iteF ?_
          refine ⟨_, rfl, by show 1 ≤ 1000; decide, mk_num (R := []) rfl (fun c o z _ => s5 c o z) (by omega) (bad ?_)⟩
          unfold My.stepR
          simp only [hp, hh]
          rfl
        | some x =>
          refine ⟨_, rfl, ?_⟩
          refine iteT ?_
          have rd5 := rd4.same s5
          have hso : ∀ w, w ∈ ws → PyData.strOk w = true := fun w hw => strOk_of fun d hd => hch d ((win.2.2 w hw).2 d hd)
          refine ⟨_, rfl, .inl ⟨rfl, _, SqL.of rd5.lh⟩, ?_⟩
          refine ⟨_, rfl, W, ws, x, rfl, s5 _ _ hws2, by omega, hso, hh, fun h H6 hh6 hx6 s6 => ?_⟩
          have rd6 := rd5.same s6
          have st : readW ((My.pgWords page).take (i + 1)) = some (ps, hs ++ [x]) := by
            rw [hstep]
            unfold My.stepR
            simp only [hp, hh]
            rfl
          refine ⟨HA, _, _, rfl, rfl, rd6.lh, by rw [List.length_map]; exact small (by omega), ?_⟩
          exact Blk.of ⟨_, _, _, rfl, by rw [upd_ne nHL]; exact s6 _ _ (s5 _ _ hLA4), as, has ++ [h], ps, hs ++ [x], rd6.help hHA0 hx6 st⟩
    · intro σ H2 hB
      obtain ⟨v4, v5, v6, rfl, hLA2, as, has, ps, hs, rd⟩ := hB.out
      have hall : readW (My.pgWords page) = some (ps, hs) := by
        have := rd.rd
        have hl2 : ((My.pgLines page).map V.str).length = (My.pgWords page).length := by unfold My.pgWords; rw [List.length_map, List.length_map]
        rw [hl2, List.take_length] at this
        exact this
      have dr := drawn_of hall hl hch
      obtain ⟨gb, gg⟩ := gk ps hs hall
      refine ⟨_, rfl, _, rfl, fun p dx np ndx nex => ?_⟩
      have s3 : Same H2 (upd (upd H2 dx (.own p)) p (.ins a.c_Pacts dx [])) := ((Same.refl H2).upd ndx).upd np
      have hp3 : (upd (upd H2 dx (.own p)) p (.ins a.c_Pacts dx [])) p = some (.ins a.c_Pacts dx []) := upd_same
      have np0 := rd.s.free np
      have fr3 : ∀ {x : Addr}, (upd (upd H2 dx (.own p)) p (.ins a.c_Pacts dx [])) x = none → H x = none := fun {x} e => (rd.s.trans s3).free e
      show _
      generalize (upd (upd H2 dx (.own p)) p (.ins a.c_Pacts dx [])) = H3 at s3 hp3 fr3 ⊢
      have rd3 := rd.same s3
      refine ⟨p, dx, PA, HA, as, has, ps, hs, rfl, hp3, rd3.lp, rd3.lh, rd3.ob, rd3.cr, dr, fun good pl hl' H4 hpl hhl pa cr kp => ⟨rfl, ?_⟩, fun m bad => outP_from (fun H5 k => fun c o e _ => k c o (rd3.s c o e) (by simp [ne_of_none e np0])) (gb m bad)⟩
      refine gg good p pl hl' as has H4 np0 (fr3 hpl) (fr3 hhl) pa cr fun c o e => kp c o (rd3.s c o e) (by simp [ne_of_none e np0])

open My (Hr readW rowsWords)
abbrev rAS : R2 := fun x y H Q => ∃ i j, x = .str i ∧ y = .str j ∧ i.length + j.length ≤ sizeLine ∧ Q (.str (i ++ j)) H
abbrev rI1 : List V → Hp → VK → Prop := fun xs H Q => (∃ i, xs = [.int i] ∧ Q (.int i) H) ∨ ∃ k, xs = [.bl k] ∧ Q (.int (if k then 1 else 0)) H
/-! ### the law's own reading -/
def sp_pair_read : Sp := fun vs H Q _ => ∃ (W : Addr) (r : List Str), vs = [.ref W] ∧ H W = some (.lst ((("word" : Str) :: r).map V.str)) ∧ ("" : Str) ∉ (("word" : Str) :: r) ∧ (∀ (q : My.Pr) (z : Addr) (H' : Hp), My.pairOf ("word" :: r) = some q → H z = none → H' z = some (prO q) → Same H H' → Q (.ref z) H') ∧ (My.pairOf ("word" :: r) = none → Q .non H)
theorem ok_pair_read (T : Txt K mg a) : FnOk P w K mg base CX0 1 a.f_pair_read a.d_pair_read ["_law_words"] sp_pair_read := by
  refine T.F_pair_read.ok sc_pair_read (fun vs H Q E h => ?_) (fun cdv A outer s H vs Q E hr h => ?_)
  · obtain ⟨W, r, rfl, _⟩ := h
    rfl
  · obtain ⟨W, r, rfl, hW, hm, k1, k2⟩ := h
    refine ⟨_, (pss_cons (ps_if (pt_cmpR op_eq (pe_callB call_len_seq (by rfl) T.z_len (by decide +kernel) (pa_cons (pv 0) pa_nil)) pe_int (nomark _)) (pss_one (ps_ret (pe_tup (pa_cons (pe_ix ix_list (pv 0) pe_int (fun _ _ => rfl)) (pa_cons (pe_ix ix_list (pv 0) pe_int (fun _ _ => rfl)) (pa_cons pe_bl pa_nil)))))) pss_nil)
      (pss_cons (ps_if (PW.pt (pw_and (pt_cmpR op_eq (pe_callB call_len_seq (by rfl) T.z_len (by decide +kernel) (pa_cons (pv 0) pa_nil)) pe_int (nomark _)) (pw_and1 (pt_cmpR op_eq (pe_ix ix_list (pv 0) pe_int (fun _ _ => rfl)) pe_str (nomark _))))) (pss_one (ps_ret (pe_tup (pa_cons (pe_ix ix_list (pv 0) pe_int (fun _ _ => rfl)) (pa_cons (pe_ix ix_list (pv 0) pe_int (fun _ _ => rfl)) (pa_cons pe_bl pa_nil)))))) pss_nil)
      (pss_one (ps_ret pe_non)))), ?_⟩
    refine ⟨_, rfl, _, _, rfl, .inl (SqL.of hW), rfl, ?_⟩
    refine ⟨_, rfl, ?_⟩
    refine iteL (fun hc => ?_) (fun hc => ?_)
    · rw [List.length_map] at hc
      match r, hc with
      | [b, c], _ =>
        refine ⟨_, rfl, _, _, _, _, rfl, rfl, SqL.of hW, at_of (j := 1) rfl rfl, ?_⟩
        refine ⟨_, rfl, _, _, _, _, rfl, rfl, SqL.of hW, at_of (j := 2) rfl rfl, ?_⟩
        refine ⟨by show 3 ≤ sizeLine; decide, fun z hz => k1 (b, c, false) z _ ?_ hz upd_same ((Same.refl H).upd hz)⟩
        unfold My.pairOf
        rw [if_neg hm]
        simp
    · refine ⟨_, rfl, _, _, rfl, .inl (SqL.of hW), rfl, ?_⟩
      refine ⟨_, rfl, ?_⟩
      refine iteL (fun hd => ?_) (fun hd => ?_)
      · rw [List.length_map] at hd
        match r, hd with
        | [b, c, d], _ =>
          refine ⟨_, rfl, _, _, _, _, rfl, rfl, SqL.of hW, at_of (j := 3) rfl rfl, ?_⟩
          refine ⟨rfl, ?_⟩
          refine ⟨_, rfl, ?_⟩
          refine iteS (fun e => ?_) (fun n => ?_)
          · refine ⟨_, rfl, _, _, _, _, rfl, rfl, SqL.of hW, at_of (j := 1) rfl rfl, ?_⟩
            refine ⟨_, rfl, _, _, _, _, rfl, rfl, SqL.of hW, at_of (j := 2) rfl rfl, ?_⟩
            refine ⟨by show 3 ≤ sizeLine; decide, fun z hz => k1 (b, c, true) z _ ?_ hz upd_same ((Same.refl H).upd hz)⟩
            unfold My.pairOf
            rw [if_neg hm]
            simp [e]
          · refine k2 ?_
            unfold My.pairOf
            rw [if_neg hm]
            simp [n]
      · refine k2 ?_
        rw [List.length_map] at hc hd
        unfold My.pairOf
        rw [if_neg hm]
        split
        · rename_i e
          injection e with _ e
          subst e
          exact absurd rfl hc
        · rename_i e
          injection e with _ e
          subst e
          exact absurd rfl hd
        · rfl
theorem behind_snd (d : List Str) : (My.behind d).2 = d.drop (if decide (d.take 1 = [("gives" : Str)]) = true then 1 else 0) := by
  cases d with
  | nil => rfl
  | cons a q =>
    unfold My.behind
    by_cases e : a = "gives"
    · simp [e]
    · simp [e]
def sp_helper_read : Sp := fun vs H Q _ => ∃ (W : Addr) (r : List Str), vs = [.ref W] ∧ H W = some (.lst ((("helper" : Str) :: r).map V.str)) ∧ ("" : Str) ∉ (("helper" : Str) :: r) ∧ r.length ≤ 19999 ∧ (∀ w, w ∈ ("helper" : Str) :: r → PyData.strOk w = true) ∧
  (∀ (x : Hr) (z : Addr) (H' : Hp), My.helpOf ("helper" :: r) = some x → H z = none → HrAt H' z x → Same H H' → Q (.ref z) H') ∧ ∀ H', My.helpOf ("helper" :: r) = none → Same H H' → Q .non H'
theorem ok_helper_read (T : Txt K mg a) : FnOk P w K mg base CX0 1 a.f_helper_read a.d_helper_read ["_law_words"] sp_helper_read := by
  refine T.F_helper_read.ok sc_helper_read (fun vs H Q E h => ?_) (fun cdv A outer s H vs Q E hr h => ?_)
  · obtain ⟨W, r, rfl, _⟩ := h
    rfl
  · obtain ⟨W, r0, rfl, hW, hm, hl, hso, k1, k2⟩ := h
    refine ⟨_, (pss_cons (ps_if (PW.pt (pw_or (pt_cmpR op_lt (pe_callB call_len_seq (by rfl) T.z_len (by decide +kernel) (pa_cons (pv 0) pa_nil)) pe_int (nomark _)) (pw_or1 (pt_cmpR op_notIn_seq (pe_ix ix_list (pv 0) pe_int (fun _ _ => rfl)) (pe_lst (pa_cons pe_str (pa_cons pe_str pa_nil))) (by rfl))))) (pss_one (ps_ret pe_non)) pss_nil)
      (pss_cons (ps_set (i := 1) sc_helper_read.nd rfl (Or.inl rfl) pe_int)
      (pss_cons (ps_while PassesOwn.never (PW.pt (pw_and (pt_cmpR op_lt (pv 1) (pe_callB call_len_seq (by rfl) T.z_len (by decide +kernel) (pa_cons (pv 0) pa_nil)) (nomark _)) (pw_and1 (pt_cmpR op_in_seq (pe_ix ix_list (pv 0) (pv 1) (fun _ _ => rfl)) (pe_lst (pa_cons pe_str (pa_cons pe_str pa_nil))) (by rfl))))) (pss_one (ps_set (i := 1) sc_helper_read.nd rfl (Or.inl rfl) (pe_op op_add (pv 1) pe_int))))
      (pss_cons (ps_set (i := 2) sc_helper_read.nd rfl (Or.inl rfl) (pe_callTy call_tupleF (by rfl) T.z_tuple (by decide +kernel) (pa_cons (pe_slice sl_list (pv 0) (po_some pe_int) (po_some (pv 1))) pa_nil)))
      (pss_cons (ps_set (i := 3) sc_helper_read.nd rfl (Or.inl rfl) (pe_cmpR (op_eqD hr.units) (pe_slice sl_list (pv 0) (po_some (pv 1)) (po_some (pe_op op_add (pv 1) pe_int))) (pe_lst (pa_cons pe_str pa_nil)) (nomark _)))
      (pss_cons (ps_set (i := 4) sc_helper_read.nd rfl (Or.inl rfl) (pe_slice sl_list (pv 0) (po_some (pe_op op_add (pv 1) (pe_callTy call_int1 (by rfl) T.z_int (by decide +kernel) (pa_cons (pv 3) pa_nil)))) po_none))
      (pss_cons (ps_if (PW.pt (pw_or (PW.pt (pw_and (pt_cmpR op_gt (pe_callB call_len_seq (by rfl) T.z_len (by decide +kernel) (pa_cons (pv 4) pa_nil)) pe_int (nomark _)) (pw_and1 (pt_cmpR op_ne (pe_ix ix_list (pv 4) pe_int (fun _ _ => rfl)) pe_str (nomark _))))) (pw_or1 (pt_cmpR op_eq (pe_callB call_len_seq (by rfl) T.z_len (by decide +kernel) (pa_cons (pv 4) pa_nil)) pe_int (nomark _))))) (pss_one (ps_ret pe_non)) pss_nil)
      (pss_one (ps_ret (pe_tup (pa_cons (pe_ix ix_list (pv 0) pe_int (fun _ _ => rfl)) (pa_cons (pe_callTy call_int_str (by rfl) T.z_int (by decide +kernel) (pa_cons (pe_ix ix_list (pv 0) pe_int (fun _ _ => rfl)) pa_nil)) (pa_cons (pv 2) (pa_cons (pv 3) (pa_cons (pe_callTy call_tupleF (by rfl) T.z_tuple (by decide +kernel) (pa_cons (pe_slice sl_list (pv 4) (po_some pe_int) po_none) pa_nil)) pa_nil))))))))))))))), ?_⟩
    refine ⟨_, rfl, _, _, rfl, .inl (SqL.of hW), _, _, rfl, rfl, _, rfl, iteD (fun hc => ?_) (fun hc => ?_)⟩
    · refine iteT ?_
      refine k2 H ?_ (Same.refl H)
      rw [List.length_map] at hc
      unfold My.helpOf
      rw [if_neg hm]
      split
      · rename_i e1
        rw [e1] at hc
        simp at hc
        omega
      · rfl
    · rw [List.length_map] at hc
      obtain ⟨n0, s0, r, rfl⟩ : ∃ n0 s0 r, r0 = n0 :: s0 :: r := by
        match r0, hc with
        | n0 :: s0 :: r, _ => exact ⟨n0, s0, r, rfl⟩
        | [x], h => exact absurd h (by simp)
        | [], h => exact absurd h (by simp)
      refine ⟨_, rfl, _, _, _, _, rfl, rfl, SqL.of hW, at_of (j := 2) rfl rfl, ?_⟩
      refine ⟨by show 2 ≤ sizeLine; decide, fun Tp hTp => ?_⟩
      have s1 : Same H (upd H Tp (.lst [.str "0", .str "1"])) := (Same.refl H).upd hTp
      have t1 : (upd H Tp (.lst [.str "0", .str "1"])) Tp = some (.lst [.str "0", .str "1"]) := upd_same
      show rIn _ _ _ _ (upd H Tp (.lst [.str "0", .str "1"])) _
      generalize (upd H Tp (.lst [.str "0", .str "1"])) = H1 at s1 t1 ⊢
      refine ⟨_, _, rfl, .inl (SqL.of t1), rfl, rfl, ?_⟩
      have ei : inV (.str s0) [.str "0", .str "1"] = decide (s0 ∈ (["0", "1"] : List Str)) := inV_str s0 ["0", "1"]
      rw [if_pos rfl, ei]
      refine ⟨_, rfl, ?_⟩
      refine iteB (fun c => ?_) (fun c => ?_)
      · have c : s0 ∉ (["0", "1"] : List Str) := of_decide_eq_false (of_not c)
        refine k2 _ ?_ s1
        unfold My.helpOf
        rw [if_neg hm]
        dsimp only
        rw [if_neg (fun q => c (by simpa using q.2))]
      have c : s0 ∈ (["0", "1"] : List Str) := of_decide_eq_true (of_notF c)
      have hs : s0 = "0" ∨ s0 = "1" := by simpa using c
      have hf := helpOf_form hm rfl hs
      have hpt := fun x => helpOf_parts (ws := ("helper" : Str) :: n0 :: s0 :: r) (x := x)
      obtain ⟨ws, ews⟩ : ∃ ws, ws = ("helper" : Str) :: n0 :: s0 :: r := ⟨_, rfl⟩
      have hix1 : ws[1]? = some n0 := by rw [ews]; rfl
      have hix2 : ws[2]? = some s0 := by rw [ews]; rfl
      have hwl : ws.length ≤ 20000 := by rw [ews]; simp at hl ⊢; omega
      rw [← ews] at hW hm hso k1 k2 hf hpt
      have dsame : ∀ {H2 : Hp}, Same H1 H2 → H2 W = some (.lst (ws.map V.str)) := fun s => s _ _ (s1 _ _ hW)
      refine while_by (fun σ H2 => Same H1 H2 ∧ ∃ i : Nat, i ≤ ((ws.drop 3).takeWhile My.isTake).length ∧ σ = [some (.ref W), some (.int ((3 + i : Nat) : Int)), none, none, none])
        (fun σ _ => match σ with | [_, some (.int r), _, _, _] => ((20003 : Int) - r).toNat | _ => 0) ⟨Same.refl _, 0, Nat.zero_le _, rfl⟩ ?_ ?_
      · rintro σ H2 ⟨s2, i, hi, rfl⟩
        obtain ⟨r1, r2, r3⟩ := tw_step hi
        rw [List.getElem?_drop] at r1 r2 r3
        refine ⟨_, rfl, _, rfl, _, _, rfl, .inl (SqL.of (dsame s2)), _, _, rfl, rfl, ?_⟩
        refine ⟨_, rfl, iteD (fun hc => ?_) (fun hc => ?_)⟩
        · rw [List.length_map] at hc
          obtain ⟨t, ht⟩ : ∃ t, ws[3 + i]? = some t := ⟨_, List.getElem?_eq_getElem (by omega)⟩
          refine ⟨_, rfl, _, rfl, _, _, _, _, rfl, rfl, SqL.of (dsame s2), str_ix ht, ?_⟩
          refine ⟨by show 2 ≤ sizeLine; decide, fun Lp hLp => ?_⟩
          have s3 : Same H2 (upd H2 Lp (.lst [.str "lent", .str "given"])) := (Same.refl H2).upd hLp
          have t3 : (upd H2 Lp (.lst [.str "lent", .str "given"])) Lp = some (.lst [.str "lent", .str "given"]) := upd_same
          show rIn _ _ _ _ (upd H2 Lp (.lst [.str "lent", .str "given"])) _
          generalize (upd H2 Lp (.lst [.str "lent", .str "given"])) = H3 at s3 t3 ⊢
          refine ⟨_, _, rfl, .inl (SqL.of t3), rfl, rfl, ?_⟩
          rw [if_neg Bool.false_ne_true]
          have ei : inV (.str t) [.str "lent", .str "given"] = My.isTake t := inV_str t ["lent", "given"]
          rw [ei]
          refine ⟨_, rfl, ?_⟩
          refine iteB (fun c => ?_) (fun c => ?_)
          · have i1 := r1 t ht c
            refine ⟨_, rfl, _, _, rfl, rfl, ⟨s2.trans s3, i + 1, i1, ?_⟩, ?_⟩
            · have : ((3 + i : Nat) : Int) + 1 = ((3 + (i + 1) : Nat) : Int) := by omega
              show [some (V.ref W), some (V.int (((3 + i : Nat) : Int) + 1)), none, none, none] = _
              rw [this]
            · have l1 := (List.takeWhile_sublist (l := ws.drop 3) My.isTake).length_le
              rw [List.length_drop] at l1
              show ((20003 : Int) - (((3 + i : Nat) : Int) + 1)).toNat < ((20003 : Int) - ((3 + i : Nat) : Int)).toNat
              omega
          · have i1 := r3 t ht c
            have et : 3 + i = takesEnd ws := by unfold takesEnd; omega
            rw [et]
            have hte : 3 ≤ takesEnd ws := by unfold takesEnd; omega
            refine ⟨_, rfl, _, rfl, _, rfl, _, rfl, W, _, rfl, SqL.of (dsame (s2.trans s3)), fun p1 hp1 => ?_⟩
            rw [show (3 : Int) = ((3 : Nat) : Int) from rfl, cut_mids ws 3 (takesEnd ws) hte]
            have u1 : Same H1 (upd H3 p1 (.lst (((ws.drop 3).take (takesEnd ws - 3)).map V.str))) := (s2.trans s3).trans ((Same.refl H3).upd hp1)
            have v1 : (upd H3 p1 (.lst (((ws.drop 3).take (takesEnd ws - 3)).map V.str))) p1 = some (.lst (((ws.drop 3).take (takesEnd ws - 3)).map V.str)) := upd_same
            generalize (upd H3 p1 (.lst (((ws.drop 3).take (takesEnd ws - 3)).map V.str))) = G1 at u1 v1 ⊢
            refine ⟨p1, _, rfl, SqL.of v1, fun tk ob htk hob => ?_⟩
            have u2 : Same H1 (upd G1 tk (.frz ob (.tup (((ws.drop 3).take (takesEnd ws - 3)).map V.str)))) := u1.trans ((Same.refl G1).upd htk)
            have tkF : TupF (upd G1 tk (.frz ob (.tup (((ws.drop 3).take (takesEnd ws - 3)).map V.str)))) tk (((ws.drop 3).take (takesEnd ws - 3)).map V.str) := ⟨ob, hob, upd_same⟩
            show gName 2 (.ref tk) _ (upd G1 tk (.frz ob (.tup (((ws.drop 3).take (takesEnd ws - 3)).map V.str)))) _
            generalize (upd G1 tk (.frz ob (.tup (((ws.drop 3).take (takesEnd ws - 3)).map V.str)))) = G2 at u2 tkF ⊢
            refine ⟨_, rfl, _, rfl, _, rfl, _, rfl, _, _, rfl, rfl, _, rfl, W, _, rfl, SqL.of (dsame u2), fun p3 hp3 => ?_⟩
            have e6 : cutV (ws.map V.str) (some (takesEnd ws : Int)) (some ((takesEnd ws : Int) + 1)) = ((restOf ws).take 1).map V.str := by
              have := cut_mids ws (takesEnd ws) (takesEnd ws + 1) (by omega)
              rw [Nat.add_sub_cancel_left] at this
              exact this
            rw [e6]
            have u3 : Same G2 (upd G2 p3 (.lst (((restOf ws).take 1).map V.str))) := (Same.refl G2).upd hp3
            have v3 : (upd G2 p3 (.lst (((restOf ws).take 1).map V.str))) p3 = some (.lst (((restOf ws).take 1).map V.str)) := upd_same
            generalize (upd G2 p3 (.lst (((restOf ws).take 1).map V.str))) = G3 at u3 v3 ⊢
            refine ⟨by show 1 ≤ sizeLine; decide, fun p4 hp4 => ?_⟩
            have u4 : Same G3 (upd G3 p4 (.lst [.str "gives"])) := (Same.refl G3).upd hp4
            have v4 : (upd G3 p4 (.lst [.str "gives"])) p4 = some (.lst [.str "gives"]) := upd_same
            generalize (upd G3 p4 (.lst [.str "gives"])) = G4 at u4 v4 ⊢
            have tkF := (tkF.same u3).same u4
            have w4 : Same H1 G4 := (u2.trans u3).trans u4
            have hin : ∀ t, t ∈ (restOf ws).take 1 → PyData.strOk t = true := fun t ht => hso t (List.mem_of_mem_drop (List.mem_of_mem_take ht))
            refine ⟨.list (((restOf ws).take 1).map PyData.str), .list ([("gives" : Str)].map PyData.str), .lst (SqL.of (u4 _ _ v3)) (dp_strs _), .lst (SqL.of v4) (dp_strs [("gives" : Str)]), data_strs hin, data_strs (by decide +kernel), ?_⟩
            have ev : PyData.eqv (.list (((restOf ws).take 1).map PyData.str)) (.list ([("gives" : Str)].map PyData.str)) = decide ((restOf ws).take 1 = [("gives" : Str)]) := by
              rw [PyData.eqv, all_eqv str_eqv]
            rw [ev]
            obtain ⟨g, eg⟩ : ∃ g, g = decide ((restOf ws).take 1 = [("gives" : Str)]) := ⟨_, rfl⟩
            rw [← eg]
            refine ⟨_, rfl, _, rfl, _, rfl, .inr ⟨g, rfl, ?_⟩⟩
            refine ⟨_, _, rfl, rfl, ?_⟩
            refine ⟨_, rfl, W, _, rfl, SqL.of (dsame w4), fun p5 hp5 => ?_⟩
            have ei : cutV (ws.map V.str) (some ((takesEnd ws : Int) + (if g = true then 1 else 0))) none = ((My.behind (restOf ws)).2).map V.str := by
              have h1 := cut_frm ws (takesEnd ws + (if g = true then 1 else 0))
              have h2 : ((takesEnd ws + (if g = true then 1 else 0) : Nat) : Int) = (takesEnd ws : Int) + (if g = true then 1 else 0) := by cases g <;> simp
              rw [h2] at h1
              rw [h1, behind_snd, ← eg]
              unfold restOf
              rw [List.drop_drop]
            rw [ei]
            have u5 : Same G4 (upd G4 p5 (.lst (((My.behind (restOf ws)).2).map V.str))) := (Same.refl G4).upd hp5
            have v5 : (upd G4 p5 (.lst (((My.behind (restOf ws)).2).map V.str))) p5 = some (.lst (((My.behind (restOf ws)).2).map V.str)) := upd_same
            show gName 4 (.ref p5) _ (upd G4 p5 (.lst (((My.behind (restOf ws)).2).map V.str))) _
            generalize (upd G4 p5 (.lst (((My.behind (restOf ws)).2).map V.str))) = G5 at u5 v5 ⊢
            have tkF := tkF.same u5
            have w5 : Same H1 G5 := w4.trans u5
            have hn0 : My.thrown (My.behind (restOf ws)).2 = none → Q .non G5 := fun e => k2 G5 (by
              rw [e] at hf
              cases hh : My.helpOf ws with
              | none => rfl
              | some x => rw [hh] at hf; cases hf) (s1.trans w5)
            have hs0 : ∀ th, My.thrown (My.behind (restOf ws)).2 = some th → ∃ x, My.helpOf ws = some x := fun th e => by
              rw [e] at hf
              exact Option.isSome_iff_exists.mp hf
            refine ⟨_, rfl, _, _, rfl, .inl (SqL.of v5), _, _, rfl, rfl, ?_⟩
            have hBd : (My.behind (restOf ws)).2.drop 1 = (restOf ws).drop ((if g = true then 1 else 0) + 1) := by rw [behind_snd, ← eg, List.drop_drop]
            generalize (My.behind (restOf ws)).2 = B at v5 hn0 hs0 hBd ⊢
            refine ⟨_, rfl, ?_⟩
            have fin : ∀ th, My.thrown B = some th → ∃ x, My.helpOf ws = some x ∧ n0 = x.name ∧ PySem.intText? s0 = some x.side ∧ s0.length ≤ 640 ∧ (ws.drop 3).take (takesEnd ws - 3) = x.takes ∧ g = x.gives ∧ B.drop 1 = x.throws := fun th e => by
              obtain ⟨x, hx⟩ := hs0 th e
              obtain ⟨hd, r2, sw, ew, e1, e2, e3, e4, e5⟩ := hpt x hx
              have q1 : n0 = x.name := by rw [ew] at hix1; exact (Option.some.inj hix1).symm
              have q2 : s0 = sw := by rw [ew] at hix2; exact (Option.some.inj hix2).symm
              have q3 : g = x.gives := eg.trans e4
              refine ⟨x, hx, q1, by rw [q2]; exact e1, by rw [q2]; exact e2, e3, q3, ?_⟩
              rw [hBd, q3, ← e5]
              cases x.gives <;> rfl
            cases B with
            | nil =>
              refine iteF ?_
              refine ⟨_, rfl, _, _, rfl, .inl (SqL.of v5), rfl, ?_⟩
              refine ⟨_, rfl, ?_⟩
              refine iteL (fun hc => absurd hc (by decide)) (fun _ => ?_)
              obtain ⟨x, hx, q1, q2, q3, q4, q5, q6⟩ := fin [] rfl
              refine ⟨_, rfl, _, _, _, _, rfl, rfl, SqL.of (dsame w5), (show atI _ (1 : Int) = _ from str_ix (i := 1) hix1), ?_⟩
              refine ⟨_, rfl, _, _, _, _, rfl, rfl, SqL.of (dsame w5), (show atI _ (2 : Int) = _ from str_ix (i := 2) hix2), ?_⟩
              refine ⟨_, _, rfl, q2, q3, ?_⟩
              refine ⟨_, rfl, _, rfl, _, rfl, _, rfl, p5, _, rfl, SqL.of v5, fun p6 hp6 => ?_⟩
              rw [show (1 : Int) = ((1 : Nat) : Int) from rfl, cut_frm, q6]
              have u6 : Same G5 (upd G5 p6 (.lst (x.throws.map V.str))) := (Same.refl G5).upd hp6
              have v6 : (upd G5 p6 (.lst (x.throws.map V.str))) p6 = some (.lst (x.throws.map V.str)) := upd_same
              generalize (upd G5 p6 (.lst (x.throws.map V.str))) = G6 at u6 v6 ⊢
              refine ⟨p6, _, rfl, SqL.of v6, fun th ob2 hth hob2 => ?_⟩
              have u7 : Same G6 (upd G6 th (.frz ob2 (.tup (x.throws.map V.str)))) := (Same.refl G6).upd hth
              have thF : TupF (upd G6 th (.frz ob2 (.tup (x.throws.map V.str)))) th (x.throws.map V.str) := ⟨ob2, hob2, upd_same⟩
              generalize (upd G6 th (.frz ob2 (.tup (x.throws.map V.str)))) = G7 at u7 thF ⊢
              have tkF := (tkF.same u6).same u7
              rw [q4] at tkF
              refine ⟨by show 5 ≤ sizeLine; decide, fun z hz => ?_⟩
              have w7 : Same H G7 := ((s1.trans w5).trans u6).trans u7
              have u8 : Same G7 (upd G7 z (.tup [.str n0, .int x.side, .ref tk, .bl g, .ref th])) := (Same.refl G7).upd hz
              refine k1 x z _ hx (w7.free hz) ⟨tk, th, ?_, tkF.same u8, thF.same u8⟩ (w7.trans u8)
              rw [upd_same, q1, q5]
            | cons b0 q0 =>
              refine iteD (fun _ => ?_) (fun h => absurd (by simp) h)
              refine ⟨_, rfl, _, _, _, _, rfl, rfl, SqL.of v5, at_of (j := 0) rfl rfl, ?_⟩
              refine ⟨rfl, ?_⟩
              refine ⟨_, rfl, ?_⟩
              refine iteNS (fun n => ?_) (fun e => ?_)
              · refine hn0 ?_
                cases q0 with
                | nil => rfl
                | cons y q =>
                  show (if b0 = "throws" then some (y :: q) else none) = none
                  rw [if_neg n]
              · refine ⟨_, rfl, _, _, rfl, .inl (SqL.of v5), rfl, ?_⟩
                refine ⟨_, rfl, ?_⟩
                cases q0 with
                | nil =>
                  exact iteL (fun _ => hn0 rfl) (fun hc => absurd rfl hc)
                | cons y q =>
                  refine iteL (fun hc => absurd hc (by simp; omega)) (fun hc2 => ?_)
                  obtain ⟨x, hx, q1, q2, q3, q4, q5, q6⟩ := fin (y :: q) (by show (if b0 = "throws" then some (y :: q) else none) = _; rw [if_pos e])
                  refine ⟨_, rfl, _, _, _, _, rfl, rfl, SqL.of (dsame w5), (show atI _ (1 : Int) = _ from str_ix (i := 1) hix1), ?_⟩
                  refine ⟨_, rfl, _, _, _, _, rfl, rfl, SqL.of (dsame w5), (show atI _ (2 : Int) = _ from str_ix (i := 2) hix2), ?_⟩
                  refine ⟨_, _, rfl, q2, q3, ?_⟩
                  refine ⟨_, rfl, _, rfl, _, rfl, _, rfl, p5, _, rfl, SqL.of v5, fun p6 hp6 => ?_⟩
                  rw [show (1 : Int) = ((1 : Nat) : Int) from rfl, cut_frm, q6]
                  have u6 : Same G5 (upd G5 p6 (.lst (x.throws.map V.str))) := (Same.refl G5).upd hp6
                  have v6 : (upd G5 p6 (.lst (x.throws.map V.str))) p6 = some (.lst (x.throws.map V.str)) := upd_same
                  generalize (upd G5 p6 (.lst (x.throws.map V.str))) = G6 at u6 v6 ⊢
                  refine ⟨p6, _, rfl, SqL.of v6, fun th ob2 hth hob2 => ?_⟩
                  have u7 : Same G6 (upd G6 th (.frz ob2 (.tup (x.throws.map V.str)))) := (Same.refl G6).upd hth
                  have thF : TupF (upd G6 th (.frz ob2 (.tup (x.throws.map V.str)))) th (x.throws.map V.str) := ⟨ob2, hob2, upd_same⟩
                  generalize (upd G6 th (.frz ob2 (.tup (x.throws.map V.str)))) = G7 at u7 thF ⊢
                  have tkF := (tkF.same u6).same u7
                  rw [q4] at tkF
                  refine ⟨by show 5 ≤ sizeLine; decide, fun z hz => ?_⟩
                  have w7 : Same H G7 := ((s1.trans w5).trans u6).trans u7
                  have u8 : Same G7 (upd G7 z (.tup [.str n0, .int x.side, .ref tk, .bl g, .ref th])) := (Same.refl G7).upd hz
                  refine k1 x z _ hx (w7.free hz) ⟨tk, th, ?_, tkF.same u8, thF.same u8⟩ (w7.trans u8)
                  rw [upd_same, q1, q5]
            
        · rw [List.length_map] at hc
          have hn : ws[3 + i]? = none := List.getElem?_eq_none_iff.mpr (by omega)
          have i1 := r2 hn
          have et : 3 + i = takesEnd ws := by unfold takesEnd; omega
          rw [et]
          have hte : 3 ≤ takesEnd ws := by unfold takesEnd; omega
          refine ⟨_, rfl, _, rfl, _, rfl, _, rfl, W, _, rfl, SqL.of (dsame (s2)), fun p1 hp1 => ?_⟩
          rw [show (3 : Int) = ((3 : Nat) : Int) from rfl, cut_mids ws 3 (takesEnd ws) hte]
          have u1 : Same H1 (upd H2 p1 (.lst (((ws.drop 3).take (takesEnd ws - 3)).map V.str))) := (s2).trans ((Same.refl H2).upd hp1)
          have v1 : (upd H2 p1 (.lst (((ws.drop 3).take (takesEnd ws - 3)).map V.str))) p1 = some (.lst (((ws.drop 3).take (takesEnd ws - 3)).map V.str)) := upd_same
          generalize (upd H2 p1 (.lst (((ws.drop 3).take (takesEnd ws - 3)).map V.str))) = G1 at u1 v1 ⊢
          refine ⟨p1, _, rfl, SqL.of v1, fun tk ob htk hob => ?_⟩
          have u2 : Same H1 (upd G1 tk (.frz ob (.tup (((ws.drop 3).take (takesEnd ws - 3)).map V.str)))) := u1.trans ((Same.refl G1).upd htk)
          have tkF : TupF (upd G1 tk (.frz ob (.tup (((ws.drop 3).take (takesEnd ws - 3)).map V.str)))) tk (((ws.drop 3).take (takesEnd ws - 3)).map V.str) := ⟨ob, hob, upd_same⟩
          show gName 2 (.ref tk) _ (upd G1 tk (.frz ob (.tup (((ws.drop 3).take (takesEnd ws - 3)).map V.str)))) _
          generalize (upd G1 tk (.frz ob (.tup (((ws.drop 3).take (takesEnd ws - 3)).map V.str)))) = G2 at u2 tkF ⊢
          refine ⟨_, rfl, _, rfl, _, rfl, _, rfl, _, _, rfl, rfl, _, rfl, W, _, rfl, SqL.of (dsame u2), fun p3 hp3 => ?_⟩
          have e6 : cutV (ws.map V.str) (some (takesEnd ws : Int)) (some ((takesEnd ws : Int) + 1)) = ((restOf ws).take 1).map V.str := by
            have := cut_mids ws (takesEnd ws) (takesEnd ws + 1) (by omega)
            rw [Nat.add_sub_cancel_left] at this
            exact this
          rw [e6]
          have u3 : Same G2 (upd G2 p3 (.lst (((restOf ws).take 1).map V.str))) := (Same.refl G2).upd hp3
          have v3 : (upd G2 p3 (.lst (((restOf ws).take 1).map V.str))) p3 = some (.lst (((restOf ws).take 1).map V.str)) := upd_same
          generalize (upd G2 p3 (.lst (((restOf ws).take 1).map V.str))) = G3 at u3 v3 ⊢
          refine ⟨by show 1 ≤ sizeLine; decide, fun p4 hp4 => ?_⟩
          have u4 : Same G3 (upd G3 p4 (.lst [.str "gives"])) := (Same.refl G3).upd hp4
          have v4 : (upd G3 p4 (.lst [.str "gives"])) p4 = some (.lst [.str "gives"]) := upd_same
          generalize (upd G3 p4 (.lst [.str "gives"])) = G4 at u4 v4 ⊢
          have tkF := (tkF.same u3).same u4
          have w4 : Same H1 G4 := (u2.trans u3).trans u4
          have hin : ∀ t, t ∈ (restOf ws).take 1 → PyData.strOk t = true := fun t ht => hso t (List.mem_of_mem_drop (List.mem_of_mem_take ht))
          refine ⟨.list (((restOf ws).take 1).map PyData.str), .list ([("gives" : Str)].map PyData.str), .lst (SqL.of (u4 _ _ v3)) (dp_strs _), .lst (SqL.of v4) (dp_strs [("gives" : Str)]), data_strs hin, data_strs (by decide +kernel), ?_⟩
          have ev : PyData.eqv (.list (((restOf ws).take 1).map PyData.str)) (.list ([("gives" : Str)].map PyData.str)) = decide ((restOf ws).take 1 = [("gives" : Str)]) := by
            rw [PyData.eqv, all_eqv str_eqv]
          rw [ev]
          obtain ⟨g, eg⟩ : ∃ g, g = decide ((restOf ws).take 1 = [("gives" : Str)]) := ⟨_, rfl⟩
          rw [← eg]
          refine ⟨_, rfl, _, rfl, _, rfl, .inr ⟨g, rfl, ?_⟩⟩
          refine ⟨_, _, rfl, rfl, ?_⟩
          refine ⟨_, rfl, W, _, rfl, SqL.of (dsame w4), fun p5 hp5 => ?_⟩
          have ei : cutV (ws.map V.str) (some ((takesEnd ws : Int) + (if g = true then 1 else 0))) none = ((My.behind (restOf ws)).2).map V.str := by
            have h1 := cut_frm ws (takesEnd ws + (if g = true then 1 else 0))
            have h2 : ((takesEnd ws + (if g = true then 1 else 0) : Nat) : Int) = (takesEnd ws : Int) + (if g = true then 1 else 0) := by cases g <;> simp
            rw [h2] at h1
            rw [h1, behind_snd, ← eg]
            unfold restOf
            rw [List.drop_drop]
          rw [ei]
          have u5 : Same G4 (upd G4 p5 (.lst (((My.behind (restOf ws)).2).map V.str))) := (Same.refl G4).upd hp5
          have v5 : (upd G4 p5 (.lst (((My.behind (restOf ws)).2).map V.str))) p5 = some (.lst (((My.behind (restOf ws)).2).map V.str)) := upd_same
          show gName 4 (.ref p5) _ (upd G4 p5 (.lst (((My.behind (restOf ws)).2).map V.str))) _
          generalize (upd G4 p5 (.lst (((My.behind (restOf ws)).2).map V.str))) = G5 at u5 v5 ⊢
          have tkF := tkF.same u5
          have w5 : Same H1 G5 := w4.trans u5
          have hn0 : My.thrown (My.behind (restOf ws)).2 = none → Q .non G5 := fun e => k2 G5 (by
            rw [e] at hf
            cases hh : My.helpOf ws with
            | none => rfl
            | some x => rw [hh] at hf; cases hf) (s1.trans w5)
          have hs0 : ∀ th, My.thrown (My.behind (restOf ws)).2 = some th → ∃ x, My.helpOf ws = some x := fun th e => by
            rw [e] at hf
            exact Option.isSome_iff_exists.mp hf
          refine ⟨_, rfl, _, _, rfl, .inl (SqL.of v5), _, _, rfl, rfl, ?_⟩
          have hBd : (My.behind (restOf ws)).2.drop 1 = (restOf ws).drop ((if g = true then 1 else 0) + 1) := by rw [behind_snd, ← eg, List.drop_drop]
          generalize (My.behind (restOf ws)).2 = B at v5 hn0 hs0 hBd ⊢
          refine ⟨_, rfl, ?_⟩
          have fin : ∀ th, My.thrown B = some th → ∃ x, My.helpOf ws = some x ∧ n0 = x.name ∧ PySem.intText? s0 = some x.side ∧ s0.length ≤ 640 ∧ (ws.drop 3).take (takesEnd ws - 3) = x.takes ∧ g = x.gives ∧ B.drop 1 = x.throws := fun th e => by
            obtain ⟨x, hx⟩ := hs0 th e
            obtain ⟨hd, r2, sw, ew, e1, e2, e3, e4, e5⟩ := hpt x hx
            have q1 : n0 = x.name := by rw [ew] at hix1; exact (Option.some.inj hix1).symm
            have q2 : s0 = sw := by rw [ew] at hix2; exact (Option.some.inj hix2).symm
            have q3 : g = x.gives := eg.trans e4
            refine ⟨x, hx, q1, by rw [q2]; exact e1, by rw [q2]; exact e2, e3, q3, ?_⟩
            rw [hBd, q3, ← e5]
            cases x.gives <;> rfl
          cases B with
          | nil =>
            refine iteF ?_
            refine ⟨_, rfl, _, _, rfl, .inl (SqL.of v5), rfl, ?_⟩
            refine ⟨_, rfl, ?_⟩
            refine iteL (fun hc => absurd hc (by decide)) (fun _ => ?_)
            obtain ⟨x, hx, q1, q2, q3, q4, q5, q6⟩ := fin [] rfl
            refine ⟨_, rfl, _, _, _, _, rfl, rfl, SqL.of (dsame w5), (show atI _ (1 : Int) = _ from str_ix (i := 1) hix1), ?_⟩
            refine ⟨_, rfl, _, _, _, _, rfl, rfl, SqL.of (dsame w5), (show atI _ (2 : Int) = _ from str_ix (i := 2) hix2), ?_⟩
            refine ⟨_, _, rfl, q2, q3, ?_⟩
            refine ⟨_, rfl, _, rfl, _, rfl, _, rfl, p5, _, rfl, SqL.of v5, fun p6 hp6 => ?_⟩
            rw [show (1 : Int) = ((1 : Nat) : Int) from rfl, cut_frm, q6]
            have u6 : Same G5 (upd G5 p6 (.lst (x.throws.map V.str))) := (Same.refl G5).upd hp6
            have v6 : (upd G5 p6 (.lst (x.throws.map V.str))) p6 = some (.lst (x.throws.map V.str)) := upd_same
            generalize (upd G5 p6 (.lst (x.throws.map V.str))) = G6 at u6 v6 ⊢
            refine ⟨p6, _, rfl, SqL.of v6, fun th ob2 hth hob2 => ?_⟩
            have u7 : Same G6 (upd G6 th (.frz ob2 (.tup (x.throws.map V.str)))) := (Same.refl G6).upd hth
            have thF : TupF (upd G6 th (.frz ob2 (.tup (x.throws.map V.str)))) th (x.throws.map V.str) := ⟨ob2, hob2, upd_same⟩
            generalize (upd G6 th (.frz ob2 (.tup (x.throws.map V.str)))) = G7 at u7 thF ⊢
            have tkF := (tkF.same u6).same u7
            rw [q4] at tkF
            refine ⟨by show 5 ≤ sizeLine; decide, fun z hz => ?_⟩
            have w7 : Same H G7 := ((s1.trans w5).trans u6).trans u7
            have u8 : Same G7 (upd G7 z (.tup [.str n0, .int x.side, .ref tk, .bl g, .ref th])) := (Same.refl G7).upd hz
            refine k1 x z _ hx (w7.free hz) ⟨tk, th, ?_, tkF.same u8, thF.same u8⟩ (w7.trans u8)
            rw [upd_same, q1, q5]
          | cons b0 q0 =>
            refine iteD (fun _ => ?_) (fun h => absurd (by simp) h)
            refine ⟨_, rfl, _, _, _, _, rfl, rfl, SqL.of v5, at_of (j := 0) rfl rfl, ?_⟩
            refine ⟨rfl, ?_⟩
            refine ⟨_, rfl, ?_⟩
            refine iteNS (fun n => ?_) (fun e => ?_)
            · refine hn0 ?_
              cases q0 with
              | nil => rfl
              | cons y q =>
                show (if b0 = "throws" then some (y :: q) else none) = none
                rw [if_neg n]
            · refine ⟨_, rfl, _, _, rfl, .inl (SqL.of v5), rfl, ?_⟩
              refine ⟨_, rfl, ?_⟩
              cases q0 with
              | nil =>
                exact iteL (fun _ => hn0 rfl) (fun hc => absurd rfl hc)
              | cons y q =>
                refine iteL (fun hc => absurd hc (by simp; omega)) (fun hc2 => ?_)
                obtain ⟨x, hx, q1, q2, q3, q4, q5, q6⟩ := fin (y :: q) (by show (if b0 = "throws" then some (y :: q) else none) = _; rw [if_pos e])
                refine ⟨_, rfl, _, _, _, _, rfl, rfl, SqL.of (dsame w5), (show atI _ (1 : Int) = _ from str_ix (i := 1) hix1), ?_⟩
                refine ⟨_, rfl, _, _, _, _, rfl, rfl, SqL.of (dsame w5), (show atI _ (2 : Int) = _ from str_ix (i := 2) hix2), ?_⟩
                refine ⟨_, _, rfl, q2, q3, ?_⟩
                refine ⟨_, rfl, _, rfl, _, rfl, _, rfl, p5, _, rfl, SqL.of v5, fun p6 hp6 => ?_⟩
                rw [show (1 : Int) = ((1 : Nat) : Int) from rfl, cut_frm, q6]
                have u6 : Same G5 (upd G5 p6 (.lst (x.throws.map V.str))) := (Same.refl G5).upd hp6
                have v6 : (upd G5 p6 (.lst (x.throws.map V.str))) p6 = some (.lst (x.throws.map V.str)) := upd_same
                generalize (upd G5 p6 (.lst (x.throws.map V.str))) = G6 at u6 v6 ⊢
                refine ⟨p6, _, rfl, SqL.of v6, fun th ob2 hth hob2 => ?_⟩
                have u7 : Same G6 (upd G6 th (.frz ob2 (.tup (x.throws.map V.str)))) := (Same.refl G6).upd hth
                have thF : TupF (upd G6 th (.frz ob2 (.tup (x.throws.map V.str)))) th (x.throws.map V.str) := ⟨ob2, hob2, upd_same⟩
                generalize (upd G6 th (.frz ob2 (.tup (x.throws.map V.str)))) = G7 at u7 thF ⊢
                have tkF := (tkF.same u6).same u7
                rw [q4] at tkF
                refine ⟨by show 5 ≤ sizeLine; decide, fun z hz => ?_⟩
                have w7 : Same H G7 := ((s1.trans w5).trans u6).trans u7
                have u8 : Same G7 (upd G7 z (.tup [.str n0, .int x.side, .ref tk, .bl g, .ref th])) := (Same.refl G7).upd hz
                refine k1 x z _ hx (w7.free hz) ⟨tk, th, ?_, tkF.same u8, thF.same u8⟩ (w7.trans u8)
                rw [upd_same, q1, q5]
          
      · intro σ H Q Q' hq h
        obtain ⟨v, e1, p, e2, q, ys, e3, e4, a1, a2, e5, e6, k, e7, h⟩ := h
        refine ⟨v, e1, p, e2, q, ys, e3, e4, a1, a2, e5, e6, k, e7, ?_⟩
        cases k with
        | false => exact hq _ _ h
        | true =>
          rw [if_pos rfl] at h ⊢
          obtain ⟨v, e1, v2, e2, p, xs, i, z, e3, e4, e5, e6, e7, h⟩ := h
          refine ⟨v, e1, v2, e2, p, xs, i, z, e3, e4, e5, e6, e7, fun l hl => ?_⟩
          obtain ⟨b, zs, e7, e8, e9, e10, h⟩ := h l hl
          refine ⟨b, zs, e7, e8, e9, e10, ?_⟩
          rw [if_neg Bool.false_ne_true] at h ⊢
          obtain ⟨k, e11, h⟩ := h
          exact ⟨k, e11, hq _ _ h⟩

open My (Hr readW rowsWords)
theorem pairOf_head {a : Str} {r : List Str} (h : a ≠ "word") : My.pairOf (a :: r) = none := by
  unfold My.pairOf
  split
  · rfl
  · split
    · rename_i e
      injection e with e1 _
      rw [if_neg (by rw [← e1]; exact h)]
    · rename_i e
      injection e with e1 _
      rw [if_neg (fun q => h (by rw [e1]; exact q.1))]
    · rfl
theorem helpOf_head {a : Str} {r : List Str} (h : a ≠ "helper") : My.helpOf (a :: r) = none := by
  unfold My.helpOf
  split
  · rfl
  · split
    · rename_i e
      injection e with e1 _
      rw [if_neg (fun q => h (by rw [e1]; exact q.1))]
    · rfl
theorem of_empty {ws : List Str} (h : ("" : Str) ∈ ws) : My.pairOf ws = none ∧ My.helpOf ws = none := by
  unfold My.pairOf My.helpOf
  rw [if_pos h, if_pos h]
  exact ⟨rfl, rfl⟩
theorem stepR_no {ps : List My.Pr} {hs : List Hr} {ws : List Str} (h1 : My.pairOf ws = none ∨ hs ≠ []) (h2 : My.helpOf ws = none) : My.stepR (some (ps, hs)) ws = none := by
  unfold My.stepR
  cases hp : My.pairOf ws with
  | none => simp only [h2]; rfl
  | some q =>
    cases hs with
    | nil =>
      rcases h1 with h1 | h1
      · rw [hp] at h1; cases h1
      · exact absurd rfl h1
    | cons x r => simp only [h2]; rfl
def sp_law_read : Sp := fun vs H Q _ => ∃ page : Str, vs = [.str page] ∧ page.length ≤ 9998 ∧ chOk page ∧
  (∀ (n : Nat) (t L1 L2 : Addr) (H' : Hp), My.BadAt (My.pgWords page) n → n < (My.pgWords page).length → H' t = some (.tup [.int n, .ref L1, .ref L2]) → Same H H' → Q (.ref t) H') ∧
  ∀ (ps : List My.Pr) (hs : List Hr) (t L1 L2 : Addr) (as has : List Addr) (H' : Hp), readW (My.pgWords page) = some (ps, hs) → H' t = some (.tup [.int (-1), .ref L1, .ref L2]) → H' L1 = some (.lst (as.map V.ref)) → Objs H' as prO ps → H' L2 = some (.lst (has.map V.ref)) → Crew H' has hs → Same H H' → Q (.ref t) H'
theorem ok_read (T : Txt K mg a) : FnOk P w K mg base CX0 2 a.f_read a.d_read ["_law_page"] sp_law_read := by
  refine T.F_read.ok sc_read (fun vs H Q E h => ?_) (fun cdv A outer s H vs Q E hr h => ?_)
  · obtain ⟨page, rfl, _⟩ := h
    rfl
  · obtain ⟨page, rfl, hl, hch, kb, kg⟩ := h
    have zl := sizeLine_eq
    refine ⟨_, (pss_cons (ps_set (i := 1) sc_read.nd rfl (Or.inl rfl) (pe_lst pa_nil))
      (pss_cons (ps_set (i := 2) sc_read.nd rfl (Or.inl rfl) (pe_lst pa_nil))
      (pss_cons (ps_set (i := 3) sc_read.nd rfl (Or.inl rfl) (pe_split (pv 0) pe_str))
      (C8.pss_cut (ps_if (pt_cmpR op_eq (pv 0) pe_str (nomark _)) (pss_one (ps_set (i := 3) sc_read.nd rfl (Or.inl rfl) (pe_lst pa_nil))) pss_nil)
      (pss_cons (ps_for PassesOwn.never rfl (pi_enum (by rfl) T.z_enumerate (pa_cons (pv 3) pa_nil)) (pg_tup rfl (pgs_cons (pg_name (i := 4) sc_read.nd rfl (Or.inl rfl)) (pgs_cons (pg_name (i := 5) sc_read.nd rfl (Or.inl rfl)) pgs_nil))) (pss_cons (ps_set (i := 6) sc_read.nd rfl (Or.inl rfl) (pe_split (pv 5) pe_str))
      (pss_cons (ps_set (i := 7) sc_read.nd rfl (Or.inl rfl) pe_non)
      (C8.pss_cut (ps_if (PW.pt (pw_and (pt_cmpR op_notIn_seq pe_str (pv 6) (by rfl)) (pw_and (pt_cmpR op_eq (pe_ix ix_list (pv 6) pe_int (fun _ _ => rfl)) pe_str (nomark _)) (pw_and1 (pt_cmpR op_eq (pe_callB call_len_seq (by rfl) T.z_len (by decide +kernel) (pa_cons (pv 2) pa_nil)) pe_int (nomark _)))))) (pss_cons (ps_set (i := 7) sc_read.nd rfl (Or.inl rfl) (pe_call (ok_pair_read T) (hr.mono (by decide)) rfl T.g_pair_read T.k_pair_read T.B_pair_read .nil pass0 (pa_cons (pv 6) pa_nil)))
      (pss_one (ps_expr (pe_bm PySem.F.plainAttrs_list PySem.F.slot_list_append PySem.F.type_list_append mt_append (pv 1) (pa_cons (pv 7) pa_nil))))) (pss_one (ps_if (PW.pt (pw_and (pt_cmpR op_notIn_seq pe_str (pv 6) (by rfl)) (pw_and1 (pt_cmpR op_eq (pe_ix ix_list (pv 6) pe_int (fun _ _ => rfl)) pe_str (nomark _))))) (pss_cons (ps_set (i := 7) sc_read.nd rfl (Or.inl rfl) (pe_call (ok_helper_read T) (hr.mono (by decide)) rfl T.g_helper_read T.k_helper_read T.B_helper_read .nil pass0 (pa_cons (pv 6) pa_nil)))
      (pss_one (ps_expr (pe_bm PySem.F.plainAttrs_list PySem.F.slot_list_append PySem.F.type_list_append mt_append (pv 2) (pa_cons (pv 7) pa_nil))))) pss_nil)))
      (pss_one (ps_if (pt_cmpR op_isN (pv 7) pe_non (nomark _)) (pss_one (ps_ret (pe_tup (pa_cons (pv 4) (pa_cons (pe_lst pa_nil) (pa_cons (pe_lst pa_nil) pa_nil)))))) pss_nil))))))
      (pss_one (ps_ret (pe_tup (pa_cons (pe_un un_neg pe_int) (pa_cons (pv 1) (pa_cons (pv 2) pa_nil))))))))))), ?_⟩
    refine ⟨by show 0 ≤ sizeLine; decide, fun PA hPA => ?_⟩
    refine ⟨by show 0 ≤ sizeLine; decide, fun HA hHA => ?_⟩
    have nn : PA ≠ HA := ne_of_none upd_same hHA
    have hHA0 : H HA = none := (upd_ne nn.symm).symm.trans hHA
    have s0 : Same H (upd (upd H PA (.lst [])) HA (.lst [])) := ((Same.refl H).upd hPA).upd hHA0
    have p0 : (upd (upd H PA (.lst [])) HA (.lst [])) PA = some (.lst []) := by rw [upd_ne nn]; exact upd_same
    have h0 : (upd (upd H PA (.lst [])) HA (.lst [])) HA = some (.lst []) := upd_same
    show gName 2 (.ref HA) _ (upd (upd H PA (.lst [])) HA (.lst [])) _
    generalize (upd (upd H PA (.lst [])) HA (.lst [])) = H0 at s0 p0 h0 ⊢
    refine ⟨_, rfl, ⟨_, rfl⟩, page, "\n", rfl, rfl, by decide +kernel, by omega, fun SA hSA => ?_⟩
    rw [brk_eq]
    have hSA1 : (upd H0 SA (.lst ((Txt.split page ⟨#[10]⟩).map V.str))) SA = some (.lst ((My.cut 10 page).map V.str)) := upd_same
    have sS : Same H0 (upd H0 SA (.lst ((Txt.split page ⟨#[10]⟩).map V.str))) := (Same.refl H0).upd hSA
    have nPS : SA ≠ PA := (ne_of_none p0 hSA).symm
    have nHS : SA ≠ HA := (ne_of_none h0 hSA).symm
    show gName 3 (.ref SA) _ (upd H0 SA (.lst ((Txt.split page ⟨#[10]⟩).map V.str))) _
    generalize (upd H0 SA (.lst ((Txt.split page ⟨#[10]⟩).map V.str))) = H1 at hSA1 sS ⊢
    refine ⟨fun σ H2 => Blk (∃ LA : Addr, σ = [some (.str page), some (.ref PA), some (.ref HA), some (.ref LA), none, none, none, none] ∧ LA ≠ PA ∧ LA ≠ HA ∧ Same H1 H2 ∧ H2 LA = some (.lst ((My.pgLines page).map V.str))), ?_, ?_⟩
    · refine ⟨_, rfl, rfl, ?_⟩
      refine ⟨_, rfl, ?_⟩
      refine iteS (fun e => ?_) (fun n => ?_)
      · refine ⟨by show 0 ≤ sizeLine; decide, fun LA hLA => ?_⟩
        refine Blk.of ⟨LA, rfl, (ne_of_none (sS _ _ p0) hLA).symm, (ne_of_none (sS _ _ h0) hLA).symm, (Same.refl H1).upd hLA, ?_⟩
        rw [upd_same]
        unfold My.pgLines
        rw [if_pos e]
        rfl
      · refine Blk.of ⟨SA, rfl, nPS, nHS, Same.refl H1, ?_⟩
        unfold My.pgLines
        rw [if_neg n]
        exact hSA1
    rintro σ H2 hB
    obtain ⟨LA, rfl, nPL, nHL, s2, hLA⟩ := hB.out
    have s02 : Same H H2 := (s0.trans sS).trans s2
    refine ⟨_, rfl, LA, _, rfl, SqL.of hLA, ?_⟩
    refine for_it (walk_enum (K := K) (a := LA) (xs := (My.pgLines page).map V.str)) (fun i σ H2 => Blk (∃ v4 v5 v6 v7, σ = [some (.str page), some (.ref PA), some (.ref HA), some (.ref LA), v4, v5, v6, v7] ∧ H2 LA = some (.lst ((My.pgLines page).map V.str)) ∧ ∃ as has ps hs, RdAt H H2 PA HA page i as has ps hs)) ?_ ?_ ?_ ?_
    · exact Blk.of ⟨_, _, _, _, rfl, hLA, [], [], [], [], rfl, s2 _ _ (sS _ _ p0), Objs.nil, s2 _ _ (sS _ _ h0), AllAt.nil, nn, by simp, by simp, s02⟩
    · intro i σ H2 _ hB
      obtain ⟨v4, v5, v6, v7, _, hLA2, _⟩ := hB.out
      exact SqL.of hLA2
    · intro i y σ H2 H3 hi hB hy
      obtain ⟨v4, v5, v6, v7, rfl, hLA2, as, has, ps, hs, rd⟩ := hB.out
      obtain ⟨Tt, u, v, rfl, hT, rfl, hu, hv⟩ := hy
      obtain rfl := Option.some.inj hu
      obtain ⟨line, hline, rfl⟩ := strs_get hv
      have hil := get_lt hline
      have hm := lines_many page
      have hws : (My.pgWords page)[i]? = some (My.cut 32 line) := by unfold My.pgWords; rw [List.getElem?_map, hline]; rfl
      have win := words_in (List.mem_of_getElem? hws)
      have hstep := My.readW_take hws
      rw [rd.rd] at hstep
      have lin := line_in (List.mem_of_getElem? hline)
      have sT : Same H2 (upd H2 Tt (.tup [.int (i : Nat), .str line])) := (Same.refl H2).upd hT
      have hT2 : (upd H2 Tt (.tup [.int (i : Nat), .str line])) Tt = some (.tup [.int (i : Nat), .str line]) := upd_same
      show _
      generalize (upd H2 Tt (.tup [.int (i : Nat), .str line])) = H3 at sT hT2 ⊢
      have rd3 := rd.same sT
      have hLA3 := sT _ _ hLA2
      refine ⟨Tt, _, rfl, SqT.of hT2, rfl, _, _, rfl, _, _, rfl, rfl, ?_⟩
      refine ⟨_, rfl, ⟨_, rfl⟩, line, " ", rfl, rfl, by decide +kernel, by omega, fun W hW => ?_⟩
      rw [blank_eq]
      have hws2 : (upd H3 W (.lst ((My.cut 32 line).map V.str))) W = some (.lst ((My.cut 32 line).map V.str)) := upd_same
      have sW : Same H3 (upd H3 W (.lst ((My.cut 32 line).map V.str))) := (Same.refl H3).upd hW
      show gName 6 (.ref W) _ (upd H3 W (.lst ((My.cut 32 line).map V.str))) _
      generalize (upd H3 W (.lst ((My.cut 32 line).map V.str))) = H4 at hws2 sW ⊢
      have rd4 := rd3.same sW
      have hLA4 := sW _ _ hLA3
      generalize My.cut 32 line = ws at hws win hstep hws2
      have crl := AllAt.len rd4.cr
      have pol := rd4.ob.len
      have m1 := rd4.mp
      have m2 := rd4.mh
      refine ⟨fun σ H5 => Blk (∃ v7 : V, σ = [some (.str page), some (.ref PA), some (.ref HA), some (.ref LA), some (.int (i : Nat)), some (.str line), some (.ref W), some v7] ∧
        ((v7 = .non ∧ My.stepR (some (ps, hs)) ws = none ∧ Same H H5) ∨ ∃ r as' has' ps' hs', v7 = .ref r ∧ H5 LA = some (.lst ((My.pgLines page).map V.str)) ∧ RdAt H H5 PA HA page (i + 1) as' has' ps' hs')), ?_, ?_⟩
      · refine ⟨_, rfl, _, _, rfl, .inl (SqL.of hws2), rfl, flat_str _, ?_⟩
        rw [if_pos rfl, inV_str]
        have no : My.pairOf ws = none ∨ hs ≠ [] → My.helpOf ws = none → Blk (∃ v7 : V, [some (V.str page), some (.ref PA), some (.ref HA), some (.ref LA), some (.int (i : Nat)), some (.str line), some (.ref W), some .non] = [some (.str page), some (.ref PA), some (.ref HA), some (.ref LA), some (.int (i : Nat)), some (.str line), some (.ref W), some v7] ∧
          ((v7 = .non ∧ My.stepR (some (ps, hs)) ws = none ∧ Same H H4) ∨ ∃ r as' has' ps' hs', v7 = .ref r ∧ H4 LA = some (.lst ((My.pgLines page).map V.str)) ∧ RdAt H H4 PA HA page (i + 1) as' has' ps' hs')) := fun a b => Blk.of ⟨_, rfl, .inl ⟨rfl, stepR_no a b, rd4.s⟩⟩
        refine ⟨_, rfl, ?_⟩
        by_cases hmE : ("" : Str) ∈ ws
        · rw [decide_eq_true hmE]
          refine iteF ?_
          refine ⟨_, rfl, _, _, rfl, .inl (SqL.of hws2), rfl, flat_str _, ?_⟩
          rw [if_pos rfl, inV_str, decide_eq_true hmE]
          refine ⟨_, rfl, ?_⟩
          refine iteF ?_
          exact no (.inl (of_empty hmE).1) (of_empty hmE).2
        rw [decide_eq_false hmE]
        refine iteT ?_
        obtain ⟨a0, r, rfl⟩ : ∃ a r, ws = a :: r := by
          cases ws with
          | nil => exact absurd rfl win.1
          | cons a r => exact ⟨a, r, rfl⟩
        refine ⟨_, rfl, _, _, _, _, rfl, rfl, SqL.of hws2, at_of (j := 0) rfl rfl, ?_⟩
        refine ⟨rfl, ?_⟩
        refine ⟨_, rfl, ?_⟩
        refine iteS (fun e => ?_) (fun n => ?_)
        · subst e
          refine ⟨_, rfl, _, _, rfl, .inl (SqL.of rd4.lh), rfl, ?_⟩
          refine ⟨_, rfl, ?_⟩
          cases has with
          | nil =>
            obtain rfl : hs = [] := List.length_eq_zero_iff.mp crl.symm
            refine iteL (fun _ => ?_) (fun h => absurd rfl h)
            refine ⟨_, rfl, W, r, rfl, hws2, hmE, fun q z H5 hq hz hz2 s5 => ?_, fun hq => ?_⟩
            · have rd5 := rd4.same s5
              have st : readW ((My.pgWords page).take (i + 1)) = some (ps ++ [q], []) := by
                rw [hstep]
                unfold My.stepR
                simp only [hq]
              refine ⟨_, rfl, .inl ⟨rfl, _, SqL.of rd5.lp⟩, _, rfl, PA, _, _, rfl, rfl, rd5.lp, by rw [List.length_map]; exact small (by omega), ?_⟩
              exact Blk.of ⟨_, rfl, .inr ⟨z, as ++ [z], [], ps ++ [q], [], rfl, by rw [upd_ne nPL]; exact s5 _ _ hLA4, rd5.pair hPA hz2 st⟩⟩
            · refine ⟨_, rfl, .inl ⟨rfl, _, SqL.of rd4.lp⟩, _, rfl, PA, _, _, rfl, rfl, rd4.lp, by rw [List.length_map]; exact small (by omega), ?_⟩
              exact Blk.of ⟨_, rfl, .inl ⟨rfl, stepR_no (.inl hq) (helpOf_head (by decide +kernel)), rd4.s.upd hPA⟩⟩
          | cons h1 has =>
            obtain ⟨x1, hs, rfl⟩ : ∃ x r, hs = x :: r := by
              cases hs with
              | nil => exact absurd crl (by simp)
              | cons x r => exact ⟨x, r, rfl⟩
            refine iteL (fun h => absurd h (by simp; omega)) (fun _ => ?_)
            refine ⟨_, rfl, _, _, rfl, .inl (SqL.of hws2), rfl, flat_str _, ?_⟩
            rw [if_pos rfl, inV_str, decide_eq_false hmE]
            refine ⟨_, rfl, ?_⟩
            refine iteT ?_
            refine ⟨_, rfl, _, _, _, _, rfl, rfl, SqL.of hws2, at_of (j := 0) rfl rfl, ?_⟩
            refine ⟨rfl, ?_⟩
            refine ⟨_, rfl, ?_⟩
            exact iteS (fun e => absurd e (by decide +kernel)) (fun n => no (.inr (by simp)) (helpOf_head n))
        · refine iteF ?_
          refine ⟨_, rfl, _, _, rfl, .inl (SqL.of hws2), rfl, flat_str _, ?_⟩
          rw [if_pos rfl, inV_str, decide_eq_false hmE]
          refine ⟨_, rfl, ?_⟩
          refine iteT ?_
          refine ⟨_, rfl, _, _, _, _, rfl, rfl, SqL.of hws2, at_of (j := 0) rfl rfl, ?_⟩
          refine ⟨rfl, ?_⟩
          refine ⟨_, rfl, ?_⟩
          refine iteS (fun e => ?_) (fun n2 => no (.inl (pairOf_head n)) (helpOf_head n2))
          subst e
          have hso : ∀ w, w ∈ ("helper" : Str) :: r → PyData.strOk w = true := fun w hw => strOk_of fun d hd => hch d ((win.2.2 w hw).2 d hd)
          have wl := win.2.1
          rw [List.length_cons] at wl
          refine ⟨_, rfl, W, r, rfl, hws2, hmE, by omega, hso, fun x z H5 hx hz hz2 s5 => ?_, fun H5 hx s5 => ?_⟩
          · have rd5 := rd4.same s5
            have st : readW ((My.pgWords page).take (i + 1)) = some (ps, hs ++ [x]) := by
              rw [hstep]
              unfold My.stepR
              simp only [pairOf_head n, hx]
              rfl
            refine ⟨_, rfl, .inl ⟨rfl, _, SqL.of rd5.lh⟩, _, rfl, HA, _, _, rfl, rfl, rd5.lh, by rw [List.length_map]; exact small (by omega), ?_⟩
            exact Blk.of ⟨_, rfl, .inr ⟨z, as, has ++ [z], ps, hs ++ [x], rfl, by rw [upd_ne nHL]; exact s5 _ _ hLA4, rd5.help hHA0 hz2 st⟩⟩
          · have rd5 := rd4.same s5
            refine ⟨_, rfl, .inl ⟨rfl, _, SqL.of rd5.lh⟩, _, rfl, HA, _, _, rfl, rfl, rd5.lh, by rw [List.length_map]; exact small (by omega), ?_⟩
            exact Blk.of ⟨_, rfl, .inl ⟨rfl, stepR_no (.inl (pairOf_head n)) hx, rd5.s.upd hHA0⟩⟩
      · rintro σ H5 hB
        obtain ⟨v7, rfl, h7⟩ := hB.out
        refine ⟨_, rfl, rfl, ?_⟩
        refine ⟨_, rfl, ?_⟩
        rcases h7 with ⟨rfl, hno, s5⟩ | ⟨r, as', has', ps', hs', rfl, hLA5, rd5⟩
        · refine iteT ?_
          refine ⟨_, rfl, by show 0 ≤ sizeLine; decide, fun L1 hL1 => ?_⟩
          have g1 : Same H (upd H5 L1 (.lst [])) := s5.trans ((Same.refl H5).upd hL1)
          generalize (upd H5 L1 (.lst [])) = H6 at g1 ⊢
          refine ⟨by show 0 ≤ sizeLine; decide, fun L2 hL2 => ?_⟩
          have g2 : Same H (upd H6 L2 (.lst [])) := g1.trans ((Same.refl H6).upd hL2)
          generalize (upd H6 L2 (.lst [])) = H7 at g2 ⊢
          refine ⟨by show 3 ≤ sizeLine; decide, fun t ht => ?_⟩
          exact kb i t L1 L2 _ ⟨by rw [rd.rd]; simp, by rw [hstep]; exact hno⟩ (get_lt hws) upd_same (g2.trans ((Same.refl H7).upd ht))
        · refine iteF ?_
          exact Blk.of ⟨_, _, _, _, rfl, hLA5, as', has', ps', hs', rd5⟩
    · intro σ H3 hB
      obtain ⟨v4, v5, v6, v7, rfl, hLA2, as, has, ps, hs, rd⟩ := hB.out
      have hall : readW (My.pgWords page) = some (ps, hs) := by
        have := rd.rd
        have hl2 : ((My.pgLines page).map V.str).length = (My.pgWords page).length := by unfold My.pgWords; rw [List.length_map, List.length_map]
        rw [hl2, List.take_length] at this
        exact this
      refine ⟨_, rfl, _, rfl, _, rfl, by show 3 ≤ sizeLine; decide, fun t ht => ?_⟩
      have st : Same H3 (upd H3 t (.tup [.int (-1), .ref PA, .ref HA])) := (Same.refl H3).upd ht
      exact kg ps hs t PA HA as has _ hall upd_same (st _ _ rd.lp) (rd.ob.same st) (st _ _ rd.lh) (Crew.same rd.cr st) (rd.s.trans st)

open My (Hr readW rowsWords glue lineOf helpWords)
/-! ### the text that the law writes -/
theorem glue_app {ys : List Str} (hy : ys ≠ []) : ∀ {xs : List Str}, xs ≠ [] → glue 32 (xs ++ ys) = glue 32 xs ++ " " ++ glue 32 ys
  | [], h => absurd rfl h
  | [x], _ => by
    obtain ⟨y, r, rfl⟩ : ∃ y r, ys = y :: r := by
      cases ys with
      | nil => exact absurd rfl hy
      | cons y r => exact ⟨y, r, rfl⟩
    refine TL.ext_tl ?_
    rw [TL.tl_append, TL.tl_append, glue_one]
    show (glue 32 (x :: y :: r)).cps.toList = _
    rw [glue_two]
    have e : TL.tl (" " : Str) = [32] := by decide +kernel
    rw [e]
    simp
  | x :: x2 :: xs, _ => by
    have ih := glue_app hy (xs := x2 :: xs) (by simp)
    refine TL.ext_tl ?_
    rw [TL.tl_append, TL.tl_append]
    show (glue 32 (x :: x2 :: (xs ++ ys))).cps.toList = (glue 32 (x :: x2 :: xs)).cps.toList ++ _ ++ _
    rw [glue_two, glue_two]
    have e2 : (glue 32 (x2 :: (xs ++ ys))).cps.toList = (glue 32 (x2 :: xs)).cps.toList ++ TL.tl (" " : Str) ++ TL.tl (glue 32 ys) := by
      have := congrArg TL.tl ih
      rw [TL.tl_append, TL.tl_append] at this
      exact this
    rw [e2]
    simp
theorem glue_le {xs : List Str} (hl : xs.length ≤ 40) (h : ∀ x, x ∈ xs → x.length ≤ 20) : (glue 32 xs).length ≤ 840 := by
  have h1 := sum_le h
  have h2 := join_le ⟨#[32]⟩ xs
  have h3 : (⟨#[32]⟩ : Str).length = 1 := rfl
  rw [h3] at h2
  have h4 : 20 * xs.length ≤ 20 * 40 := Nat.mul_le_mul_left _ hl
  show (PySem.Txt.join ⟨#[32]⟩ xs).length ≤ 840
  omega
def headW (x : Hr) : List Str := ["helper", x.name, strB x.side]
theorem headW_glue (x : Hr) : ("helper " : Str) ++ x.name ++ " " ++ strB x.side = glue 32 (headW x) := by
  have e1 : ("helper " : Str) = ("helper" : Str) ++ (" " : Str) := by decide +kernel
  have g1 := glue_app (ys := [x.name, strB x.side]) (by simp) (xs := ["helper"]) (by simp)
  have g2 := glue_app (ys := [strB x.side]) (by simp) (xs := [x.name]) (by simp)
  have g3 : glue 32 (headW x) = glue 32 ((["helper"] : List Str) ++ [x.name, strB x.side]) := rfl
  rw [g3, g1, glue_one]
  have g4 : glue 32 [x.name, strB x.side] = glue 32 ([x.name] ++ [strB x.side]) := rfl
  rw [g4, g2, glue_one, glue_one, e1]
  refine TL.ext_tl ?_
  simp only [TL.tl_append, List.append_assoc]
theorem throwsW_le {x : Hr} (xs : HrS x) : (My.throwsW x.throws).length ≤ 9 ∧ ∀ y, y ∈ My.throwsW x.throws → y.length ≤ 20 := by
  have e : ("throws" : Str).length ≤ 20 := by decide +kernel
  have hl := xs.hl
  unfold My.throwsW
  by_cases h : x.throws = []
  · rw [if_pos h]; exact ⟨by simp, fun y hy => by cases hy⟩
  · rw [if_neg h]
    refine ⟨by rw [List.length_cons]; omega, fun y hy => ?_⟩
    rcases List.mem_cons.mp hy with rfl | q
    · exact e
    · exact (xs.th y q).1
theorem headW_le {x : Hr} (xs : HrS x) (sd : x.side = 0 ∨ x.side = 1) : ∀ y, y ∈ headW x → y.length ≤ 20 := by
  intro y hy
  have e : ("helper" : Str).length ≤ 20 ∧ (strB 0).length ≤ 20 ∧ (strB 1).length ≤ 20 := by decide +kernel
  unfold headW at hy
  simp only [List.mem_cons, List.not_mem_nil, or_false] at hy
  rcases hy with rfl | rfl | rfl
  · exact e.1
  · exact xs.nm.1
  · rcases sd with q | q <;> rw [q]
    · exact e.2.1
    · exact e.2.2
/-- the words ahead of the throws -/
def foreW (x : Hr) : List Str := headW x ++ x.takes ++ (if x.gives = true then [("gives" : Str)] else [])
theorem foreW_ne (x : Hr) : foreW x ≠ [] := by simp [foreW, headW]
theorem helpWords_fore {x : Hr} (sd : x.side = 0 ∨ x.side = 1) : helpWords x = foreW x ++ My.throwsW x.throws := by
  have e0 : strB 0 = "0" ∧ strB 1 = "1" := by decide +kernel
  unfold helpWords foreW headW My.sideW
  rcases sd with e | e
  · rw [e, e0.1]; simp
  · rw [e, e0.2]; simp
theorem fore_le {x : Hr} (xs : HrS x) (sd : x.side = 0 ∨ x.side = 1) {ws : List Str} (n : ws.length ≤ 20) (h : ∀ y, y ∈ ws → y ∈ headW x ∨ y ∈ x.takes ∨ y = "gives") : (glue 32 ws).length ≤ 840 := by
  refine glue_le (by omega) fun y hy => ?_
  rcases h y hy with q | q | q
  · exact headW_le xs sd y q
  · exact (xs.tk y q).1
  · rw [q]; decide +kernel
def sp_line : Sp := fun vs H Q _ => ∃ (h : Addr) (x : Hr), vs = [.ref h] ∧ HrAt H h x ∧ HrS x ∧ (x.side = 0 ∨ x.side = 1) ∧ ∀ H', Same H H' → Q (.str (lineOf (helpWords x))) H'
theorem ok_line (T : Txt K mg a) : FnOk P w K mg base CX0 1 a.f_line a.d_line ["_law_helper"] sp_line := by
  refine T.F_line.ok sc_line (fun vs H Q E h => ?_) (fun cdv A outer s H vs Q E hr h => ?_)
  · obtain ⟨h, x, rfl, _⟩ := h
    rfl
  · obtain ⟨h, x, rfl, hx, xs, sd, kk⟩ := h
    refine ⟨_, (pss_cons (ps_asg (pv 0) (pg_tup (by rfl) (pgs_cons (pg_name (i := 1) sc_line.nd rfl (Or.inl rfl)) (pgs_cons (pg_name (i := 2) sc_line.nd rfl (Or.inl rfl)) (pgs_cons (pg_name (i := 3) sc_line.nd rfl (Or.inl rfl)) (pgs_cons (pg_name (i := 4) sc_line.nd rfl (Or.inl rfl)) (pgs_cons (pg_name (i := 5) sc_line.nd rfl (Or.inl rfl)) pgs_nil)))))))
      (pss_cons (ps_set (i := 6) sc_line.nd rfl (Or.inl rfl) (pe_op op_add_str (pe_op op_add_str (pe_op op_add_str pe_str (pv 1)) pe_str) (pe_callTy call_str_int (by rfl) T.z_str (by decide +kernel) (pa_cons (pv 2) pa_nil))))
      (pss_cons (ps_for PassesOwn.never rfl (pi_tup (pv 3)) (pg_name (i := 7) sc_line.nd rfl (Or.inl rfl)) (pss_one (ps_set (i := 6) sc_line.nd rfl (Or.inl rfl) (pe_op op_add_str (pe_op op_add_str (pv 6) pe_str) (pv 7)))))
      (C8.pss_cut (ps_if (pt_val (pv 4)) (pss_one (ps_set (i := 6) sc_line.nd rfl (Or.inl rfl) (pe_op op_add_str (pv 6) pe_str))) pss_nil)
      (C8.pss_cut (ps_if (pt_cmpR op_gt (pe_callB call_len_seq (by rfl) T.z_len (by decide +kernel) (pa_cons (pv 5) pa_nil)) pe_int (nomark _)) (pss_one (ps_set (i := 6) sc_line.nd rfl (Or.inl rfl) (pe_op op_add_str (pe_op op_add_str (pv 6) pe_str) (pe_join pe_str (pv 5))))) pss_nil)
      (pss_one (ps_ret (pv 6)))))))), ?_⟩
    obtain ⟨tk, th, e, tkF, thF⟩ := id hx
    have zl := sizeLine_eq
    have hn := xs.nm.1
    have sl : (strB x.side).length ≤ 20 := by rcases sd with e | e <;> rw [e] <;> decide +kernel
    have l0 : ("helper " : Str).length = 7 ∧ (" " : Str).length = 1 ∧ (" gives" : Str).length = 6 ∧ (" throws " : Str).length = 8 := by decide +kernel
    refine ⟨_, rfl, h, _, rfl, SqT.of e, rfl, ?_⟩
    refine ⟨_, _, rfl, _, _, rfl, _, _, rfl, _, _, rfl, _, _, rfl, rfl, ?_⟩
    refine ⟨_, rfl, _, _, rfl, rfl, by omega, ?_⟩
    refine ⟨_, _, rfl, rfl, by rw [strLen_append]; omega, ?_⟩
    refine ⟨_, rfl, x.side, rfl, by rcases sd with e | e <;> rw [e] <;> decide, ?_⟩
    refine ⟨_, _, rfl, rfl, by rw [strLen_append, strLen_append]; show _ + (strB x.side).length ≤ _; omega, ?_⟩
    have eh : ("helper " : Str) ++ x.name ++ " " ++ strB x.side = glue 32 (headW x) := headW_glue x
    show gName 6 (.str (("helper " : Str) ++ x.name ++ " " ++ strB x.side)) _ H _
    rw [eh]
    refine ⟨_, rfl, tk, rfl, ⟨_, tkF.seq⟩, ?_⟩
    refine for_tup (K := K) (a := tk) (xs := x.takes.map V.str) (fun i σ H1 => Blk (∃ v7, σ = [some (.ref h), some (.str x.name), some (.int x.side), some (.ref tk), some (.bl x.gives), some (.ref th), some (.str (glue 32 (headW x ++ x.takes.take i))), v7] ∧ H1 = H)) ?_ ?_ ?_ ?_
    · exact Blk.of ⟨_, by rw [List.take_zero, List.append_nil]; rfl, rfl⟩
    · intro i σ H1 _ hB
      obtain ⟨v7, _, rfl⟩ := hB.out
      exact tkF.seq
    · intro i y σ H1 hy hB
      obtain ⟨v7, rfl, rfl⟩ := hB.out
      obtain ⟨t, ht, rfl⟩ := strs_get hy
      have tl3 := xs.tl
      have hle : (glue 32 (headW x ++ x.takes.take i)).length ≤ 840 := fore_le xs sd (by rw [List.length_append, List.length_take]; show 3 + _ ≤ 20; omega) fun y hy => by
        rcases List.mem_append.mp hy with q | q
        · exact .inl q
        · exact .inr (.inl (List.mem_of_mem_take q))
      have tle := (xs.tk t (List.mem_of_getElem? ht)).1
      refine ⟨_, rfl, _, _, rfl, rfl, by omega, ?_⟩
      refine ⟨_, rfl, _, _, rfl, rfl, by rw [strLen_append]; omega, ?_⟩
      have eg : glue 32 (headW x ++ x.takes.take i) ++ " " ++ t = glue 32 (headW x ++ x.takes.take (i + 1)) := by
        have := glue_app (ys := [t]) (by simp) (xs := headW x ++ x.takes.take i) (by simp [headW])
        rw [glue_one] at this
        rw [← this, take_snoc ht, List.append_assoc]
      refine Blk.of ⟨some (.str t), ?_, rfl⟩
      rw [← eg]
      rfl
    · intro σ H1 hB
      obtain ⟨v7, rfl, rfl⟩ := hB.out
      have tl3 := xs.tl
      rw [List.length_map, List.take_length]
      have hle : (glue 32 (headW x ++ x.takes)).length ≤ 840 := fore_le xs sd (by rw [List.length_append]; show 3 + _ ≤ 20; omega) fun y hy => by
        rcases List.mem_append.mp hy with q | q
        · exact .inl q
        · exact .inr (.inl q)
      refine ⟨fun σ H2 => Blk (H2 = H1 ∧ σ = [some (.ref h), some (.str x.name), some (.int x.side), some (.ref tk), some (.bl x.gives), some (.ref th), some (.str (glue 32 (foreW x))), v7]), ?_, ?_⟩
      · refine ⟨_, rfl, x.gives, rfl, ?_⟩
        refine iteB (fun c => ?_) (fun c => ?_)
        · refine ⟨_, rfl, _, _, rfl, rfl, by omega, ?_⟩
          refine Blk.of ⟨rfl, ?_⟩
          have eg : glue 32 (headW x ++ x.takes) ++ " gives" = glue 32 (foreW x) := by
            unfold foreW
            rw [if_pos c, glue_app (ys := ["gives"]) (by simp) (xs := headW x ++ x.takes) (by simp [headW]), glue_one]
            have : (" gives" : Str) = (" " : Str) ++ ("gives" : Str) := by decide +kernel
            rw [this]
            refine TL.ext_tl ?_
            simp only [TL.tl_append, List.append_assoc]
          rw [← eg]
          rfl
        · refine Blk.of ⟨rfl, ?_⟩
          have : foreW x = headW x ++ x.takes := by
            unfold foreW
            rw [if_neg (by rw [c]; exact Bool.false_ne_true), List.append_nil]
          rw [this]
      · rintro σ H2 hB
        obtain ⟨rfl, rfl⟩ := hB.out
        have hlf : (glue 32 (foreW x)).length ≤ 840 := fore_le xs sd (by
            unfold foreW
            rw [List.length_append, List.length_append]
            have : (if x.gives = true then [("gives" : Str)] else []).length ≤ 1 := by split <;> simp
            show 3 + _ + _ ≤ 20
            omega) fun y hy => by
          unfold foreW at hy
          rcases List.mem_append.mp hy with q | q
          · rcases List.mem_append.mp q with q | q
            · exact .inl q
            · exact .inr (.inl q)
          · split at q
            · simp at q; exact .inr (.inr q)
            · cases q
        refine ⟨fun σ H3 => Blk (H3 = H2 ∧ σ = [some (.ref h), some (.str x.name), some (.int x.side), some (.ref tk), some (.bl x.gives), some (.ref th), some (.str (lineOf (helpWords x))), v7]), ?_, ?_⟩
        · refine ⟨_, rfl, _, _, rfl, .inr thF.seq, _, _, rfl, rfl, ?_⟩
          refine ⟨_, rfl, ?_⟩
          have hwf := helpWords_fore sd
          have thl := xs.hl
          refine iteD (fun c => ?_) (fun c => ?_)
          · rw [List.length_map] at c
            have ne : x.throws ≠ [] := fun q => by rw [q] at c; exact absurd c (by decide)
            have sm := sum_le (ys := x.throws) (n := 20) fun y hy => (xs.th y hy).1
            have jl := join_le " " x.throws
            have l1 : (" " : Str).length = 1 := l0.2.1
            rw [l1] at jl
            refine ⟨_, rfl, _, _, rfl, rfl, by omega, ?_⟩
            refine ⟨⟨_, rfl⟩, ?_⟩
            refine ⟨_, rfl, _, th, x.throws, rfl, rfl, .inr thF.seq, by rw [l1]; omega, ?_⟩
            refine ⟨_, _, rfl, rfl, by rw [strLen_append]; omega, ?_⟩
            refine Blk.of ⟨rfl, ?_⟩
            have eg : glue 32 (foreW x) ++ " throws " ++ PySem.Txt.join " " x.throws = lineOf (helpWords x) := by
              have e3 : My.throwsW x.throws = [("throws" : Str)] ++ x.throws := by unfold My.throwsW; rw [if_neg ne]; rfl
              unfold lineOf
              rw [hwf, e3, glue_app (ys := [("throws" : Str)] ++ x.throws) (by simp) (foreW_ne x), glue_app (ys := x.throws) ne (xs := ["throws"]) (by simp), glue_one]
              have e4 : (" throws " : Str) = (" " : Str) ++ ("throws" : Str) ++ (" " : Str) := by decide +kernel
              have e5 : PySem.Txt.join " " x.throws = glue 32 x.throws := by rw [blank_eq]; rfl
              rw [e4, e5]
              refine TL.ext_tl ?_
              simp only [TL.tl_append, List.append_assoc]
            rw [← eg]
            rfl
          · rw [List.length_map] at c
            have ne : x.throws = [] := by
              cases hh : x.throws with
              | nil => rfl
              | cons a b => rw [hh] at c; exact absurd (by simp) c
            refine Blk.of ⟨rfl, ?_⟩
            have eg : glue 32 (foreW x) = lineOf (helpWords x) := by
              unfold lineOf
              rw [hwf]
              unfold My.throwsW
              rw [if_pos ne, List.append_nil]
            rw [eg]
        · rintro σ H3 hB
          obtain ⟨rfl, rfl⟩ := hB.out
          exact ⟨_, rfl, kk _ (Same.refl _)⟩

open My (Hr readW rowsWords glue lineOf helpWords pairWords pageOf)
theorem pair_text (q : My.Pr) : ("word " : Str) ++ q.1 ++ " " ++ q.2.1 ++ (if q.2.2 = true then (" laden" : Str) else "") = lineOf (pairWords q) := by
  rw [← pairLine_words]
  have e0 : TL.tl Str.empty = [] := by decide +kernel
  have e1 : TL.tl ("" : Str) = [] := by decide +kernel
  unfold pairLine
  refine TL.ext_tl ?_
  cases hq : q.2.2 with
  | true =>
    rw [if_pos rfl, if_pos rfl]
    simp only [TL.tl_append, e0, List.nil_append]
  | false =>
    rw [if_neg (by simp), if_neg (by simp)]
    simp only [TL.tl_append, e0, e1, List.nil_append, List.append_nil]
theorem pairW_le {q : My.Pr} (h1 : q.1.length ≤ 8) (h2 : q.2.1.length ≤ 8) : (lineOf (pairWords q)).length ≤ 1000 := by
  rw [← pairLine_words]
  exact pairLine_len h1 h2
def sp_text : Sp := fun vs H Q _ => ∃ (L Lh : Addr) (as has : List Addr) (ps : List My.Pr) (hs : List Hr), vs = [.ref L, .ref Lh] ∧ H L = some (.lst (as.map V.ref)) ∧ Objs H as prO ps ∧ H Lh = some (.lst (has.map V.ref)) ∧ Crew H has hs ∧ My.PairsOk ps ∧ My.CrewOk ps hs ∧ ∀ H', Same H H' → Q (.str (pageOf ps hs)) H'
theorem ok_text (T : Txt K mg a) : FnOk P w K mg base CX0 2 a.f_text a.d_text ["_law_pairs_here", "_law_helpers_here"] sp_text := by
  refine T.F_text.ok sc_text (fun vs H Q E h => ?_) (fun cdv A outer s H vs Q E hr h => ?_)
  · obtain ⟨L, Lh, as, has, ps, hs, rfl, _⟩ := h
    rfl
  · obtain ⟨L, Lh, as, has, ps, hs, rfl, hL, ob, hLh, cr, pok, cok, kk⟩ := h
    have zl := sizeLine_eq
    have many := pok.many
    have hmany := crew_many cok
    have pol := ob.len
    have crl := AllAt.len cr
    have l0 : ("word " : Str).length = 5 ∧ (" " : Str).length = 1 ∧ (" laden" : Str).length = 6 ∧ ("" : Str).length = 0 := by decide +kernel
    refine ⟨_, (pss_cons (ps_setLc (i := 2) (own := [("_law_near", 3), ("_law_far", 4), ("_law_laden", 5)]) (g := (gTup K 3 (gCons (gName 3) (gCons (gName 4) (gCons (gName 5) gNil))))) (te := tOp rAS (tOp rAS (tOp rAS (tOp rAS (tC (.str "word ")) (tVar 3)) (tC (.str " "))) (tVar 4)) (tOp (rIxL K) (tLst (tCons (tC (.str "")) (tCons (tC (.str " laden")) tNil))) (tCB rI1 (tCons (tVar 5) tNil)))) (tt := tYes) rfl sc_text.nd rfl rfl (sw_true rfl rfl rfl (by decide +kernel)) (pi_list (pv 0)) (blkOk_by (own := [("_law_near", 3), ("_law_far", 4), ("_law_laden", 5)]) (N := ["_law_pairs_here", "_law_helpers_here", "_law_sheet", "_law_near", "_law_far", "_law_laden", "_law_helper"]) (sc := defScope s_text) (by decide +kernel)) (fun _ _ _ _ _ => by exact pg_tup rfl (pgs_cons (pg_name (i := 3) sc_text.nd rfl (Or.inl rfl)) (pgs_cons (pg_name (i := 4) sc_text.nd rfl (Or.inl rfl)) (pgs_cons (pg_name (i := 5) sc_text.nd rfl (Or.inl rfl)) pgs_nil)))) (fun _ _ _ _ _ => pts_nil) (fun _ _ _ _ _ => by exact (pe_op op_add_str (pe_op op_add_str (pe_op op_add_str (pe_op op_add_str pe_str (pv 3)) pe_str) (pv 4)) (pe_ix ix_list (pe_lst (pa_cons pe_str (pa_cons pe_str pa_nil))) (pe_callTy call_int1 (by rfl) T.z_int (by decide +kernel) (pa_cons (pv 5) pa_nil)) (fun _ _ => rfl)))))
      (pss_one (ps_ret (pe_join pe_str (pe_op op_cat (pv 2) (pe_lc (own := [("_law_helper", 6)]) (g := gName 6) (tt := tYes) rfl sc_text.nd (pi_list (pv 1)) (blkOk_by (own := [("_law_helper", 6)]) (N := ["_law_pairs_here", "_law_helpers_here", "_law_sheet", "_law_near", "_law_far", "_law_laden", "_law_helper"]) (sc := defScope s_text) (by decide +kernel)) (fun _ _ _ _ _ => pg_name (i := 6) sc_text.nd rfl (Or.inl rfl)) (fun _ _ _ _ _ => pts_nil) (fun _ _ _ _ _ => by exact (pe_call (ok_line T) (hr.mono (by decide)) rfl T.g_line T.k_line T.B_line .nil pass0 (pa_cons (pv 6) pa_nil))))))))), ?_⟩
    refine ⟨_, rfl, L, rfl, ⟨_, SqL.of hL⟩, fun D hD => ?_⟩
    refine lc_list (K := K) (a := L) (xs := as.map V.ref) (fun i H1 => Blk (Same H H1 ∧ H1 D = some (.lst (((ps.take i).map fun q => lineOf (pairWords q)).map V.str)))) (Blk.of ⟨(Same.refl H).upd hD, upd_same⟩) (fun i H1 _ hB => ?_) ?_ ?_
    · obtain ⟨s1, _⟩ := hB.out
      exact SqL.of (s1 _ _ hL)
    · intro i y H1 hy hB
      obtain ⟨s1, h1⟩ := hB.out
      obtain ⟨h, hh, rfl⟩ := refs_get hy
      obtain ⟨q, hq, hq2⟩ := ob.get hh
      have nm := pok.nm q (List.mem_of_getElem? hq)
      have n1 := name_len nm.1
      have n2 := name_len nm.2
      have hi := get_lt hq
      refine ⟨h, _, rfl, SqT.of (s1 _ _ hq2), rfl, _, _, rfl, _, _, rfl, _, _, rfl, rfl, ?_⟩
      refine ⟨rfl, ?_⟩
      dsimp only [tYes]
      refine iteT ?_
      refine ⟨_, rfl, _, _, rfl, rfl, by omega, ?_⟩
      refine ⟨_, _, rfl, rfl, by rw [strLen_append]; omega, ?_⟩
      refine ⟨_, rfl, _, _, rfl, rfl, by rw [strLen_append, strLen_append]; omega, ?_⟩
      refine ⟨by show 2 ≤ sizeLine; decide, fun P2 hP2 => ?_⟩
      have s2 : Same H1 (upd H1 P2 (.lst [.str "", .str " laden"])) := (Same.refl H1).upd hP2
      have t2 : (upd H1 P2 (.lst [.str "", .str " laden"])) P2 = some (.lst [.str "", .str " laden"]) := upd_same
      generalize (upd H1 P2 (.lst [.str "", .str " laden"])) = H2 at s2 t2 ⊢
      refine ⟨_, rfl, .inr ⟨_, rfl, ?_⟩⟩
      have ix : atI [V.str "", V.str " laden"] (if q.2.2 = true then 1 else 0) = some (.str (if q.2.2 = true then (" laden" : Str) else "")) := by cases q.2.2 <;> rfl
      refine ⟨_, _, _, _, rfl, rfl, SqL.of t2, ix, ?_⟩
      refine ⟨_, _, rfl, rfl, by
        rw [strLen_append, strLen_append, strLen_append]
        have : (if q.2.2 = true then (" laden" : Str) else "").length ≤ 6 := by split <;> omega
        omega, ?_⟩
      refine ⟨_, s2 _ _ h1, by rw [List.length_map, List.length_map, List.length_take]; exact small (by omega), Blk.of ⟨(s1.trans s2).upd hD, ?_⟩⟩
      rw [upd_same, take_snoc hq, List.map_append, List.map_append, pair_text]
      rfl
    · intro H1 hB
      obtain ⟨s1, h1⟩ := hB.out
      have e1 : ps.take (as.map V.ref).length = ps := by rw [List.length_map, pol, List.take_length]
      rw [e1] at h1
      have cr1 := Crew.same cr s1
      refine ⟨⟨_, rfl⟩, ?_⟩
      refine ⟨_, rfl, _, rfl, Lh, rfl, ⟨_, SqL.of (s1 _ _ hLh)⟩, fun G hG => ?_⟩
      have nDG : D ≠ G := ne_of_none h1 hG
      refine lc_list (K := K) (a := Lh) (xs := has.map V.ref) (fun k H3 => Blk (Same H1 H3 ∧ H3 G = some (.lst (((hs.take k).map fun x => lineOf (helpWords x)).map V.str)))) (Blk.of ⟨(Same.refl H1).upd hG, upd_same⟩) (fun k H3 _ hB => ?_) ?_ ?_
      · obtain ⟨s3, _⟩ := hB.out
        exact SqL.of (s3 _ _ (s1 _ _ hLh))
      · intro k y H3 hy hB
        obtain ⟨s3, h3⟩ := hB.out
        obtain ⟨h, hh, rfl⟩ := refs_get hy
        obtain ⟨x, hx, hx2⟩ := AllAt.get (Crew.same cr1 s3) hh
        have hk := get_lt hx
        have xm := List.mem_of_getElem? hx
        refine ⟨rfl, ?_⟩
        dsimp only [tYes]
        refine iteT ?_
        refine ⟨_, rfl, h, x, rfl, hx2, hrS_of pok cok xm, (pactB_out (cok.one x xm).1).2.1, fun H4 s4 => ?_⟩
        refine ⟨_, s4 _ _ h3, by rw [List.length_map, List.length_map, List.length_take]; exact small (by omega), Blk.of ⟨(s3.trans s4).upd hG, ?_⟩⟩
        rw [upd_same, take_snoc hx, List.map_append, List.map_append]
        rfl
      · intro H3 hB
        obtain ⟨s3, h3⟩ := hB.out
        have e2 : hs.take (has.map V.ref).length = hs := by rw [List.length_map, crl, List.take_length]
        rw [e2] at h3
        have er : (rowsWords ps hs).map lineOf = (ps.map fun q => lineOf (pairWords q)) ++ hs.map fun x => lineOf (helpWords x) := by
          unfold rowsWords
          rw [List.map_append, List.map_map, List.map_map]
          rfl
        have ew : ((ps.map fun q => lineOf (pairWords q)).map V.str) ++ ((hs.map fun x => lineOf (helpWords x)).map V.str) = ((rowsWords ps hs).map lineOf).map V.str := by rw [er, List.map_append]
        have lw : ((rowsWords ps hs).map lineOf).length ≤ 14 := by
          rw [er, List.length_append, List.length_map, List.length_map]
          omega
        have sm := sum_le (ys := (rowsWords ps hs).map lineOf) (n := 1000) fun y hy => by
          rw [er] at hy
          rcases List.mem_append.mp hy with hy | hy
          · obtain ⟨q, hq, rfl⟩ := List.mem_map.mp hy
            have nm := pok.nm q hq
            exact pairW_le (name_len nm.1) (name_len nm.2)
          · obtain ⟨x, hx, rfl⟩ := List.mem_map.mp hy
            have sdx := (pactB_out (cok.one x hx).1).2.1
            rw [← helperLine_words sdx]
            exact helperLine_len (hrS_of pok cok hx) sdx
        have lD : ((ps.map fun q => lineOf (pairWords q)).map V.str).length ≤ 6 := by rw [List.length_map, List.length_map]; exact many
        have lG : ((hs.map fun x => lineOf (helpWords x)).map V.str).length ≤ 8 := by rw [List.length_map, List.length_map]; exact hmany
        refine ⟨D, G, _, _, rfl, rfl, s3 _ _ h1, h3, by omega, fun W hW => ?_⟩
        refine ⟨_, W, (rowsWords ps hs).map lineOf, rfl, rfl, .inl (SqL.of (upd_same.trans (congrArg (fun z => some (HO.lst z)) ew))), ?_, ?_⟩
        · have : ("\n" : Str).length = 1 := by decide +kernel
          rw [this]
          omega
        · have ep : PySem.Txt.join "\n" ((rowsWords ps hs).map lineOf) = pageOf ps hs := by rw [brk_eq]; rfl
          rw [ep]
          exact kk _ ((s1.trans s3).upd ((s1.trans s3).free hW))

open My (Hr)
/-! ### a row changed -/
def tot (xs : List Str) : Nat := (xs.map (·.length)).sum + xs.length
theorem tot_cons (x : Str) (xs : List Str) : tot (x :: xs) = x.length + 1 + tot xs := by
  unfold tot
  rw [List.map_cons, List.sum_cons, List.length_cons]
  omega
theorem tot_append (xs ys : List Str) : tot (xs ++ ys) = tot xs + tot ys := by
  unfold tot
  rw [List.map_append, List.sum_append, List.length_append]
  omega
theorem tot_mem {xs : List Str} {x : Str} (h : x ∈ xs) : x.length + 1 ≤ tot xs := by
  induction xs with
  | nil => cases h
  | cons y r ih =>
    rw [tot_cons]
    rcases List.mem_cons.mp h with rfl | q
    · omega
    · have := ih q
      omega
theorem tot_erase (xs : List Str) (k : Nat) : tot (xs.eraseIdx k) ≤ tot xs := by
  induction xs generalizing k with
  | nil => simp
  | cons x r ih =>
    cases k with
    | zero => rw [List.eraseIdx_cons_zero, tot_cons]; omega
    | succ k => rw [List.eraseIdx_cons_succ, tot_cons, tot_cons]; have := ih k; omega
theorem tot_perm {xs ys : List Str} (h : xs.Perm ys) : tot xs = tot ys := by
  unfold tot
  rw [(h.map (·.length)).sum_nat, h.length_eq]
/-- a row changed once -/
structure Chg (xs ys : List Str) : Prop where
  mem : ∀ y, y ∈ ys → y ∈ xs
  big : tot ys ≤ 2 * tot xs
theorem tot_set {v : Str} : ∀ {xs : List Str} {k : Nat} {o : Str}, xs[k]? = some o → tot (xs.set k v) + o.length = tot xs + v.length
  | [], _, _, h => by simp at h
  | x :: r, 0, o, h => by
    simp at h
    subst h
    rw [List.set_cons_zero, tot_cons, tot_cons]
    omega
  | x :: r, k + 1, o, h => by
    have := tot_set (v := v) (xs := r) (k := k) (o := o) (by simpa using h)
    rw [List.set_cons_succ, tot_cons, tot_cons]
    omega
theorem ixN_nat {n k : Nat} (h : k < n) : ixN n (k : Int) = some k := by
  unfold ixN
  rw [if_pos (by omega), if_pos (by omega), Int.toNat_natCast]
theorem er_map : ∀ (xs : List Str) (k : Nat), (xs.map V.str).eraseIdx k = (xs.eraseIdx k).map V.str
  | [], _ => by simp
  | x :: r, 0 => by simp
  | x :: r, k + 1 => by simp [er_map r k]
theorem iteI {k n : Int} {A B : Prop} (h1 : k = n → A) (h2 : k ≠ n → B) : if decide (V.int k = V.int n) = true then A else B := iteD (fun h => h1 (by injection h)) (fun h => h2 (fun e => h (by rw [e])))
theorem get_map_str {xs : List Str} {i : Nat} (h : i < xs.length) : (xs.map V.str)[i]? = some (V.str xs[i]) := by rw [List.getElem?_map, List.getElem?_eq_getElem h]; rfl
def sp_row : Sp := fun vs H Q _ => ∃ (b g l R : Addr) (n : Int) (xs : List Str), vs = [.ref b, .ref R] ∧ BoxAt H b g l n ∧ 0 ≤ n ∧ n < 8000000 ∧ H R = some (.lst (xs.map V.str)) ∧ xs ≠ [] ∧ xs.length ≤ 20000 ∧ R ∉ [b, g] ∧
  ∀ (r : Addr) (ys : List Str) (n' : Int) (H' : Hp), H r = none → H' r = some (.lst (ys.map V.str)) → Chg xs ys → n ≤ n' → n' ≤ n + 3 → BoxAt H' b g l n' → Keeps [b, g] H H' → Q (.ref r) H'
theorem ok_row_changed (T : Txt K mg a) : FnOk P w K mg base CX0 3 a.f_row_changed a.d_row_changed ["_law_box_here", "_law_row"] sp_row := by
  refine T.F_row_changed.ok sc_row_changed (fun vs H Q E h => ?_) (fun cdv A outer s H vs Q E hr h => ?_)
  · obtain ⟨b, g, l, R, n, xs, rfl, _⟩ := h
    rfl
  · obtain ⟨b, g, l, R, n, xs, rfl, bx, n0, n1, hR, ne, hl, oR, kk⟩ := h
    have hpos : 0 < xs.length := List.length_pos_iff.mpr ne
    have hlog : ((xs.map V.str).length : Int).natAbs.log2 < 9000 := by
      rw [List.length_map]
      have h0 : ((xs.length : Nat) : Int).natAbs = xs.length := Int.natAbs_natCast _
      rw [h0]
      have : xs.length.log2 < 15 := (Nat.log2_lt (by omega)).mpr (by omega)
      omega
    refine ⟨_, (pss_cons (ps_set (i := 2) sc_row_changed.nd rfl (Or.inl rfl) (pe_call (ok_take T) (hr.mono (by decide)) rfl T.g_take T.k_take T.B_take .nil pass0 (pa_cons (pv 0) (pa_cons pe_int pa_nil))))
      (pss_cons (ps_set (i := 3) sc_row_changed.nd rfl (Or.inl rfl) (pe_call (ok_take T) (hr.mono (by decide)) rfl T.g_take T.k_take T.B_take .nil pass0 (pa_cons (pv 0) (pa_cons (pe_callB call_len_seq (by rfl) T.z_len (by decide +kernel) (pa_cons (pv 1) pa_nil)) pa_nil))))
      (pss_cons (ps_set (i := 4) sc_row_changed.nd rfl (Or.inl rfl) (pe_call (ok_take T) (hr.mono (by decide)) rfl T.g_take T.k_take T.B_take .nil pass0 (pa_cons (pv 0) (pa_cons (pe_callB call_len_seq (by rfl) T.z_len (by decide +kernel) (pa_cons (pv 1) pa_nil)) pa_nil))))
      (pss_cons (ps_set (i := 1) sc_row_changed.nd rfl (Or.inl rfl) (pe_callTy call_list_of (by rfl) T.z_list (by decide +kernel) (pa_cons (pv 1) pa_nil)))
      (C8.pss_cut (ps_if (pt_cmpR op_eq (pv 2) pe_int (nomark _)) (pss_one (ps_expr (pe_bm PySem.F.plainAttrs_list PySem.F.slot_list_pop PySem.F.type_list_pop mt_popAt (pv 1) (pa_cons (pv 3) pa_nil)))) pss_nil)
      (C8.pss_cut (ps_if (pt_cmpR op_eq (pv 2) pe_int (nomark _)) (pss_one (ps_expr (pe_bm PySem.F.plainAttrs_list PySem.F.slot_list_insert PySem.F.type_list_insert mt_insert (pv 1) (pa_cons (pv 4) (pa_cons (pe_ix ix_list (pv 1) (pv 3) (fun _ _ => rfl)) pa_nil))))) pss_nil)
      (C8.pss_cut (ps_if (pt_cmpR op_eq (pv 2) pe_int (nomark _)) (pss_one (ps_asg (pe_tup (pa_cons (pe_ix ix_list (pv 1) (pv 4) (fun _ _ => rfl)) (pa_cons (pe_ix ix_list (pv 1) (pv 3) (fun _ _ => rfl)) pa_nil))) (pg_tup (by rfl) (pgs_cons (pg_sub (pv 1) (pv 3) set_list) (pgs_cons (pg_sub (pv 1) (pv 4) set_list) pgs_nil))))) pss_nil)
      (pss_one (ps_ret (pv 1)))))))))), ?_⟩
    refine ⟨_, rfl, b, g, l, n, 3, rfl, bx, n0, by omega, by decide, by decide, fun wy H1 y0 y1 bx1 kp1 => ?_⟩
    have hR1 := kp1 _ _ hR oR
    refine ⟨_, rfl, _, rfl, _, _, rfl, .inl (SqL.of hR1), b, g, l, n + 1, _, rfl, bx1, by omega, by omega, by rw [List.length_map]; omega, hlog, fun at_ H2 a0 a1 bx2 kp2 => ?_⟩
    have hR2 := kp2 _ _ hR1 oR
    refine ⟨_, rfl, _, rfl, _, _, rfl, .inl (SqL.of hR2), b, g, l, n + 1 + 1, _, rfl, bx2, by omega, by omega, by rw [List.length_map]; omega, hlog, fun to_ H3 t0 t1 bx3 kp3 => ?_⟩
    have hR3 := kp3 _ _ hR2 oR
    rw [List.length_map] at a1 t1
    refine ⟨_, rfl, R, _, rfl, .inl (SqL.of hR3), fun C hC => ?_⟩
    have sC : Same H3 (upd H3 C (.lst (xs.map V.str))) := (Same.refl H3).upd hC
    have hC4 : (upd H3 C (.lst (xs.map V.str))) C = some (.lst (xs.map V.str)) := upd_same
    have bx4 := bx3.same sC
    have fC : H C = none := by
      cases h : H C with
      | none => rfl
      | some o =>
        by_cases q : C ∈ [b, g]
        · exact absurd q (offbox bx3 hC)
        · rw [kp3 _ _ (kp2 _ _ (kp1 _ _ h q) q) q] at hC
          cases hC
    have k4 : Keeps [b, g] H (upd H3 C (.lst (xs.map V.str))) := ((kp1.trans kp2).trans kp3).upd (.inr fC)
    have oC := offbox3 bx3 hC
    show gName 1 (.ref C) _ (upd H3 C (.lst (xs.map V.str))) _
    generalize (upd H3 C (.lst (xs.map V.str))) = H4 at sC hC4 bx4 k4 ⊢
    have fin : ∀ (ys : List Str), Chg xs ys → BoxAt (upd H4 C (.lst (ys.map V.str))) b g l (n + 1 + 1 + 1) ∧ Keeps [b, g] H (upd H4 C (.lst (ys.map V.str))) := fun ys _ => ⟨box_put bx4 oC, k4.upd (.inr fC)⟩
    obtain ⟨ka, rfl⟩ : ∃ k : Nat, at_ = (k : Int) := ⟨at_.toNat, by omega⟩
    obtain ⟨kt, rfl⟩ : ∃ k : Nat, to_ = (k : Int) := ⟨to_.toNat, by omega⟩
    have hA : ka < xs.length := by omega
    have hT : kt < xs.length := by omega
    obtain ⟨sa, hsa⟩ : ∃ t, xs[ka]? = some t := ⟨_, List.getElem?_eq_getElem hA⟩
    obtain ⟨st, hst⟩ : ∃ t, xs[kt]? = some t := ⟨_, List.getElem?_eq_getElem hT⟩
    have mA := List.mem_of_getElem? hsa
    have mT := List.mem_of_getElem? hst
    have ixA := str_ix hsa
    have ixT := str_ix hst
    refine ⟨fun σ H5 => Blk (∃ ys : List Str, σ = [some (.ref b), some (.ref C), some (.int wy), some (.int (ka : Int)), some (.int (kt : Int))] ∧ H5 C = some (.lst (ys.map V.str)) ∧ BoxAt H5 b g l (n + 1 + 1 + 1) ∧ Keeps [b, g] H H5 ∧ ((wy = 0 ∧ Chg xs ys) ∨ (wy ≠ 0 ∧ ys = xs))), ?_, ?_⟩
    · refine ⟨_, rfl, rfl, ?_⟩
      refine ⟨_, rfl, ?_⟩
      refine iteI (fun hw => ?_) (fun hw => Blk.of ⟨xs, rfl, hC4, bx4, k4, .inr ⟨hw, rfl⟩⟩)
      refine ⟨_, rfl, .inl ⟨rfl, _, SqL.of hC4⟩, _, rfl, C, _, (ka : Int), ka, .str sa, rfl, rfl, hC4, by omega, by omega, seqIndex_of (by omega) (by rw [List.length_map]; omega), by rw [List.getElem?_map, hsa]; rfl, ?_⟩
      have ee : (xs.map V.str).eraseIdx ka = (xs.eraseIdx ka).map V.str := er_map xs ka
      rw [ee]
      have ch : Chg xs (xs.eraseIdx ka) := ⟨fun y hy => List.mem_of_mem_eraseIdx hy, by have := tot_erase xs ka; omega⟩
      obtain ⟨f1, f2⟩ := fin _ ch
      exact Blk.of ⟨_, rfl, upd_same, f1, f2, .inl ⟨hw, ch⟩⟩
    rintro σ H5 hB
    obtain ⟨ys, rfl, hC5, bx5, k5, hy5⟩ := hB.out
    refine ⟨fun σ H5 => Blk (∃ ys : List Str, σ = [some (.ref b), some (.ref C), some (.int wy), some (.int (ka : Int)), some (.int (kt : Int))] ∧ H5 C = some (.lst (ys.map V.str)) ∧ BoxAt H5 b g l (n + 1 + 1 + 1) ∧ Keeps [b, g] H H5 ∧ ((wy ≠ 2 ∧ Chg xs ys) ∨ (wy = 2 ∧ ys = xs))), ?_, ?_⟩
    · refine ⟨_, rfl, rfl, ?_⟩
      refine ⟨_, rfl, ?_⟩
      refine iteI (fun hw => ?_) (fun hw => ?_)
      · obtain ⟨_, rfl⟩ : wy ≠ 0 ∧ ys = xs := by
          rcases hy5 with ⟨h, _⟩ | h
          · exact absurd h (by omega)
          · exact h
        refine ⟨_, rfl, .inl ⟨rfl, _, SqL.of hC5⟩, _, rfl, _, rfl, _, rfl, _, _, _, _, rfl, rfl, SqL.of hC5, ixA, ?_⟩
        refine ⟨C, _, (kt : Int), _, rfl, rfl, hC5, by rw [List.length_map]; exact small (by omega), by omega, by omega, ?_⟩
        have ee : (ys.map V.str).take (kt : Int).toNat ++ [V.str sa] ++ (ys.map V.str).drop (kt : Int).toNat = (ys.take kt ++ [sa] ++ ys.drop kt).map V.str := by
          rw [Int.toNat_natCast, List.map_append, List.map_append, List.map_take, List.map_drop]
          rfl
        rw [ee]
        have ch : Chg ys (ys.take kt ++ [sa] ++ ys.drop kt) := ⟨fun y hy => by
          rcases List.mem_append.mp hy with q | q
          · rcases List.mem_append.mp q with q | q
            · exact List.mem_of_mem_take q
            · simp at q; rw [q]; exact mA
          · exact List.mem_of_mem_drop q, by
          have h1 := tot_mem mA
          have h2 : tot ys = tot (ys.take kt) + tot (ys.drop kt) := by rw [← tot_append, List.take_append_drop]
          rw [tot_append, tot_append, tot_cons]
          have h3 : tot [] = 0 := rfl
          omega⟩
        refine Blk.of ⟨_, rfl, upd_same, box_put bx5 oC, k5.upd (.inr fC), .inl ⟨by omega, ch⟩⟩
      · refine Blk.of ⟨ys, rfl, hC5, bx5, k5, ?_⟩
        rcases hy5 with ⟨h, c⟩ | ⟨h, c⟩
        · exact .inl ⟨by omega, c⟩
        · exact .inr ⟨by omega, c⟩
    rintro σ H6 hB
    obtain ⟨ys, rfl, hC6, bx6, k6, hy6⟩ := hB.out
    refine ⟨fun σ H5 => Blk (∃ ys : List Str, σ = [some (.ref b), some (.ref C), some (.int wy), some (.int (ka : Int)), some (.int (kt : Int))] ∧ H5 C = some (.lst (ys.map V.str)) ∧ BoxAt H5 b g l (n + 1 + 1 + 1) ∧ Keeps [b, g] H H5 ∧ Chg xs ys), ?_, ?_⟩
    · refine ⟨_, rfl, rfl, ?_⟩
      refine ⟨_, rfl, ?_⟩
      refine iteI (fun hw => ?_) (fun hw => ?_)
      · obtain ⟨_, rfl⟩ : wy = 2 ∧ ys = xs := by
          rcases hy6 with ⟨h, _⟩ | h
          · exact absurd hw h
          · exact h
        refine ⟨_, rfl, _, rfl, _, _, _, _, rfl, rfl, SqL.of hC6, ixT, ?_⟩
        refine ⟨_, rfl, _, rfl, _, _, _, _, rfl, rfl, SqL.of hC6, ixA, ?_⟩
        refine ⟨by show 2 ≤ sizeLine; decide, fun p hp => ?_⟩
        have sp : Same H6 (upd H6 p (.tup [.str st, .str sa])) := (Same.refl H6).upd hp
        have hp7 : (upd H6 p (.tup [.str st, .str sa])) p = some (.tup [.str st, .str sa]) := upd_same
        generalize (upd H6 p (.tup [.str st, .str sa])) = H7 at sp hp7 ⊢
        refine ⟨p, _, rfl, SqT.of hp7, rfl, _, _, rfl, ?_⟩
        refine ⟨_, rfl, _, rfl, C, _, (ka : Int), ka, rfl, rfl, sp _ _ hC6, ixN_nat (by rw [List.length_map]; exact hA), ?_⟩
        refine ⟨_, _, rfl, ?_⟩
        refine ⟨_, rfl, _, rfl, C, _, (kt : Int), kt, rfl, rfl, upd_same, ixN_nat (by rw [List.length_set, List.length_map]; exact hT), ?_⟩
        refine ⟨rfl, ?_⟩
        rw [upd_upd]
        have ee : ((ys.map V.str).set ka (.str st)).set kt (.str sa) = ((ys.set ka st).set kt sa).map V.str := by rw [List.map_set, List.map_set]
        rw [ee]
        have g2 : (ys.set ka st)[kt]? = some st := by
          by_cases q : ka = kt
          · subst q
            rw [List.getElem?_set_self hA]
          · rw [List.getElem?_set_ne q]
            exact hst
        have t1 := tot_set (v := st) hsa
        have t2 := tot_set (v := sa) g2
        have ch : Chg ys ((ys.set ka st).set kt sa) := ⟨fun y hy => by
          rcases List.mem_or_eq_of_mem_set hy with q | q
          · rcases List.mem_or_eq_of_mem_set q with q | q
            · exact q
            · rw [q]; exact mT
          · rw [q]; exact mA, by omega⟩
        exact Blk.of ⟨_, rfl, upd_same, box_put (bx6.same sp) oC, (k6.trans fun c o z _ => sp c o z).upd (.inr fC), ch⟩
      · refine Blk.of ⟨ys, rfl, hC6, bx6, k6, ?_⟩
        rcases hy6 with ⟨h, c⟩ | ⟨h, c⟩
        · exact c
        · exact absurd h hw
    · rintro σ H7 hB
      obtain ⟨ys, rfl, hC7, bx7, k7, ch⟩ := hB.out
      exact ⟨_, rfl, kk C ys _ _ fC hC7 ch (by omega) (by omega) bx7 k7⟩

open My (Hr glue cut)
/-! ### a page changed -/
theorem glue_tot (c : Nat) (xs : List Str) : (glue c xs).length ≤ tot xs := by
  have h := join_le ⟨#[c]⟩ xs
  have h3 : (⟨#[c]⟩ : Str).length = 1 := rfl
  rw [h3] at h
  show (PySem.Txt.join ⟨#[c]⟩ xs).length ≤ tot xs
  unfold tot
  omega
theorem nlog {n : Nat} (h : n ≤ 30000) : ((n : Nat) : Int).natAbs.log2 < 9000 := by
  rw [Int.natAbs_natCast]
  by_cases h0 : n = 0
  · subst h0; decide
  · have : n.log2 < 15 := (Nat.log2_lt h0).mpr (by omega)
    omega
theorem cut_tot {c : Nat} (hc : c < 256) (x : Str) : tot (cut c x) = x.length + 1 := My.cut_sum hc x
theorem glue_ch {c : Nat} (hc : c < 1114112) : ∀ {xs : List Str}, (∀ x, x ∈ xs → chOk x) → chOk (glue c xs)
  | [], _ => fun d hd => by
    have : (glue c []).cps.toList = [] := by
      have := My.glue_eq c []
      rw [List.map_nil] at this
      rw [this]
      rfl
    rw [this] at hd
    cases hd
  | [x], h => by rw [glue_one]; exact h x List.mem_cons_self
  | x :: y :: r, h => fun d hd => by
    rw [glue_two] at hd
    rcases List.mem_append.mp hd with q | q
    · exact h x List.mem_cons_self d q
    · rcases List.mem_cons.mp q with rfl | q
      · exact hc
      · exact glue_ch hc (xs := y :: r) (fun z hz => h z (List.mem_cons_of_mem _ hz)) d q
theorem cut_ch {c : Nat} (hc : c < 256) {x : Str} (h : chOk x) : ∀ p, p ∈ cut c x → chOk p := fun p hp d hd => h d ((My.cut_mem hc hp).2 d hd)
def oddW (nm : Str) : List Str := ["word", "helper", "lent", "given", "gives", "throws", "laden", "0", "1", "2", "", nm]
theorem name_ch {s : Str} (h : My.nameB s = true) : chOk s := fun d hd => by
  have h4 := (List.all_eq_true.mp (nameB_out h).2.2) d hd
  unfold My.letter at h4
  simp only [Bool.and_eq_true, decide_eq_true_eq] at h4
  omega
theorem odd_ok {nm : Str} (h : My.nameB nm = true) : ∀ w, w ∈ oddW nm → w.length ≤ 8 ∧ chOk w := fun w hw => by
  have k : ∀ w, w ∈ (["word", "helper", "lent", "given", "gives", "throws", "laden", "0", "1", "2", ""] : List Str) → w.length ≤ 8 ∧ ∀ d, d ∈ w.cps.toList → d < 1114112 := by decide +kernel
  have e : oddW nm = (["word", "helper", "lent", "given", "gives", "throws", "laden", "0", "1", "2", ""] : List Str) ++ [nm] := rfl
  rw [e] at hw
  rcases List.mem_append.mp hw with q | q
  · exact k w q
  · simp at q
    rw [q]
    exact ⟨name_len h, name_ch h⟩
theorem cutS_len (z : Str) (lo hi : Option Int) : (cutS z lo hi).length ≤ z.length := by
  unfold cutS
  show ((z.cps.toList.drop _).take _).toArray.size ≤ _
  rw [List.size_toArray, List.length_take, List.length_drop]
  have : z.cps.toList.length = z.length := Array.length_toList
  omega
theorem cutS_ch {z : Str} {lo hi : Option Int} (h : chOk z) : chOk (cutS z lo hi) := fun d hd => by
  unfold cutS at hd
  exact h d (List.mem_of_mem_drop (List.mem_of_mem_take (by simpa using hd)))
def SgC : Str := " \n01abcdefghijklmnopqrstuvwxyzAZ-:"
theorem sgC_line : SgC.length ≤ sizeLine := by decide +kernel
theorem sgC_len : SgC.length = 34 := by decide +kernel
theorem sgC_ix {k : Int} (h0 : 0 ≤ k) (h1 : k < 34) : ∃ c, atI SgC.cps.toList k = some c ∧ c < 1114112 := by
  obtain ⟨j, rfl⟩ : ∃ j : Nat, k = j := ⟨k.toNat, by omega⟩
  have hl : j < SgC.cps.toList.length := by
    rw [show SgC.cps.toList.length = 34 by decide +kernel]
    omega
  refine ⟨_, atI_nat (List.getElem?_eq_getElem hl), ?_⟩
  have hall : ∀ c ∈ SgC.cps.toList, c < 1114112 := by decide +kernel
  exact hall _ (List.getElem_mem hl)
def sp_changed : Sp := fun vs H Q _ => ∃ (b g l : Addr) (n : Int) (page : Str), vs = [.ref b, .str page] ∧ BoxAt H b g l n ∧ 0 ≤ n ∧ n < 7900000 ∧ page.length ≤ 9990 ∧ chOk page ∧
  ∀ (p2 : Str) (n' : Int) (H' : Hp), p2.length ≤ 2 * page.length + 20 → chOk p2 → n ≤ n' → n' ≤ n + 30 → BoxAt H' b g l n' → Keeps [b, g] H H' → Q (.str p2) H'
theorem ok_changed (T : Txt K mg a) : FnOk P w K mg base CX0 4 a.f_changed a.d_changed ["_law_box_here", "_law_page"] sp_changed := by
  refine T.F_changed.ok sc_changed (fun vs H Q E h => ?_) (fun cdv A outer s H vs Q E hr h => ?_)
  · obtain ⟨b, g, l, n, page, rfl, _⟩ := h
    rfl
  · obtain ⟨b, g, l, n, page, rfl, bx, n0, n1, hl, hch, kk⟩ := h
    have zl := sizeLine_eq
    refine ⟨_, (pss_cons (ps_set (i := 2) sc_changed.nd rfl (Or.inl rfl) (pe_call (ok_take T) (hr.mono (by decide)) rfl T.g_take T.k_take T.B_take .nil pass0 (pa_cons (pv 0) (pa_cons pe_int pa_nil))))
      (pss_cons (ps_set (i := 3) sc_changed.nd rfl (Or.inl rfl) (pe_split (pv 1) pe_str))
      (pss_cons (ps_set (i := 4) sc_changed.nd rfl (Or.inl rfl) (pe_call (ok_take T) (hr.mono (by decide)) rfl T.g_take T.k_take T.B_take .nil pass0 (pa_cons (pv 0) (pa_cons (pe_callB call_len_seq (by rfl) T.z_len (by decide +kernel) (pa_cons (pv 3) pa_nil)) pa_nil))))
      (pss_cons (ps_set (i := 5) sc_changed.nd rfl (Or.inl rfl) (pe_call (ok_take T) (hr.mono (by decide)) rfl T.g_take T.k_take T.B_take .nil pass0 (pa_cons (pv 0) (pa_cons (pe_op op_add (pe_callB call_len_str (by rfl) T.z_len (by decide +kernel) (pa_cons (pv 1) pa_nil)) pe_int) pa_nil))))
      (C8.pss_cut (ps_if (pt_cmpR op_eq (pv 2) pe_int (nomark _)) (pss_one (ps_asg (pe_join pe_str (pe_call (ok_row_changed T) (hr.mono (by decide)) rfl T.g_row_changed T.k_row_changed T.B_row_changed .nil pass0 (pa_cons (pv 0) (pa_cons (pe_split (pe_ix ix_list (pv 3) (pv 4) (fun _ _ => rfl)) pe_str) pa_nil)))) (pg_sub (pv 3) (pv 4) set_list))) pss_nil)
      (pss_cons (ps_if (pt_cmpR op_eq (pv 2) pe_int (nomark _)) (pss_one (ps_ret (pe_join pe_str (pe_call (ok_row_changed T) (hr.mono (by decide)) rfl T.g_row_changed T.k_row_changed T.B_row_changed .nil pass0 (pa_cons (pv 0) (pa_cons (pv 3) pa_nil)))))) pss_nil)
      (C8.pss_cut (ps_if (pt_cmpR op_eq (pv 2) pe_int (nomark _)) (pss_cons (ps_set (i := 6) sc_changed.nd rfl (Or.inl rfl) (pe_split (pe_ix ix_list (pv 3) (pv 4) (fun _ _ => rfl)) pe_str))
      (pss_cons (ps_set (i := 7) sc_changed.nd rfl (Or.inl rfl) (pe_lst (pa_cons pe_str (pa_cons pe_str (pa_cons pe_str (pa_cons pe_str (pa_cons pe_str (pa_cons pe_str (pa_cons pe_str (pa_cons pe_str (pa_cons pe_str (pa_cons pe_str (pa_cons pe_str (pa_cons (pe_call (ok_name T) (hr.mono (by decide)) rfl T.g_name T.k_name T.B_name .nil pass0 (pa_cons (pv 0) pa_nil)) pa_nil))))))))))))))
      (pss_cons (ps_expr (pe_bm PySem.F.plainAttrs_list PySem.F.slot_list_insert PySem.F.type_list_insert mt_insert (pv 6) (pa_cons (pe_call (ok_take T) (hr.mono (by decide)) rfl T.g_take T.k_take T.B_take .nil pass0 (pa_cons (pv 0) (pa_cons (pe_op op_add (pe_callB call_len_seq (by rfl) T.z_len (by decide +kernel) (pa_cons (pv 6) pa_nil)) pe_int) pa_nil))) (pa_cons (pe_ix ix_list (pv 7) (pe_call (ok_take T) (hr.mono (by decide)) rfl T.g_take T.k_take T.B_take .nil pass0 (pa_cons (pv 0) (pa_cons pe_int pa_nil))) (fun _ _ => rfl)) pa_nil))))
      (pss_one (ps_asg (pe_join pe_str (pv 6)) (pg_sub (pv 3) (pv 4) set_list)))))) pss_nil)
      (pss_cons (ps_if (pt_cmpR op_lt (pv 2) pe_int (nomark _)) (pss_one (ps_ret (pe_join pe_str (pv 3)))) pss_nil)
      (pss_cons (ps_set (i := 8) sc_changed.nd rfl (Or.inl rfl) pe_str)
      (pss_cons (ps_set (i := 9) sc_changed.nd rfl (Or.inl rfl) (pe_ix ix_str (pv 8) (pe_call (ok_take T) (hr.mono (by decide)) rfl T.g_take T.k_take T.B_take .nil pass0 (pa_cons (pv 0) (pa_cons (pe_callB call_len_str (by rfl) T.z_len (by decide +kernel) (pa_cons (pv 8) pa_nil)) pa_nil))) (fun _ _ => rfl)))
      (pss_one (ps_ret (pe_op op_add_str (pe_op op_add_str (pe_slice sl_str (pv 1) po_none (po_some (pv 5))) (pe_ix ix_list (pe_lst (pa_cons (pv 9) (pa_cons (pv 9) (pa_cons pe_str pa_nil)))) (pe_op op_sub (pv 2) pe_int) (fun _ _ => rfl))) (pe_slice sl_str (pv 1) (po_some (pe_op op_add (pv 5) (pe_ix ix_list (pe_lst (pa_cons pe_int (pa_cons pe_int (pa_cons pe_int pa_nil)))) (pe_op op_sub (pv 2) pe_int) (fun _ _ => rfl)))) po_none)))))))))))))), ?_⟩
    refine ⟨_, rfl, b, g, l, n, 6, rfl, bx, n0, by omega, by decide, by decide, fun wy H1 y0 y1 bx1 kp1 => ?_⟩
    refine ⟨_, rfl, ⟨_, rfl⟩, page, "\n", rfl, rfl, by decide +kernel, by omega, fun S hS => ?_⟩
    rw [brk_eq]
    have ct := cut_tot (c := 10) (by decide) page
    have cn := My.cut_ne (c := 10) (by decide) page
    have cc := cut_ch (c := 10) (by decide) hch
    have cm := My.cut_many (c := 10) (by decide) page
    have sS : Same H1 (upd H1 S (.lst ((cut 10 page).map V.str))) := (Same.refl H1).upd hS
    have hS2 : (upd H1 S (.lst ((cut 10 page).map V.str))) S = some (.lst ((cut 10 page).map V.str)) := upd_same
    have oS := offbox3 bx1 hS
    have oS2 := offbox bx1 hS
    have bx2 := bx1.same sS
    have fS : H S = none := (kp1.fresh hS).resolve_left oS2
    have k2 : Keeps [b, g] H (upd H1 S (.lst ((cut 10 page).map V.str))) := kp1.upd (.inr fS)
    show gName 3 (.ref S) _ (upd H1 S (.lst ((cut 10 page).map V.str))) _
    generalize (upd H1 S (.lst ((cut 10 page).map V.str))) = H2 at sS hS2 bx2 k2 ⊢
    generalize cut 10 page = ls at ct cn cc cm hS2
    have hpos : 0 < ls.length := List.length_pos_iff.mpr cn
    refine ⟨_, rfl, _, rfl, _, _, rfl, .inl (SqL.of hS2), b, g, l, n + 1, _, rfl, bx2, by omega, by omega, by rw [List.length_map]; omega, by rw [List.length_map]; exact nlog (by omega), fun at_ H3 a0 a1 bx3 kp3 => ?_⟩
    have hS3 := kp3 _ _ hS2 oS2
    refine ⟨_, rfl, _, rfl, page, rfl, by omega, ?_⟩
    refine ⟨_, _, rfl, rfl, b, g, l, n + 1 + 1, _, rfl, bx3, by omega, by omega, by omega, nlog (n := page.length + 1) (by omega), fun spot H4 sp0 sp1 bx4 kp4 => ?_⟩
    have hS4 := kp4 _ _ hS3 oS2
    have k4 : Keeps [b, g] H H4 := (k2.trans kp3).trans kp4
    rw [List.length_map] at a1
    obtain ⟨ka, rfl⟩ : ∃ k : Nat, at_ = (k : Int) := ⟨at_.toNat, by omega⟩
    have hA : ka < ls.length := by omega
    clear bx3 kp3 kp4 hS3 bx2 k2 hS2 kp1 bx1
    refine ⟨fun σ H5 => Blk (∃ (ms : List Str) (n5 : Int), σ = [some (.ref b), some (.str page), some (.int wy), some (.ref S), some (.int (ka : Int)), some (.int spot), none, none, none, none] ∧ H5 S = some (.lst (ms.map V.str)) ∧ BoxAt H5 b g l n5 ∧ Keeps [b, g] H H5 ∧ n ≤ n5 ∧ n5 ≤ n + 10 ∧ tot ms ≤ 2 * page.length + 6 ∧ (∀ x, x ∈ ms → chOk x) ∧ ms.length = ls.length ∧ (wy ≠ 0 → ms = ls)), ?_, ?_⟩
    · refine ⟨_, rfl, rfl, ?_⟩
      refine ⟨_, rfl, ?_⟩
      refine iteI (fun hw => ?_) (fun hw => Blk.of ⟨ls, n + 1 + 1 + 1, rfl, hS4, bx4, k4, by omega, by omega, by omega, cc, rfl, fun _ => rfl⟩)
      obtain ⟨line, hli⟩ : ∃ t, ls[ka]? = some t := ⟨_, List.getElem?_eq_getElem hA⟩
      have mli := List.mem_of_getElem? hli
      have lli := tot_mem mli
      refine ⟨⟨_, rfl⟩, ?_⟩
      refine ⟨_, rfl, _, rfl, _, rfl, _, _, _, _, rfl, rfl, SqL.of hS4, str_ix hli, ?_⟩
      refine ⟨⟨_, rfl⟩, line, " ", rfl, rfl, by decide +kernel, by omega, fun W hW => ?_⟩
      rw [blank_eq, show PySem.Txt.split line ⟨#[32]⟩ = cut 32 line from rfl]
      have sW : Same H4 (upd H4 W (.lst ((cut 32 line).map V.str))) := (Same.refl H4).upd hW
      have hW5 : (upd H4 W (.lst ((cut 32 line).map V.str))) W = some (.lst ((cut 32 line).map V.str)) := upd_same
      have oW := offbox bx4 hW
      generalize (upd H4 W (.lst ((cut 32 line).map V.str))) = H5 at sW hW5 ⊢
      have cw := cut_tot (c := 32) (by decide) line
      have cwm := My.cut_many (c := 32) (by decide) line
      refine ⟨b, g, l, W, n + 1 + 1 + 1, cut 32 line, rfl, bx4.same sW, by omega, by omega, hW5, My.cut_ne (by decide) line, by omega, oW, fun r ys n6 H6 hr0 hr6 ch c1 c2 bx6 kp6 => ?_⟩
      have g6 : (glue 32 ys).length ≤ 2 * (line.length + 1) := Nat.le_trans (glue_tot 32 ys) (by have := ch.big; omega)
      have cg : chOk (glue 32 ys) := glue_ch (by decide) fun x hx => cut_ch (by decide) (cc line mli) x (ch.mem x hx)
      have hS6 : H6 S = some (.lst (ls.map V.str)) := kp6 _ _ (sW _ _ hS4) oS2
      have ty : ((ys.map (·.length)).sum) + ys.length ≤ 2 * (line.length + 1) := by have := ch.big; unfold tot at this cw; omega
      refine ⟨_, r, ys, rfl, rfl, .inl (SqL.of hr6), by show _ + ys.length * 1 ≤ _; omega, ?_⟩
      have eg : PySem.Txt.join ⟨#[32]⟩ ys = glue 32 ys := rfl
      rw [eg]
      refine ⟨_, rfl, _, rfl, S, _, (ka : Int), ka, rfl, rfl, hS6, ixN_nat (by rw [List.length_map]; exact hA), ?_⟩
      have ee : (ls.map V.str).set ka (.str (glue 32 ys)) = (ls.set ka (glue 32 ys)).map V.str := by rw [List.map_set]
      rw [ee]
      have ts := tot_set (v := glue 32 ys) hli
      refine Blk.of ⟨ls.set ka (glue 32 ys), n6, rfl, upd_same, box_put bx6 oS, ((k4.trans fun c o z _ => sW c o z).trans kp6).upd (.inr fS), by omega, by omega, by omega, fun x hx => ?_, by rw [List.length_set], fun h => absurd hw h⟩
      rcases List.mem_or_eq_of_mem_set hx with q | q
      · exact cc x q
      · rw [q]; exact cg
    rintro σ H5 hB
    obtain ⟨ms, n5, rfl, hS5, bx5, k5, b1, b2, tm, cm5, lm, hms⟩ := hB.out
    refine ⟨_, rfl, rfl, ?_⟩
    refine ⟨_, rfl, ?_⟩
    have mne : ms ≠ [] := fun e => by rw [e] at lm; simp at lm; omega
    have mll : ms.length ≤ tot ms := by unfold tot; omega
    refine iteI (fun hw => ?_) (fun hw => ?_)
    · refine ⟨⟨_, rfl⟩, ?_⟩
      refine ⟨_, rfl, _, rfl, b, g, l, S, n5, ms, rfl, bx5, by omega, by omega, hS5, mne, by omega, oS2, fun r ys n6 H6 hr0 hr6 ch c1 c2 bx6 kp6 => ?_⟩
      have eqm := hms (by omega)
      have ty : ((ys.map (·.length)).sum) + ys.length ≤ 2 * (page.length + 1) := by have := ch.big; rw [eqm, ct] at this; unfold tot at this; omega
      refine ⟨_, r, ys, rfl, rfl, .inl (SqL.of hr6), by show _ + ys.length * 1 ≤ _; omega, ?_⟩
      have eg : PySem.Txt.join ⟨#[10]⟩ ys = glue 10 ys := rfl
      rw [eg]
      exact kk _ n6 H6 (Nat.le_trans (glue_tot 10 ys) (by unfold tot; omega)) (glue_ch (by decide) fun x hx => cm5 x (ch.mem x hx)) (by omega) (by omega) bx6 (k5.trans kp6)
    -- a word put in
    refine ⟨fun σ H6 => Blk (∃ (ms : List Str) (n6 : Int) (v6 v7 : Option V), σ = [some (.ref b), some (.str page), some (.int wy), some (.ref S), some (.int (ka : Int)), some (.int spot), v6, v7, none, none] ∧ H6 S = some (.lst (ms.map V.str)) ∧ BoxAt H6 b g l n6 ∧ Keeps [b, g] H H6 ∧ n ≤ n6 ∧ n6 ≤ n + 25 ∧ tot ms ≤ 2 * page.length + 20 ∧ (∀ x, x ∈ ms → chOk x)), ?_, ?_⟩
    · refine ⟨_, rfl, rfl, ?_⟩
      refine ⟨_, rfl, ?_⟩
      refine iteI (fun hw2 => ?_) (fun hw2 => Blk.of ⟨ms, n5, _, _, rfl, hS5, bx5, k5, by omega, by omega, by omega, cm5⟩)
      obtain rfl := hms (by omega)
      obtain ⟨line, hli⟩ : ∃ t, ms[ka]? = some t := ⟨_, List.getElem?_eq_getElem hA⟩
      have mli := List.mem_of_getElem? hli
      have lli := tot_mem mli
      refine ⟨_, rfl, _, rfl, _, _, _, _, rfl, rfl, SqL.of hS5, str_ix hli, ?_⟩
      refine ⟨⟨_, rfl⟩, line, ⟨#[32]⟩, rfl, by rw [blank_eq], by decide +kernel, by omega, fun W hW => ?_⟩
      rw [show PySem.Txt.split line ⟨#[32]⟩ = cut 32 line from rfl]
      have sW : Same H5 (upd H5 W (.lst ((cut 32 line).map V.str))) := (Same.refl H5).upd hW
      have hW6 : (upd H5 W (.lst ((cut 32 line).map V.str))) W = some (.lst ((cut 32 line).map V.str)) := upd_same
      have oW := offbox bx5 hW
      have oW3 := offbox3 bx5 hW
      have nSW : S ≠ W := ne_of_none hS5 hW
      have bxW := bx5.same sW
      have kW : Keeps [b, g] H (upd H5 W (.lst ((cut 32 line).map V.str))) := k5.trans fun c o z _ => sW c o z
      have hSW := sW _ _ hS5
      have cw := cut_tot (c := 32) (by decide) line
      have cwm := My.cut_many (c := 32) (by decide) line
      have ccw := cut_ch (c := 32) (by decide) (cc line mli)
      show gName 6 (.ref W) _ (upd H5 W (.lst ((cut 32 line).map V.str))) _
      generalize (upd H5 W (.lst ((cut 32 line).map V.str))) = H6 at hW6 bxW kW hSW ⊢
      generalize cut 32 line = ws at hW6 cw cwm ccw ⊢
      refine ⟨_, rfl, b, g, l, n5, rfl, bxW, by omega, by omega, fun nm n7 H7 hnm d1 d2 bx7 kp7 => ?_⟩
      have hSn := kp7 _ _ hSW oS2
      have hWn := kp7 _ _ hW6 oW
      have kn := kW.trans kp7
      refine ⟨by show 12 ≤ sizeLine; decide, fun O hO => ?_⟩
      have sO : Same H7 (upd H7 O (.lst ((oddW nm).map V.str))) := (Same.refl H7).upd hO
      have hO8 : (upd H7 O (.lst ((oddW nm).map V.str))) O = some (.lst ((oddW nm).map V.str)) := upd_same
      have oO := offbox bx7 hO
      have bx8 := bx7.same sO
      have hS8 := sO _ _ hSn
      have hW8 := sO _ _ hWn
      have k8 : Keeps [b, g] H (upd H7 O (.lst ((oddW nm).map V.str))) := kn.trans fun c o z _ => sO c o z
      show gName 7 (.ref O) _ (upd H7 O (.lst ((oddW nm).map V.str))) _
      generalize (upd H7 O (.lst ((oddW nm).map V.str))) = H8 at hO8 bx8 hS8 hW8 k8 ⊢
      refine ⟨_, rfl, .inl ⟨rfl, _, SqL.of hW8⟩, ?_⟩
      refine ⟨_, rfl, _, rfl, _, _, rfl, .inl (SqL.of hW8), _, _, rfl, rfl, b, g, l, n7, _, rfl, bx8, by omega, by omega, by rw [List.length_map]; omega, by rw [List.length_map]; exact nlog (n := ws.length + 1) (by omega), fun kw H9 e0 e1 bx9 kp9 => ?_⟩
      rw [List.length_map] at e1
      have hO9 := kp9 _ _ hO8 oO
      have hW9 := kp9 _ _ hW8 oW
      have hS9 := kp9 _ _ hS8 oS2
      refine ⟨_, rfl, _, rfl, b, g, l, n7 + 1, 12, rfl, bx9, by omega, by omega, by decide, by decide, fun ko H10 f0 f1 bx10 kp10 => ?_⟩
      have hO10 := kp10 _ _ hO9 oO
      have hW10 := kp10 _ _ hW9 oW
      have hS10 := kp10 _ _ hS9 oS2
      obtain ⟨kon, rfl⟩ : ∃ k : Nat, ko = (k : Int) := ⟨ko.toNat, by omega⟩
      obtain ⟨ow, how⟩ : ∃ t, (oddW nm)[kon]? = some t := ⟨_, List.getElem?_eq_getElem (by show kon < 12; omega)⟩
      have mow := odd_ok hnm ow (List.mem_of_getElem? how)
      refine ⟨_, _, _, _, rfl, rfl, SqL.of hO10, str_ix how, ?_⟩
      refine ⟨W, _, kw, _, rfl, rfl, hW10, by rw [List.length_map]; exact small (by omega), by omega, by omega, ?_⟩
      have ee : (ws.map V.str).take kw.toNat ++ [V.str ow] ++ (ws.map V.str).drop kw.toNat = (ws.take kw.toNat ++ [ow] ++ ws.drop kw.toNat).map V.str := by
        rw [List.map_append, List.map_append, List.map_take, List.map_drop]
        rfl
      rw [ee]
      have tw : tot (ws.take kw.toNat ++ [ow] ++ ws.drop kw.toNat) = tot ws + (ow.length + 1) := by
        have h2 : tot ws = tot (ws.take kw.toNat) + tot (ws.drop kw.toNat) := by rw [← tot_append, List.take_append_drop]
        rw [tot_append, tot_append, tot_cons]
        have h3 : tot [] = 0 := rfl
        omega
      have cy : ∀ x, x ∈ ws.take kw.toNat ++ [ow] ++ ws.drop kw.toNat → chOk x := fun x hx => by
        rcases List.mem_append.mp hx with q | q
        · rcases List.mem_append.mp q with q | q
          · exact ccw x (List.mem_of_mem_take q)
          · simp at q; rw [q]; exact mow.2
        · exact ccw x (List.mem_of_mem_drop q)
      generalize ws.take kw.toNat ++ [ow] ++ ws.drop kw.toNat = ys at tw cy ⊢
      have hW11 : (upd H10 W (.lst (ys.map V.str))) W = some (.lst (ys.map V.str)) := upd_same
      have hS11 : (upd H10 W (.lst (ys.map V.str))) S = some (.lst (ms.map V.str)) := (upd_ne nSW).trans hS10
      have bx11 : BoxAt (upd H10 W (.lst (ys.map V.str))) b g l (n7 + 1 + 1) := box_put bx10 oW3
      have fW : H W = none := by
        cases h : H W with
        | none => rfl
        | some o =>
          rw [k5 _ _ h oW] at hW
          cases hW
      have k11 : Keeps [b, g] H (upd H10 W (.lst (ys.map V.str))) := ((k8.trans kp9).trans kp10).upd (.inr fW)
      generalize (upd H10 W (.lst (ys.map V.str))) = H11 at hW11 hS11 bx11 k11 ⊢
      have owl := mow.1
      have ty : ((ys.map (·.length)).sum) + ys.length ≤ line.length + 10 := by unfold tot at tw cw; omega
      refine ⟨⟨_, rfl⟩, ?_⟩
      refine ⟨_, rfl, _, W, ys, rfl, rfl, .inl (SqL.of hW11), by rw [blank_eq]; show _ + ys.length * 1 ≤ _; omega, ?_⟩
      have eg : PySem.Txt.join " " ys = glue 32 ys := by rw [blank_eq]; rfl
      rw [eg]
      refine ⟨_, rfl, _, rfl, S, _, (ka : Int), ka, rfl, rfl, hS11, ixN_nat (by rw [List.length_map]; exact hA), ?_⟩
      have e2 : (ms.map V.str).set ka (.str (glue 32 ys)) = (ms.set ka (glue 32 ys)).map V.str := by rw [List.map_set]
      rw [e2]
      have ts := tot_set (v := glue 32 ys) hli
      have gl := glue_tot 32 ys
      refine Blk.of ⟨ms.set ka (glue 32 ys), n7 + 1 + 1, _, _, rfl, upd_same, box_put bx11 oS, k11.upd (.inr fS), by omega, by omega, by omega, fun x hx => ?_⟩
      rcases List.mem_or_eq_of_mem_set hx with q | q
      · exact cc x q
      · rw [q]; exact glue_ch (by decide) cy
    rintro σ H6 hB
    obtain ⟨ms6, n6, v6, v7, rfl, hS6, bx6, k6, d1, d2, tm6, cm6⟩ := hB.out
    refine ⟨_, rfl, _, _, rfl, rfl, ?_⟩
    refine ⟨_, rfl, iteD (fun hw3 => ?_) (fun hw3 => ?_)⟩
    · refine ⟨⟨_, rfl⟩, ?_⟩
      have tm6' : ((ms6.map (·.length)).sum) + ms6.length ≤ 2 * page.length + 20 := tm6
      refine ⟨_, rfl, ⟨#[10]⟩, S, ms6, rfl, rfl, .inl (SqL.of hS6), by show _ + ms6.length * 1 ≤ _; omega, ?_⟩
      have eg : PySem.Txt.join ⟨#[10]⟩ ms6 = glue 10 ms6 := rfl
      rw [eg]
      exact kk _ n6 H6 (Nat.le_trans (glue_tot 10 ms6) tm6) (glue_ch (by decide) cm6) (by omega) (by omega) bx6 k6
    -- a sign put in, changed or taken out
    refine ⟨_, rfl, _, rfl, _, rfl, SgC, rfl, sgC_line, ?_⟩
    refine ⟨b, g, l, n6, 34, by rw [sgC_len]; rfl, bx6, by omega, by omega, by decide, by decide, fun j H7 j0 j1 bx7 kp7 => ?_⟩
    obtain ⟨c, hc, lc⟩ := sgC_ix j0 j1
    refine ⟨_, _, _, rfl, rfl, sgC_line, hc, ?_⟩
    have k7 := k6.trans kp7
    refine ⟨_, rfl, _, rfl, _, rfl, page, rfl, by omega, ?_⟩
    have c1l := cutS_len page none (some spot)
    have c1c := cutS_ch (lo := none) (hi := some spot) hch
    generalize cutS page none (some spot) = q1 at c1l c1c ⊢
    have hwy : wy = 3 ∨ wy = 4 ∨ wy = 5 := by omega
    refine ⟨_, rfl, _, rfl, by show 3 ≤ sizeLine; decide, fun P hP => ?_⟩
    have sP : Same H7 (upd H7 P (.lst [.str ⟨#[c]⟩, .str ⟨#[c]⟩, .str ""])) := (Same.refl H7).upd hP
    have hP8 : (upd H7 P (.lst [.str ⟨#[c]⟩, .str ⟨#[c]⟩, .str ""])) P = some (.lst [.str ⟨#[c]⟩, .str ⟨#[c]⟩, .str ""]) := upd_same
    generalize (upd H7 P (.lst [.str ⟨#[c]⟩, .str ⟨#[c]⟩, .str ""])) = H8 at sP hP8 ⊢
    refine ⟨_, rfl, _, _, rfl, rfl, ?_⟩
    obtain ⟨md, hmd, mdl, mdc⟩ : ∃ md : Str, atI [V.str ⟨#[c]⟩, V.str ⟨#[c]⟩, V.str ""] (wy - 3) = some (.str md) ∧ md.length ≤ 1 ∧ chOk md := by
      have one : chOk ⟨#[c]⟩ := fun d hd => by
        have : d = c := by simpa using hd
        rw [this]; exact lc
      rcases hwy with rfl | rfl | rfl
      · exact ⟨_, rfl, Nat.le_refl _, one⟩
      · exact ⟨_, rfl, Nat.le_refl _, one⟩
      · exact ⟨_, rfl, by decide +kernel, fun d hd => by
          have : (("" : Str).cps.toList) = [] := by decide +kernel
          rw [this] at hd; cases hd⟩
    refine ⟨_, _, _, _, rfl, rfl, SqL.of hP8, hmd, ?_⟩
    refine ⟨_, _, rfl, rfl, by omega, ?_⟩
    refine ⟨_, rfl, _, rfl, ?_⟩
    refine ⟨by show 3 ≤ sizeLine; decide, fun P2 hP2 => ?_⟩
    have sP2 : Same H8 (upd H8 P2 (.lst [.int 0, .int 1, .int 1])) := (Same.refl H8).upd hP2
    have hP9 : (upd H8 P2 (.lst [.int 0, .int 1, .int 1])) P2 = some (.lst [.int 0, .int 1, .int 1]) := upd_same
    generalize (upd H8 P2 (.lst [.int 0, .int 1, .int 1])) = H9 at sP2 hP9 ⊢
    refine ⟨_, rfl, _, _, rfl, rfl, ?_⟩
    obtain ⟨mi, hmi⟩ : ∃ mi : Int, atI [V.int 0, V.int 1, V.int 1] (wy - 3) = some (.int mi) := by
      rcases hwy with rfl | rfl | rfl
      · exact ⟨_, rfl⟩
      · exact ⟨_, rfl⟩
      · exact ⟨_, rfl⟩
    refine ⟨_, _, _, _, rfl, rfl, SqL.of hP9, hmi, ?_⟩
    refine ⟨_, _, rfl, rfl, _, rfl, page, rfl, by omega, ?_⟩
    have c2l := cutS_len page (some (spot + mi)) none
    have c2c := cutS_ch (lo := some (spot + mi)) (hi := none) hch
    refine ⟨_, _, rfl, rfl, by rw [strLen_append]; omega, ?_⟩
    have k9 : Keeps [b, g] H H9 := (k7.trans fun c o z _ => sP c o z).trans fun c o z _ => sP2 c o z
    refine kk _ (n6 + 1) H9 (by rw [strLen_append, strLen_append]; omega) (fun d hd => ?_) (by omega) (by omega) ((bx7.same sP).same sP2) k9
    have hd : d ∈ TL.tl (q1 ++ md ++ cutS page (some (spot + mi)) none) := hd
    rw [TL.tl_append, TL.tl_append] at hd
    rcases List.mem_append.mp hd with q | q
    · rcases List.mem_append.mp q with q | q
      · exact c1c d q
      · exact mdc d q
    · exact c2c d q

open My (Hr readW)
/-! ### a page read, or refused -/
def tXfR (K : PySem.W.Frag) (z : Addr) (cls : Value) (d : Option Addr) (f : Str) (te : TE) : TE := fun σ H Q => te σ H fun x H1 => x = .ref z ∧ ∃ (C dd : Addr) (fs : List (Str × V)) (v : V), XfC K C ∧ PySem.W.findIn K (.ref C) f = some none ∧ cls = .ref C ∧ d = some dd ∧ H1 dd = some (.xd fs) ∧ fs.lookup f = some v ∧ Q v H1
theorem pe_xfR {X : Cx} {z : Addr} {oz : Obj} {cls : Value} {d : Option Addr} {pn : List (Addr × Obj)} {e : Expr} {te : TE} {pos : Pos} {n : Str} (hz : Zc cls d oz) (hf : ∃ fv, oz.data = .fields fv) (he : PE (X.suite z ((z, oz) :: pn)) e te)
    (hb : attributeBase e n X.env (eval e X.env) = eval e X.env := by rfl) : PE (X.suite z ((z, oz) :: pn)) (.Attribute e n pos) (tXfR X.K z cls d n te) := by
  refine ⟨fun pins s σ H Q I h => attr_of hb (thn (he.run pins s σ H _ I h) fun u s1 got => ?_)⟩
  obtain ⟨x, H1, I1, rx, ex, C, dd, fs, v, T, hno, ec, ed, ea, l, q⟩ := got
  subst ex ec ed
  obtain rfl : u = Value.ref z := rx
  have at_ := (I1.pin (z, oz) (List.mem_append_left _ List.mem_cons_self)).1
  obtain ⟨mA, hns, hr⟩ : ObjOk X.prog X.w H1 s1.heap dd (.xd fs) := I1.hok dd _ ea
  obtain ⟨od, ho, look⟩ := lookIn_ns hns
  obtain ⟨w1, hw, rw1⟩ := RelO.some_of (v := v) (o := mA n) (by rw [← l]; exact hr n)
  have J : PySem.W.InstAt s1.heap z oz C (some od) := by
    obtain ⟨fv, hd⟩ := hf
    exact ⟨at_, hz.1, by unfold PySem.W.notCls; rw [hd] <;> rfl, by rw [hz.2]; exact ho⟩
  exact HandSPX.exc_get I1.kIn J T.ga T.gg T.exC (PySem.W.findObj_own T.hdC hno rfl (by rw [look, hw])) (handed_of rw1) ⟨v, H1, I1.tok _, rw1, q⟩
def tIsE (K : PySem.W.Frag) (z : Addr) (cls : Value) (d : Option Addr) (c : V) : TE := tCB (rIsD K z cls d) (tCons (tVar 2) (tCons (tC c) tNil))
def tb_made (CN CT C : Addr) (W : WX) : TS := tAsg (tTup (tCons (tC (.str "told")) (tCons (tCallS (sp_read C CN CT) (WE W) (tCons (tVar 0) tNil)) tNil))) (gName 1)
def ts_made (K : PySem.W.Frag) (CN CT : Addr) : Addr → Value → Option Addr → TS := fun z cls d =>
  C8.tCut (tIfS (tAnd (tB (tIsE K z cls d (.ref CT))) (tAnd (tB (tIsE K z cls d (.ty "ValueError"))) (tNot (tB (tIsE K z cls d (.ref CN)))))) (tAsg (tTup (tCons (tC (.str "NoText")) (tCons (tXfR K z cls d "at" (tVar 2)) tNil))) (gName 1)) tNext)
    (tIfS (tAnd (tB (tIsE K z cls d (.ref CN))) (tNot (tB (tIsE K z cls d (.ref CT))))) (tAsg (tTup (tCons (tC (.str "NoPact")) (tCons (tXfR K z cls d "at" (tVar 2)) tNil))) (gName 1)) tNext)
theorem excC_NoPact (T : Txt K mg a) : ExcC K a.c_NoPact := ⟨T.xf_NoPact.ga, T.xf_NoPact.gg, T.xf_NoPact.exC, T.xf_NoPact.hdC, T.fa_NoPact, T.fg, T.ft, T.fm_NoPact⟩
theorem excC_NoText (T : Txt K mg a) : ExcC K a.c_NoText := ⟨T.xf_NoText.ga, T.xf_NoText.gg, T.xf_NoText.exC, T.xf_NoText.hdC, T.fa_NoText, T.fg, T.ft, T.fm_NoText⟩
def sp_made (C : Addr) : Sp := fun vs H Q _ => ∃ page : Str, vs = [.str page] ∧ page.length ≤ 9998 ∧ chOk page ∧ ∀ (t : Addr) (H' : Hp), Same H H' →
  ((∃ n, My.BadAt (My.pgWords page) n ∧ n < (My.pgWords page).length ∧ H' t = some (.tup [.str "NoText", .int n])) ∨
   (∃ ps hs m, readW (My.pgWords page) = some (ps, hs) ∧ Bad ps hs m ∧ H' t = some (.tup [.str "NoPact", .int m])) ∨
   ∃ ps hs p pl hl as has, readW (My.pgWords page) = some (ps, hs) ∧ Good ps hs ∧ H' t = some (.tup [.str "told", .ref p]) ∧ H p = none ∧ PactsAt C H' p pl hl as ps ∧ CrewAt H' hl has hs) → Q (.ref t) H'
theorem ok_made (T : Txt K mg a) : FnOk P w K mg base CX0 8 a.f_made a.d_made ["_law_page"] (sp_made a.c_Pacts) := by
  refine T.F_made.ok sc_made (fun vs H Q E h => ?_) (fun cdv A outer s H vs Q E hr h => ?_)
  · obtain ⟨page, rfl, _⟩ := h
    rfl
  · obtain ⟨page, rfl, hl, hch, kk⟩ := h
    refine ⟨_, (pss_cons (ps_set (i := 1) sc_made.nd rfl (Or.inl rfl) (pe_tup (pa_cons pe_str (pa_cons pe_int pa_nil))))
      (pss_cons (ps_try_named (tb := tb_made a.c_NoPact a.c_NoText a.c_Pacts) (l := [(.ref a.c_PactError, 2, ts_made K a.c_NoPact a.c_NoText)]) (Wout := fun _ _ _ _ => False) rfl rfl sc_made.nd takes0 (fun W pn xe tk _ => (pss_one (ps_set (i := 1) sc_made.nd rfl (Or.inl rfl) (pe_tup (pa_cons pe_str (pa_cons (pe_callS (ok_read_pacts T) (hr.mono (by decide)) rfl T.g_read_pacts T.k_read_pacts T.B_read_pacts (fun σ => passAt tk σ) (pa_cons (pv 0) pa_nil)) pa_nil)))))) (HdN.cons ⟨rfl, by decide, Or.inl T.g_PactError⟩ rfl rfl (fun z oz cls d pn hz hf => (C8.pss_cut (ps_if (PW.pt (pw_and (pt_val (pe_callB (call_isD hz hf) (by rfl) T.z_isinstance (by decide +kernel) (pa_cons (pv 2) (pa_cons (pe_glob (v := .ref a.c_NoText) rfl T.g_NoText rfl) pa_nil)))) (pw_and (pt_val (pe_callB (call_isD hz hf) (by rfl) T.z_isinstance (by decide +kernel) (pa_cons (pv 2) (pa_cons (pe_bltn (v := .ty "ValueError") (by rfl) T.z_ValueError (by decide +kernel) rfl) pa_nil)))) (pw_and1 (pt_not (pt_val (pe_callB (call_isD hz hf) (by rfl) T.z_isinstance (by decide +kernel) (pa_cons (pv 2) (pa_cons (pe_glob (v := .ref a.c_NoPact) rfl T.g_NoPact rfl) pa_nil))))))))) (pss_one (ps_set (i := 1) sc_made.nd rfl (Or.inl rfl) (pe_tup (pa_cons pe_str (pa_cons (pe_xfR hz hf (pv 2)) pa_nil))))) pss_nil)
      (pss_one (ps_if (PW.pt (pw_and (pt_val (pe_callB (call_isD hz hf) (by rfl) T.z_isinstance (by decide +kernel) (pa_cons (pv 2) (pa_cons (pe_glob (v := .ref a.c_NoPact) rfl T.g_NoPact rfl) pa_nil)))) (pw_and1 (pt_not (pt_val (pe_callB (call_isD hz hf) (by rfl) T.z_isinstance (by decide +kernel) (pa_cons (pv 2) (pa_cons (pe_glob (v := .ref a.c_NoText) rfl T.g_NoText rfl) pa_nil)))))))) (pss_one (ps_set (i := 1) sc_made.nd rfl (Or.inl rfl) (pe_tup (pa_cons pe_str (pa_cons (pe_xfR hz hf (pv 2)) pa_nil))))) pss_nil)))) HdN.nil))
      (pss_one (ps_ret (pv 1))))), ?_⟩
    refine ⟨by show 2 ≤ sizeLine; decide, fun t0 ht0 => ?_⟩
    have s1 : Same H (upd H t0 (.tup [.str "other", .int 0])) := (Same.refl H).upd ht0
    generalize (upd H t0 (.tup [.str "other", .int 0])) = H1 at s1 ⊢
    refine ⟨_, rfl, page, rfl, hl, hch, fun n hb hn d H2 kp h1 => ?_, fun ps hs hrd => ⟨fun m hb d H2 kp h1 => ?_, fun hg p pl hl' as has H2 fp fpl fhl pa cr s2 => ?_⟩⟩
    · have s2 : Same H H2 := fun c o e => kp c o (s1 c o e) (by simp)
      refine ⟨true, T.fe_NoText, fun _ z hz => ?_, fun q => Bool.noConfusion q⟩
      refine ⟨fun σ H3 => Blk (∃ t : Addr, σ = [some (.str page), some (.ref t), some (.ref z)] ∧ H3 t = some (.tup [.str "NoText", .int n]) ∧ H3 d = some (.xd [("at", .int n)]) ∧ Same H H3), ?_, ?_⟩
      · refine ⟨_, rfl, a.c_NoText, d, _, .ref a.c_NoText, .ref a.c_NoText, true, rfl, rfl, h1, excC_NoText T, rfl, fun u hu => hu, T.fs_NoText, _, rfl, ?_⟩
        refine iteT ?_
        refine ⟨_, rfl, a.c_NoText, d, _, .ty "ValueError", .type "ValueError", true, rfl, rfl, h1, excC_NoText T, rfl, fun u hu => hu, T.fv_NoText, _, rfl, ?_⟩
        refine iteT ?_
        refine ⟨_, rfl, a.c_NoText, d, _, .ref a.c_NoPact, .ref a.c_NoPact, false, rfl, rfl, h1, excC_NoText T, rfl, fun u hu => hu, T.fx_NoText, _, rfl, ?_⟩
        refine iteT ?_
        refine ⟨_, rfl, rfl, a.c_NoText, d, _, _, T.xf_NoText, T.n_NoText_at, rfl, rfl, h1, rfl, ?_⟩
        refine ⟨by show 2 ≤ sizeLine; decide, fun t ht => ?_⟩
        refine Blk.of ⟨t, rfl, upd_same, by rw [upd_ne (ne_of_none h1 ht)]; exact h1, s2.upd (s2.free ht)⟩
      · rintro σ H3 hB
        obtain ⟨t, rfl, ht3, h3, s3⟩ := hB.out
        refine ⟨_, rfl, a.c_NoText, d, _, .ref a.c_NoPact, .ref a.c_NoPact, false, rfl, rfl, h3, excC_NoText T, rfl, fun u hu => hu, T.fx_NoText, _, rfl, ?_⟩
        refine iteF ?_
        refine iteF ?_
        exact ⟨_, rfl, kk t H3 s3 (.inl ⟨n, hb, hn, ht3⟩)⟩
    · have s2 : Same H H2 := fun c o e => kp c o (s1 c o e) (by simp)
      refine ⟨true, T.fe_NoPact, fun _ z hz => ?_, fun q => Bool.noConfusion q⟩
      refine ⟨fun σ H3 => Blk (H3 = H2 ∧ σ = [some (.str page), some (.ref t0), some (.ref z)]), ?_, ?_⟩
      · refine ⟨_, rfl, a.c_NoPact, d, _, .ref a.c_NoText, .ref a.c_NoText, false, rfl, rfl, h1, excC_NoPact T, rfl, fun u hu => hu, T.fx_NoPact, _, rfl, ?_⟩
        refine iteF ?_
        refine iteF ?_
        exact Blk.of ⟨rfl, rfl⟩
      · rintro σ H3 hB
        obtain ⟨rfl, rfl⟩ := hB.out
        refine ⟨_, rfl, a.c_NoPact, d, _, .ref a.c_NoPact, .ref a.c_NoPact, true, rfl, rfl, h1, excC_NoPact T, rfl, fun u hu => hu, T.fs_NoPact, _, rfl, ?_⟩
        refine iteT ?_
        refine ⟨_, rfl, a.c_NoPact, d, _, .ref a.c_NoText, .ref a.c_NoText, false, rfl, rfl, h1, excC_NoPact T, rfl, fun u hu => hu, T.fx_NoPact, _, rfl, ?_⟩
        refine iteT ?_
        refine ⟨_, rfl, rfl, a.c_NoPact, d, _, _, T.xf_NoPact, T.n_NoPact_at, rfl, rfl, h1, rfl, ?_⟩
        refine ⟨by show 2 ≤ sizeLine; decide, fun t ht => ?_⟩
        exact ⟨_, rfl, kk t _ (s2.upd (s2.free ht)) (.inr (.inl ⟨ps, hs, m, hrd, hb, upd_same⟩))⟩
    · refine ⟨by show 2 ≤ sizeLine; decide, fun t ht => ?_⟩
      have s3 : Same H2 (upd H2 t (.tup [.str "told", .ref p])) := (Same.refl H2).upd ht
      exact ⟨_, rfl, kk t _ ((s1.trans s2).trans s3) (.inr (.inr ⟨ps, hs, p, pl, hl', as, has, hrd, hg, upd_same, s1.free fp, pa.same s3, cr.same s3⟩))⟩

open My (Hr readW lineOf glue)
/-! ### the first page -/
theorem letters_word {s : Str} (h : My.nameB s = true) : My.wordOk s ∧ s ≠ "" := by
  have hn := nameB_out h
  have hl := List.all_eq_true.mp hn.2.2
  refine ⟨⟨fun q => ?_, fun q => ?_⟩, fun e => ?_⟩
  · have := hl 32 q
    exact absurd this (by decide)
  · have := hl 10 q
    exact absurd this (by decide)
  · have := hn.1
    rw [e] at this
    exact absurd this (by decide +kernel)
theorem take_word {t : Str} (h : t ∈ (["lent", "given"] : List Str)) : My.wordOk t ∧ My.isTake t = true := by
  have k : ∀ t ∈ (["lent", "given"] : List Str), (32 ∉ t.cps.toList ∧ 10 ∉ t.cps.toList) ∧ My.isTake t = true := by decide +kernel
  exact k t h
theorem rows_ok {ps : List My.Pr} {hs : List Hr} (pok : My.PairsOk ps) (cok : My.CrewOk ps hs) : My.ReadOk ps hs ∧ (∀ ws ∈ My.rowsWords ps hs, ∀ w ∈ ws, My.wordOk w) ∧ ∀ ws ∈ My.rowsWords ps hs, ws.length ≤ 15 ∧ ∀ w ∈ ws, w.length ≤ 8 ∧ chOk w := by
  have kw : ∀ t ∈ (["word", "laden", "helper", "gives", "throws", "0", "1", "lent", "given"] : List Str), (32 ∉ t.cps.toList ∧ 10 ∉ t.cps.toList) ∧ t.length ≤ 8 ∧ ∀ d ∈ t.cps.toList, d < 1114112 := by decide +kernel
  have nmw : ∀ s, My.nameB s = true → My.wordOk s ∧ s.length ≤ 8 ∧ chOk s := fun s h => ⟨(letters_word h).1, name_len h, name_ch h⟩
  have hx : ∀ x ∈ hs, My.nameB x.name = true ∧ (x.side = 0 ∨ x.side = 1) ∧ x.takes.length ≤ 3 ∧ (∀ t ∈ x.takes, t ∈ (["lent", "given"] : List Str)) ∧ x.throws.length ≤ 4 ∧ ∀ t ∈ x.throws, My.nameB t = true := fun x hx => by
    obtain ⟨bb, th⟩ := cok.one x hx
    obtain ⟨h1, h2, h3, h4⟩ := pactB_out bb
    unfold My.takesB at h3
    simp only [Bool.and_eq_true, decide_eq_true_eq, List.all_eq_true] at h3
    refine ⟨h1, h2, h3.1, h3.2, (My.throwsB_nodup h4).1, fun t ht => ?_⟩
    obtain ⟨q, hq, rfl⟩ := List.mem_map.mp (th t ht)
    have n := pok.nm q hq
    unfold My.wd
    split
    · exact n.1
    · exact n.2
  refine ⟨⟨fun q hq => ⟨(letters_word (pok.nm q hq).1).2, (letters_word (pok.nm q hq).2).2⟩, fun x hm => ?_⟩, ?_⟩
  · obtain ⟨h1, h2, h3, h4, h5, h6⟩ := hx x hm
    exact ⟨(letters_word h1).2, h2, fun t ht => (take_word (h4 t ht)).2, fun t ht => (letters_word (h6 t ht)).2⟩
  · have all : ∀ ws ∈ My.rowsWords ps hs, ws.length ≤ 15 ∧ ∀ w ∈ ws, My.wordOk w ∧ w.length ≤ 8 ∧ chOk w := fun ws hw => by
      unfold My.rowsWords at hw
      rcases List.mem_append.mp hw with q | q
      · obtain ⟨z, hz, rfl⟩ := List.mem_map.mp q
        have n := pok.nm z hz
        unfold My.pairWords
        refine ⟨by simp only [List.length_cons]; split <;> simp, fun w hw => ?_⟩
        simp only [List.mem_cons] at hw
        rcases hw with rfl | rfl | rfl | hw
        · exact kw _ (by simp)
        · exact nmw _ n.1
        · exact nmw _ n.2
        · split at hw
          · simp at hw; subst hw; exact kw _ (by simp)
          · cases hw
      · obtain ⟨x, hm, rfl⟩ := List.mem_map.mp q
        obtain ⟨h1, h2, h3, h4, h5, h6⟩ := hx x hm
        unfold My.helpWords My.throwsW My.sideW
        refine ⟨?_, fun w hw => ?_⟩
        · simp only [List.length_cons, List.length_append]
          split <;> split <;> simp <;> omega
        · simp only [List.mem_cons, List.mem_append] at hw
          rcases hw with rfl | rfl | rfl | hw | hw | hw
          · exact kw _ (by simp)
          · exact nmw _ h1
          · split
            · exact kw _ (by simp)
            · exact kw _ (by simp)
          · have t := h4 w hw
            simp at t
            rcases t with rfl | rfl
            · exact kw _ (by simp)
            · exact kw _ (by simp)
          · split at hw
            · simp at hw; subst hw; exact kw _ (by simp)
            · cases hw
          · split at hw
            · cases hw
            · rcases List.mem_cons.mp hw with rfl | hw
              · exact kw _ (by simp)
              · exact nmw _ (h6 w hw)
    exact ⟨fun ws h w hw => ((all ws h).2 w hw).1, fun ws h => ⟨(all ws h).1, fun w hw => ((all ws h).2 w hw).2⟩⟩
theorem tot_le {xs : List Str} {n : Nat} (h : ∀ x, x ∈ xs → x.length ≤ n) : tot xs ≤ (n + 1) * xs.length := by
  have := sum_le h
  unfold tot
  rw [Nat.succ_mul]
  omega
theorem page_small {ps : List My.Pr} {hs : List Hr} (pok : My.PairsOk ps) (cok : My.CrewOk ps hs) : (My.pageOf ps hs).length ≤ 1232 := by
  obtain ⟨r1, r2, r3⟩ := rows_ok pok cok
  have many := pok.many
  have hmany := crew_many cok
  have e : (My.rowsWords ps hs).map lineOf = ps.map (fun q => lineOf (My.pairWords q)) ++ hs.map (fun x => lineOf (My.helpWords x)) := by
    unfold My.rowsWords
    rw [List.map_append, List.map_map, List.map_map]
    rfl
  have lp : ∀ x, x ∈ ps.map (fun q => lineOf (My.pairWords q)) → x.length ≤ 36 := fun x hx => by
    obtain ⟨q, hq, rfl⟩ := List.mem_map.mp hx
    have hw := r3 (My.pairWords q) (List.mem_append.mpr (.inl (List.mem_map.mpr ⟨q, hq, rfl⟩)))
    have h1 := glue_tot 32 (My.pairWords q)
    have h2 := tot_le fun w hw' => (hw.2 w hw').1
    have h3 : (My.pairWords q).length ≤ 4 := by unfold My.pairWords; simp only [List.length_cons]; split <;> simp
    have h4 : (8 + 1) * (My.pairWords q).length ≤ (8 + 1) * 4 := Nat.mul_le_mul_left _ h3
    show (glue 32 (My.pairWords q)).length ≤ 36
    omega
  have lh : ∀ x, x ∈ hs.map (fun x => lineOf (My.helpWords x)) → x.length ≤ 108 := fun y hy => by
    obtain ⟨x, hx, rfl⟩ := List.mem_map.mp hy
    have hw := r3 (My.helpWords x) (List.mem_append.mpr (.inr (List.mem_map.mpr ⟨x, hx, rfl⟩)))
    have h1 := glue_tot 32 (My.helpWords x)
    have h2 := tot_le fun w hw' => (hw.2 w hw').1
    obtain ⟨bb, th⟩ := cok.one x hx
    obtain ⟨_, _, p3, p4⟩ := pactB_out bb
    have p3' := takesB_len p3
    have p4' := (My.throwsB_nodup p4).1
    have h3 : (My.helpWords x).length ≤ 12 := by
      unfold My.helpWords My.throwsW
      simp only [List.length_cons, List.length_append]
      split <;> split <;> simp <;> omega
    have h4 : (8 + 1) * (My.helpWords x).length ≤ (8 + 1) * 12 := Nat.mul_le_mul_left _ h3
    show (glue 32 (My.helpWords x)).length ≤ 108
    omega
  have t1 := tot_le lp
  have t2 := tot_le lh
  rw [List.length_map] at t1 t2
  have t3 : (36 + 1) * ps.length ≤ (36 + 1) * 6 := Nat.mul_le_mul_left _ many
  have t4 : (108 + 1) * hs.length ≤ (108 + 1) * 8 := Nat.mul_le_mul_left _ hmany
  have t5 := glue_tot 10 ((My.rowsWords ps hs).map lineOf)
  rw [e, tot_append] at t5
  unfold My.pageOf
  rw [e]
  omega
theorem first_page {ps : List My.Pr} {hs : List Hr} (pok : My.PairsOk ps) (cok : My.CrewOk ps hs) : readW (My.pgWords (My.pageOf ps hs)) = some (ps, hs) ∧ chOk (My.pageOf ps hs) ∧ (My.pageOf ps hs).length ≤ 1232 := by
  obtain ⟨r1, r2, r3⟩ := rows_ok pok cok
  refine ⟨?_, ?_, ?_⟩
  · rw [My.pgWords_page r2]
    exact My.read_back _ rfl r1
  · refine glue_ch (by decide) fun x hx => ?_
    obtain ⟨ws, hw, rfl⟩ := List.mem_map.mp hx
    exact glue_ch (by decide) fun w hq => ((r3 ws hw).2 w hq).2
  · exact page_small pok cok

open My (Hr readW)
theorem passN {X : Cx} : Passes (L2.CX X.prog X.w) X (fun _ _ _ => False) := fun _ _ _ _ _ _ _ c => by
  obtain ⟨_, _, _, _, _, _, _, _, _, _, _, _, h⟩ := c
  exact h.elim
def tCallN0 (m : Nat) (sp : Sp) (gV : List V → List V → List V) (E : XK) (tk : TA) : TE := fun σ H Q => tk σ H fun zs H1 => zs.length = m ∧ sp (gV [] zs) H1 Q E
theorem pe_callN0 {X : Cx} {CX : CXT} {k : Nat} {f : Addr} {fd : FuncData} {ps ks : List Str} {sp : Sp} {E : XK} {x : Str} {kws : List Keyword} {tk : TA} {p pos : Pos} {gr : List Value → List Value → List Value} {gV : List V → List V → List V}
    (F : FnOk X.prog X.w X.K X.mg X.base CX k f fd ps sp) (hr : Room k X.A) (hg : Gl X x) (hm : X.mg x = some (.ref f)) (hk : PySem.W.keepIn X.K (.ref f) = true) (hb : KBn X.K fd ps 0 ks gr gV) (hx : Passes CX X E) (hkw : PK X kws tk)
    (hall : (backToKw pos (keywordEach kws X.env)).all (·.1.isSome) = true := by rfl) (hks : (backToKw pos (keywordEach kws X.env)).filterMap (·.1) = ks := by rfl) (dbg : (x == ("__debug__" : Str)) = false := by decide)
    (hpl : ((backTo pos (starEach [] X.env)).any (·.1) || (backToKw pos (keywordEach kws X.env)).any (·.1.isNone)) = false := by rfl) :
    PE X (.Call (.Name x p) [] kws pos) (tCallN0 ks.length sp gV E tk) := by
  refine ⟨fun pins s σ H Q I h => wpAny_Call_Name_kw (ld_glob I hg hm ?_ dbg)⟩
  refine PySem.W.callWith_KW0 (h₀ := X.base) I.ok.mod.kin hk hall (thn (hkw.run pos pins s σ H _ I h) fun ws s1 ⟨zs, H1, I1, rz, zl, q1⟩ => ⟨I1.kIn, ?_⟩) hpl
  rw [hks]
  exact run_fnN F hr hb hx I1 .nil rz rfl zl q1
theorem good_of {ps : List My.Pr} {hs : List Hr} (pok : My.PairsOk ps) (cok : My.CrewOk ps hs) : Good ps hs := by
  refine ⟨fun j q h => ?_, fun j x h => ?_⟩
  · have nm := pok.nm q (List.mem_of_getElem? h)
    unfold pairB
    rw [nm.1, nm.2, fits_next pok h]
    rfl
  · have := cok.next h
    rw [this.1, this.2]
    rfl
theorem iteT0 {a : Int} {A B : Prop} (h : B) : if (!decide (V.int a = V.int a)) = true then A else B := by
  rw [decide_eq_true rfl]
  exact h
theorem crew_find {ps : List My.Pr} {hs : List Hr} (ok : My.CrewOk ps hs) {i : Nat} {x : Hr} (h : hs[i]? = some x) : crewOf x.name hs = some x := by
  refine find_first (P := fun z : Hr => z.name = x.name) (k := i) (fun j z hj e c => ?_) h rfl
  have := My.nin_take (f := fun z : Hr => z.name) ok.names h
  exact this (List.mem_map.mpr ⟨z, List.mem_of_getElem? (i := j) (by rw [List.getElem?_take, if_pos hj]; exact e), c⟩)
theorem keeps_same {H H1 H2 : Hp} {p : Addr} (s : Same H H1) (k : Keeps [p] H1 H2) (hp : H p = none) : Same H H2 := fun c o e => k c o (s c o e) (by
  intro z
  simp at z
  subst z
  rw [hp] at e
  cases e)
theorem two_data {s : Str} {i : Int} (h : PyData.strOk s = true) : (PyData.tuple [.str s, .int i]).canLay0 = true ∧ SeqAt.shaped (.tuple [.str s, .int i]) = true := by
  have h1 : (PyData.tuple [.str s, .int i]).canLay0 = true := by simp [PyData.canLay0, PyData.canLayAll0, h]
  exact ⟨h1, shaped_of h1 (by simp [PyData.depth, PyData.depthAll])⟩
def spLaw (K : PySem.W.Frag) : Sp := fun vs H Q _ => ∃ (s : Addr) (ns : List Int), vs = [.ref s] ∧ SqL K H s (ns.map V.int) ∧ ns.length ≤ 63 ∧ ∀ H', Q (.bl true) H'
theorem ok_law (T : Txt K mg a) : FnOk P w K mg base CX0 9 a.f_law a.d_law ["_law_script"] (spLaw K) := by
  refine T.F_law.ok sc_law (fun vs H Q E h => ?_) (fun cdv A outer s H vs Q E hr h => ?_)
  · obtain ⟨s, ns, rfl, _⟩ := h
    rfl
  · obtain ⟨sc, ns, rfl, hS, hl, kk⟩ := h
    refine ⟨_, (pss_cons (ps_set (i := 1) sc_law.nd rfl (Or.inl rfl) (pe_call (ok_box T) (hr.mono (by decide)) rfl T.g_box T.k_box T.B_box .nil pass0 (pa_cons (pv 0) pa_nil)))
      (pss_cons (ps_set (i := 2) sc_law.nd rfl (Or.inl rfl) (pe_call (ok_take T) (hr.mono (by decide)) rfl T.g_take T.k_take T.B_take .nil pass0 (pa_cons (pv 1) (pa_cons pe_int pa_nil))))
      (pss_cons (ps_set (i := 3) sc_law.nd rfl (Or.inl rfl) (pe_call (ok_pairs T) (hr.mono (by decide)) rfl T.g_pairs T.k_pairs T.B_pairs .nil pass0 (pa_cons (pv 1) (pa_cons pe_int pa_nil))))
      (pss_cons (ps_set (i := 4) sc_law.nd rfl (Or.inl rfl) (pe_call (ok_helpers T) (hr.mono (by decide)) rfl T.g_helpers T.k_helpers T.B_helpers .nil pass0 (pa_cons (pv 1) (pa_cons (pv 3) pa_nil))))
      (pss_cons (ps_set (i := 5) sc_law.nd rfl (Or.inl rfl) (pe_call (ok_text T) (hr.mono (by decide)) rfl T.g_text T.k_text T.B_text .nil pass0 (pa_cons (pv 3) (pa_cons (pv 4) pa_nil))))
      (pss_cons (ps_if (PW.pt (pw_or (pt_cmpR op_ne (pe_callTy (call_strOwn T.m_Pacts_str (ok_Pacts_str T) (hr.mono (by decide)) T.B_Pacts_str pass0) (by rfl) T.z_str (by decide +kernel) (pa_cons (pe_make T.mk_Pacts (ok_Pacts_initX T) (hr.mono (by decide)) rfl T.g_Pacts T.B_Pacts_init .nil passN (pa_cons (pv 3) (pa_cons (pv 4) pa_nil))) pa_nil)) (pv 5) (nomark _)) (pw_or1 (pt_not (pt_cmpR (op_eqOwn (cls_Pacts T) (ok_Pacts_eq T) (hr.mono (by decide)) T.B_Pacts_eq pass0) (pe_callN0 (ks := ["text"]) (ok_read_pacts T) (hr.mono (by decide)) rfl T.g_read_pacts T.k_read_pacts T.KN_read_pacts_0.kbn passN (pk_cons (pv 5) pk_nil)) (pe_make T.mk_Pacts (ok_Pacts_initX T) (hr.mono (by decide)) rfl T.g_Pacts T.B_Pacts_init .nil passN (pa_cons (pv 3) (pa_cons (pv 4) pa_nil))) (nomark _)))))) (pss_one (ps_ret pe_bl)) pss_nil)
      (pss_cons (ps_for PassesOwn.never rfl (pi_range1 (by rfl) T.z_range (pa_cons (pv 2) pa_nil)) (pg_name (i := 6) sc_law.nd rfl (Or.inl rfl)) (pss_one (ps_set (i := 5) sc_law.nd rfl (Or.inl rfl) (pe_call (ok_changed T) (hr.mono (by decide)) rfl T.g_changed T.k_changed T.B_changed .nil pass0 (pa_cons (pv 1) (pa_cons (pv 5) pa_nil))))))
      (pss_cons (ps_asg (pe_call (ok_made T) (hr.mono (by decide)) rfl T.g_made T.k_made T.B_made .nil pass0 (pa_cons (pv 5) pa_nil)) (pg_tup (by rfl) (pgs_cons (pg_name (i := 7) sc_law.nd rfl (Or.inl rfl)) (pgs_cons (pg_name (i := 8) sc_law.nd rfl (Or.inr rfl)) pgs_nil))))
      (pss_cons (ps_asg (pe_call (ok_read T) (hr.mono (by decide)) rfl T.g_read T.k_read T.B_read .nil pass0 (pa_cons (pv 5) pa_nil)) (pg_tup (by rfl) (pgs_cons (pg_name (i := 9) sc_law.nd rfl (Or.inl rfl)) (pgs_cons (pg_name (i := 3) sc_law.nd rfl (Or.inl rfl)) (pgs_cons (pg_name (i := 4) sc_law.nd rfl (Or.inl rfl)) pgs_nil)))))
      (pss_cons (ps_if (pt_cmpR op_ge (pv 9) pe_int (nomark _)) (pss_one (ps_ret (pe_cmpR (op_eqD hr.units) (pe_tup (pa_cons (pv 7) (pa_cons (pv 8) pa_nil))) (pe_tup (pa_cons pe_str (pa_cons (pv 9) pa_nil))) (nomark _)))) pss_nil)
      (pss_cons (ps_if (pt_cmpR op_ge (pe_call (ok_first_bad T) (hr.mono (by decide)) rfl T.g_first_bad T.k_first_bad T.B_first_bad .nil pass0 (pa_cons (pv 3) (pa_cons (pv 4) pa_nil))) pe_int (nomark _)) (pss_one (ps_ret (pe_cmpR (op_eqD hr.units) (pe_tup (pa_cons (pv 7) (pa_cons (pv 8) pa_nil))) (pe_tup (pa_cons pe_str (pa_cons (pe_call (ok_first_bad T) (hr.mono (by decide)) rfl T.g_first_bad T.k_first_bad T.B_first_bad .nil pass0 (pa_cons (pv 3) (pa_cons (pv 4) pa_nil))) pa_nil))) (nomark _)))) pss_nil)
      (pss_cons (ps_if (PW.pt (pw_or (pt_cmpR op_ne (pv 7) pe_str (nomark _)) (pw_or (pt_cmpR (op_neD hr.units) (pe_meth0 (pv 8) T.cl_Pacts T.m_Pacts_pairs (ok_Pacts_pairs T) (hr.mono (by decide)) T.B_Pacts_pairs .nil pass0) (pv 3) (nomark _)) (pw_or (pt_cmpR op_ne (pe_callB (call_lenOwn T.m_Pacts_len (ok_Pacts_len T) (hr.mono (by decide)) T.B_Pacts_len pass0) (by rfl) T.z_len (by decide +kernel) (pa_cons (pv 8) pa_nil)) (pe_callB call_len_seq (by rfl) T.z_len (by decide +kernel) (pa_cons (pv 4) pa_nil)) (nomark _)) (pw_or1 (pt_cmpR op_ne (pe_callTy (call_strOwn T.m_Pacts_str (ok_Pacts_str T) (hr.mono (by decide)) T.B_Pacts_str pass0) (by rfl) T.z_str (by decide +kernel) (pa_cons (pv 8) pa_nil)) (pv 5) (nomark _))))))) (pss_one (ps_ret pe_bl)) pss_nil)
      (pss_one (ps_ret (pe_callB (cr_all rfl) (by rfl) T.z_all (by decide +kernel) (pa_cons (pe_lc (own := [("_law_helper", 10)]) (g := gName 10) (te := tOp (rEqD K) (tMeth a.c_Pacts "pact" (sp_Ppact a.c_Pacts) [] E0 (tVar 8) (tCons (tOp (rIxT K) (tVar 10) (tC (.int 0))) tNil)) (tVar 10)) (tt := tYes) rfl sc_law.nd (pi_list (pv 4)) (blkOk_by (own := [("_law_helper", 10)]) (N := ["_law_script", "_law_box_here", "_law_changes", "_law_pairs_here", "_law_helpers_here", "_law_page", "_law_k", "_law_seen", "_law_found", "_law_line_here", "_law_helper"]) (sc := defScope s_law) (by decide +kernel)) (fun _ _ _ _ _ => pg_name (i := 10) sc_law.nd rfl (Or.inl rfl)) (fun _ _ _ _ _ => pts_nil) (fun _ _ _ _ _ => by exact (pe_cmpR (op_eqD hr.units) (pe_meth (pv 8) T.cl_Pacts T.m_Pacts_pact (ok_Pacts_pact T) (hr.mono (by decide)) T.B_Pacts_pact .nil pass0 (pa_cons (pe_ix ix_tup (pv 10) pe_int (fun _ _ => rfl)) pa_nil)) (pv 10) (nomark _)))) pa_nil)))))))))))))))), ?_⟩
    refine ⟨_, rfl, sc, ns, rfl, hS, hl, fun b g l H1 hb hg hl bx s1 => ?_⟩
    refine ⟨_, rfl, b, g, l, _, 4, rfl, bx, by decide, by decide, by decide, by decide, fun cg H1' g0 g1 bx1 kp1 => ?_⟩
    refine ⟨_, rfl, b, g, l, _, 6, rfl, bx1, by omega, by omega, by omega, by omega, fun L as ps n2 H2 hL hL2 ob2 fr2 pok a2 b2 bx2 kp2 => ?_⟩
    have oL := offbox bx1 hL
    refine ⟨_, rfl, _, rfl, b, g, l, L, n2, as, ps, rfl, bx2, by omega, by omega, hL2, oL, ob2, pok, fun Lh has hs n3 H3 hLh hLh3 cr3 hl3 hok cok a3 b3 bx3 kp3 => ?_⟩
    have hL3 := kp3 _ _ hL2 oL
    have ob3 := ob2.keepN kp3 (box_notup bx2)
    refine ⟨_, rfl, _, rfl, L, Lh, as, has, ps, hs, rfl, hL3, ob3, hLh3, cr3, pok, cok, fun H4 s4 => ?_⟩
    have sds : ∀ x, x ∈ hs → x.side = 0 ∨ x.side = 1 := fun x hx => (pactB_out (cok.one x hx).1).2.1
    have good : Good ps hs := good_of pok cok
    have dr : Drawn ps hs := ⟨by have := pok.many; omega, fun q hq => ⟨name_wok (pok.nm q hq).1, name_wok (pok.nm q hq).2⟩, by have := crew_many cok; omega, hok⟩
    have hL4 := s4 _ _ hL3
    have hLh4 := s4 _ _ hLh3
    have ob4 := ob3.same s4
    have cr4 := Crew.same cr3 s4
    have bx4 := bx3.same s4
    obtain ⟨hread, hpch, hpl0⟩ := first_page pok cok
    have hLA := hL4
    have hLhA := hLh4
    have obA := ob4
    have crA := cr4
    refine ⟨_, rfl, _, rfl, fun pA dxA npA ndxA nexA => ?_⟩
    have smA : Same H4 (upd (upd H4 dxA (.own pA)) pA (.ins a.c_Pacts dxA [])) := ((Same.refl H4).upd ndxA).upd npA
    have hpA : (upd (upd H4 dxA (.own pA)) pA (.ins a.c_Pacts dxA [])) pA = some (.ins a.c_Pacts dxA []) := upd_same
    show sp_PinitX _ _ _ (upd (upd H4 dxA (.own pA)) pA (.ins a.c_Pacts dxA [])) _ _
    generalize (upd (upd H4 dxA (.own pA)) pA (.ins a.c_Pacts dxA [])) = MA at smA hpA ⊢
    refine ⟨pA, dxA, L, Lh, as, has, ps, hs, rfl, hpA, smA _ _ hLA, smA _ _ hLhA, obA.same smA, Crew.same crA smA, dr, fun _ plA hlA H5 hplA hhlA paA cpA kpA => ⟨rfl, ?_⟩, fun m bad => (bad_not bad good).elim⟩
    have sA : Same H4 H5 := keeps_same smA kpA npA
    obtain ⟨dxA', eA⟩ := paA.ob
    refine ⟨pA, dxA', _, rfl, eA, pA, plA, hlA, as, has, ps, hs, rfl, paA, cpA, pok, cok, fun x hx => hrS_of pok cok hx, fun H6 s6 => ⟨_, rfl, ?_⟩⟩
    rw [textOf_page sds]
    refine ⟨_, rfl, rfl, ?_⟩
    refine ⟨_, rfl, ?_⟩
    refine iteNS (fun n => absurd rfl n) (fun _ => ?_)
    have s46 : Same H4 H6 := sA.trans s6
    refine ⟨_, rfl, rfl, My.pageOf ps hs, rfl, by omega, hpch, fun n hb hn => ?_, fun ps' hs' hrd => ?_⟩
    · have := My.badAt_all hb hn
      rw [hread] at this
      cases this
    rw [hread] at hrd
    cases hrd
    refine ⟨fun m bad => (bad_not bad good).elim, fun _ q ql kl asq hasq H7 fq fql fkl paq crq s7 => ?_⟩
    have s47 := s46.trans s7
    have hLB := s47 _ _ hL4
    have hLhB := s47 _ _ hLh4
    have obB := ob4.same s47
    have crB := Crew.same cr4 s47
    refine ⟨_, rfl, _, rfl, fun pB dxB npB ndxB nexB => ?_⟩
    have smB : Same H7 (upd (upd H7 dxB (.own pB)) pB (.ins a.c_Pacts dxB [])) := ((Same.refl H7).upd ndxB).upd npB
    have hpB : (upd (upd H7 dxB (.own pB)) pB (.ins a.c_Pacts dxB [])) pB = some (.ins a.c_Pacts dxB []) := upd_same
    show sp_PinitX _ _ _ (upd (upd H7 dxB (.own pB)) pB (.ins a.c_Pacts dxB [])) _ _
    generalize (upd (upd H7 dxB (.own pB)) pB (.ins a.c_Pacts dxB [])) = MB at smB hpB ⊢
    refine ⟨pB, dxB, L, Lh, as, has, ps, hs, rfl, hpB, smB _ _ hLB, smB _ _ hLhB, obB.same smB, Crew.same crB smB, dr, fun _ plB hlB H8 hplB hhlB paB cpB kpB => ⟨rfl, ?_⟩, fun m bad => (bad_not bad good).elim⟩
    have sB : Same H7 H8 := keeps_same smB kpB npB
    obtain ⟨dxq, eq⟩ := paq.ob
    obtain ⟨dxB', eB⟩ := paB.ob
    refine ⟨q, pB, _, _, _, _, rfl, rfl, sB _ _ eq, eB, q, ql, kl, pB, plB, hlB, asq, hasq, as, has, ps, ps, hs, hs, rfl, paq.same sB, crq.same sB, paB, cpB, pok, pok, hok, hok, ?_⟩
    refine ⟨_, rfl, ?_⟩
    rw [decide_eq_true rfl, decide_eq_true rfl]
    refine ⟨_, rfl, ?_⟩
    refine iteF ?_
    have s8 : Same H4 H8 := s47.trans sB
    have bx8 := bx4.same s8
    refine ⟨_, rfl, cg, rfl, by omega, by omega, ?_⟩
    refine for_range (lo := 0) (n := cg.toNat) (fun i σ H9 => Blk (∃ (pg : Str) (v6 : Option V) (n9 : Int), σ = [some (.ref sc), some (.ref b), some (.int cg), some (.ref L), some (.ref Lh), some (.str pg), v6, none, none, none, none] ∧ BoxAt H9 b g l n9 ∧ 0 ≤ n9 ∧ n9 ≤ n3 + 30 * i ∧ chOk pg ∧ pg.length + 20 ≤ 1252 * 2 ^ i)) ?_ ?_ ?_
    · exact Blk.of ⟨My.pageOf ps hs, _, n3, rfl, bx8, by omega, by omega, hpch, by rw [Nat.pow_zero]; omega⟩
    · intro i σ H9 hi hB
      obtain ⟨pg, v6, n9, rfl, bx9, x0, x1, pch, pln⟩ := hB.out
      have p4 : 2 ^ i ≤ 4 := Nat.pow_le_pow_right (by decide) (by omega : i ≤ 2)
      have p5 : 1252 * 2 ^ i ≤ 1252 * 4 := Nat.mul_le_mul_left _ p4
      refine ⟨_, rfl, _, rfl, b, g, l, n9, pg, rfl, bx9, x0, by omega, by omega, pch, fun p2 n10 H10 hp2 hc2 z0 z1 bx10 kp10 => ?_⟩
      refine Blk.of ⟨p2, _, n10, rfl, bx10, by omega, by omega, hc2, ?_⟩
      rw [Nat.pow_succ]
      omega
    intro σ H9 hB
    obtain ⟨pg, v6, n9, rfl, bx9, x0, x1, pch, pln⟩ := hB.out
    have p8 : 2 ^ cg.toNat ≤ 8 := Nat.pow_le_pow_right (by decide) (by omega : cg.toNat ≤ 3)
    have p9 : 1252 * 2 ^ cg.toNat ≤ 1252 * 8 := Nat.mul_le_mul_left _ p8
    have pgl : pg.length ≤ 9998 := by omega
    clear x1 pln p8 p9
    refine ⟨_, rfl, pg, rfl, pgl, pch, fun t H10 s10 cs => ?_⟩
    rcases cs with ⟨n, hb, hn, ht⟩ | ⟨ps2, hs2, m, hrd, hbad, ht⟩ | ⟨ps2, hs2, p, pl, hl', as2, has2, hrd, hgood, ht, fp, pa2, cp2⟩
    · refine ⟨t, _, rfl, SqT.of ht, rfl, _, _, rfl, _, _, rfl, rfl, ?_⟩
      refine ⟨_, rfl, pg, rfl, pgl, pch, fun n' t2 L1 L2 H11 hb' hn' ht2 s11 => ?_, fun ps3 hs3 t2 L1 L2 as3 has3 H11 hrd => ?_⟩
      · obtain rfl := My.badAt_one hb hb'
        refine ⟨t2, _, rfl, SqT.of ht2, rfl, _, _, rfl, _, _, rfl, _, _, rfl, rfl, ?_⟩
        refine ⟨_, rfl, _, _, rfl, rfl, ?_⟩
        refine ⟨_, rfl, iteD (fun _ => ?_) (fun h => absurd (by omega) h)⟩
        refine ⟨_, rfl, _, rfl, by show 2 ≤ sizeLine; decide, fun t3 ht3 => ?_⟩
        refine ⟨_, rfl, by show 2 ≤ sizeLine; decide, fun t4 ht4 => ?_⟩
        have n34 : t3 ≠ t4 := ne_of_none upd_same ht4
        have dd := two_data (s := "NoText") (i := (n : Int)) (by decide +kernel)
        refine ⟨.tuple [.str "NoText", .int n], .tuple [.str "NoText", .int n], .tup (SqT.of ((upd_ne n34).trans upd_same)) (.cons (.str _) (.cons (.int _) .nil)), .tup (SqT.of upd_same) (.cons (.str _) (.cons (.int _) .nil)), dd.2, dd.2, ?_⟩
        rw [SeqAt.eqv_refl _ dd.1]
        exact kk _
      · have := My.badAt_all hb hn
        rw [this] at hrd
        cases hrd
    · refine ⟨t, _, rfl, SqT.of ht, rfl, _, _, rfl, _, _, rfl, rfl, ?_⟩
      have nobad : ∀ n', My.BadAt (My.pgWords pg) n' → n' < (My.pgWords pg).length → False := fun n' hb' hn' => by
        have := My.badAt_all hb' hn'
        rw [hrd] at this
        cases this
      refine ⟨_, rfl, pg, rfl, pgl, pch, fun n' t2 L1 L2 H11 hb' hn' ht2 s11 => (nobad n' hb' hn').elim, fun ps3 hs3 t2 L1 L2 as3 has3 H11 hrd3 ht2 hL1 ob1 hL2 cr1 s11 => ?_⟩
      rw [hrd] at hrd3
      cases hrd3
      refine ⟨t2, _, rfl, SqT.of ht2, rfl, _, _, rfl, _, _, rfl, _, _, rfl, rfl, ?_⟩
      refine ⟨_, rfl, _, _, rfl, rfl, ?_⟩
      refine ⟨_, rfl, iteD (fun h => absurd h (by decide)) (fun _ => ?_)⟩
      have dr3 := drawn_of hrd pgl pch
      refine ⟨_, rfl, _, rfl, L1, L2, as3, has3, _, _, rfl, hL1, ob1, hL2, cr1, dr3, fun o H12 ho s12 => ?_⟩
      obtain rfl := bad_is (p := some m) ho hbad
      refine ⟨_, _, rfl, rfl, ?_⟩
      refine ⟨_, rfl, iteD (fun _ => ?_) (fun h => absurd (show (0 : Int) ≤ ((m : Nat) : Int) by omega) h)⟩
      refine ⟨_, rfl, _, rfl, by show 2 ≤ sizeLine; decide, fun t3 ht3 => ?_⟩
      have s13 : Same H12 (upd H12 t3 (.tup [.str "NoPact", .int m])) := (Same.refl H12).upd ht3
      have t3v : (upd H12 t3 (.tup [.str "NoPact", .int m])) t3 = some (.tup [.str "NoPact", .int m]) := upd_same
      generalize (upd H12 t3 (.tup [.str "NoPact", .int m])) = H13 at s13 t3v ⊢
      refine ⟨_, rfl, _, rfl, L1, L2, as3, has3, _, _, rfl, s13 _ _ (s12 _ _ hL1), (ob1.same s12).same s13, s13 _ _ (s12 _ _ hL2), Crew.same (Crew.same cr1 s12) s13, dr3, fun o H14 ho2 s14 => ?_⟩
      obtain rfl := bad_is (p := some m) ho2 hbad
      refine ⟨by show 2 ≤ sizeLine; decide, fun t4 ht4 => ?_⟩
      have n34 : t3 ≠ t4 := ne_of_none (s14 _ _ t3v) ht4
      have dd := two_data (s := "NoPact") (i := (m : Int)) (by decide +kernel)
      refine ⟨.tuple [.str "NoPact", .int m], .tuple [.str "NoPact", .int m], .tup (SqT.of ((upd_ne n34).trans (s14 _ _ t3v))) (.cons (.str _) (.cons (.int _) .nil)), .tup (SqT.of upd_same) (.cons (.str _) (.cons (.int _) .nil)), dd.2, dd.2, ?_⟩
      rw [SeqAt.eqv_refl _ dd.1]
      exact kk _
    · refine ⟨t, _, rfl, SqT.of ht, rfl, _, _, rfl, _, _, rfl, rfl, ?_⟩
      have nobad : ∀ n', My.BadAt (My.pgWords pg) n' → n' < (My.pgWords pg).length → False := fun n' hb' hn' => by
        have := My.badAt_all hb' hn'
        rw [hrd] at this
        cases this
      refine ⟨_, rfl, pg, rfl, pgl, pch, fun n' t2 L1 L2 H11 hb' hn' ht2 s11 => (nobad n' hb' hn').elim, fun ps3 hs3 t2 L1 L2 as3 has3 H11 hrd3 ht2 hL1 ob1 hL2 cr1 s11 => ?_⟩
      rw [hrd] at hrd3
      cases hrd3
      refine ⟨t2, _, rfl, SqT.of ht2, rfl, _, _, rfl, _, _, rfl, _, _, rfl, rfl, ?_⟩
      refine ⟨_, rfl, _, _, rfl, rfl, ?_⟩
      refine ⟨_, rfl, iteD (fun h => absurd h (by decide)) (fun _ => ?_)⟩
      have dr3 := drawn_of hrd pgl pch
      have pokG := good_pairs hgood
      have cokG := good_crew hgood
      refine ⟨_, rfl, _, rfl, L1, L2, as3, has3, _, _, rfl, hL1, ob1, hL2, cr1, dr3, fun o H12 ho s12 => ?_⟩
      obtain rfl := bad_is (p := none) ho hgood
      refine ⟨_, _, rfl, rfl, ?_⟩
      refine ⟨_, rfl, iteD (fun h => absurd h (by decide)) (fun _ => ?_)⟩
      refine ⟨_, rfl, rfl, ?_⟩
      refine ⟨_, rfl, ?_⟩
      refine iteNS (fun n => absurd rfl n) (fun _ => ?_)
      have s02 : Same H10 H12 := s11.trans s12
      have paG := pa2.same s02
      have cpG := cp2.same s02
      obtain ⟨dxp, ep⟩ := paG.ob
      refine ⟨_, rfl, p, dxp, _, rfl, ep, pfs_no1, p, pl, hl', as2, ps2, rfl, paG, fun r HF hr hrF sF => ?_⟩
      have pw3 := dr3.pw
      have lay1 : (PyData.list (ps2.map prD)).canLay0 = true := by rw [PyData.canLay0]; exact all_lay prD ps2 fun z hz => prD_lay (pw3 z hz)
      have dp1 := all_deep prD 1 (fun z => by rw [prD_deep]; omega) ps2
      have deep1 : (PyData.list (ps2.map prD)).depth ≤ 60 := by
        simp only [PyData.depth]
        omega
      have s1F := s12.trans sF
      have obF := ob1.same s1F
      have hL1F := s1F _ _ hL1
      have hL2F := s1F _ _ hL2
      have cr1F := Crew.same cr1 s1F
      refine ⟨_, rfl, .list (ps2.map prD), .list (ps2.map prD), .lst (SqL.of hrF) (dp_prs (paG.same sF).ps), .lst (SqL.of hL1F) (dp_prs obF), shaped_of lay1 deep1, shaped_of lay1 deep1, ?_⟩
      rw [SeqAt.eqv_refl _ lay1]
      refine ⟨_, rfl, ?_⟩
      refine iteF ?_
      have paF := paG.same sF
      have cpF := cpG.same sF
      obtain ⟨dxF, eF⟩ := paF.ob
      have hl3 := dr3.hl
      refine ⟨_, rfl, p, dxF, _, rfl, eF, p, pl, hl', as2, has2, ps2, hs2, rfl, paF, cpF, _, rfl, by omega, by omega, _, rfl, L2, _, rfl, .inl (SqL.of hL2F), ?_⟩
      have ee : (hs2.length : Nat) = (has3.map V.ref).length := by rw [List.length_map, AllAt.len cr1F]
      rw [← ee]
      walk_at "rd"
      refine iteT0 ?_
      have pokG' := pokG
      have sdG : ∀ x, x ∈ hs2 → x.side = 0 ∨ x.side = 1 := fun x hx => (pactB_out (cokG.one x hx).1).2.1
      refine ⟨_, rfl, p, dxF, _, rfl, eF, p, pl, hl', as2, has2, ps2, hs2, rfl, paF, cpF, pokG, cokG, fun x hx => hrS_of pokG cokG hx, fun HG sG => ⟨_, rfl, ?_⟩⟩
      rw [textOf_page sdG, My.page_again hrd]
      refine ⟨_, rfl, rfl, ?_⟩
      refine ⟨_, rfl, ?_⟩
      refine iteNS (fun n => absurd rfl n) (fun _ => ?_)
      have s1G := s1F.trans sG
      have hL2G := s1G _ _ hL2
      have crG3 := Crew.same cr1 s1G
      have paGG := paF.same sG
      have cpGG := cpF.same sG
      refine ⟨_, rfl, L2, rfl, ⟨_, SqL.of hL2G⟩, fun D hD => ?_⟩
      have nLD : L2 ≠ D := ne_of_none hL2G hD
      have npD : p ≠ D := ne_of_none paGG.ob.choose_spec hD
      refine lc_list (K := K) (a := L2) (xs := has3.map V.ref) (fun k H1 => Blk (H1 = upd HG D (.lst ((List.replicate k true).map V.bl)))) (Blk.of rfl) (fun k H1 _ hB => ?_) ?_ ?_
      · obtain rfl := hB.out
        exact SqL.of ((upd_ne nLD).trans hL2G)
      · intro k y H1 hy hB
        obtain rfl := hB.out
        obtain ⟨h, hh, rfl⟩ := refs_get hy
        obtain ⟨x, hx, hx2⟩ := AllAt.get crG3 hh
        have sD : Same HG (upd HG D (.lst ((List.replicate k true).map V.bl))) := (Same.refl HG).upd hD
        have hxD := hx2.same sD
        have paD := paGG.same sD
        obtain ⟨dxD, eD⟩ := paD.ob
        obtain ⟨tk, th, ex, _, _⟩ := id hxD
        have kl := get_lt hx
        have okx := dr3.hw x (List.mem_of_getElem? hx)
        have shx : SeqAt.shaped (hrD x) = true := shaped_of (hrD_lay okx) (by have := hrD_deep x; omega)
        refine ⟨rfl, ?_⟩
        refine ⟨_, rfl, p, dxD, _, rfl, eD, pfs_no4, _, rfl, _, _, _, _, rfl, rfl, SqT.of ex, rfl, p, pl, hl', as2, has2, ps2, hs2, x.name, x, rfl, paD, cpGG.same sD, crew_find cokG hx, fun h2 hh2 => ?_⟩
        refine ⟨_, rfl, hrD x, hrD x, dp_hr hh2, dp_hr hxD, shx, shx, ?_⟩
        rw [SeqAt.eqv_refl _ (hrD_lay okx)]
        have hl3 := dr3.hl
        refine ⟨_, upd_same, by rw [List.length_map, List.length_replicate]; exact small (by omega), Blk.of ?_⟩
        rw [upd_upd, List.replicate_succ', List.map_append]
        rfl
      · intro H1 hB
        obtain rfl := hB.out
        refine ⟨D, _, rfl, SqL.of upd_same, ?_⟩
        have ea : ∀ n, ((List.replicate n true).all id) = true := fun n => by simp
        rw [ea]
        exact kk _
end
theorem all_mk {l : PySem.W.OpenLaw} {w : World} {K : PySem.W.Frag} {h : Heap} {mg : Str → Option Value} {fa c_Pacts c_NoPact c_NoText c_PactError f_NoPact_init f_NoText_init f_is_whole f_is_side f_is_name f_Pacts_init f_Pacts_pairs f_Pacts_pact f_Pacts_len f_p_is_pair f_p_fits_pairs f_p_is_pact f_p_are_takes f_p_are_throws f_p_fits_helpers f_Pacts_eq f_Pacts_str f_p_pair_line f_p_helper_line f_read_pacts f_p_has_pair_form f_p_has_helper_form f_p_takes_end f_p_read_helper f_box f_mixed f_take f_name f_names f_pairs f_some f_helpers f_line f_text f_pair_read f_helper_read f_read f_w_is_name f_pair_fits f_helper_fits f_first_bad f_row_changed f_changed f_made f_law : Addr} (X : K.In h) (G : h.Ns mainGlobals mg) (hfa : mg "law" = some (.ref fa))
    {od_NoPact_init an_NoPact_init od_NoText_init an_NoText_init od_is_whole an_is_whole od_is_side an_is_side od_is_name an_is_name od_Pacts_init an_Pacts_init od_Pacts_pairs an_Pacts_pairs od_Pacts_pact an_Pacts_pact od_Pacts_len an_Pacts_len od_p_is_pair an_p_is_pair od_p_fits_pairs an_p_fits_pairs od_p_is_pact an_p_is_pact od_p_are_takes an_p_are_takes od_p_are_throws an_p_are_throws od_p_fits_helpers an_p_fits_helpers od_Pacts_eq an_Pacts_eq od_Pacts_str an_Pacts_str od_p_pair_line an_p_pair_line od_p_helper_line an_p_helper_line od_read_pacts an_read_pacts od_p_has_pair_form an_p_has_pair_form od_p_has_helper_form an_p_has_helper_form od_p_takes_end an_p_takes_end od_p_read_helper an_p_read_helper od_box an_box od_mixed an_mixed od_take an_take od_name an_name od_names an_names od_pairs an_pairs od_some an_some od_helpers an_helpers od_line an_line od_text an_text od_pair_read an_pair_read od_helper_read an_helper_read od_read an_read od_w_is_name an_w_is_name od_pair_fits an_pair_fits od_helper_fits an_helper_fits od_first_bad an_first_bad od_row_changed an_row_changed od_changed an_changed od_made an_made od_law an_law : Option Addr} {sl_NoPact_init sl_NoText_init sl_is_whole sl_is_side sl_is_name sl_Pacts_init sl_Pacts_pairs sl_Pacts_pact sl_Pacts_len sl_p_is_pair sl_p_fits_pairs sl_p_is_pact sl_p_are_takes sl_p_are_throws sl_p_fits_helpers sl_Pacts_eq sl_Pacts_str sl_p_pair_line sl_p_helper_line sl_read_pacts sl_p_has_pair_form sl_p_has_helper_form sl_p_takes_end sl_p_read_helper sl_box sl_mixed sl_take sl_name sl_names sl_pairs sl_some sl_helpers sl_line sl_text sl_pair_read sl_helper_read sl_read sl_w_is_name sl_pair_fits sl_helper_fits sl_first_bad sl_row_changed sl_changed sl_made sl_law : Array (Option Value)}
    {oc_NoPact_init kV_NoPact_init dc_NoPact_init pm_NoPact_init cd_NoPact_init ct_NoPact_init oc_NoText_init kV_NoText_init dc_NoText_init pm_NoText_init cd_NoText_init ct_NoText_init oc_is_whole kV_is_whole dc_is_whole pm_is_whole cd_is_whole ct_is_whole oc_is_side kV_is_side dc_is_side pm_is_side cd_is_side ct_is_side oc_is_name kV_is_name dc_is_name pm_is_name cd_is_name ct_is_name oc_Pacts_init kV_Pacts_init dc_Pacts_init pm_Pacts_init cd_Pacts_init ct_Pacts_init oc_Pacts_pairs kV_Pacts_pairs dc_Pacts_pairs pm_Pacts_pairs cd_Pacts_pairs ct_Pacts_pairs oc_Pacts_pact kV_Pacts_pact dc_Pacts_pact pm_Pacts_pact cd_Pacts_pact ct_Pacts_pact oc_Pacts_len kV_Pacts_len dc_Pacts_len pm_Pacts_len cd_Pacts_len ct_Pacts_len oc_p_is_pair kV_p_is_pair dc_p_is_pair pm_p_is_pair cd_p_is_pair ct_p_is_pair oc_p_fits_pairs kV_p_fits_pairs dc_p_fits_pairs pm_p_fits_pairs cd_p_fits_pairs ct_p_fits_pairs oc_p_is_pact kV_p_is_pact dc_p_is_pact pm_p_is_pact cd_p_is_pact ct_p_is_pact oc_p_are_takes kV_p_are_takes dc_p_are_takes pm_p_are_takes cd_p_are_takes ct_p_are_takes oc_p_are_throws kV_p_are_throws dc_p_are_throws pm_p_are_throws cd_p_are_throws ct_p_are_throws oc_p_fits_helpers kV_p_fits_helpers dc_p_fits_helpers pm_p_fits_helpers cd_p_fits_helpers ct_p_fits_helpers oc_Pacts_eq kV_Pacts_eq dc_Pacts_eq pm_Pacts_eq cd_Pacts_eq ct_Pacts_eq oc_Pacts_str kV_Pacts_str dc_Pacts_str pm_Pacts_str cd_Pacts_str ct_Pacts_str oc_p_pair_line kV_p_pair_line dc_p_pair_line pm_p_pair_line cd_p_pair_line ct_p_pair_line oc_p_helper_line kV_p_helper_line dc_p_helper_line pm_p_helper_line cd_p_helper_line ct_p_helper_line oc_read_pacts kV_read_pacts dc_read_pacts pm_read_pacts cd_read_pacts ct_read_pacts oc_p_has_pair_form kV_p_has_pair_form dc_p_has_pair_form pm_p_has_pair_form cd_p_has_pair_form ct_p_has_pair_form oc_p_has_helper_form kV_p_has_helper_form dc_p_has_helper_form pm_p_has_helper_form cd_p_has_helper_form ct_p_has_helper_form oc_p_takes_end kV_p_takes_end dc_p_takes_end pm_p_takes_end cd_p_takes_end ct_p_takes_end oc_p_read_helper kV_p_read_helper dc_p_read_helper pm_p_read_helper cd_p_read_helper ct_p_read_helper oc_box kV_box dc_box pm_box cd_box ct_box oc_mixed kV_mixed dc_mixed pm_mixed cd_mixed ct_mixed oc_take kV_take dc_take pm_take cd_take ct_take oc_name kV_name dc_name pm_name cd_name ct_name oc_names kV_names dc_names pm_names cd_names ct_names oc_pairs kV_pairs dc_pairs pm_pairs cd_pairs ct_pairs oc_some kV_some dc_some pm_some cd_some ct_some oc_helpers kV_helpers dc_helpers pm_helpers cd_helpers ct_helpers oc_line kV_line dc_line pm_line cd_line ct_line oc_text kV_text dc_text pm_text cd_text ct_text oc_pair_read kV_pair_read dc_pair_read pm_pair_read cd_pair_read ct_pair_read oc_helper_read kV_helper_read dc_helper_read pm_helper_read cd_helper_read ct_helper_read oc_read kV_read dc_read pm_read cd_read ct_read oc_w_is_name kV_w_is_name dc_w_is_name pm_w_is_name cd_w_is_name ct_w_is_name oc_pair_fits kV_pair_fits dc_pair_fits pm_pair_fits cd_pair_fits ct_pair_fits oc_helper_fits kV_helper_fits dc_helper_fits pm_helper_fits cd_helper_fits ct_helper_fits oc_first_bad kV_first_bad dc_first_bad pm_first_bad cd_first_bad ct_first_bad oc_row_changed kV_row_changed dc_row_changed pm_row_changed cd_row_changed ct_row_changed oc_changed kV_changed dc_changed pm_changed cd_changed ct_changed oc_made kV_made dc_made pm_made cd_made ct_made oc_law kV_law dc_law pm_law cd_law ct_law : Value}
    {nm_NoPact qn_NoPact : Str} {N_NoPact : Addr} {bs_NoPact bm_NoPact sub_NoPact : List Value} {sn_NoPact : List Str} {ab_NoPact : Bool} {col_NoPact : Option Bool} {dd_NoPact : Option Addr} {e0_NoPact e1_NoPact e2_NoPact e3_NoPact e5_NoPact : Option Value}
    {nm_NoText qn_NoText : Str} {N_NoText : Addr} {bs_NoText bm_NoText sub_NoText : List Value} {sn_NoText : List Str} {ab_NoText : Bool} {col_NoText : Option Bool} {dd_NoText : Option Addr} {e0_NoText e1_NoText e2_NoText e3_NoText e5_NoText : Option Value}
    {t_LONGEST_NAME : Tok}
    {t_MOST_PAIRS : Tok}
    {t_MOST_HELPERS : Tok}
    {t_MOST_TAKES : Tok}
    {t_MOST_THROWS : Tok}
    {t_TAKES : Addr} {dd_TAKES : Option Addr} {n_TAKES : Nat} {sl_TAKES : Array (Option Value)} {tk0_TAKES tk1_TAKES : Tok}
    (a_Pacts : PySem.W.nsIn K mainGlobals "Pacts" = some (some (.ref c_Pacts)))
    (pg_Pacts : PySem.W.plainGet K c_Pacts Str.empty = true)
    (hd_Pacts : PySem.W.hasDictIn K c_Pacts = true)
    (po_Pacts : PySem.W.plainOver K c_Pacts = true)
    (sa_Pacts : PySem.W.findIn K (.ref c_Pacts) "__setattr__" = some (some (.builtin "object.__setattr__")))
    (mk_Pacts : PySem.W.makesIn K c_Pacts = true)
    (kc_Pacts : PySem.W.keepIn K (.ref c_Pacts) = true)
    (n_Pacts__pairs : PySem.W.findIn K (.ref c_Pacts) "_pairs" = some none)
    (n_Pacts__helpers : PySem.W.findIn K (.ref c_Pacts) "_helpers" = some none)
    (a_NoPact : PySem.W.nsIn K mainGlobals "NoPact" = some (some (.ref c_NoPact)))
    (xl_NoPact : K.lookup c_NoPact = some (excClassObj nm_NoPact qn_NoPact c_NoPact N_NoPact bs_NoPact bm_NoPact true sn_NoPact sub_NoPact ab_NoPact col_NoPact dd_NoPact e0_NoPact e1_NoPact e2_NoPact e3_NoPact e5_NoPact "ValueError.__new__"))
    (xm_NoPact : PySem.HandSPX.refsVE bm_NoPact = true)
    (xs_NoPact : PySem.W.findIn K (.ref c_NoPact) "__setattr__" = some (some (.builtin "object.__setattr__")))
    (xe_NoPact : PySem.W.subIn K (.ref c_NoPact) (.type "BaseException") = some true)
    (xy_NoPact : PySem.W.typeIn K (.ref c_NoPact) = some (.type "type"))
    (xk_NoPact : PySem.W.keepIn K (.ref c_NoPact) = true)
    (xg_NoPact : PySem.W.findIn K (.ref c_NoPact) "__getattribute__" = some (some (.builtin "BaseException.__getattribute__")))
    (xo_NoPact : PySem.W.findIn K (.ref c_NoPact) "__getattr__" = some none)
    (xd_NoPact : PySem.W.hasDictIn K c_NoPact = true)
    (n_NoPact_at : PySem.W.findIn K (.ref c_NoPact) "at" = some none)
    (a_NoText : PySem.W.nsIn K mainGlobals "NoText" = some (some (.ref c_NoText)))
    (xl_NoText : K.lookup c_NoText = some (excClassObj nm_NoText qn_NoText c_NoText N_NoText bs_NoText bm_NoText true sn_NoText sub_NoText ab_NoText col_NoText dd_NoText e0_NoText e1_NoText e2_NoText e3_NoText e5_NoText "ValueError.__new__"))
    (xm_NoText : PySem.HandSPX.refsVE bm_NoText = true)
    (xs_NoText : PySem.W.findIn K (.ref c_NoText) "__setattr__" = some (some (.builtin "object.__setattr__")))
    (xe_NoText : PySem.W.subIn K (.ref c_NoText) (.type "BaseException") = some true)
    (xy_NoText : PySem.W.typeIn K (.ref c_NoText) = some (.type "type"))
    (xk_NoText : PySem.W.keepIn K (.ref c_NoText) = true)
    (xg_NoText : PySem.W.findIn K (.ref c_NoText) "__getattribute__" = some (some (.builtin "BaseException.__getattribute__")))
    (xo_NoText : PySem.W.findIn K (.ref c_NoText) "__getattr__" = some none)
    (xd_NoText : PySem.W.hasDictIn K c_NoText = true)
    (n_NoText_at : PySem.W.findIn K (.ref c_NoText) "at" = some none)
    (a_PactError : PySem.W.nsIn K mainGlobals "PactError" = some (some (.ref c_PactError)))
    (da_PactError : PySem.W.specialIn K (.ref c_PactError) "__getattribute__" = some (some (.builtin "type.__getattribute__")))
    (dr_PactError : PySem.W.readsIn K c_PactError (.type "type") = true)
    (df_PactError : PySem.W.findCls K (.ref c_PactError) (.type "type") "__init__" = some (.val (.builtin "ValueError.__init__")))
    (v_LONGEST_NAME : PySem.W.nsIn K mainGlobals "LONGEST_NAME" = some (some (.int 8 t_LONGEST_NAME)))
    (v_MOST_PAIRS : PySem.W.nsIn K mainGlobals "MOST_PAIRS" = some (some (.int 6 t_MOST_PAIRS)))
    (v_MOST_HELPERS : PySem.W.nsIn K mainGlobals "MOST_HELPERS" = some (some (.int 4 t_MOST_HELPERS)))
    (v_MOST_TAKES : PySem.W.nsIn K mainGlobals "MOST_TAKES" = some (some (.int 3 t_MOST_TAKES)))
    (v_MOST_THROWS : PySem.W.nsIn K mainGlobals "MOST_THROWS" = some (some (.int 4 t_MOST_THROWS)))
    (v_TAKES : PySem.W.nsIn K mainGlobals "TAKES" = some (some (.ref t_TAKES)))
    (lk_TAKES : K.lookup t_TAKES = some ⟨.type "tuple", dd_TAKES, .seq #[.str "lent" tk0_TAKES, .str "given" tk1_TAKES] n_TAKES, sl_TAKES⟩)
    (fa_NoPact : PySem.W.findIn K (.ref c_NoPact) "__class__" = some (some (.builtin "object.__class__")))
    (fm_NoPact : PySem.W.mroIn K c_NoPact (.type "object") = some true)
    (fs_NoPact : PySem.W.kitOne K (.ref c_NoPact) (.ref c_NoPact) = some true)
    (fv_NoPact : PySem.W.kitOne K (.ref c_NoPact) (.type "ValueError") = some true)
    (fx_NoPact : PySem.W.kitOne K (.ref c_NoPact) (.ref c_NoText) = some false)
    (fe_NoPact : PySem.W.exmOne K (.ref c_NoPact) (.ref c_PactError) = some true)
    (fa_NoText : PySem.W.findIn K (.ref c_NoText) "__class__" = some (some (.builtin "object.__class__")))
    (fm_NoText : PySem.W.mroIn K c_NoText (.type "object") = some true)
    (fs_NoText : PySem.W.kitOne K (.ref c_NoText) (.ref c_NoText) = some true)
    (fv_NoText : PySem.W.kitOne K (.ref c_NoText) (.type "ValueError") = some true)
    (fx_NoText : PySem.W.kitOne K (.ref c_NoText) (.ref c_NoPact) = some false)
    (fe_NoText : PySem.W.exmOne K (.ref c_NoText) (.ref c_PactError) = some true)
    (fg : PySem.W.specialIn K (.builtin "object.__class__") "__get__" = some (some (.builtin "getset_descriptor.__get__")))
    (ft : PySem.W.takesIn K (.builtin "object.__class__") = some true)
    (pn_1 : PySem.W.findIn K (.ref c_Pacts) "__ne__" = some (some (.builtin "object.__ne__")))
    (pn_2 : PySem.W.mroIn K c_Pacts (.type "object") = some true)
    (pn_3 : PySem.W.subIn K (.ref c_Pacts) (.type "NoneType") = some false)
    (pn_4 : PySem.W.subIn K (.ref c_Pacts) (.type "int") = some false)
    (pn_5 : PySem.W.subIn K (.ref c_Pacts) (.type "str") = some false)
    (pn_6 : PySem.W.subIn K (.ref c_Pacts) (.type "list") = some false)
    (pn_7 : PySem.W.findIn K (.ref c_Pacts) "__class__" = some (some (.builtin "object.__class__")))
    (pn_8 : PySem.W.kitOne K (.ref c_Pacts) (.ref c_Pacts) = some true)
    (pn_9 : PySem.W.kitOne K (.type "NoneType") (.ref c_Pacts) = some false)
    (pn_10 : PySem.W.kitOne K (.type "int") (.ref c_Pacts) = some false)
    (pn_11 : PySem.W.kitOne K (.type "str") (.ref c_Pacts) = some false)
    (pn_12 : PySem.W.kitOne K (.type "list") (.ref c_Pacts) = some false)
    (a_NoPact_init : PySem.W.findIn K (.ref c_NoPact) "__init__" = some (some (.ref f_NoPact_init)))
    (i_NoPact_init : PySem.W.isFn K (.ref f_NoPact_init) = true)
    (l_NoPact_init : K.lookup f_NoPact_init = some ⟨oc_NoPact_init, od_NoPact_init, .func (PySem.W.fnOf "__init__" "NoPact.__init__" (defArgs s_NoPact_init) (defBody s_NoPact_init) (defScope s_NoPact_init) .none kV_NoPact_init dc_NoPact_init pm_NoPact_init an_NoPact_init cd_NoPact_init ct_NoPact_init), sl_NoPact_init⟩)
    (q_NoPact_init : PySem.W.codeIn K cd_NoPact_init "NoPact.__init__" = true)
    (k_NoPact_init : PySem.W.keepIn K (.ref f_NoPact_init) = true)
    (a_NoText_init : PySem.W.findIn K (.ref c_NoText) "__init__" = some (some (.ref f_NoText_init)))
    (i_NoText_init : PySem.W.isFn K (.ref f_NoText_init) = true)
    (l_NoText_init : K.lookup f_NoText_init = some ⟨oc_NoText_init, od_NoText_init, .func (PySem.W.fnOf "__init__" "NoText.__init__" (defArgs s_NoText_init) (defBody s_NoText_init) (defScope s_NoText_init) .none kV_NoText_init dc_NoText_init pm_NoText_init an_NoText_init cd_NoText_init ct_NoText_init), sl_NoText_init⟩)
    (q_NoText_init : PySem.W.codeIn K cd_NoText_init "NoText.__init__" = true)
    (k_NoText_init : PySem.W.keepIn K (.ref f_NoText_init) = true)
    (a_is_whole : PySem.W.nsIn K mainGlobals "is_whole" = some (some (.ref f_is_whole)))
    (l_is_whole : K.lookup f_is_whole = some ⟨oc_is_whole, od_is_whole, .func (PySem.W.fnOf "is_whole" "is_whole" (defArgs s_is_whole) (defBody s_is_whole) (defScope s_is_whole) .none kV_is_whole dc_is_whole pm_is_whole an_is_whole cd_is_whole ct_is_whole), sl_is_whole⟩)
    (q_is_whole : PySem.W.codeIn K cd_is_whole "is_whole" = true)
    (k_is_whole : PySem.W.keepIn K (.ref f_is_whole) = true)
    (a_is_side : PySem.W.nsIn K mainGlobals "is_side" = some (some (.ref f_is_side)))
    (l_is_side : K.lookup f_is_side = some ⟨oc_is_side, od_is_side, .func (PySem.W.fnOf "is_side" "is_side" (defArgs s_is_side) (defBody s_is_side) (defScope s_is_side) .none kV_is_side dc_is_side pm_is_side an_is_side cd_is_side ct_is_side), sl_is_side⟩)
    (q_is_side : PySem.W.codeIn K cd_is_side "is_side" = true)
    (k_is_side : PySem.W.keepIn K (.ref f_is_side) = true)
    (a_is_name : PySem.W.nsIn K mainGlobals "is_name" = some (some (.ref f_is_name)))
    (l_is_name : K.lookup f_is_name = some ⟨oc_is_name, od_is_name, .func (PySem.W.fnOf "is_name" "is_name" (defArgs s_is_name) (defBody s_is_name) (defScope s_is_name) .none kV_is_name dc_is_name pm_is_name an_is_name cd_is_name ct_is_name), sl_is_name⟩)
    (q_is_name : PySem.W.codeIn K cd_is_name "is_name" = true)
    (k_is_name : PySem.W.keepIn K (.ref f_is_name) = true)
    (a_Pacts_init : PySem.W.findIn K (.ref c_Pacts) "__init__" = some (some (.ref f_Pacts_init)))
    (i_Pacts_init : PySem.W.isFn K (.ref f_Pacts_init) = true)
    (l_Pacts_init : K.lookup f_Pacts_init = some ⟨oc_Pacts_init, od_Pacts_init, .func (PySem.W.fnOf "__init__" "Pacts.__init__" (defArgs s_Pacts_init) (defBody s_Pacts_init) (defScope s_Pacts_init) .none kV_Pacts_init dc_Pacts_init pm_Pacts_init an_Pacts_init cd_Pacts_init ct_Pacts_init), sl_Pacts_init⟩)
    (q_Pacts_init : PySem.W.codeIn K cd_Pacts_init "Pacts.__init__" = true)
    (k_Pacts_init : PySem.W.keepIn K (.ref f_Pacts_init) = true)
    (a_Pacts_pairs : PySem.W.findIn K (.ref c_Pacts) "pairs" = some (some (.ref f_Pacts_pairs)))
    (i_Pacts_pairs : PySem.W.isFn K (.ref f_Pacts_pairs) = true)
    (l_Pacts_pairs : K.lookup f_Pacts_pairs = some ⟨oc_Pacts_pairs, od_Pacts_pairs, .func (PySem.W.fnOf "pairs" "Pacts.pairs" (defArgs s_Pacts_pairs) (defBody s_Pacts_pairs) (defScope s_Pacts_pairs) .none kV_Pacts_pairs dc_Pacts_pairs pm_Pacts_pairs an_Pacts_pairs cd_Pacts_pairs ct_Pacts_pairs), sl_Pacts_pairs⟩)
    (q_Pacts_pairs : PySem.W.codeIn K cd_Pacts_pairs "Pacts.pairs" = true)
    (k_Pacts_pairs : PySem.W.keepIn K (.ref f_Pacts_pairs) = true)
    (a_Pacts_pact : PySem.W.findIn K (.ref c_Pacts) "pact" = some (some (.ref f_Pacts_pact)))
    (i_Pacts_pact : PySem.W.isFn K (.ref f_Pacts_pact) = true)
    (l_Pacts_pact : K.lookup f_Pacts_pact = some ⟨oc_Pacts_pact, od_Pacts_pact, .func (PySem.W.fnOf "pact" "Pacts.pact" (defArgs s_Pacts_pact) (defBody s_Pacts_pact) (defScope s_Pacts_pact) .none kV_Pacts_pact dc_Pacts_pact pm_Pacts_pact an_Pacts_pact cd_Pacts_pact ct_Pacts_pact), sl_Pacts_pact⟩)
    (q_Pacts_pact : PySem.W.codeIn K cd_Pacts_pact "Pacts.pact" = true)
    (k_Pacts_pact : PySem.W.keepIn K (.ref f_Pacts_pact) = true)
    (a_Pacts_len : PySem.W.findIn K (.ref c_Pacts) "__len__" = some (some (.ref f_Pacts_len)))
    (i_Pacts_len : PySem.W.isFn K (.ref f_Pacts_len) = true)
    (l_Pacts_len : K.lookup f_Pacts_len = some ⟨oc_Pacts_len, od_Pacts_len, .func (PySem.W.fnOf "__len__" "Pacts.__len__" (defArgs s_Pacts_len) (defBody s_Pacts_len) (defScope s_Pacts_len) .none kV_Pacts_len dc_Pacts_len pm_Pacts_len an_Pacts_len cd_Pacts_len ct_Pacts_len), sl_Pacts_len⟩)
    (q_Pacts_len : PySem.W.codeIn K cd_Pacts_len "Pacts.__len__" = true)
    (k_Pacts_len : PySem.W.keepIn K (.ref f_Pacts_len) = true)
    (a_p_is_pair : PySem.W.nsIn K mainGlobals "_is_pair" = some (some (.ref f_p_is_pair)))
    (l_p_is_pair : K.lookup f_p_is_pair = some ⟨oc_p_is_pair, od_p_is_pair, .func (PySem.W.fnOf "_is_pair" "_is_pair" (defArgs s_p_is_pair) (defBody s_p_is_pair) (defScope s_p_is_pair) .none kV_p_is_pair dc_p_is_pair pm_p_is_pair an_p_is_pair cd_p_is_pair ct_p_is_pair), sl_p_is_pair⟩)
    (q_p_is_pair : PySem.W.codeIn K cd_p_is_pair "_is_pair" = true)
    (k_p_is_pair : PySem.W.keepIn K (.ref f_p_is_pair) = true)
    (a_p_fits_pairs : PySem.W.nsIn K mainGlobals "_fits_pairs" = some (some (.ref f_p_fits_pairs)))
    (l_p_fits_pairs : K.lookup f_p_fits_pairs = some ⟨oc_p_fits_pairs, od_p_fits_pairs, .func (PySem.W.fnOf "_fits_pairs" "_fits_pairs" (defArgs s_p_fits_pairs) (defBody s_p_fits_pairs) (defScope s_p_fits_pairs) .none kV_p_fits_pairs dc_p_fits_pairs pm_p_fits_pairs an_p_fits_pairs cd_p_fits_pairs ct_p_fits_pairs), sl_p_fits_pairs⟩)
    (q_p_fits_pairs : PySem.W.codeIn K cd_p_fits_pairs "_fits_pairs" = true)
    (k_p_fits_pairs : PySem.W.keepIn K (.ref f_p_fits_pairs) = true)
    (a_p_is_pact : PySem.W.nsIn K mainGlobals "_is_pact" = some (some (.ref f_p_is_pact)))
    (l_p_is_pact : K.lookup f_p_is_pact = some ⟨oc_p_is_pact, od_p_is_pact, .func (PySem.W.fnOf "_is_pact" "_is_pact" (defArgs s_p_is_pact) (defBody s_p_is_pact) (defScope s_p_is_pact) .none kV_p_is_pact dc_p_is_pact pm_p_is_pact an_p_is_pact cd_p_is_pact ct_p_is_pact), sl_p_is_pact⟩)
    (q_p_is_pact : PySem.W.codeIn K cd_p_is_pact "_is_pact" = true)
    (k_p_is_pact : PySem.W.keepIn K (.ref f_p_is_pact) = true)
    (a_p_are_takes : PySem.W.nsIn K mainGlobals "_are_takes" = some (some (.ref f_p_are_takes)))
    (l_p_are_takes : K.lookup f_p_are_takes = some ⟨oc_p_are_takes, od_p_are_takes, .func (PySem.W.fnOf "_are_takes" "_are_takes" (defArgs s_p_are_takes) (defBody s_p_are_takes) (defScope s_p_are_takes) .none kV_p_are_takes dc_p_are_takes pm_p_are_takes an_p_are_takes cd_p_are_takes ct_p_are_takes), sl_p_are_takes⟩)
    (q_p_are_takes : PySem.W.codeIn K cd_p_are_takes "_are_takes" = true)
    (k_p_are_takes : PySem.W.keepIn K (.ref f_p_are_takes) = true)
    (a_p_are_throws : PySem.W.nsIn K mainGlobals "_are_throws" = some (some (.ref f_p_are_throws)))
    (l_p_are_throws : K.lookup f_p_are_throws = some ⟨oc_p_are_throws, od_p_are_throws, .func (PySem.W.fnOf "_are_throws" "_are_throws" (defArgs s_p_are_throws) (defBody s_p_are_throws) (defScope s_p_are_throws) .none kV_p_are_throws dc_p_are_throws pm_p_are_throws an_p_are_throws cd_p_are_throws ct_p_are_throws), sl_p_are_throws⟩)
    (q_p_are_throws : PySem.W.codeIn K cd_p_are_throws "_are_throws" = true)
    (k_p_are_throws : PySem.W.keepIn K (.ref f_p_are_throws) = true)
    (a_p_fits_helpers : PySem.W.nsIn K mainGlobals "_fits_helpers" = some (some (.ref f_p_fits_helpers)))
    (l_p_fits_helpers : K.lookup f_p_fits_helpers = some ⟨oc_p_fits_helpers, od_p_fits_helpers, .func (PySem.W.fnOf "_fits_helpers" "_fits_helpers" (defArgs s_p_fits_helpers) (defBody s_p_fits_helpers) (defScope s_p_fits_helpers) .none kV_p_fits_helpers dc_p_fits_helpers pm_p_fits_helpers an_p_fits_helpers cd_p_fits_helpers ct_p_fits_helpers), sl_p_fits_helpers⟩)
    (q_p_fits_helpers : PySem.W.codeIn K cd_p_fits_helpers "_fits_helpers" = true)
    (k_p_fits_helpers : PySem.W.keepIn K (.ref f_p_fits_helpers) = true)
    (a_Pacts_eq : PySem.W.findIn K (.ref c_Pacts) "__eq__" = some (some (.ref f_Pacts_eq)))
    (i_Pacts_eq : PySem.W.isFn K (.ref f_Pacts_eq) = true)
    (l_Pacts_eq : K.lookup f_Pacts_eq = some ⟨oc_Pacts_eq, od_Pacts_eq, .func (PySem.W.fnOf "__eq__" "Pacts.__eq__" (defArgs s_Pacts_eq) (defBody s_Pacts_eq) (defScope s_Pacts_eq) .none kV_Pacts_eq dc_Pacts_eq pm_Pacts_eq an_Pacts_eq cd_Pacts_eq ct_Pacts_eq), sl_Pacts_eq⟩)
    (q_Pacts_eq : PySem.W.codeIn K cd_Pacts_eq "Pacts.__eq__" = true)
    (k_Pacts_eq : PySem.W.keepIn K (.ref f_Pacts_eq) = true)
    (a_Pacts_str : PySem.W.findIn K (.ref c_Pacts) "__str__" = some (some (.ref f_Pacts_str)))
    (i_Pacts_str : PySem.W.isFn K (.ref f_Pacts_str) = true)
    (l_Pacts_str : K.lookup f_Pacts_str = some ⟨oc_Pacts_str, od_Pacts_str, .func (PySem.W.fnOf "__str__" "Pacts.__str__" (defArgs s_Pacts_str) (defBody s_Pacts_str) (defScope s_Pacts_str) .none kV_Pacts_str dc_Pacts_str pm_Pacts_str an_Pacts_str cd_Pacts_str ct_Pacts_str), sl_Pacts_str⟩)
    (q_Pacts_str : PySem.W.codeIn K cd_Pacts_str "Pacts.__str__" = true)
    (k_Pacts_str : PySem.W.keepIn K (.ref f_Pacts_str) = true)
    (a_p_pair_line : PySem.W.nsIn K mainGlobals "_pair_line" = some (some (.ref f_p_pair_line)))
    (l_p_pair_line : K.lookup f_p_pair_line = some ⟨oc_p_pair_line, od_p_pair_line, .func (PySem.W.fnOf "_pair_line" "_pair_line" (defArgs s_p_pair_line) (defBody s_p_pair_line) (defScope s_p_pair_line) .none kV_p_pair_line dc_p_pair_line pm_p_pair_line an_p_pair_line cd_p_pair_line ct_p_pair_line), sl_p_pair_line⟩)
    (q_p_pair_line : PySem.W.codeIn K cd_p_pair_line "_pair_line" = true)
    (k_p_pair_line : PySem.W.keepIn K (.ref f_p_pair_line) = true)
    (a_p_helper_line : PySem.W.nsIn K mainGlobals "_helper_line" = some (some (.ref f_p_helper_line)))
    (l_p_helper_line : K.lookup f_p_helper_line = some ⟨oc_p_helper_line, od_p_helper_line, .func (PySem.W.fnOf "_helper_line" "_helper_line" (defArgs s_p_helper_line) (defBody s_p_helper_line) (defScope s_p_helper_line) .none kV_p_helper_line dc_p_helper_line pm_p_helper_line an_p_helper_line cd_p_helper_line ct_p_helper_line), sl_p_helper_line⟩)
    (q_p_helper_line : PySem.W.codeIn K cd_p_helper_line "_helper_line" = true)
    (k_p_helper_line : PySem.W.keepIn K (.ref f_p_helper_line) = true)
    (a_read_pacts : PySem.W.nsIn K mainGlobals "read_pacts" = some (some (.ref f_read_pacts)))
    (l_read_pacts : K.lookup f_read_pacts = some ⟨oc_read_pacts, od_read_pacts, .func (PySem.W.fnOf "read_pacts" "read_pacts" (defArgs s_read_pacts) (defBody s_read_pacts) (defScope s_read_pacts) .none kV_read_pacts dc_read_pacts pm_read_pacts an_read_pacts cd_read_pacts ct_read_pacts), sl_read_pacts⟩)
    (q_read_pacts : PySem.W.codeIn K cd_read_pacts "read_pacts" = true)
    (k_read_pacts : PySem.W.keepIn K (.ref f_read_pacts) = true)
    (a_p_has_pair_form : PySem.W.nsIn K mainGlobals "_has_pair_form" = some (some (.ref f_p_has_pair_form)))
    (l_p_has_pair_form : K.lookup f_p_has_pair_form = some ⟨oc_p_has_pair_form, od_p_has_pair_form, .func (PySem.W.fnOf "_has_pair_form" "_has_pair_form" (defArgs s_p_has_pair_form) (defBody s_p_has_pair_form) (defScope s_p_has_pair_form) .none kV_p_has_pair_form dc_p_has_pair_form pm_p_has_pair_form an_p_has_pair_form cd_p_has_pair_form ct_p_has_pair_form), sl_p_has_pair_form⟩)
    (q_p_has_pair_form : PySem.W.codeIn K cd_p_has_pair_form "_has_pair_form" = true)
    (k_p_has_pair_form : PySem.W.keepIn K (.ref f_p_has_pair_form) = true)
    (a_p_has_helper_form : PySem.W.nsIn K mainGlobals "_has_helper_form" = some (some (.ref f_p_has_helper_form)))
    (l_p_has_helper_form : K.lookup f_p_has_helper_form = some ⟨oc_p_has_helper_form, od_p_has_helper_form, .func (PySem.W.fnOf "_has_helper_form" "_has_helper_form" (defArgs s_p_has_helper_form) (defBody s_p_has_helper_form) (defScope s_p_has_helper_form) .none kV_p_has_helper_form dc_p_has_helper_form pm_p_has_helper_form an_p_has_helper_form cd_p_has_helper_form ct_p_has_helper_form), sl_p_has_helper_form⟩)
    (q_p_has_helper_form : PySem.W.codeIn K cd_p_has_helper_form "_has_helper_form" = true)
    (k_p_has_helper_form : PySem.W.keepIn K (.ref f_p_has_helper_form) = true)
    (a_p_takes_end : PySem.W.nsIn K mainGlobals "_takes_end" = some (some (.ref f_p_takes_end)))
    (l_p_takes_end : K.lookup f_p_takes_end = some ⟨oc_p_takes_end, od_p_takes_end, .func (PySem.W.fnOf "_takes_end" "_takes_end" (defArgs s_p_takes_end) (defBody s_p_takes_end) (defScope s_p_takes_end) .none kV_p_takes_end dc_p_takes_end pm_p_takes_end an_p_takes_end cd_p_takes_end ct_p_takes_end), sl_p_takes_end⟩)
    (q_p_takes_end : PySem.W.codeIn K cd_p_takes_end "_takes_end" = true)
    (k_p_takes_end : PySem.W.keepIn K (.ref f_p_takes_end) = true)
    (a_p_read_helper : PySem.W.nsIn K mainGlobals "_read_helper" = some (some (.ref f_p_read_helper)))
    (l_p_read_helper : K.lookup f_p_read_helper = some ⟨oc_p_read_helper, od_p_read_helper, .func (PySem.W.fnOf "_read_helper" "_read_helper" (defArgs s_p_read_helper) (defBody s_p_read_helper) (defScope s_p_read_helper) .none kV_p_read_helper dc_p_read_helper pm_p_read_helper an_p_read_helper cd_p_read_helper ct_p_read_helper), sl_p_read_helper⟩)
    (q_p_read_helper : PySem.W.codeIn K cd_p_read_helper "_read_helper" = true)
    (k_p_read_helper : PySem.W.keepIn K (.ref f_p_read_helper) = true)
    (a_box : PySem.W.nsIn K mainGlobals "_law_box" = some (some (.ref f_box)))
    (l_box : K.lookup f_box = some ⟨oc_box, od_box, .func (PySem.W.fnOf "_law_box" "_law_box" (defArgs s_box) (defBody s_box) (defScope s_box) .none kV_box dc_box pm_box an_box cd_box ct_box), sl_box⟩)
    (q_box : PySem.W.codeIn K cd_box "_law_box" = true)
    (k_box : PySem.W.keepIn K (.ref f_box) = true)
    (a_mixed : PySem.W.nsIn K mainGlobals "_law_mixed" = some (some (.ref f_mixed)))
    (l_mixed : K.lookup f_mixed = some ⟨oc_mixed, od_mixed, .func (PySem.W.fnOf "_law_mixed" "_law_mixed" (defArgs s_mixed) (defBody s_mixed) (defScope s_mixed) .none kV_mixed dc_mixed pm_mixed an_mixed cd_mixed ct_mixed), sl_mixed⟩)
    (q_mixed : PySem.W.codeIn K cd_mixed "_law_mixed" = true)
    (k_mixed : PySem.W.keepIn K (.ref f_mixed) = true)
    (a_take : PySem.W.nsIn K mainGlobals "_law_take" = some (some (.ref f_take)))
    (l_take : K.lookup f_take = some ⟨oc_take, od_take, .func (PySem.W.fnOf "_law_take" "_law_take" (defArgs s_take) (defBody s_take) (defScope s_take) .none kV_take dc_take pm_take an_take cd_take ct_take), sl_take⟩)
    (q_take : PySem.W.codeIn K cd_take "_law_take" = true)
    (k_take : PySem.W.keepIn K (.ref f_take) = true)
    (a_name : PySem.W.nsIn K mainGlobals "_law_name" = some (some (.ref f_name)))
    (l_name : K.lookup f_name = some ⟨oc_name, od_name, .func (PySem.W.fnOf "_law_name" "_law_name" (defArgs s_name) (defBody s_name) (defScope s_name) .none kV_name dc_name pm_name an_name cd_name ct_name), sl_name⟩)
    (q_name : PySem.W.codeIn K cd_name "_law_name" = true)
    (k_name : PySem.W.keepIn K (.ref f_name) = true)
    (a_names : PySem.W.nsIn K mainGlobals "_law_names" = some (some (.ref f_names)))
    (l_names : K.lookup f_names = some ⟨oc_names, od_names, .func (PySem.W.fnOf "_law_names" "_law_names" (defArgs s_names) (defBody s_names) (defScope s_names) .none kV_names dc_names pm_names an_names cd_names ct_names), sl_names⟩)
    (q_names : PySem.W.codeIn K cd_names "_law_names" = true)
    (k_names : PySem.W.keepIn K (.ref f_names) = true)
    (a_pairs : PySem.W.nsIn K mainGlobals "_law_pairs" = some (some (.ref f_pairs)))
    (l_pairs : K.lookup f_pairs = some ⟨oc_pairs, od_pairs, .func (PySem.W.fnOf "_law_pairs" "_law_pairs" (defArgs s_pairs) (defBody s_pairs) (defScope s_pairs) .none kV_pairs dc_pairs pm_pairs an_pairs cd_pairs ct_pairs), sl_pairs⟩)
    (q_pairs : PySem.W.codeIn K cd_pairs "_law_pairs" = true)
    (k_pairs : PySem.W.keepIn K (.ref f_pairs) = true)
    (a_some : PySem.W.nsIn K mainGlobals "_law_some" = some (some (.ref f_some)))
    (l_some : K.lookup f_some = some ⟨oc_some, od_some, .func (PySem.W.fnOf "_law_some" "_law_some" (defArgs s_some) (defBody s_some) (defScope s_some) .none kV_some dc_some pm_some an_some cd_some ct_some), sl_some⟩)
    (q_some : PySem.W.codeIn K cd_some "_law_some" = true)
    (k_some : PySem.W.keepIn K (.ref f_some) = true)
    (a_helpers : PySem.W.nsIn K mainGlobals "_law_helpers" = some (some (.ref f_helpers)))
    (l_helpers : K.lookup f_helpers = some ⟨oc_helpers, od_helpers, .func (PySem.W.fnOf "_law_helpers" "_law_helpers" (defArgs s_helpers) (defBody s_helpers) (defScope s_helpers) .none kV_helpers dc_helpers pm_helpers an_helpers cd_helpers ct_helpers), sl_helpers⟩)
    (q_helpers : PySem.W.codeIn K cd_helpers "_law_helpers" = true)
    (k_helpers : PySem.W.keepIn K (.ref f_helpers) = true)
    (a_line : PySem.W.nsIn K mainGlobals "_law_line" = some (some (.ref f_line)))
    (l_line : K.lookup f_line = some ⟨oc_line, od_line, .func (PySem.W.fnOf "_law_line" "_law_line" (defArgs s_line) (defBody s_line) (defScope s_line) .none kV_line dc_line pm_line an_line cd_line ct_line), sl_line⟩)
    (q_line : PySem.W.codeIn K cd_line "_law_line" = true)
    (k_line : PySem.W.keepIn K (.ref f_line) = true)
    (a_text : PySem.W.nsIn K mainGlobals "_law_text" = some (some (.ref f_text)))
    (l_text : K.lookup f_text = some ⟨oc_text, od_text, .func (PySem.W.fnOf "_law_text" "_law_text" (defArgs s_text) (defBody s_text) (defScope s_text) .none kV_text dc_text pm_text an_text cd_text ct_text), sl_text⟩)
    (q_text : PySem.W.codeIn K cd_text "_law_text" = true)
    (k_text : PySem.W.keepIn K (.ref f_text) = true)
    (a_pair_read : PySem.W.nsIn K mainGlobals "_law_pair_read" = some (some (.ref f_pair_read)))
    (l_pair_read : K.lookup f_pair_read = some ⟨oc_pair_read, od_pair_read, .func (PySem.W.fnOf "_law_pair_read" "_law_pair_read" (defArgs s_pair_read) (defBody s_pair_read) (defScope s_pair_read) .none kV_pair_read dc_pair_read pm_pair_read an_pair_read cd_pair_read ct_pair_read), sl_pair_read⟩)
    (q_pair_read : PySem.W.codeIn K cd_pair_read "_law_pair_read" = true)
    (k_pair_read : PySem.W.keepIn K (.ref f_pair_read) = true)
    (a_helper_read : PySem.W.nsIn K mainGlobals "_law_helper_read" = some (some (.ref f_helper_read)))
    (l_helper_read : K.lookup f_helper_read = some ⟨oc_helper_read, od_helper_read, .func (PySem.W.fnOf "_law_helper_read" "_law_helper_read" (defArgs s_helper_read) (defBody s_helper_read) (defScope s_helper_read) .none kV_helper_read dc_helper_read pm_helper_read an_helper_read cd_helper_read ct_helper_read), sl_helper_read⟩)
    (q_helper_read : PySem.W.codeIn K cd_helper_read "_law_helper_read" = true)
    (k_helper_read : PySem.W.keepIn K (.ref f_helper_read) = true)
    (a_read : PySem.W.nsIn K mainGlobals "_law_read" = some (some (.ref f_read)))
    (l_read : K.lookup f_read = some ⟨oc_read, od_read, .func (PySem.W.fnOf "_law_read" "_law_read" (defArgs s_read) (defBody s_read) (defScope s_read) .none kV_read dc_read pm_read an_read cd_read ct_read), sl_read⟩)
    (q_read : PySem.W.codeIn K cd_read "_law_read" = true)
    (k_read : PySem.W.keepIn K (.ref f_read) = true)
    (a_w_is_name : PySem.W.nsIn K mainGlobals "_law_is_name" = some (some (.ref f_w_is_name)))
    (l_w_is_name : K.lookup f_w_is_name = some ⟨oc_w_is_name, od_w_is_name, .func (PySem.W.fnOf "_law_is_name" "_law_is_name" (defArgs s_w_is_name) (defBody s_w_is_name) (defScope s_w_is_name) .none kV_w_is_name dc_w_is_name pm_w_is_name an_w_is_name cd_w_is_name ct_w_is_name), sl_w_is_name⟩)
    (q_w_is_name : PySem.W.codeIn K cd_w_is_name "_law_is_name" = true)
    (k_w_is_name : PySem.W.keepIn K (.ref f_w_is_name) = true)
    (a_pair_fits : PySem.W.nsIn K mainGlobals "_law_pair_fits" = some (some (.ref f_pair_fits)))
    (l_pair_fits : K.lookup f_pair_fits = some ⟨oc_pair_fits, od_pair_fits, .func (PySem.W.fnOf "_law_pair_fits" "_law_pair_fits" (defArgs s_pair_fits) (defBody s_pair_fits) (defScope s_pair_fits) .none kV_pair_fits dc_pair_fits pm_pair_fits an_pair_fits cd_pair_fits ct_pair_fits), sl_pair_fits⟩)
    (q_pair_fits : PySem.W.codeIn K cd_pair_fits "_law_pair_fits" = true)
    (k_pair_fits : PySem.W.keepIn K (.ref f_pair_fits) = true)
    (a_helper_fits : PySem.W.nsIn K mainGlobals "_law_helper_fits" = some (some (.ref f_helper_fits)))
    (l_helper_fits : K.lookup f_helper_fits = some ⟨oc_helper_fits, od_helper_fits, .func (PySem.W.fnOf "_law_helper_fits" "_law_helper_fits" (defArgs s_helper_fits) (defBody s_helper_fits) (defScope s_helper_fits) .none kV_helper_fits dc_helper_fits pm_helper_fits an_helper_fits cd_helper_fits ct_helper_fits), sl_helper_fits⟩)
    (q_helper_fits : PySem.W.codeIn K cd_helper_fits "_law_helper_fits" = true)
    (k_helper_fits : PySem.W.keepIn K (.ref f_helper_fits) = true)
    (a_first_bad : PySem.W.nsIn K mainGlobals "_law_first_bad" = some (some (.ref f_first_bad)))
    (l_first_bad : K.lookup f_first_bad = some ⟨oc_first_bad, od_first_bad, .func (PySem.W.fnOf "_law_first_bad" "_law_first_bad" (defArgs s_first_bad) (defBody s_first_bad) (defScope s_first_bad) .none kV_first_bad dc_first_bad pm_first_bad an_first_bad cd_first_bad ct_first_bad), sl_first_bad⟩)
    (q_first_bad : PySem.W.codeIn K cd_first_bad "_law_first_bad" = true)
    (k_first_bad : PySem.W.keepIn K (.ref f_first_bad) = true)
    (a_row_changed : PySem.W.nsIn K mainGlobals "_law_row_changed" = some (some (.ref f_row_changed)))
    (l_row_changed : K.lookup f_row_changed = some ⟨oc_row_changed, od_row_changed, .func (PySem.W.fnOf "_law_row_changed" "_law_row_changed" (defArgs s_row_changed) (defBody s_row_changed) (defScope s_row_changed) .none kV_row_changed dc_row_changed pm_row_changed an_row_changed cd_row_changed ct_row_changed), sl_row_changed⟩)
    (q_row_changed : PySem.W.codeIn K cd_row_changed "_law_row_changed" = true)
    (k_row_changed : PySem.W.keepIn K (.ref f_row_changed) = true)
    (a_changed : PySem.W.nsIn K mainGlobals "_law_changed" = some (some (.ref f_changed)))
    (l_changed : K.lookup f_changed = some ⟨oc_changed, od_changed, .func (PySem.W.fnOf "_law_changed" "_law_changed" (defArgs s_changed) (defBody s_changed) (defScope s_changed) .none kV_changed dc_changed pm_changed an_changed cd_changed ct_changed), sl_changed⟩)
    (q_changed : PySem.W.codeIn K cd_changed "_law_changed" = true)
    (k_changed : PySem.W.keepIn K (.ref f_changed) = true)
    (a_made : PySem.W.nsIn K mainGlobals "_law_made" = some (some (.ref f_made)))
    (l_made : K.lookup f_made = some ⟨oc_made, od_made, .func (PySem.W.fnOf "_law_made" "_law_made" (defArgs s_made) (defBody s_made) (defScope s_made) .none kV_made dc_made pm_made an_made cd_made ct_made), sl_made⟩)
    (q_made : PySem.W.codeIn K cd_made "_law_made" = true)
    (k_made : PySem.W.keepIn K (.ref f_made) = true)
    (a_law : PySem.W.nsIn K mainGlobals "law" = some (some (.ref f_law)))
    (l_law : K.lookup f_law = some ⟨oc_law, od_law, .func (PySem.W.fnOf "law" "law" (defArgs s_law) (defBody s_law) (defScope s_law) .none kV_law dc_law pm_law an_law cd_law ct_law), sl_law⟩)
    (q_law : PySem.W.codeIn K cd_law "law" = true)
    (k_law : PySem.W.keepIn K (.ref f_law) = true)
    (z_ValueError : PySem.W.nsIn K mainGlobals "ValueError" = some none)
    (z_isinstance : PySem.W.nsIn K mainGlobals "isinstance" = some none)
    (z_int : PySem.W.nsIn K mainGlobals "int" = some none)
    (z_bool : PySem.W.nsIn K mainGlobals "bool" = some none)
    (z_tuple : PySem.W.nsIn K mainGlobals "tuple" = some none)
    (z_list : PySem.W.nsIn K mainGlobals "list" = some none)
    (z_str : PySem.W.nsIn K mainGlobals "str" = some none)
    (z_len : PySem.W.nsIn K mainGlobals "len" = some none)
    (z_all : PySem.W.nsIn K mainGlobals "all" = some none)
    (z_range : PySem.W.nsIn K mainGlobals "range" = some none)
    (z_zip : PySem.W.nsIn K mainGlobals "zip" = some none)
    (z_min : PySem.W.nsIn K mainGlobals "min" = some none)
    (z_enumerate : PySem.W.nsIn K mainGlobals "enumerate" = some none)
    : ∃ fd : FuncData, (∀ (s : Shared) (v : Value), BindsTo s fd ⟨[v], []⟩ [("_law_script", v)]) ∧ ∀ base : Heap, K.In base → base.Ns mainGlobals mg → FnOk l.prog w K mg base CX0 20 fa fd ["_law_script"] (spLaw K) := by
  have e : f_law = fa := (Value.ref.inj (Option.some.inj (hfa.symm.trans (PySem.W.mg_of X G a_law)))).symm
  subst e
  have F_NoPact_init := fun_mk (st := s_NoPact_init) l_NoPact_init q_NoPact_init k_NoPact_init
  have B_NoPact_init := F_NoPact_init.binds (ps := ["self", "at"]) fun _ _ _ _ _ _ us hl => match us, hl with | [_, _], _ => rfl
  have F_NoText_init := fun_mk (st := s_NoText_init) l_NoText_init q_NoText_init k_NoText_init
  have B_NoText_init := F_NoText_init.binds (ps := ["self", "at"]) fun _ _ _ _ _ _ us hl => match us, hl with | [_, _], _ => rfl
  have F_is_whole := fun_mk (st := s_is_whole) l_is_whole q_is_whole k_is_whole
  have B_is_whole := F_is_whole.binds (ps := ["thing"]) fun _ _ _ _ _ _ us hl => match us, hl with | [_], _ => rfl
  have F_is_side := fun_mk (st := s_is_side) l_is_side q_is_side k_is_side
  have B_is_side := F_is_side.binds (ps := ["thing"]) fun _ _ _ _ _ _ us hl => match us, hl with | [_], _ => rfl
  have F_is_name := fun_mk (st := s_is_name) l_is_name q_is_name k_is_name
  have B_is_name := F_is_name.binds (ps := ["thing"]) fun _ _ _ _ _ _ us hl => match us, hl with | [_], _ => rfl
  have F_Pacts_init := fun_mk (st := s_Pacts_init) l_Pacts_init q_Pacts_init k_Pacts_init
  have B_Pacts_init := F_Pacts_init.binds (ps := ["self", "pairs", "helpers"]) fun _ _ _ _ _ _ us hl => match us, hl with | [_, _, _], _ => rfl
  have F_Pacts_pairs := fun_mk (st := s_Pacts_pairs) l_Pacts_pairs q_Pacts_pairs k_Pacts_pairs
  have B_Pacts_pairs := F_Pacts_pairs.binds (ps := ["self"]) fun _ _ _ _ _ _ us hl => match us, hl with | [_], _ => rfl
  have F_Pacts_pact := fun_mk (st := s_Pacts_pact) l_Pacts_pact q_Pacts_pact k_Pacts_pact
  have B_Pacts_pact := F_Pacts_pact.binds (ps := ["self", "name"]) fun _ _ _ _ _ _ us hl => match us, hl with | [_, _], _ => rfl
  have F_Pacts_len := fun_mk (st := s_Pacts_len) l_Pacts_len q_Pacts_len k_Pacts_len
  have B_Pacts_len := F_Pacts_len.binds (ps := ["self"]) fun _ _ _ _ _ _ us hl => match us, hl with | [_], _ => rfl
  have F_p_is_pair := fun_mk (st := s_p_is_pair) l_p_is_pair q_p_is_pair k_p_is_pair
  have B_p_is_pair := F_p_is_pair.binds (ps := ["pair"]) fun _ _ _ _ _ _ us hl => match us, hl with | [_], _ => rfl
  have F_p_fits_pairs := fun_mk (st := s_p_fits_pairs) l_p_fits_pairs q_p_fits_pairs k_p_fits_pairs
  have B_p_fits_pairs := F_p_fits_pairs.binds (ps := ["pair", "ahead"]) fun _ _ _ _ _ _ us hl => match us, hl with | [_, _], _ => rfl
  have F_p_is_pact := fun_mk (st := s_p_is_pact) l_p_is_pact q_p_is_pact k_p_is_pact
  have B_p_is_pact := F_p_is_pact.binds (ps := ["pact"]) fun _ _ _ _ _ _ us hl => match us, hl with | [_], _ => rfl
  have F_p_are_takes := fun_mk (st := s_p_are_takes) l_p_are_takes q_p_are_takes k_p_are_takes
  have B_p_are_takes := F_p_are_takes.binds (ps := ["takes"]) fun _ _ _ _ _ _ us hl => match us, hl with | [_], _ => rfl
  have F_p_are_throws := fun_mk (st := s_p_are_throws) l_p_are_throws q_p_are_throws k_p_are_throws
  have B_p_are_throws := F_p_are_throws.binds (ps := ["throws"]) fun _ _ _ _ _ _ us hl => match us, hl with | [_], _ => rfl
  have F_p_fits_helpers := fun_mk (st := s_p_fits_helpers) l_p_fits_helpers q_p_fits_helpers k_p_fits_helpers
  have B_p_fits_helpers := F_p_fits_helpers.binds (ps := ["pact", "pairs", "ahead"]) fun _ _ _ _ _ _ us hl => match us, hl with | [_, _, _], _ => rfl
  have F_Pacts_eq := fun_mk (st := s_Pacts_eq) l_Pacts_eq q_Pacts_eq k_Pacts_eq
  have B_Pacts_eq := F_Pacts_eq.binds (ps := ["self", "other"]) fun _ _ _ _ _ _ us hl => match us, hl with | [_, _], _ => rfl
  have F_Pacts_str := fun_mk (st := s_Pacts_str) l_Pacts_str q_Pacts_str k_Pacts_str
  have B_Pacts_str := F_Pacts_str.binds (ps := ["self"]) fun _ _ _ _ _ _ us hl => match us, hl with | [_], _ => rfl
  have F_p_pair_line := fun_mk (st := s_p_pair_line) l_p_pair_line q_p_pair_line k_p_pair_line
  have B_p_pair_line := F_p_pair_line.binds (ps := ["pair"]) fun _ _ _ _ _ _ us hl => match us, hl with | [_], _ => rfl
  have F_p_helper_line := fun_mk (st := s_p_helper_line) l_p_helper_line q_p_helper_line k_p_helper_line
  have B_p_helper_line := F_p_helper_line.binds (ps := ["pact"]) fun _ _ _ _ _ _ us hl => match us, hl with | [_], _ => rfl
  have F_read_pacts := fun_mk (st := s_read_pacts) l_read_pacts q_read_pacts k_read_pacts
  have B_read_pacts := F_read_pacts.binds (ps := ["text"]) fun _ _ _ _ _ _ us hl => match us, hl with | [_], _ => rfl
  have F_p_has_pair_form := fun_mk (st := s_p_has_pair_form) l_p_has_pair_form q_p_has_pair_form k_p_has_pair_form
  have B_p_has_pair_form := F_p_has_pair_form.binds (ps := ["words"]) fun _ _ _ _ _ _ us hl => match us, hl with | [_], _ => rfl
  have F_p_has_helper_form := fun_mk (st := s_p_has_helper_form) l_p_has_helper_form q_p_has_helper_form k_p_has_helper_form
  have B_p_has_helper_form := F_p_has_helper_form.binds (ps := ["words"]) fun _ _ _ _ _ _ us hl => match us, hl with | [_], _ => rfl
  have F_p_takes_end := fun_mk (st := s_p_takes_end) l_p_takes_end q_p_takes_end k_p_takes_end
  have B_p_takes_end := F_p_takes_end.binds (ps := ["words"]) fun _ _ _ _ _ _ us hl => match us, hl with | [_], _ => rfl
  have F_p_read_helper := fun_mk (st := s_p_read_helper) l_p_read_helper q_p_read_helper k_p_read_helper
  have B_p_read_helper := F_p_read_helper.binds (ps := ["words"]) fun _ _ _ _ _ _ us hl => match us, hl with | [_], _ => rfl
  have F_box := fun_mk (st := s_box) l_box q_box k_box
  have B_box := F_box.binds (ps := ["_law_script"]) fun _ _ _ _ _ _ us hl => match us, hl with | [_], _ => rfl
  have F_mixed := fun_mk (st := s_mixed) l_mixed q_mixed k_mixed
  have B_mixed := F_mixed.binds (ps := ["_law_cell", "_law_k"]) fun _ _ _ _ _ _ us hl => match us, hl with | [_, _], _ => rfl
  have F_take := fun_mk (st := s_take) l_take q_take k_take
  have B_take := F_take.binds (ps := ["_law_box_here", "_law_size"]) fun _ _ _ _ _ _ us hl => match us, hl with | [_, _], _ => rfl
  have F_name := fun_mk (st := s_name) l_name q_name k_name
  have B_name := F_name.binds (ps := ["_law_box_here"]) fun _ _ _ _ _ _ us hl => match us, hl with | [_], _ => rfl
  have F_names := fun_mk (st := s_names) l_names q_names k_names
  have B_names := F_names.binds (ps := ["_law_box_here", "_law_many"]) fun _ _ _ _ _ _ us hl => match us, hl with | [_, _], _ => rfl
  have F_pairs := fun_mk (st := s_pairs) l_pairs q_pairs k_pairs
  have B_pairs := F_pairs.binds (ps := ["_law_box_here", "_law_most"]) fun _ _ _ _ _ _ us hl => match us, hl with | [_, _], _ => rfl
  have F_some := fun_mk (st := s_some) l_some q_some k_some
  have B_some := F_some.binds (ps := ["_law_box_here", "_law_things", "_law_most"]) fun _ _ _ _ _ _ us hl => match us, hl with | [_, _, _], _ => rfl
  have F_helpers := fun_mk (st := s_helpers) l_helpers q_helpers k_helpers
  have B_helpers := F_helpers.binds (ps := ["_law_box_here", "_law_pairs_here"]) fun _ _ _ _ _ _ us hl => match us, hl with | [_, _], _ => rfl
  have F_line := fun_mk (st := s_line) l_line q_line k_line
  have B_line := F_line.binds (ps := ["_law_helper"]) fun _ _ _ _ _ _ us hl => match us, hl with | [_], _ => rfl
  have F_text := fun_mk (st := s_text) l_text q_text k_text
  have B_text := F_text.binds (ps := ["_law_pairs_here", "_law_helpers_here"]) fun _ _ _ _ _ _ us hl => match us, hl with | [_, _], _ => rfl
  have F_pair_read := fun_mk (st := s_pair_read) l_pair_read q_pair_read k_pair_read
  have B_pair_read := F_pair_read.binds (ps := ["_law_words"]) fun _ _ _ _ _ _ us hl => match us, hl with | [_], _ => rfl
  have F_helper_read := fun_mk (st := s_helper_read) l_helper_read q_helper_read k_helper_read
  have B_helper_read := F_helper_read.binds (ps := ["_law_words"]) fun _ _ _ _ _ _ us hl => match us, hl with | [_], _ => rfl
  have F_read := fun_mk (st := s_read) l_read q_read k_read
  have B_read := F_read.binds (ps := ["_law_page"]) fun _ _ _ _ _ _ us hl => match us, hl with | [_], _ => rfl
  have F_w_is_name := fun_mk (st := s_w_is_name) l_w_is_name q_w_is_name k_w_is_name
  have B_w_is_name := F_w_is_name.binds (ps := ["_law_word"]) fun _ _ _ _ _ _ us hl => match us, hl with | [_], _ => rfl
  have F_pair_fits := fun_mk (st := s_pair_fits) l_pair_fits q_pair_fits k_pair_fits
  have B_pair_fits := F_pair_fits.binds (ps := ["_law_ahead", "_law_pair"]) fun _ _ _ _ _ _ us hl => match us, hl with | [_, _], _ => rfl
  have F_helper_fits := fun_mk (st := s_helper_fits) l_helper_fits q_helper_fits k_helper_fits
  have B_helper_fits := F_helper_fits.binds (ps := ["_law_pairs_here", "_law_ahead", "_law_helper"]) fun _ _ _ _ _ _ us hl => match us, hl with | [_, _, _], _ => rfl
  have F_first_bad := fun_mk (st := s_first_bad) l_first_bad q_first_bad k_first_bad
  have B_first_bad := F_first_bad.binds (ps := ["_law_pairs_here", "_law_helpers_here"]) fun _ _ _ _ _ _ us hl => match us, hl with | [_, _], _ => rfl
  have F_row_changed := fun_mk (st := s_row_changed) l_row_changed q_row_changed k_row_changed
  have B_row_changed := F_row_changed.binds (ps := ["_law_box_here", "_law_row"]) fun _ _ _ _ _ _ us hl => match us, hl with | [_, _], _ => rfl
  have F_changed := fun_mk (st := s_changed) l_changed q_changed k_changed
  have B_changed := F_changed.binds (ps := ["_law_box_here", "_law_page"]) fun _ _ _ _ _ _ us hl => match us, hl with | [_, _], _ => rfl
  have F_made := fun_mk (st := s_made) l_made q_made k_made
  have B_made := F_made.binds (ps := ["_law_page"]) fun _ _ _ _ _ _ us hl => match us, hl with | [_], _ => rfl
  have F_law := fun_mk (st := s_law) l_law q_law k_law
  have B_law := F_law.binds (ps := ["_law_script"]) fun _ _ _ _ _ _ us hl => match us, hl with | [_], _ => rfl
  have KN_read_pacts_0 := kwn_mk F_read_pacts (ps := ["text"]) (n := 0) (ks := ["text"]) rfl (fun _ _ _ _ _ _ us ws hu hw => match us, ws, hu, hw with | [], [_], _, _ => rfl)
  have T : Txt K mg { c_Pacts := c_Pacts, c_NoPact := c_NoPact, c_NoText := c_NoText, c_PactError := c_PactError, t_LONGEST_NAME := t_LONGEST_NAME, t_MOST_PAIRS := t_MOST_PAIRS, t_MOST_HELPERS := t_MOST_HELPERS, t_MOST_TAKES := t_MOST_TAKES, t_MOST_THROWS := t_MOST_THROWS, t_TAKES := t_TAKES, f_NoPact_init := f_NoPact_init, d_NoPact_init := PySem.W.fnOf "__init__" "NoPact.__init__" (defArgs s_NoPact_init) (defBody s_NoPact_init) (defScope s_NoPact_init) .none kV_NoPact_init dc_NoPact_init pm_NoPact_init an_NoPact_init cd_NoPact_init ct_NoPact_init, f_NoText_init := f_NoText_init, d_NoText_init := PySem.W.fnOf "__init__" "NoText.__init__" (defArgs s_NoText_init) (defBody s_NoText_init) (defScope s_NoText_init) .none kV_NoText_init dc_NoText_init pm_NoText_init an_NoText_init cd_NoText_init ct_NoText_init, f_is_whole := f_is_whole, d_is_whole := PySem.W.fnOf "is_whole" "is_whole" (defArgs s_is_whole) (defBody s_is_whole) (defScope s_is_whole) .none kV_is_whole dc_is_whole pm_is_whole an_is_whole cd_is_whole ct_is_whole, f_is_side := f_is_side, d_is_side := PySem.W.fnOf "is_side" "is_side" (defArgs s_is_side) (defBody s_is_side) (defScope s_is_side) .none kV_is_side dc_is_side pm_is_side an_is_side cd_is_side ct_is_side, f_is_name := f_is_name, d_is_name := PySem.W.fnOf "is_name" "is_name" (defArgs s_is_name) (defBody s_is_name) (defScope s_is_name) .none kV_is_name dc_is_name pm_is_name an_is_name cd_is_name ct_is_name, f_Pacts_init := f_Pacts_init, d_Pacts_init := PySem.W.fnOf "__init__" "Pacts.__init__" (defArgs s_Pacts_init) (defBody s_Pacts_init) (defScope s_Pacts_init) .none kV_Pacts_init dc_Pacts_init pm_Pacts_init an_Pacts_init cd_Pacts_init ct_Pacts_init, f_Pacts_pairs := f_Pacts_pairs, d_Pacts_pairs := PySem.W.fnOf "pairs" "Pacts.pairs" (defArgs s_Pacts_pairs) (defBody s_Pacts_pairs) (defScope s_Pacts_pairs) .none kV_Pacts_pairs dc_Pacts_pairs pm_Pacts_pairs an_Pacts_pairs cd_Pacts_pairs ct_Pacts_pairs, f_Pacts_pact := f_Pacts_pact, d_Pacts_pact := PySem.W.fnOf "pact" "Pacts.pact" (defArgs s_Pacts_pact) (defBody s_Pacts_pact) (defScope s_Pacts_pact) .none kV_Pacts_pact dc_Pacts_pact pm_Pacts_pact an_Pacts_pact cd_Pacts_pact ct_Pacts_pact, f_Pacts_len := f_Pacts_len, d_Pacts_len := PySem.W.fnOf "__len__" "Pacts.__len__" (defArgs s_Pacts_len) (defBody s_Pacts_len) (defScope s_Pacts_len) .none kV_Pacts_len dc_Pacts_len pm_Pacts_len an_Pacts_len cd_Pacts_len ct_Pacts_len, f_p_is_pair := f_p_is_pair, d_p_is_pair := PySem.W.fnOf "_is_pair" "_is_pair" (defArgs s_p_is_pair) (defBody s_p_is_pair) (defScope s_p_is_pair) .none kV_p_is_pair dc_p_is_pair pm_p_is_pair an_p_is_pair cd_p_is_pair ct_p_is_pair, f_p_fits_pairs := f_p_fits_pairs, d_p_fits_pairs := PySem.W.fnOf "_fits_pairs" "_fits_pairs" (defArgs s_p_fits_pairs) (defBody s_p_fits_pairs) (defScope s_p_fits_pairs) .none kV_p_fits_pairs dc_p_fits_pairs pm_p_fits_pairs an_p_fits_pairs cd_p_fits_pairs ct_p_fits_pairs, f_p_is_pact := f_p_is_pact, d_p_is_pact := PySem.W.fnOf "_is_pact" "_is_pact" (defArgs s_p_is_pact) (defBody s_p_is_pact) (defScope s_p_is_pact) .none kV_p_is_pact dc_p_is_pact pm_p_is_pact an_p_is_pact cd_p_is_pact ct_p_is_pact, f_p_are_takes := f_p_are_takes, d_p_are_takes := PySem.W.fnOf "_are_takes" "_are_takes" (defArgs s_p_are_takes) (defBody s_p_are_takes) (defScope s_p_are_takes) .none kV_p_are_takes dc_p_are_takes pm_p_are_takes an_p_are_takes cd_p_are_takes ct_p_are_takes, f_p_are_throws := f_p_are_throws, d_p_are_throws := PySem.W.fnOf "_are_throws" "_are_throws" (defArgs s_p_are_throws) (defBody s_p_are_throws) (defScope s_p_are_throws) .none kV_p_are_throws dc_p_are_throws pm_p_are_throws an_p_are_throws cd_p_are_throws ct_p_are_throws, f_p_fits_helpers := f_p_fits_helpers, d_p_fits_helpers := PySem.W.fnOf "_fits_helpers" "_fits_helpers" (defArgs s_p_fits_helpers) (defBody s_p_fits_helpers) (defScope s_p_fits_helpers) .none kV_p_fits_helpers dc_p_fits_helpers pm_p_fits_helpers an_p_fits_helpers cd_p_fits_helpers ct_p_fits_helpers, f_Pacts_eq := f_Pacts_eq, d_Pacts_eq := PySem.W.fnOf "__eq__" "Pacts.__eq__" (defArgs s_Pacts_eq) (defBody s_Pacts_eq) (defScope s_Pacts_eq) .none kV_Pacts_eq dc_Pacts_eq pm_Pacts_eq an_Pacts_eq cd_Pacts_eq ct_Pacts_eq, f_Pacts_str := f_Pacts_str, d_Pacts_str := PySem.W.fnOf "__str__" "Pacts.__str__" (defArgs s_Pacts_str) (defBody s_Pacts_str) (defScope s_Pacts_str) .none kV_Pacts_str dc_Pacts_str pm_Pacts_str an_Pacts_str cd_Pacts_str ct_Pacts_str, f_p_pair_line := f_p_pair_line, d_p_pair_line := PySem.W.fnOf "_pair_line" "_pair_line" (defArgs s_p_pair_line) (defBody s_p_pair_line) (defScope s_p_pair_line) .none kV_p_pair_line dc_p_pair_line pm_p_pair_line an_p_pair_line cd_p_pair_line ct_p_pair_line, f_p_helper_line := f_p_helper_line, d_p_helper_line := PySem.W.fnOf "_helper_line" "_helper_line" (defArgs s_p_helper_line) (defBody s_p_helper_line) (defScope s_p_helper_line) .none kV_p_helper_line dc_p_helper_line pm_p_helper_line an_p_helper_line cd_p_helper_line ct_p_helper_line, f_read_pacts := f_read_pacts, d_read_pacts := PySem.W.fnOf "read_pacts" "read_pacts" (defArgs s_read_pacts) (defBody s_read_pacts) (defScope s_read_pacts) .none kV_read_pacts dc_read_pacts pm_read_pacts an_read_pacts cd_read_pacts ct_read_pacts, f_p_has_pair_form := f_p_has_pair_form, d_p_has_pair_form := PySem.W.fnOf "_has_pair_form" "_has_pair_form" (defArgs s_p_has_pair_form) (defBody s_p_has_pair_form) (defScope s_p_has_pair_form) .none kV_p_has_pair_form dc_p_has_pair_form pm_p_has_pair_form an_p_has_pair_form cd_p_has_pair_form ct_p_has_pair_form, f_p_has_helper_form := f_p_has_helper_form, d_p_has_helper_form := PySem.W.fnOf "_has_helper_form" "_has_helper_form" (defArgs s_p_has_helper_form) (defBody s_p_has_helper_form) (defScope s_p_has_helper_form) .none kV_p_has_helper_form dc_p_has_helper_form pm_p_has_helper_form an_p_has_helper_form cd_p_has_helper_form ct_p_has_helper_form, f_p_takes_end := f_p_takes_end, d_p_takes_end := PySem.W.fnOf "_takes_end" "_takes_end" (defArgs s_p_takes_end) (defBody s_p_takes_end) (defScope s_p_takes_end) .none kV_p_takes_end dc_p_takes_end pm_p_takes_end an_p_takes_end cd_p_takes_end ct_p_takes_end, f_p_read_helper := f_p_read_helper, d_p_read_helper := PySem.W.fnOf "_read_helper" "_read_helper" (defArgs s_p_read_helper) (defBody s_p_read_helper) (defScope s_p_read_helper) .none kV_p_read_helper dc_p_read_helper pm_p_read_helper an_p_read_helper cd_p_read_helper ct_p_read_helper, f_box := f_box, d_box := PySem.W.fnOf "_law_box" "_law_box" (defArgs s_box) (defBody s_box) (defScope s_box) .none kV_box dc_box pm_box an_box cd_box ct_box, f_mixed := f_mixed, d_mixed := PySem.W.fnOf "_law_mixed" "_law_mixed" (defArgs s_mixed) (defBody s_mixed) (defScope s_mixed) .none kV_mixed dc_mixed pm_mixed an_mixed cd_mixed ct_mixed, f_take := f_take, d_take := PySem.W.fnOf "_law_take" "_law_take" (defArgs s_take) (defBody s_take) (defScope s_take) .none kV_take dc_take pm_take an_take cd_take ct_take, f_name := f_name, d_name := PySem.W.fnOf "_law_name" "_law_name" (defArgs s_name) (defBody s_name) (defScope s_name) .none kV_name dc_name pm_name an_name cd_name ct_name, f_names := f_names, d_names := PySem.W.fnOf "_law_names" "_law_names" (defArgs s_names) (defBody s_names) (defScope s_names) .none kV_names dc_names pm_names an_names cd_names ct_names, f_pairs := f_pairs, d_pairs := PySem.W.fnOf "_law_pairs" "_law_pairs" (defArgs s_pairs) (defBody s_pairs) (defScope s_pairs) .none kV_pairs dc_pairs pm_pairs an_pairs cd_pairs ct_pairs, f_some := f_some, d_some := PySem.W.fnOf "_law_some" "_law_some" (defArgs s_some) (defBody s_some) (defScope s_some) .none kV_some dc_some pm_some an_some cd_some ct_some, f_helpers := f_helpers, d_helpers := PySem.W.fnOf "_law_helpers" "_law_helpers" (defArgs s_helpers) (defBody s_helpers) (defScope s_helpers) .none kV_helpers dc_helpers pm_helpers an_helpers cd_helpers ct_helpers, f_line := f_line, d_line := PySem.W.fnOf "_law_line" "_law_line" (defArgs s_line) (defBody s_line) (defScope s_line) .none kV_line dc_line pm_line an_line cd_line ct_line, f_text := f_text, d_text := PySem.W.fnOf "_law_text" "_law_text" (defArgs s_text) (defBody s_text) (defScope s_text) .none kV_text dc_text pm_text an_text cd_text ct_text, f_pair_read := f_pair_read, d_pair_read := PySem.W.fnOf "_law_pair_read" "_law_pair_read" (defArgs s_pair_read) (defBody s_pair_read) (defScope s_pair_read) .none kV_pair_read dc_pair_read pm_pair_read an_pair_read cd_pair_read ct_pair_read, f_helper_read := f_helper_read, d_helper_read := PySem.W.fnOf "_law_helper_read" "_law_helper_read" (defArgs s_helper_read) (defBody s_helper_read) (defScope s_helper_read) .none kV_helper_read dc_helper_read pm_helper_read an_helper_read cd_helper_read ct_helper_read, f_read := f_read, d_read := PySem.W.fnOf "_law_read" "_law_read" (defArgs s_read) (defBody s_read) (defScope s_read) .none kV_read dc_read pm_read an_read cd_read ct_read, f_w_is_name := f_w_is_name, d_w_is_name := PySem.W.fnOf "_law_is_name" "_law_is_name" (defArgs s_w_is_name) (defBody s_w_is_name) (defScope s_w_is_name) .none kV_w_is_name dc_w_is_name pm_w_is_name an_w_is_name cd_w_is_name ct_w_is_name, f_pair_fits := f_pair_fits, d_pair_fits := PySem.W.fnOf "_law_pair_fits" "_law_pair_fits" (defArgs s_pair_fits) (defBody s_pair_fits) (defScope s_pair_fits) .none kV_pair_fits dc_pair_fits pm_pair_fits an_pair_fits cd_pair_fits ct_pair_fits, f_helper_fits := f_helper_fits, d_helper_fits := PySem.W.fnOf "_law_helper_fits" "_law_helper_fits" (defArgs s_helper_fits) (defBody s_helper_fits) (defScope s_helper_fits) .none kV_helper_fits dc_helper_fits pm_helper_fits an_helper_fits cd_helper_fits ct_helper_fits, f_first_bad := f_first_bad, d_first_bad := PySem.W.fnOf "_law_first_bad" "_law_first_bad" (defArgs s_first_bad) (defBody s_first_bad) (defScope s_first_bad) .none kV_first_bad dc_first_bad pm_first_bad an_first_bad cd_first_bad ct_first_bad, f_row_changed := f_row_changed, d_row_changed := PySem.W.fnOf "_law_row_changed" "_law_row_changed" (defArgs s_row_changed) (defBody s_row_changed) (defScope s_row_changed) .none kV_row_changed dc_row_changed pm_row_changed an_row_changed cd_row_changed ct_row_changed, f_changed := f_changed, d_changed := PySem.W.fnOf "_law_changed" "_law_changed" (defArgs s_changed) (defBody s_changed) (defScope s_changed) .none kV_changed dc_changed pm_changed an_changed cd_changed ct_changed, f_made := f_made, d_made := PySem.W.fnOf "_law_made" "_law_made" (defArgs s_made) (defBody s_made) (defScope s_made) .none kV_made dc_made pm_made an_made cd_made ct_made, f_law := f_law, d_law := PySem.W.fnOf "law" "law" (defArgs s_law) (defBody s_law) (defScope s_law) .none kV_law dc_law pm_law an_law cd_law ct_law } := { cl_Pacts := ⟨pg_Pacts, hd_Pacts, po_Pacts, sa_Pacts⟩, mk_Pacts := ⟨mk_Pacts, a_Pacts_init, i_Pacts_init, kc_Pacts⟩, g_Pacts := PySem.W.mg_of X G a_Pacts, n_Pacts__pairs := n_Pacts__pairs, n_Pacts__helpers := n_Pacts__helpers, x_NoPact := ⟨⟨_, _, _, _, _, _, _, _, _, _, _, _, _, _, _, xl_NoPact, xm_NoPact⟩, xs_NoPact, xe_NoPact, xy_NoPact, xk_NoPact⟩, xi_NoPact := a_NoPact_init, xt_NoPact := beq_iff_eq.mp i_NoPact_init, xf_NoPact := ⟨xg_NoPact, xo_NoPact, xe_NoPact, xd_NoPact⟩, g_NoPact := PySem.W.mg_of X G a_NoPact, n_NoPact_at := n_NoPact_at, x_NoText := ⟨⟨_, _, _, _, _, _, _, _, _, _, _, _, _, _, _, xl_NoText, xm_NoText⟩, xs_NoText, xe_NoText, xy_NoText, xk_NoText⟩, xi_NoText := a_NoText_init, xt_NoText := beq_iff_eq.mp i_NoText_init, xf_NoText := ⟨xg_NoText, xo_NoText, xe_NoText, xd_NoText⟩, g_NoText := PySem.W.mg_of X G a_NoText, n_NoText_at := n_NoText_at, md_PactError := ⟨da_PactError, dr_PactError, df_PactError⟩, g_PactError := PySem.W.mg_of X G a_PactError, fa_NoPact := fa_NoPact, fm_NoPact := fm_NoPact, fs_NoPact := fs_NoPact, fv_NoPact := fv_NoPact, fx_NoPact := fx_NoPact, fe_NoPact := fe_NoPact, fa_NoText := fa_NoText, fm_NoText := fm_NoText, fs_NoText := fs_NoText, fv_NoText := fv_NoText, fx_NoText := fx_NoText, fe_NoText := fe_NoText, fg := fg, ft := ft, pn_1 := pn_1, pn_2 := pn_2, pn_3 := pn_3, pn_4 := pn_4, pn_5 := pn_5, pn_6 := pn_6, pn_7 := pn_7, pn_8 := pn_8, pn_9 := pn_9, pn_10 := pn_10, pn_11 := pn_11, pn_12 := pn_12, F_NoPact_init := F_NoPact_init, B_NoPact_init := B_NoPact_init, F_NoText_init := F_NoText_init, B_NoText_init := B_NoText_init, F_is_whole := F_is_whole, B_is_whole := B_is_whole, g_is_whole := PySem.W.mg_of X G a_is_whole, k_is_whole := k_is_whole, F_is_side := F_is_side, B_is_side := B_is_side, g_is_side := PySem.W.mg_of X G a_is_side, k_is_side := k_is_side, F_is_name := F_is_name, B_is_name := B_is_name, g_is_name := PySem.W.mg_of X G a_is_name, k_is_name := k_is_name, F_Pacts_init := F_Pacts_init, B_Pacts_init := B_Pacts_init, F_Pacts_pairs := F_Pacts_pairs, B_Pacts_pairs := B_Pacts_pairs, m_Pacts_pairs := ⟨a_Pacts_pairs, i_Pacts_pairs, k_Pacts_pairs⟩, F_Pacts_pact := F_Pacts_pact, B_Pacts_pact := B_Pacts_pact, m_Pacts_pact := ⟨a_Pacts_pact, i_Pacts_pact, k_Pacts_pact⟩, F_Pacts_len := F_Pacts_len, B_Pacts_len := B_Pacts_len, m_Pacts_len := ⟨a_Pacts_len, i_Pacts_len, k_Pacts_len⟩, F_p_is_pair := F_p_is_pair, B_p_is_pair := B_p_is_pair, g_p_is_pair := PySem.W.mg_of X G a_p_is_pair, k_p_is_pair := k_p_is_pair, F_p_fits_pairs := F_p_fits_pairs, B_p_fits_pairs := B_p_fits_pairs, g_p_fits_pairs := PySem.W.mg_of X G a_p_fits_pairs, k_p_fits_pairs := k_p_fits_pairs, F_p_is_pact := F_p_is_pact, B_p_is_pact := B_p_is_pact, g_p_is_pact := PySem.W.mg_of X G a_p_is_pact, k_p_is_pact := k_p_is_pact, F_p_are_takes := F_p_are_takes, B_p_are_takes := B_p_are_takes, g_p_are_takes := PySem.W.mg_of X G a_p_are_takes, k_p_are_takes := k_p_are_takes, F_p_are_throws := F_p_are_throws, B_p_are_throws := B_p_are_throws, g_p_are_throws := PySem.W.mg_of X G a_p_are_throws, k_p_are_throws := k_p_are_throws, F_p_fits_helpers := F_p_fits_helpers, B_p_fits_helpers := B_p_fits_helpers, g_p_fits_helpers := PySem.W.mg_of X G a_p_fits_helpers, k_p_fits_helpers := k_p_fits_helpers, F_Pacts_eq := F_Pacts_eq, B_Pacts_eq := B_Pacts_eq, m_Pacts_eq := ⟨a_Pacts_eq, i_Pacts_eq, k_Pacts_eq⟩, F_Pacts_str := F_Pacts_str, B_Pacts_str := B_Pacts_str, m_Pacts_str := ⟨a_Pacts_str, i_Pacts_str, k_Pacts_str⟩, F_p_pair_line := F_p_pair_line, B_p_pair_line := B_p_pair_line, g_p_pair_line := PySem.W.mg_of X G a_p_pair_line, k_p_pair_line := k_p_pair_line, F_p_helper_line := F_p_helper_line, B_p_helper_line := B_p_helper_line, g_p_helper_line := PySem.W.mg_of X G a_p_helper_line, k_p_helper_line := k_p_helper_line, F_read_pacts := F_read_pacts, B_read_pacts := B_read_pacts, g_read_pacts := PySem.W.mg_of X G a_read_pacts, k_read_pacts := k_read_pacts, F_p_has_pair_form := F_p_has_pair_form, B_p_has_pair_form := B_p_has_pair_form, g_p_has_pair_form := PySem.W.mg_of X G a_p_has_pair_form, k_p_has_pair_form := k_p_has_pair_form, F_p_has_helper_form := F_p_has_helper_form, B_p_has_helper_form := B_p_has_helper_form, g_p_has_helper_form := PySem.W.mg_of X G a_p_has_helper_form, k_p_has_helper_form := k_p_has_helper_form, F_p_takes_end := F_p_takes_end, B_p_takes_end := B_p_takes_end, g_p_takes_end := PySem.W.mg_of X G a_p_takes_end, k_p_takes_end := k_p_takes_end, F_p_read_helper := F_p_read_helper, B_p_read_helper := B_p_read_helper, g_p_read_helper := PySem.W.mg_of X G a_p_read_helper, k_p_read_helper := k_p_read_helper, F_box := F_box, B_box := B_box, g_box := PySem.W.mg_of X G a_box, k_box := k_box, F_mixed := F_mixed, B_mixed := B_mixed, g_mixed := PySem.W.mg_of X G a_mixed, k_mixed := k_mixed, F_take := F_take, B_take := B_take, g_take := PySem.W.mg_of X G a_take, k_take := k_take, F_name := F_name, B_name := B_name, g_name := PySem.W.mg_of X G a_name, k_name := k_name, F_names := F_names, B_names := B_names, g_names := PySem.W.mg_of X G a_names, k_names := k_names, F_pairs := F_pairs, B_pairs := B_pairs, g_pairs := PySem.W.mg_of X G a_pairs, k_pairs := k_pairs, F_some := F_some, B_some := B_some, g_some := PySem.W.mg_of X G a_some, k_some := k_some, F_helpers := F_helpers, B_helpers := B_helpers, g_helpers := PySem.W.mg_of X G a_helpers, k_helpers := k_helpers, F_line := F_line, B_line := B_line, g_line := PySem.W.mg_of X G a_line, k_line := k_line, F_text := F_text, B_text := B_text, g_text := PySem.W.mg_of X G a_text, k_text := k_text, F_pair_read := F_pair_read, B_pair_read := B_pair_read, g_pair_read := PySem.W.mg_of X G a_pair_read, k_pair_read := k_pair_read, F_helper_read := F_helper_read, B_helper_read := B_helper_read, g_helper_read := PySem.W.mg_of X G a_helper_read, k_helper_read := k_helper_read, F_read := F_read, B_read := B_read, g_read := PySem.W.mg_of X G a_read, k_read := k_read, F_w_is_name := F_w_is_name, B_w_is_name := B_w_is_name, g_w_is_name := PySem.W.mg_of X G a_w_is_name, k_w_is_name := k_w_is_name, F_pair_fits := F_pair_fits, B_pair_fits := B_pair_fits, g_pair_fits := PySem.W.mg_of X G a_pair_fits, k_pair_fits := k_pair_fits, F_helper_fits := F_helper_fits, B_helper_fits := B_helper_fits, g_helper_fits := PySem.W.mg_of X G a_helper_fits, k_helper_fits := k_helper_fits, F_first_bad := F_first_bad, B_first_bad := B_first_bad, g_first_bad := PySem.W.mg_of X G a_first_bad, k_first_bad := k_first_bad, F_row_changed := F_row_changed, B_row_changed := B_row_changed, g_row_changed := PySem.W.mg_of X G a_row_changed, k_row_changed := k_row_changed, F_changed := F_changed, B_changed := B_changed, g_changed := PySem.W.mg_of X G a_changed, k_changed := k_changed, F_made := F_made, B_made := B_made, g_made := PySem.W.mg_of X G a_made, k_made := k_made, F_law := F_law, B_law := B_law, g_law := PySem.W.mg_of X G a_law, k_law := k_law, KN_read_pacts_0 := KN_read_pacts_0, v_LONGEST_NAME := PySem.W.mg_of X G v_LONGEST_NAME, v_MOST_PAIRS := PySem.W.mg_of X G v_MOST_PAIRS, v_MOST_HELPERS := PySem.W.mg_of X G v_MOST_HELPERS, v_MOST_TAKES := PySem.W.mg_of X G v_MOST_TAKES, v_MOST_THROWS := PySem.W.mg_of X G v_MOST_THROWS, v_TAKES := PySem.W.mg_of X G v_TAKES, q_TAKES := fun H => .inr ⟨_, _, _, lk_TAKES, rfl, rfl, by show 2 ≤ sizeLine; decide, (.cons ⟨_, rfl⟩ (.cons ⟨_, rfl⟩ .nil))⟩, z_ValueError := PySem.W.mg_none_of X G z_ValueError, z_isinstance := PySem.W.mg_none_of X G z_isinstance, z_int := PySem.W.mg_none_of X G z_int, z_bool := PySem.W.mg_none_of X G z_bool, z_tuple := PySem.W.mg_none_of X G z_tuple, z_list := PySem.W.mg_none_of X G z_list, z_str := PySem.W.mg_none_of X G z_str, z_len := PySem.W.mg_none_of X G z_len, z_all := PySem.W.mg_none_of X G z_all, z_range := PySem.W.mg_none_of X G z_range, z_zip := PySem.W.mg_none_of X G z_zip, z_min := PySem.W.mg_none_of X G z_min, z_enumerate := PySem.W.mg_none_of X G z_enumerate }
  exact ⟨_, fun s v => .of_eq rfl, fun base _ _ => (ok_law T).mono (by decide)⟩
theorem walk {l : PySem.W.OpenLaw} {q : Program} {loose : List Str} {XP : (Str → Option Value) → Heap → Prop} {YP : World → Heap → Prop} {d : DefRec} {K : Params → PySem.W.Frag} (hn : l.most = some 63) (hdf : d.params.defaults = [])
    (hY : ∀ (w : World) (h : Heap), YP w h → (K w.params).In h)
    (F : ∀ (w : World) (mg : Str → Option Value) (fa : Addr) (h : Heap), (K w.params).In h → h.Ns mainGlobals mg → mg d.name = some (.ref fa) →
      ∃ fd : FuncData, (∀ (s : Shared) (u : Value), BindsTo s fd ⟨[u], []⟩ [("_law_script", u)]) ∧ ∀ base : Heap, (K w.params).In base → base.Ns mainGlobals mg → FnOk l.prog w (K w.params) mg base CX0 20 fa fd ["_law_script"] (spLaw (K w.params))) :
    PySem.W.WalkO q loose XP YP l.row.toRowW d [] (fun f vs => PySem.call f vs) := L2.walk_of (n := 63) (k := 20) (x := "_law_script") (CX := fun _ => CX0) (sp := fun w => spLaw (K w.params)) hn (by decide) hdf ⟨rfl, by decide, by decide⟩ hY F (fun _ _ a ns hl _ hS => ⟨a, ns, rfl, hS, hl, fun _ => rfl⟩) fun _ _ _ _ _ z => z
end Lw
open PySem PySem.W PyProof.Rows
set_option maxRecDepth 100000 in
set_option maxHeartbeats 0 in
theorem PySem.Challenge.cw_pactford_k04_pacts_texts_holds : PySem.Challenge.rw_pactford_k04_pacts_texts.Holds := by
  w_on; o_law; k_head; (case hw => w_witness2)
  k_fill
  refine Lw.walk (l := PySem.Challenge.rw_pactford_k04_pacts_texts) rfl rfl (fun w h Y => PySem.W.kIn_of Y) ?F
  case F =>
    intro w mg fa h KX G hmg
    refine' Lw.all_mk KX G hmg ?a_Pacts ?pg_Pacts ?hd_Pacts ?po_Pacts ?sa_Pacts ?mk_Pacts ?kc_Pacts ?n_Pacts__pairs ?n_Pacts__helpers ?a_NoPact ?xl_NoPact ?xm_NoPact ?xs_NoPact ?xe_NoPact ?xy_NoPact ?xk_NoPact ?xg_NoPact ?xo_NoPact ?xd_NoPact ?n_NoPact_at ?a_NoText ?xl_NoText ?xm_NoText ?xs_NoText ?xe_NoText ?xy_NoText ?xk_NoText ?xg_NoText ?xo_NoText ?xd_NoText ?n_NoText_at ?a_PactError ?da_PactError ?dr_PactError ?df_PactError ?v_LONGEST_NAME ?v_MOST_PAIRS ?v_MOST_HELPERS ?v_MOST_TAKES ?v_MOST_THROWS ?v_TAKES ?lk_TAKES ?fa_NoPact ?fm_NoPact ?fs_NoPact ?fv_NoPact ?fx_NoPact ?fe_NoPact ?fa_NoText ?fm_NoText ?fs_NoText ?fv_NoText ?fx_NoText ?fe_NoText ?fg ?ft ?pn_1 ?pn_2 ?pn_3 ?pn_4 ?pn_5 ?pn_6 ?pn_7 ?pn_8 ?pn_9 ?pn_10 ?pn_11 ?pn_12 ?a_NoPact_init ?i_NoPact_init ?l_NoPact_init ?q_NoPact_init ?k_NoPact_init ?a_NoText_init ?i_NoText_init ?l_NoText_init ?q_NoText_init ?k_NoText_init ?a_is_whole ?l_is_whole ?q_is_whole ?k_is_whole ?a_is_side ?l_is_side ?q_is_side ?k_is_side ?a_is_name ?l_is_name ?q_is_name ?k_is_name ?a_Pacts_init ?i_Pacts_init ?l_Pacts_init ?q_Pacts_init ?k_Pacts_init ?a_Pacts_pairs ?i_Pacts_pairs ?l_Pacts_pairs ?q_Pacts_pairs ?k_Pacts_pairs ?a_Pacts_pact ?i_Pacts_pact ?l_Pacts_pact ?q_Pacts_pact ?k_Pacts_pact ?a_Pacts_len ?i_Pacts_len ?l_Pacts_len ?q_Pacts_len ?k_Pacts_len ?a_p_is_pair ?l_p_is_pair ?q_p_is_pair ?k_p_is_pair ?a_p_fits_pairs ?l_p_fits_pairs ?q_p_fits_pairs ?k_p_fits_pairs ?a_p_is_pact ?l_p_is_pact ?q_p_is_pact ?k_p_is_pact ?a_p_are_takes ?l_p_are_takes ?q_p_are_takes ?k_p_are_takes ?a_p_are_throws ?l_p_are_throws ?q_p_are_throws ?k_p_are_throws ?a_p_fits_helpers ?l_p_fits_helpers ?q_p_fits_helpers ?k_p_fits_helpers ?a_Pacts_eq ?i_Pacts_eq ?l_Pacts_eq ?q_Pacts_eq ?k_Pacts_eq ?a_Pacts_str ?i_Pacts_str ?l_Pacts_str ?q_Pacts_str ?k_Pacts_str ?a_p_pair_line ?l_p_pair_line ?q_p_pair_line ?k_p_pair_line ?a_p_helper_line ?l_p_helper_line ?q_p_helper_line ?k_p_helper_line ?a_read_pacts ?l_read_pacts ?q_read_pacts ?k_read_pacts ?a_p_has_pair_form ?l_p_has_pair_form ?q_p_has_pair_form ?k_p_has_pair_form ?a_p_has_helper_form ?l_p_has_helper_form ?q_p_has_helper_form ?k_p_has_helper_form ?a_p_takes_end ?l_p_takes_end ?q_p_takes_end ?k_p_takes_end ?a_p_read_helper ?l_p_read_helper ?q_p_read_helper ?k_p_read_helper ?a_box ?l_box ?q_box ?k_box ?a_mixed ?l_mixed ?q_mixed ?k_mixed ?a_take ?l_take ?q_take ?k_take ?a_name ?l_name ?q_name ?k_name ?a_names ?l_names ?q_names ?k_names ?a_pairs ?l_pairs ?q_pairs ?k_pairs ?a_some ?l_some ?q_some ?k_some ?a_helpers ?l_helpers ?q_helpers ?k_helpers ?a_line ?l_line ?q_line ?k_line ?a_text ?l_text ?q_text ?k_text ?a_pair_read ?l_pair_read ?q_pair_read ?k_pair_read ?a_helper_read ?l_helper_read ?q_helper_read ?k_helper_read ?a_read ?l_read ?q_read ?k_read ?a_w_is_name ?l_w_is_name ?q_w_is_name ?k_w_is_name ?a_pair_fits ?l_pair_fits ?q_pair_fits ?k_pair_fits ?a_helper_fits ?l_helper_fits ?q_helper_fits ?k_helper_fits ?a_first_bad ?l_first_bad ?q_first_bad ?k_first_bad ?a_row_changed ?l_row_changed ?q_row_changed ?k_row_changed ?a_changed ?l_changed ?q_changed ?k_changed ?a_made ?l_made ?q_made ?k_made ?a_law ?l_law ?q_law ?k_law ?z_ValueError ?z_isinstance ?z_int ?z_bool ?z_tuple ?z_list ?z_str ?z_len ?z_all ?z_range ?z_zip ?z_min ?z_enumerate
    (case a_Pacts => first | k_is | kit_is | rfl | decide +kernel | kernel_rfl | (and_intros <;> first | k_is | kit_is | rfl | decide +kernel | kernel_rfl))
    (case pg_Pacts => first | k_is | kit_is | rfl | decide +kernel | kernel_rfl | (and_intros <;> first | k_is | kit_is | rfl | decide +kernel | kernel_rfl))
    (case hd_Pacts => first | k_is | kit_is | rfl | decide +kernel | kernel_rfl | (and_intros <;> first | k_is | kit_is | rfl | decide +kernel | kernel_rfl))
    (case po_Pacts => first | k_is | kit_is | rfl | decide +kernel | kernel_rfl | (and_intros <;> first | k_is | kit_is | rfl | decide +kernel | kernel_rfl))
    (case sa_Pacts => first | k_is | kit_is | rfl | decide +kernel | kernel_rfl | (and_intros <;> first | k_is | kit_is | rfl | decide +kernel | kernel_rfl))
    (case mk_Pacts => first | k_is | kit_is | rfl | decide +kernel | kernel_rfl | (and_intros <;> first | k_is | kit_is | rfl | decide +kernel | kernel_rfl))
    (case kc_Pacts => first | k_is | kit_is | rfl | decide +kernel | kernel_rfl | (and_intros <;> first | k_is | kit_is | rfl | decide +kernel | kernel_rfl))
    (case n_Pacts__pairs => first | k_is | kit_is | rfl | decide +kernel | kernel_rfl | (and_intros <;> first | k_is | kit_is | rfl | decide +kernel | kernel_rfl))
    (case n_Pacts__helpers => first | k_is | kit_is | rfl | decide +kernel | kernel_rfl | (and_intros <;> first | k_is | kit_is | rfl | decide +kernel | kernel_rfl))
    (case a_NoPact => first | k_is | kit_is | rfl | decide +kernel | kernel_rfl | (and_intros <;> first | k_is | kit_is | rfl | decide +kernel | kernel_rfl))
    (case xl_NoPact => first | k_is | kit_is | rfl | decide +kernel | kernel_rfl | (and_intros <;> first | k_is | kit_is | rfl | decide +kernel | kernel_rfl))
    (case xm_NoPact => first | k_is | kit_is | rfl | decide +kernel | kernel_rfl | (and_intros <;> first | k_is | kit_is | rfl | decide +kernel | kernel_rfl))
    (case xs_NoPact => first | k_is | kit_is | rfl | decide +kernel | kernel_rfl | (and_intros <;> first | k_is | kit_is | rfl | decide +kernel | kernel_rfl))
    (case xe_NoPact => first | k_is | kit_is | rfl | decide +kernel | kernel_rfl | (and_intros <;> first | k_is | kit_is | rfl | decide +kernel | kernel_rfl))
    (case xy_NoPact => first | k_is | kit_is | rfl | decide +kernel | kernel_rfl | (and_intros <;> first | k_is | kit_is | rfl | decide +kernel | kernel_rfl))
    (case xk_NoPact => first | k_is | kit_is | rfl | decide +kernel | kernel_rfl | (and_intros <;> first | k_is | kit_is | rfl | decide +kernel | kernel_rfl))
    (case xg_NoPact => first | k_is | kit_is | rfl | decide +kernel | kernel_rfl | (and_intros <;> first | k_is | kit_is | rfl | decide +kernel | kernel_rfl))
    (case xo_NoPact => first | k_is | kit_is | rfl | decide +kernel | kernel_rfl | (and_intros <;> first | k_is | kit_is | rfl | decide +kernel | kernel_rfl))
    (case xd_NoPact => first | k_is | kit_is | rfl | decide +kernel | kernel_rfl | (and_intros <;> first | k_is | kit_is | rfl | decide +kernel | kernel_rfl))
    (case n_NoPact_at => first | k_is | kit_is | rfl | decide +kernel | kernel_rfl | (and_intros <;> first | k_is | kit_is | rfl | decide +kernel | kernel_rfl))
    (case a_NoText => first | k_is | kit_is | rfl | decide +kernel | kernel_rfl | (and_intros <;> first | k_is | kit_is | rfl | decide +kernel | kernel_rfl))
    (case xl_NoText => first | k_is | kit_is | rfl | decide +kernel | kernel_rfl | (and_intros <;> first | k_is | kit_is | rfl | decide +kernel | kernel_rfl))
    (case xm_NoText => first | k_is | kit_is | rfl | decide +kernel | kernel_rfl | (and_intros <;> first | k_is | kit_is | rfl | decide +kernel | kernel_rfl))
    (case xs_NoText => first | k_is | kit_is | rfl | decide +kernel | kernel_rfl | (and_intros <;> first | k_is | kit_is | rfl | decide +kernel | kernel_rfl))
    (case xe_NoText => first | k_is | kit_is | rfl | decide +kernel | kernel_rfl | (and_intros <;> first | k_is | kit_is | rfl | decide +kernel | kernel_rfl))
    (case xy_NoText => first | k_is | kit_is | rfl | decide +kernel | kernel_rfl | (and_intros <;> first | k_is | kit_is | rfl | decide +kernel | kernel_rfl))
    (case xk_NoText => first | k_is | kit_is | rfl | decide +kernel | kernel_rfl | (and_intros <;> first | k_is | kit_is | rfl | decide +kernel | kernel_rfl))
    (case xg_NoText => first | k_is | kit_is | rfl | decide +kernel | kernel_rfl | (and_intros <;> first | k_is | kit_is | rfl | decide +kernel | kernel_rfl))
    (case xo_NoText => first | k_is | kit_is | rfl | decide +kernel | kernel_rfl | (and_intros <;> first | k_is | kit_is | rfl | decide +kernel | kernel_rfl))
    (case xd_NoText => first | k_is | kit_is | rfl | decide +kernel | kernel_rfl | (and_intros <;> first | k_is | kit_is | rfl | decide +kernel | kernel_rfl))
    (case n_NoText_at => first | k_is | kit_is | rfl | decide +kernel | kernel_rfl | (and_intros <;> first | k_is | kit_is | rfl | decide +kernel | kernel_rfl))
    (case a_PactError => first | k_is | kit_is | rfl | decide +kernel | kernel_rfl | (and_intros <;> first | k_is | kit_is | rfl | decide +kernel | kernel_rfl))
    (case da_PactError => first | k_is | kit_is | rfl | decide +kernel | kernel_rfl | (and_intros <;> first | k_is | kit_is | rfl | decide +kernel | kernel_rfl))
    (case dr_PactError => first | k_is | kit_is | rfl | decide +kernel | kernel_rfl | (and_intros <;> first | k_is | kit_is | rfl | decide +kernel | kernel_rfl))
    (case df_PactError => first | k_is | kit_is | rfl | decide +kernel | kernel_rfl | (and_intros <;> first | k_is | kit_is | rfl | decide +kernel | kernel_rfl))
    (case v_LONGEST_NAME => first | k_is | kit_is | rfl | decide +kernel | kernel_rfl | (and_intros <;> first | k_is | kit_is | rfl | decide +kernel | kernel_rfl))
    (case v_MOST_PAIRS => first | k_is | kit_is | rfl | decide +kernel | kernel_rfl | (and_intros <;> first | k_is | kit_is | rfl | decide +kernel | kernel_rfl))
    (case v_MOST_HELPERS => first | k_is | kit_is | rfl | decide +kernel | kernel_rfl | (and_intros <;> first | k_is | kit_is | rfl | decide +kernel | kernel_rfl))
    (case v_MOST_TAKES => first | k_is | kit_is | rfl | decide +kernel | kernel_rfl | (and_intros <;> first | k_is | kit_is | rfl | decide +kernel | kernel_rfl))
    (case v_MOST_THROWS => first | k_is | kit_is | rfl | decide +kernel | kernel_rfl | (and_intros <;> first | k_is | kit_is | rfl | decide +kernel | kernel_rfl))
    (case v_TAKES => first | k_is | kit_is | rfl | decide +kernel | kernel_rfl | (and_intros <;> first | k_is | kit_is | rfl | decide +kernel | kernel_rfl))
    (case lk_TAKES => first | k_is | kit_is | rfl | decide +kernel | kernel_rfl | (and_intros <;> first | k_is | kit_is | rfl | decide +kernel | kernel_rfl))
    (case fa_NoPact => first | k_is | kit_is | rfl | decide +kernel | kernel_rfl | (and_intros <;> first | k_is | kit_is | rfl | decide +kernel | kernel_rfl))
    (case fm_NoPact => first | k_is | kit_is | rfl | decide +kernel | kernel_rfl | (and_intros <;> first | k_is | kit_is | rfl | decide +kernel | kernel_rfl))
    (case fs_NoPact => first | k_is | kit_is | rfl | decide +kernel | kernel_rfl | (and_intros <;> first | k_is | kit_is | rfl | decide +kernel | kernel_rfl))
    (case fv_NoPact => first | k_is | kit_is | rfl | decide +kernel | kernel_rfl | (and_intros <;> first | k_is | kit_is | rfl | decide +kernel | kernel_rfl))
    (case fx_NoPact => first | k_is | kit_is | rfl | decide +kernel | kernel_rfl | (and_intros <;> first | k_is | kit_is | rfl | decide +kernel | kernel_rfl))
    (case fe_NoPact => first | k_is | kit_is | rfl | decide +kernel | kernel_rfl | (and_intros <;> first | k_is | kit_is | rfl | decide +kernel | kernel_rfl))
    (case fa_NoText => first | k_is | kit_is | rfl | decide +kernel | kernel_rfl | (and_intros <;> first | k_is | kit_is | rfl | decide +kernel | kernel_rfl))
    (case fm_NoText => first | k_is | kit_is | rfl | decide +kernel | kernel_rfl | (and_intros <;> first | k_is | kit_is | rfl | decide +kernel | kernel_rfl))
    (case fs_NoText => first | k_is | kit_is | rfl | decide +kernel | kernel_rfl | (and_intros <;> first | k_is | kit_is | rfl | decide +kernel | kernel_rfl))
    (case fv_NoText => first | k_is | kit_is | rfl | decide +kernel | kernel_rfl | (and_intros <;> first | k_is | kit_is | rfl | decide +kernel | kernel_rfl))
    (case fx_NoText => first | k_is | kit_is | rfl | decide +kernel | kernel_rfl | (and_intros <;> first | k_is | kit_is | rfl | decide +kernel | kernel_rfl))
    (case fe_NoText => first | k_is | kit_is | rfl | decide +kernel | kernel_rfl | (and_intros <;> first | k_is | kit_is | rfl | decide +kernel | kernel_rfl))
    (case fg => first | k_is | kit_is | rfl | decide +kernel | kernel_rfl | (and_intros <;> first | k_is | kit_is | rfl | decide +kernel | kernel_rfl))
    (case ft => first | k_is | kit_is | rfl | decide +kernel | kernel_rfl | (and_intros <;> first | k_is | kit_is | rfl | decide +kernel | kernel_rfl))
    (case pn_1 => first | k_is | kit_is | rfl | decide +kernel | kernel_rfl | (and_intros <;> first | k_is | kit_is | rfl | decide +kernel | kernel_rfl))
    (case pn_2 => first | k_is | kit_is | rfl | decide +kernel | kernel_rfl | (and_intros <;> first | k_is | kit_is | rfl | decide +kernel | kernel_rfl))
    (case pn_3 => first | k_is | kit_is | rfl | decide +kernel | kernel_rfl | (and_intros <;> first | k_is | kit_is | rfl | decide +kernel | kernel_rfl))
    (case pn_4 => first | k_is | kit_is | rfl | decide +kernel | kernel_rfl | (and_intros <;> first | k_is | kit_is | rfl | decide +kernel | kernel_rfl))
    (case pn_5 => first | k_is | kit_is | rfl | decide +kernel | kernel_rfl | (and_intros <;> first | k_is | kit_is | rfl | decide +kernel | kernel_rfl))
    (case pn_6 => first | k_is | kit_is | rfl | decide +kernel | kernel_rfl | (and_intros <;> first | k_is | kit_is | rfl | decide +kernel | kernel_rfl))
    (case pn_7 => first | k_is | kit_is | rfl | decide +kernel | kernel_rfl | (and_intros <;> first | k_is | kit_is | rfl | decide +kernel | kernel_rfl))
    (case pn_8 => first | k_is | kit_is | rfl | decide +kernel | kernel_rfl | (and_intros <;> first | k_is | kit_is | rfl | decide +kernel | kernel_rfl))
    (case pn_9 => first | k_is | kit_is | rfl | decide +kernel | kernel_rfl | (and_intros <;> first | k_is | kit_is | rfl | decide +kernel | kernel_rfl))
    (case pn_10 => first | k_is | kit_is | rfl | decide +kernel | kernel_rfl | (and_intros <;> first | k_is | kit_is | rfl | decide +kernel | kernel_rfl))
    (case pn_11 => first | k_is | kit_is | rfl | decide +kernel | kernel_rfl | (and_intros <;> first | k_is | kit_is | rfl | decide +kernel | kernel_rfl))
    (case pn_12 => first | k_is | kit_is | rfl | decide +kernel | kernel_rfl | (and_intros <;> first | k_is | kit_is | rfl | decide +kernel | kernel_rfl))
    (case a_NoPact_init => first | k_is | kit_is | rfl | decide +kernel | kernel_rfl | (and_intros <;> first | k_is | kit_is | rfl | decide +kernel | kernel_rfl))
    (case i_NoPact_init => first | k_is | kit_is | rfl | decide +kernel | kernel_rfl | (and_intros <;> first | k_is | kit_is | rfl | decide +kernel | kernel_rfl))
    (case l_NoPact_init => first | k_is | kit_is | rfl | decide +kernel | kernel_rfl | (and_intros <;> first | k_is | kit_is | rfl | decide +kernel | kernel_rfl))
    (case q_NoPact_init => first | k_is | kit_is | rfl | decide +kernel | kernel_rfl | (and_intros <;> first | k_is | kit_is | rfl | decide +kernel | kernel_rfl))
    (case k_NoPact_init => first | k_is | kit_is | rfl | decide +kernel | kernel_rfl | (and_intros <;> first | k_is | kit_is | rfl | decide +kernel | kernel_rfl))
    (case a_NoText_init => first | k_is | kit_is | rfl | decide +kernel | kernel_rfl | (and_intros <;> first | k_is | kit_is | rfl | decide +kernel | kernel_rfl))
    (case i_NoText_init => first | k_is | kit_is | rfl | decide +kernel | kernel_rfl | (and_intros <;> first | k_is | kit_is | rfl | decide +kernel | kernel_rfl))
    (case l_NoText_init => first | k_is | kit_is | rfl | decide +kernel | kernel_rfl | (and_intros <;> first | k_is | kit_is | rfl | decide +kernel | kernel_rfl))
    (case q_NoText_init => first | k_is | kit_is | rfl | decide +kernel | kernel_rfl | (and_intros <;> first | k_is | kit_is | rfl | decide +kernel | kernel_rfl))
    (case k_NoText_init => first | k_is | kit_is | rfl | decide +kernel | kernel_rfl | (and_intros <;> first | k_is | kit_is | rfl | decide +kernel | kernel_rfl))
    (case a_is_whole => first | k_is | kit_is | rfl | decide +kernel | kernel_rfl | (and_intros <;> first | k_is | kit_is | rfl | decide +kernel | kernel_rfl))
    (case l_is_whole => first | k_is | kit_is | rfl | decide +kernel | kernel_rfl | (and_intros <;> first | k_is | kit_is | rfl | decide +kernel | kernel_rfl))
    (case q_is_whole => first | k_is | kit_is | rfl | decide +kernel | kernel_rfl | (and_intros <;> first | k_is | kit_is | rfl | decide +kernel | kernel_rfl))
    (case k_is_whole => first | k_is | kit_is | rfl | decide +kernel | kernel_rfl | (and_intros <;> first | k_is | kit_is | rfl | decide +kernel | kernel_rfl))
    (case a_is_side => first | k_is | kit_is | rfl | decide +kernel | kernel_rfl | (and_intros <;> first | k_is | kit_is | rfl | decide +kernel | kernel_rfl))
    (case l_is_side => first | k_is | kit_is | rfl | decide +kernel | kernel_rfl | (and_intros <;> first | k_is | kit_is | rfl | decide +kernel | kernel_rfl))
    (case q_is_side => first | k_is | kit_is | rfl | decide +kernel | kernel_rfl | (and_intros <;> first | k_is | kit_is | rfl | decide +kernel | kernel_rfl))
    (case k_is_side => first | k_is | kit_is | rfl | decide +kernel | kernel_rfl | (and_intros <;> first | k_is | kit_is | rfl | decide +kernel | kernel_rfl))
    (case a_is_name => first | k_is | kit_is | rfl | decide +kernel | kernel_rfl | (and_intros <;> first | k_is | kit_is | rfl | decide +kernel | kernel_rfl))
    (case l_is_name => first | k_is | kit_is | rfl | decide +kernel | kernel_rfl | (and_intros <;> first | k_is | kit_is | rfl | decide +kernel | kernel_rfl))
    (case q_is_name => first | k_is | kit_is | rfl | decide +kernel | kernel_rfl | (and_intros <;> first | k_is | kit_is | rfl | decide +kernel | kernel_rfl))
    (case k_is_name => first | k_is | kit_is | rfl | decide +kernel | kernel_rfl | (and_intros <;> first | k_is | kit_is | rfl | decide +kernel | kernel_rfl))
    (case a_Pacts_init => first | k_is | kit_is | rfl | decide +kernel | kernel_rfl | (and_intros <;> first | k_is | kit_is | rfl | decide +kernel | kernel_rfl))
    (case i_Pacts_init => first | k_is | kit_is | rfl | decide +kernel | kernel_rfl | (and_intros <;> first | k_is | kit_is | rfl | decide +kernel | kernel_rfl))
    (case l_Pacts_init => first | k_is | kit_is | rfl | decide +kernel | kernel_rfl | (and_intros <;> first | k_is | kit_is | rfl | decide +kernel | kernel_rfl))
    (case q_Pacts_init => first | k_is | kit_is | rfl | decide +kernel | kernel_rfl | (and_intros <;> first | k_is | kit_is | rfl | decide +kernel | kernel_rfl))
    (case k_Pacts_init => first | k_is | kit_is | rfl | decide +kernel | kernel_rfl | (and_intros <;> first | k_is | kit_is | rfl | decide +kernel | kernel_rfl))
    (case a_Pacts_pairs => first | k_is | kit_is | rfl | decide +kernel | kernel_rfl | (and_intros <;> first | k_is | kit_is | rfl | decide +kernel | kernel_rfl))
    (case i_Pacts_pairs => first | k_is | kit_is | rfl | decide +kernel | kernel_rfl | (and_intros <;> first | k_is | kit_is | rfl | decide +kernel | kernel_rfl))
    (case l_Pacts_pairs => first | k_is | kit_is | rfl | decide +kernel | kernel_rfl | (and_intros <;> first | k_is | kit_is | rfl | decide +kernel | kernel_rfl))
    (case q_Pacts_pairs => first | k_is | kit_is | rfl | decide +kernel | kernel_rfl | (and_intros <;> first | k_is | kit_is | rfl | decide +kernel | kernel_rfl))
    (case k_Pacts_pairs => first | k_is | kit_is | rfl | decide +kernel | kernel_rfl | (and_intros <;> first | k_is | kit_is | rfl | decide +kernel | kernel_rfl))
    (case a_Pacts_pact => first | k_is | kit_is | rfl | decide +kernel | kernel_rfl | (and_intros <;> first | k_is | kit_is | rfl | decide +kernel | kernel_rfl))
    (case i_Pacts_pact => first | k_is | kit_is | rfl | decide +kernel | kernel_rfl | (and_intros <;> first | k_is | kit_is | rfl | decide +kernel | kernel_rfl))
    (case l_Pacts_pact => first | k_is | kit_is | rfl | decide +kernel | kernel_rfl | (and_intros <;> first | k_is | kit_is | rfl | decide +kernel | kernel_rfl))
    (case q_Pacts_pact => first | k_is | kit_is | rfl | decide +kernel | kernel_rfl | (and_intros <;> first | k_is | kit_is | rfl | decide +kernel | kernel_rfl))
    (case k_Pacts_pact => first | k_is | kit_is | rfl | decide +kernel | kernel_rfl | (and_intros <;> first | k_is | kit_is | rfl | decide +kernel | kernel_rfl))
    (case a_Pacts_len => first | k_is | kit_is | rfl | decide +kernel | kernel_rfl | (and_intros <;> first | k_is | kit_is | rfl | decide +kernel | kernel_rfl))
    (case i_Pacts_len => first | k_is | kit_is | rfl | decide +kernel | kernel_rfl | (and_intros <;> first | k_is | kit_is | rfl | decide +kernel | kernel_rfl))
    (case l_Pacts_len => first | k_is | kit_is | rfl | decide +kernel | kernel_rfl | (and_intros <;> first | k_is | kit_is | rfl | decide +kernel | kernel_rfl))
    (case q_Pacts_len => first | k_is | kit_is | rfl | decide +kernel | kernel_rfl | (and_intros <;> first | k_is | kit_is | rfl | decide +kernel | kernel_rfl))
    (case k_Pacts_len => first | k_is | kit_is | rfl | decide +kernel | kernel_rfl | (and_intros <;> first | k_is | kit_is | rfl | decide +kernel | kernel_rfl))
    (case a_p_is_pair => first | k_is | kit_is | rfl | decide +kernel | kernel_rfl | (and_intros <;> first | k_is | kit_is | rfl | decide +kernel | kernel_rfl))
    (case l_p_is_pair => first | k_is | kit_is | rfl | decide +kernel | kernel_rfl | (and_intros <;> first | k_is | kit_is | rfl | decide +kernel | kernel_rfl))
    (case q_p_is_pair => first | k_is | kit_is | rfl | decide +kernel | kernel_rfl | (and_intros <;> first | k_is | kit_is | rfl | decide +kernel | kernel_rfl))
    (case k_p_is_pair => first | k_is | kit_is | rfl | decide +kernel | kernel_rfl | (and_intros <;> first | k_is | kit_is | rfl | decide +kernel | kernel_rfl))
    (case a_p_fits_pairs => first | k_is | kit_is | rfl | decide +kernel | kernel_rfl | (and_intros <;> first | k_is | kit_is | rfl | decide +kernel | kernel_rfl))
    (case l_p_fits_pairs => first | k_is | kit_is | rfl | decide +kernel | kernel_rfl | (and_intros <;> first | k_is | kit_is | rfl | decide +kernel | kernel_rfl))
    (case q_p_fits_pairs => first | k_is | kit_is | rfl | decide +kernel | kernel_rfl | (and_intros <;> first | k_is | kit_is | rfl | decide +kernel | kernel_rfl))
    (case k_p_fits_pairs => first | k_is | kit_is | rfl | decide +kernel | kernel_rfl | (and_intros <;> first | k_is | kit_is | rfl | decide +kernel | kernel_rfl))
    (case a_p_is_pact => first | k_is | kit_is | rfl | decide +kernel | kernel_rfl | (and_intros <;> first | k_is | kit_is | rfl | decide +kernel | kernel_rfl))
    (case l_p_is_pact => first | k_is | kit_is | rfl | decide +kernel | kernel_rfl | (and_intros <;> first | k_is | kit_is | rfl | decide +kernel | kernel_rfl))
    (case q_p_is_pact => first | k_is | kit_is | rfl | decide +kernel | kernel_rfl | (and_intros <;> first | k_is | kit_is | rfl | decide +kernel | kernel_rfl))
    (case k_p_is_pact => first | k_is | kit_is | rfl | decide +kernel | kernel_rfl | (and_intros <;> first | k_is | kit_is | rfl | decide +kernel | kernel_rfl))
    (case a_p_are_takes => first | k_is | kit_is | rfl | decide +kernel | kernel_rfl | (and_intros <;> first | k_is | kit_is | rfl | decide +kernel | kernel_rfl))
    (case l_p_are_takes => first | k_is | kit_is | rfl | decide +kernel | kernel_rfl | (and_intros <;> first | k_is | kit_is | rfl | decide +kernel | kernel_rfl))
    (case q_p_are_takes => first | k_is | kit_is | rfl | decide +kernel | kernel_rfl | (and_intros <;> first | k_is | kit_is | rfl | decide +kernel | kernel_rfl))
    (case k_p_are_takes => first | k_is | kit_is | rfl | decide +kernel | kernel_rfl | (and_intros <;> first | k_is | kit_is | rfl | decide +kernel | kernel_rfl))
    (case a_p_are_throws => first | k_is | kit_is | rfl | decide +kernel | kernel_rfl | (and_intros <;> first | k_is | kit_is | rfl | decide +kernel | kernel_rfl))
    (case l_p_are_throws => first | k_is | kit_is | rfl | decide +kernel | kernel_rfl | (and_intros <;> first | k_is | kit_is | rfl | decide +kernel | kernel_rfl))
    (case q_p_are_throws => first | k_is | kit_is | rfl | decide +kernel | kernel_rfl | (and_intros <;> first | k_is | kit_is | rfl | decide +kernel | kernel_rfl))
    (case k_p_are_throws => first | k_is | kit_is | rfl | decide +kernel | kernel_rfl | (and_intros <;> first | k_is | kit_is | rfl | decide +kernel | kernel_rfl))
    (case a_p_fits_helpers => first | k_is | kit_is | rfl | decide +kernel | kernel_rfl | (and_intros <;> first | k_is | kit_is | rfl | decide +kernel | kernel_rfl))
    (case l_p_fits_helpers => first | k_is | kit_is | rfl | decide +kernel | kernel_rfl | (and_intros <;> first | k_is | kit_is | rfl | decide +kernel | kernel_rfl))
    (case q_p_fits_helpers => first | k_is | kit_is | rfl | decide +kernel | kernel_rfl | (and_intros <;> first | k_is | kit_is | rfl | decide +kernel | kernel_rfl))
    (case k_p_fits_helpers => first | k_is | kit_is | rfl | decide +kernel | kernel_rfl | (and_intros <;> first | k_is | kit_is | rfl | decide +kernel | kernel_rfl))
    (case a_Pacts_eq => first | k_is | kit_is | rfl | decide +kernel | kernel_rfl | (and_intros <;> first | k_is | kit_is | rfl | decide +kernel | kernel_rfl))
    (case i_Pacts_eq => first | k_is | kit_is | rfl | decide +kernel | kernel_rfl | (and_intros <;> first | k_is | kit_is | rfl | decide +kernel | kernel_rfl))
    (case l_Pacts_eq => first | k_is | kit_is | rfl | decide +kernel | kernel_rfl | (and_intros <;> first | k_is | kit_is | rfl | decide +kernel | kernel_rfl))
    (case q_Pacts_eq => first | k_is | kit_is | rfl | decide +kernel | kernel_rfl | (and_intros <;> first | k_is | kit_is | rfl | decide +kernel | kernel_rfl))
    (case k_Pacts_eq => first | k_is | kit_is | rfl | decide +kernel | kernel_rfl | (and_intros <;> first | k_is | kit_is | rfl | decide +kernel | kernel_rfl))
    (case a_Pacts_str => first | k_is | kit_is | rfl | decide +kernel | kernel_rfl | (and_intros <;> first | k_is | kit_is | rfl | decide +kernel | kernel_rfl))
    (case i_Pacts_str => first | k_is | kit_is | rfl | decide +kernel | kernel_rfl | (and_intros <;> first | k_is | kit_is | rfl | decide +kernel | kernel_rfl))
    (case l_Pacts_str => first | k_is | kit_is | rfl | decide +kernel | kernel_rfl | (and_intros <;> first | k_is | kit_is | rfl | decide +kernel | kernel_rfl))
    (case q_Pacts_str => first | k_is | kit_is | rfl | decide +kernel | kernel_rfl | (and_intros <;> first | k_is | kit_is | rfl | decide +kernel | kernel_rfl))
    (case k_Pacts_str => first | k_is | kit_is | rfl | decide +kernel | kernel_rfl | (and_intros <;> first | k_is | kit_is | rfl | decide +kernel | kernel_rfl))
    (case a_p_pair_line => first | k_is | kit_is | rfl | decide +kernel | kernel_rfl | (and_intros <;> first | k_is | kit_is | rfl | decide +kernel | kernel_rfl))
    (case l_p_pair_line => first | k_is | kit_is | rfl | decide +kernel | kernel_rfl | (and_intros <;> first | k_is | kit_is | rfl | decide +kernel | kernel_rfl))
    (case q_p_pair_line => first | k_is | kit_is | rfl | decide +kernel | kernel_rfl | (and_intros <;> first | k_is | kit_is | rfl | decide +kernel | kernel_rfl))
    (case k_p_pair_line => first | k_is | kit_is | rfl | decide +kernel | kernel_rfl | (and_intros <;> first | k_is | kit_is | rfl | decide +kernel | kernel_rfl))
    (case a_p_helper_line => first | k_is | kit_is | rfl | decide +kernel | kernel_rfl | (and_intros <;> first | k_is | kit_is | rfl | decide +kernel | kernel_rfl))
    (case l_p_helper_line => first | k_is | kit_is | rfl | decide +kernel | kernel_rfl | (and_intros <;> first | k_is | kit_is | rfl | decide +kernel | kernel_rfl))
    (case q_p_helper_line => first | k_is | kit_is | rfl | decide +kernel | kernel_rfl | (and_intros <;> first | k_is | kit_is | rfl | decide +kernel | kernel_rfl))
    (case k_p_helper_line => first | k_is | kit_is | rfl | decide +kernel | kernel_rfl | (and_intros <;> first | k_is | kit_is | rfl | decide +kernel | kernel_rfl))
    (case a_read_pacts => first | k_is | kit_is | rfl | decide +kernel | kernel_rfl | (and_intros <;> first | k_is | kit_is | rfl | decide +kernel | kernel_rfl))
    (case l_read_pacts => first | k_is | kit_is | rfl | decide +kernel | kernel_rfl | (and_intros <;> first | k_is | kit_is | rfl | decide +kernel | kernel_rfl))
    (case q_read_pacts => first | k_is | kit_is | rfl | decide +kernel | kernel_rfl | (and_intros <;> first | k_is | kit_is | rfl | decide +kernel | kernel_rfl))
    (case k_read_pacts => first | k_is | kit_is | rfl | decide +kernel | kernel_rfl | (and_intros <;> first | k_is | kit_is | rfl | decide +kernel | kernel_rfl))
    (case a_p_has_pair_form => first | k_is | kit_is | rfl | decide +kernel | kernel_rfl | (and_intros <;> first | k_is | kit_is | rfl | decide +kernel | kernel_rfl))
    (case l_p_has_pair_form => first | k_is | kit_is | rfl | decide +kernel | kernel_rfl | (and_intros <;> first | k_is | kit_is | rfl | decide +kernel | kernel_rfl))
    (case q_p_has_pair_form => first | k_is | kit_is | rfl | decide +kernel | kernel_rfl | (and_intros <;> first | k_is | kit_is | rfl | decide +kernel | kernel_rfl))
    (case k_p_has_pair_form => first | k_is | kit_is | rfl | decide +kernel | kernel_rfl | (and_intros <;> first | k_is | kit_is | rfl | decide +kernel | kernel_rfl))
    (case a_p_has_helper_form => first | k_is | kit_is | rfl | decide +kernel | kernel_rfl | (and_intros <;> first | k_is | kit_is | rfl | decide +kernel | kernel_rfl))
    (case l_p_has_helper_form => first | k_is | kit_is | rfl | decide +kernel | kernel_rfl | (and_intros <;> first | k_is | kit_is | rfl | decide +kernel | kernel_rfl))
    (case q_p_has_helper_form => first | k_is | kit_is | rfl | decide +kernel | kernel_rfl | (and_intros <;> first | k_is | kit_is | rfl | decide +kernel | kernel_rfl))
    (case k_p_has_helper_form => first | k_is | kit_is | rfl | decide +kernel | kernel_rfl | (and_intros <;> first | k_is | kit_is | rfl | decide +kernel | kernel_rfl))
    (case a_p_takes_end => first | k_is | kit_is | rfl | decide +kernel | kernel_rfl | (and_intros <;> first | k_is | kit_is | rfl | decide +kernel | kernel_rfl))
    (case l_p_takes_end => first | k_is | kit_is | rfl | decide +kernel | kernel_rfl | (and_intros <;> first | k_is | kit_is | rfl | decide +kernel | kernel_rfl))
    (case q_p_takes_end => first | k_is | kit_is | rfl | decide +kernel | kernel_rfl | (and_intros <;> first | k_is | kit_is | rfl | decide +kernel | kernel_rfl))
    (case k_p_takes_end => first | k_is | kit_is | rfl | decide +kernel | kernel_rfl | (and_intros <;> first | k_is | kit_is | rfl | decide +kernel | kernel_rfl))
    (case a_p_read_helper => first | k_is | kit_is | rfl | decide +kernel | kernel_rfl | (and_intros <;> first | k_is | kit_is | rfl | decide +kernel | kernel_rfl))
    (case l_p_read_helper => first | k_is | kit_is | rfl | decide +kernel | kernel_rfl | (and_intros <;> first | k_is | kit_is | rfl | decide +kernel | kernel_rfl))
    (case q_p_read_helper => first | k_is | kit_is | rfl | decide +kernel | kernel_rfl | (and_intros <;> first | k_is | kit_is | rfl | decide +kernel | kernel_rfl))
    (case k_p_read_helper => first | k_is | kit_is | rfl | decide +kernel | kernel_rfl | (and_intros <;> first | k_is | kit_is | rfl | decide +kernel | kernel_rfl))
    (case a_box => first | k_is | kit_is | rfl | decide +kernel | kernel_rfl | (and_intros <;> first | k_is | kit_is | rfl | decide +kernel | kernel_rfl))
    (case l_box => first | k_is | kit_is | rfl | decide +kernel | kernel_rfl | (and_intros <;> first | k_is | kit_is | rfl | decide +kernel | kernel_rfl))
    (case q_box => first | k_is | kit_is | rfl | decide +kernel | kernel_rfl | (and_intros <;> first | k_is | kit_is | rfl | decide +kernel | kernel_rfl))
    (case k_box => first | k_is | kit_is | rfl | decide +kernel | kernel_rfl | (and_intros <;> first | k_is | kit_is | rfl | decide +kernel | kernel_rfl))
    (case a_mixed => first | k_is | kit_is | rfl | decide +kernel | kernel_rfl | (and_intros <;> first | k_is | kit_is | rfl | decide +kernel | kernel_rfl))
    (case l_mixed => first | k_is | kit_is | rfl | decide +kernel | kernel_rfl | (and_intros <;> first | k_is | kit_is | rfl | decide +kernel | kernel_rfl))
    (case q_mixed => first | k_is | kit_is | rfl | decide +kernel | kernel_rfl | (and_intros <;> first | k_is | kit_is | rfl | decide +kernel | kernel_rfl))
    (case k_mixed => first | k_is | kit_is | rfl | decide +kernel | kernel_rfl | (and_intros <;> first | k_is | kit_is | rfl | decide +kernel | kernel_rfl))
    (case a_take => first | k_is | kit_is | rfl | decide +kernel | kernel_rfl | (and_intros <;> first | k_is | kit_is | rfl | decide +kernel | kernel_rfl))
    (case l_take => first | k_is | kit_is | rfl | decide +kernel | kernel_rfl | (and_intros <;> first | k_is | kit_is | rfl | decide +kernel | kernel_rfl))
    (case q_take => first | k_is | kit_is | rfl | decide +kernel | kernel_rfl | (and_intros <;> first | k_is | kit_is | rfl | decide +kernel | kernel_rfl))
    (case k_take => first | k_is | kit_is | rfl | decide +kernel | kernel_rfl | (and_intros <;> first | k_is | kit_is | rfl | decide +kernel | kernel_rfl))
    (case a_name => first | k_is | kit_is | rfl | decide +kernel | kernel_rfl | (and_intros <;> first | k_is | kit_is | rfl | decide +kernel | kernel_rfl))
    (case l_name => first | k_is | kit_is | rfl | decide +kernel | kernel_rfl | (and_intros <;> first | k_is | kit_is | rfl | decide +kernel | kernel_rfl))
    (case q_name => first | k_is | kit_is | rfl | decide +kernel | kernel_rfl | (and_intros <;> first | k_is | kit_is | rfl | decide +kernel | kernel_rfl))
    (case k_name => first | k_is | kit_is | rfl | decide +kernel | kernel_rfl | (and_intros <;> first | k_is | kit_is | rfl | decide +kernel | kernel_rfl))
    (case a_names => first | k_is | kit_is | rfl | decide +kernel | kernel_rfl | (and_intros <;> first | k_is | kit_is | rfl | decide +kernel | kernel_rfl))
    (case l_names => first | k_is | kit_is | rfl | decide +kernel | kernel_rfl | (and_intros <;> first | k_is | kit_is | rfl | decide +kernel | kernel_rfl))
    (case q_names => first | k_is | kit_is | rfl | decide +kernel | kernel_rfl | (and_intros <;> first | k_is | kit_is | rfl | decide +kernel | kernel_rfl))
    (case k_names => first | k_is | kit_is | rfl | decide +kernel | kernel_rfl | (and_intros <;> first | k_is | kit_is | rfl | decide +kernel | kernel_rfl))
    (case a_pairs => first | k_is | kit_is | rfl | decide +kernel | kernel_rfl | (and_intros <;> first | k_is | kit_is | rfl | decide +kernel | kernel_rfl))
    (case l_pairs => first | k_is | kit_is | rfl | decide +kernel | kernel_rfl | (and_intros <;> first | k_is | kit_is | rfl | decide +kernel | kernel_rfl))
    (case q_pairs => first | k_is | kit_is | rfl | decide +kernel | kernel_rfl | (and_intros <;> first | k_is | kit_is | rfl | decide +kernel | kernel_rfl))
    (case k_pairs => first | k_is | kit_is | rfl | decide +kernel | kernel_rfl | (and_intros <;> first | k_is | kit_is | rfl | decide +kernel | kernel_rfl))
    (case a_some => first | k_is | kit_is | rfl | decide +kernel | kernel_rfl | (and_intros <;> first | k_is | kit_is | rfl | decide +kernel | kernel_rfl))
    (case l_some => first | k_is | kit_is | rfl | decide +kernel | kernel_rfl | (and_intros <;> first | k_is | kit_is | rfl | decide +kernel | kernel_rfl))
    (case q_some => first | k_is | kit_is | rfl | decide +kernel | kernel_rfl | (and_intros <;> first | k_is | kit_is | rfl | decide +kernel | kernel_rfl))
    (case k_some => first | k_is | kit_is | rfl | decide +kernel | kernel_rfl | (and_intros <;> first | k_is | kit_is | rfl | decide +kernel | kernel_rfl))
    (case a_helpers => first | k_is | kit_is | rfl | decide +kernel | kernel_rfl | (and_intros <;> first | k_is | kit_is | rfl | decide +kernel | kernel_rfl))
    (case l_helpers => first | k_is | kit_is | rfl | decide +kernel | kernel_rfl | (and_intros <;> first | k_is | kit_is | rfl | decide +kernel | kernel_rfl))
    (case q_helpers => first | k_is | kit_is | rfl | decide +kernel | kernel_rfl | (and_intros <;> first | k_is | kit_is | rfl | decide +kernel | kernel_rfl))
    (case k_helpers => first | k_is | kit_is | rfl | decide +kernel | kernel_rfl | (and_intros <;> first | k_is | kit_is | rfl | decide +kernel | kernel_rfl))
    (case a_line => first | k_is | kit_is | rfl | decide +kernel | kernel_rfl | (and_intros <;> first | k_is | kit_is | rfl | decide +kernel | kernel_rfl))
    (case l_line => first | k_is | kit_is | rfl | decide +kernel | kernel_rfl | (and_intros <;> first | k_is | kit_is | rfl | decide +kernel | kernel_rfl))
    (case q_line => first | k_is | kit_is | rfl | decide +kernel | kernel_rfl | (and_intros <;> first | k_is | kit_is | rfl | decide +kernel | kernel_rfl))
    (case k_line => first | k_is | kit_is | rfl | decide +kernel | kernel_rfl | (and_intros <;> first | k_is | kit_is | rfl | decide +kernel | kernel_rfl))
    (case a_text => first | k_is | kit_is | rfl | decide +kernel | kernel_rfl | (and_intros <;> first | k_is | kit_is | rfl | decide +kernel | kernel_rfl))
    (case l_text => first | k_is | kit_is | rfl | decide +kernel | kernel_rfl | (and_intros <;> first | k_is | kit_is | rfl | decide +kernel | kernel_rfl))
    (case q_text => first | k_is | kit_is | rfl | decide +kernel | kernel_rfl | (and_intros <;> first | k_is | kit_is | rfl | decide +kernel | kernel_rfl))
    (case k_text => first | k_is | kit_is | rfl | decide +kernel | kernel_rfl | (and_intros <;> first | k_is | kit_is | rfl | decide +kernel | kernel_rfl))
    (case a_pair_read => first | k_is | kit_is | rfl | decide +kernel | kernel_rfl | (and_intros <;> first | k_is | kit_is | rfl | decide +kernel | kernel_rfl))
    (case l_pair_read => first | k_is | kit_is | rfl | decide +kernel | kernel_rfl | (and_intros <;> first | k_is | kit_is | rfl | decide +kernel | kernel_rfl))
    (case q_pair_read => first | k_is | kit_is | rfl | decide +kernel | kernel_rfl | (and_intros <;> first | k_is | kit_is | rfl | decide +kernel | kernel_rfl))
    (case k_pair_read => first | k_is | kit_is | rfl | decide +kernel | kernel_rfl | (and_intros <;> first | k_is | kit_is | rfl | decide +kernel | kernel_rfl))
    (case a_helper_read => first | k_is | kit_is | rfl | decide +kernel | kernel_rfl | (and_intros <;> first | k_is | kit_is | rfl | decide +kernel | kernel_rfl))
    (case l_helper_read => first | k_is | kit_is | rfl | decide +kernel | kernel_rfl | (and_intros <;> first | k_is | kit_is | rfl | decide +kernel | kernel_rfl))
    (case q_helper_read => first | k_is | kit_is | rfl | decide +kernel | kernel_rfl | (and_intros <;> first | k_is | kit_is | rfl | decide +kernel | kernel_rfl))
    (case k_helper_read => first | k_is | kit_is | rfl | decide +kernel | kernel_rfl | (and_intros <;> first | k_is | kit_is | rfl | decide +kernel | kernel_rfl))
    (case a_read => first | k_is | kit_is | rfl | decide +kernel | kernel_rfl | (and_intros <;> first | k_is | kit_is | rfl | decide +kernel | kernel_rfl))
    (case l_read => first | k_is | kit_is | rfl | decide +kernel | kernel_rfl | (and_intros <;> first | k_is | kit_is | rfl | decide +kernel | kernel_rfl))
    (case q_read => first | k_is | kit_is | rfl | decide +kernel | kernel_rfl | (and_intros <;> first | k_is | kit_is | rfl | decide +kernel | kernel_rfl))
    (case k_read => first | k_is | kit_is | rfl | decide +kernel | kernel_rfl | (and_intros <;> first | k_is | kit_is | rfl | decide +kernel | kernel_rfl))
    (case a_w_is_name => first | k_is | kit_is | rfl | decide +kernel | kernel_rfl | (and_intros <;> first | k_is | kit_is | rfl | decide +kernel | kernel_rfl))
    (case l_w_is_name => first | k_is | kit_is | rfl | decide +kernel | kernel_rfl | (and_intros <;> first | k_is | kit_is | rfl | decide +kernel | kernel_rfl))
    (case q_w_is_name => first | k_is | kit_is | rfl | decide +kernel | kernel_rfl | (and_intros <;> first | k_is | kit_is | rfl | decide +kernel | kernel_rfl))
    (case k_w_is_name => first | k_is | kit_is | rfl | decide +kernel | kernel_rfl | (and_intros <;> first | k_is | kit_is | rfl | decide +kernel | kernel_rfl))
    (case a_pair_fits => first | k_is | kit_is | rfl | decide +kernel | kernel_rfl | (and_intros <;> first | k_is | kit_is | rfl | decide +kernel | kernel_rfl))
    (case l_pair_fits => first | k_is | kit_is | rfl | decide +kernel | kernel_rfl | (and_intros <;> first | k_is | kit_is | rfl | decide +kernel | kernel_rfl))
    (case q_pair_fits => first | k_is | kit_is | rfl | decide +kernel | kernel_rfl | (and_intros <;> first | k_is | kit_is | rfl | decide +kernel | kernel_rfl))
    (case k_pair_fits => first | k_is | kit_is | rfl | decide +kernel | kernel_rfl | (and_intros <;> first | k_is | kit_is | rfl | decide +kernel | kernel_rfl))
    (case a_helper_fits => first | k_is | kit_is | rfl | decide +kernel | kernel_rfl | (and_intros <;> first | k_is | kit_is | rfl | decide +kernel | kernel_rfl))
    (case l_helper_fits => first | k_is | kit_is | rfl | decide +kernel | kernel_rfl | (and_intros <;> first | k_is | kit_is | rfl | decide +kernel | kernel_rfl))
    (case q_helper_fits => first | k_is | kit_is | rfl | decide +kernel | kernel_rfl | (and_intros <;> first | k_is | kit_is | rfl | decide +kernel | kernel_rfl))
    (case k_helper_fits => first | k_is | kit_is | rfl | decide +kernel | kernel_rfl | (and_intros <;> first | k_is | kit_is | rfl | decide +kernel | kernel_rfl))
    (case a_first_bad => first | k_is | kit_is | rfl | decide +kernel | kernel_rfl | (and_intros <;> first | k_is | kit_is | rfl | decide +kernel | kernel_rfl))
    (case l_first_bad => first | k_is | kit_is | rfl | decide +kernel | kernel_rfl | (and_intros <;> first | k_is | kit_is | rfl | decide +kernel | kernel_rfl))
    (case q_first_bad => first | k_is | kit_is | rfl | decide +kernel | kernel_rfl | (and_intros <;> first | k_is | kit_is | rfl | decide +kernel | kernel_rfl))
    (case k_first_bad => first | k_is | kit_is | rfl | decide +kernel | kernel_rfl | (and_intros <;> first | k_is | kit_is | rfl | decide +kernel | kernel_rfl))
    (case a_row_changed => first | k_is | kit_is | rfl | decide +kernel | kernel_rfl | (and_intros <;> first | k_is | kit_is | rfl | decide +kernel | kernel_rfl))
    (case l_row_changed => first | k_is | kit_is | rfl | decide +kernel | kernel_rfl | (and_intros <;> first | k_is | kit_is | rfl | decide +kernel | kernel_rfl))
    (case q_row_changed => first | k_is | kit_is | rfl | decide +kernel | kernel_rfl | (and_intros <;> first | k_is | kit_is | rfl | decide +kernel | kernel_rfl))
    (case k_row_changed => first | k_is | kit_is | rfl | decide +kernel | kernel_rfl | (and_intros <;> first | k_is | kit_is | rfl | decide +kernel | kernel_rfl))
    (case a_changed => first | k_is | kit_is | rfl | decide +kernel | kernel_rfl | (and_intros <;> first | k_is | kit_is | rfl | decide +kernel | kernel_rfl))
    (case l_changed => first | k_is | kit_is | rfl | decide +kernel | kernel_rfl | (and_intros <;> first | k_is | kit_is | rfl | decide +kernel | kernel_rfl))
    (case q_changed => first | k_is | kit_is | rfl | decide +kernel | kernel_rfl | (and_intros <;> first | k_is | kit_is | rfl | decide +kernel | kernel_rfl))
    (case k_changed => first | k_is | kit_is | rfl | decide +kernel | kernel_rfl | (and_intros <;> first | k_is | kit_is | rfl | decide +kernel | kernel_rfl))
    (case a_made => first | k_is | kit_is | rfl | decide +kernel | kernel_rfl | (and_intros <;> first | k_is | kit_is | rfl | decide +kernel | kernel_rfl))
    (case l_made => first | k_is | kit_is | rfl | decide +kernel | kernel_rfl | (and_intros <;> first | k_is | kit_is | rfl | decide +kernel | kernel_rfl))
    (case q_made => first | k_is | kit_is | rfl | decide +kernel | kernel_rfl | (and_intros <;> first | k_is | kit_is | rfl | decide +kernel | kernel_rfl))
    (case k_made => first | k_is | kit_is | rfl | decide +kernel | kernel_rfl | (and_intros <;> first | k_is | kit_is | rfl | decide +kernel | kernel_rfl))
    (case a_law => first | k_is | kit_is | rfl | decide +kernel | kernel_rfl | (and_intros <;> first | k_is | kit_is | rfl | decide +kernel | kernel_rfl))
    (case l_law => first | k_is | kit_is | rfl | decide +kernel | kernel_rfl | (and_intros <;> first | k_is | kit_is | rfl | decide +kernel | kernel_rfl))
    (case q_law => first | k_is | kit_is | rfl | decide +kernel | kernel_rfl | (and_intros <;> first | k_is | kit_is | rfl | decide +kernel | kernel_rfl))
    (case k_law => first | k_is | kit_is | rfl | decide +kernel | kernel_rfl | (and_intros <;> first | k_is | kit_is | rfl | decide +kernel | kernel_rfl))
    (case z_ValueError => first | k_is | kit_is | rfl | decide +kernel | kernel_rfl | (and_intros <;> first | k_is | kit_is | rfl | decide +kernel | kernel_rfl))
    (case z_isinstance => first | k_is | kit_is | rfl | decide +kernel | kernel_rfl | (and_intros <;> first | k_is | kit_is | rfl | decide +kernel | kernel_rfl))
    (case z_int => first | k_is | kit_is | rfl | decide +kernel | kernel_rfl | (and_intros <;> first | k_is | kit_is | rfl | decide +kernel | kernel_rfl))
    (case z_bool => first | k_is | kit_is | rfl | decide +kernel | kernel_rfl | (and_intros <;> first | k_is | kit_is | rfl | decide +kernel | kernel_rfl))
    (case z_tuple => first | k_is | kit_is | rfl | decide +kernel | kernel_rfl | (and_intros <;> first | k_is | kit_is | rfl | decide +kernel | kernel_rfl))
    (case z_list => first | k_is | kit_is | rfl | decide +kernel | kernel_rfl | (and_intros <;> first | k_is | kit_is | rfl | decide +kernel | kernel_rfl))
    (case z_str => first | k_is | kit_is | rfl | decide +kernel | kernel_rfl | (and_intros <;> first | k_is | kit_is | rfl | decide +kernel | kernel_rfl))
    (case z_len => first | k_is | kit_is | rfl | decide +kernel | kernel_rfl | (and_intros <;> first | k_is | kit_is | rfl | decide +kernel | kernel_rfl))
    (case z_all => first | k_is | kit_is | rfl | decide +kernel | kernel_rfl | (and_intros <;> first | k_is | kit_is | rfl | decide +kernel | kernel_rfl))
    (case z_range => first | k_is | kit_is | rfl | decide +kernel | kernel_rfl | (and_intros <;> first | k_is | kit_is | rfl | decide +kernel | kernel_rfl))
    (case z_zip => first | k_is | kit_is | rfl | decide +kernel | kernel_rfl | (and_intros <;> first | k_is | kit_is | rfl | decide +kernel | kernel_rfl))
    (case z_min => first | k_is | kit_is | rfl | decide +kernel | kernel_rfl | (and_intros <;> first | k_is | kit_is | rfl | decide +kernel | kernel_rfl))
    (case z_enumerate => first | k_is | kit_is | rfl | decide +kernel | kernel_rfl | (and_intros <;> first | k_is | kit_is | rfl | decide +kernel | kernel_rfl))
