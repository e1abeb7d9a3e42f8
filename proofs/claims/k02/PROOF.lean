import PyProof.Rows.All
import Wide.All
import OpenK.AllK
import Wide.FinOn
import HandS.ForMost
import HandS.Gcd
import HandS.Wide
import HandS.EndBits
import HandS.IsInst
import HandS.SortInts
import HandS.NoneIn
import HandS.More
import HandS.Codes
import HandS.Zip
import HandS.ClsMeth
import HandS.ExcInit
import HandS.ExcIs
import HandS.ExcField
import HandS.ExcOwn
import HandS.WordsExc
import HandS.TryOnly
import HandS.TryMany
import HandS.FStrTup
import HandS.FStr
import KE.KExcIs
import KE.RegKIsAll
import PySem.Str
import HandS.Walk
import HandS.Strs
import HandS.TupAny
import HandS.OwnEq
import KE.GoesEnum
import HandS.Style
import PyProof.MeetsIn
import HandS.Star
import HandS.MakeKw
import KE.KCallOwn
import PySem.Challenge.RW_pactford_k02_pacts_told
namespace My
def g (ns : List Int) (i : Nat) : Int := ns.getD i 0
def swp (ns : List Int) (i j : Nat) : List Int := (ns.set i (g ns j)).set j (g ns i)
theorem swp_len (ns : List Int) (i j : Nat) : (swp ns i j).length = ns.length := by unfold swp; rw [List.length_set, List.length_set]
theorem g_lt {ns : List Int} {i : Nat} (h : i < ns.length) : ns[i]? = some (g ns i) := by
  unfold g
  rw [List.getD_eq_getElem?_getD, List.getElem?_eq_getElem h]
  rfl
theorem g_swp {ns : List Int} {i j : Nat} (hi : i < ns.length) (hj : j < ns.length) (k : Nat) : g (swp ns i j) k = if k = j then g ns i else if k = i then g ns j else g ns k := by
  show (swp ns i j).getD k 0 = _
  unfold swp
  rw [List.getD_eq_getElem?_getD, List.getElem?_set, List.length_set, List.getElem?_set]
  by_cases h1 : j = k
  · subst h1
    simp only [if_true, if_pos hj]
    rfl
  · have h1' : ¬ k = j := fun q => h1 q.symm
    simp only [if_neg h1, if_neg h1']
    by_cases h2 : i = k
    · subst h2
      simp only [if_true, if_pos hi]
      rfl
    · have h2' : ¬ k = i := fun q => h2 q.symm
      simp only [if_neg h2, if_neg h2']
      unfold g
      rw [List.getD_eq_getElem?_getD]
theorem swp_perm {ns : List Int} {i j : Nat} (hi : i < ns.length) (hj : j < ns.length) : (swp ns i j).Perm ns := by
  have e1 : g ns j = ns[j] := by
    have := g_lt hj
    rw [List.getElem?_eq_getElem hj] at this
    exact (Option.some.inj this).symm
  have e2 : g ns i = ns[i] := by
    have := g_lt hi
    rw [List.getElem?_eq_getElem hi] at this
    exact (Option.some.inj this).symm
  unfold swp
  rw [e1, e2]
  exact List.set_set_perm hi hj
def IsHeap (ns : List Int) : Prop := ∀ i, 0 < i → i < ns.length → g ns ((i - 1) / 2) ≤ g ns i
def UpI (ns : List Int) (pos : Nat) : Prop := (∀ i, 0 < i → i < ns.length → i ≠ pos → g ns ((i - 1) / 2) ≤ g ns i) ∧
  ∀ c, 0 < c → c < ns.length → (c - 1) / 2 = pos → 0 < pos → g ns ((pos - 1) / 2) ≤ g ns c
def DnI (ns : List Int) (pos : Nat) : Prop := (∀ i, 0 < i → i < ns.length → i ≠ pos → (i - 1) / 2 ≠ pos → g ns ((i - 1) / 2) ≤ g ns i) ∧
  ∀ c, 0 < c → c < ns.length → (c - 1) / 2 = pos → 0 < pos → g ns ((pos - 1) / 2) ≤ g ns c
theorem UpI.done {ns : List Int} {pos : Nat} (h : UpI ns pos) (hp : pos = 0 ∨ g ns ((pos - 1) / 2) ≤ g ns pos) : IsHeap ns := by
  intro i h0 hl
  by_cases e : i = pos
  · subst e
    rcases hp with e | e
    · omega
    · exact e
  · exact h.1 i h0 hl e
theorem UpI.step {ns : List Int} {pos : Nat} (h : UpI ns pos) (h0 : 0 < pos) (hl : pos < ns.length) (hlt : g ns pos < g ns ((pos - 1) / 2)) : UpI (swp ns ((pos - 1) / 2) pos) ((pos - 1) / 2) := by
  have hq : (pos - 1) / 2 < ns.length := by omega
  have G := g_swp hq hl
  refine ⟨fun i i0 il ne => ?_, fun c c0 cl e q0 => ?_⟩
  · rw [swp_len] at il
    rw [G, G]
    by_cases e1 : i = pos
    · subst e1
      rw [if_pos rfl, if_neg (by omega), if_pos rfl]
      omega
    · rw [if_neg e1, if_neg ne]
      by_cases e2 : (i - 1) / 2 = pos
      · rw [if_pos e2]
        exact h.2 i i0 il e2 h0
      · rw [if_neg e2]
        by_cases e3 : (i - 1) / 2 = (pos - 1) / 2
        · rw [if_pos e3]
          have := h.1 i i0 il e1
          rw [e3] at this
          omega
        · rw [if_neg e3]
          exact h.1 i i0 il e1
  · rw [swp_len] at cl
    rw [G, G]
    have k1 := h.1 ((pos - 1) / 2) q0 hq (by omega)
    rw [if_neg (by omega), if_neg (by omega)]
    by_cases e1 : c = pos
    · rw [if_pos e1]
      exact k1
    · rw [if_neg e1, if_neg (by omega)]
      have k2 := h.1 c c0 cl e1
      rw [e] at k2
      omega
theorem DnI.leaf {ns : List Int} {pos : Nat} (h : DnI ns pos) (hl : ¬ pos < ns.length / 2) : UpI ns pos :=
  ⟨fun i i0 il ne => h.1 i i0 il ne (by omega), h.2⟩
theorem DnI.step {ns : List Int} {pos m : Nat} (h : DnI ns pos) (hm : m < ns.length) (m0 : 0 < m) (e : (m - 1) / 2 = pos) (hmin : ∀ c, 0 < c → c < ns.length → (c - 1) / 2 = pos → g ns m ≤ g ns c) : DnI (swp ns m pos) m := by
  have hp : pos < ns.length := by omega
  have G := g_swp hm hp
  refine ⟨fun i i0 il n1 n2 => ?_, fun c c0 cl ec _ => ?_⟩
  · rw [swp_len] at il
    rw [G, G]
    by_cases e1 : i = pos
    · rw [if_pos e1, if_neg (by omega), if_neg n2]
      subst e1
      exact h.2 m m0 hm e i0
    · rw [if_neg e1, if_neg n1]
      by_cases e2 : (i - 1) / 2 = pos
      · rw [if_pos e2]
        exact hmin i i0 il e2
      · rw [if_neg e2, if_neg n2]
        exact h.1 i i0 il e1 e2
  · rw [swp_len] at cl
    rw [G, G]
    rw [e, if_pos rfl, if_neg (by omega), if_neg (by omega)]
    have := h.1 c c0 cl (by omega) (by omega)
    rw [ec] at this
    exact this
theorem IsHeap.least {ns : List Int} (h : IsHeap ns) : ∀ i, i < ns.length → g ns 0 ≤ g ns i := by
  intro i
  induction i using Nat.strongRecOn with
  | _ i ih =>
    intro hl
    by_cases h0 : i = 0
    · subst h0; exact Int.le_refl _
    · exact Int.le_trans (ih ((i - 1) / 2) (by omega) (by omega)) (h i (by omega) hl)
theorem IsHeap.least_mem {ns : List Int} (h : IsHeap ns) {x : Int} (hx : x ∈ ns) : g ns 0 ≤ x := by
  obtain ⟨i, hi, e⟩ := List.mem_iff_getElem.mp hx
  have := h.least i hi
  have q := g_lt hi
  rw [List.getElem?_eq_getElem hi, e] at q
  rw [← Option.some.inj q] at this
  exact this
/-- one more at the end -/
theorem IsHeap.push {ns : List Int} (h : IsHeap ns) (x : Int) : UpI (ns ++ [x]) ns.length := by
  have ga : ∀ i, i < ns.length → g (ns ++ [x]) i = g ns i := fun i hi => by
    unfold g
    rw [List.getD_eq_getElem?_getD, List.getElem?_append_left hi, List.getD_eq_getElem?_getD]
  refine ⟨fun i i0 il ne => ?_, fun c c0 cl e _ => ?_⟩
  · rw [List.length_append, List.length_singleton] at il
    rw [ga i (by omega), ga _ (by omega)]
    exact h i i0 (by omega)
  · rw [List.length_append, List.length_singleton] at cl
    omega
/-- the last one put in the first one's place -/
theorem IsHeap.pop {ns : List Int} (h : IsHeap ns) (x : Int) : DnI (ns.dropLast.set 0 x) 0 := by
  have hlen : (ns.dropLast.set 0 x).length = ns.length - 1 := by rw [List.length_set, List.length_dropLast]
  have ga : ∀ i, 0 < i → i < ns.length - 1 → g (ns.dropLast.set 0 x) i = g ns i := fun i i0 hi => by
    unfold g
    rw [List.getD_eq_getElem?_getD, List.getElem?_set, if_neg (by omega), List.getD_eq_getElem?_getD, List.getElem?_dropLast, if_pos hi]
  refine ⟨fun i i0 il n1 n2 => ?_, fun c c0 cl e q => absurd q (by omega)⟩
  rw [hlen] at il
  rw [ga i i0 il, ga _ (by omega) (by omega)]
  exact h i i0 (by omega)
theorem pop_perm {ns : List Int} (h2 : 2 ≤ ns.length) : (g ns 0 :: (ns.dropLast.set 0 (g ns (ns.length - 1)))).Perm ns := by
  match ns, h2 with
  | a :: b :: r, _ =>
    have e1 : g (a :: b :: r) 0 = a := rfl
    have e2 : g (a :: b :: r) ((a :: b :: r).length - 1) = (b :: r).getLast (by simp) := by
      unfold g
      rw [List.getD_eq_getElem?_getD, ← List.getLast?_eq_getElem?, List.getLast?_cons_cons, List.getLast?_eq_some_getLast (by simp)]
      rfl
    rw [e1, e2, List.dropLast_cons_cons, List.set_cons_zero]
    refine List.Perm.cons _ ?_
    have e3 : (b :: r).dropLast ++ [(b :: r).getLast (by simp)] = b :: r := List.dropLast_concat_getLast _
    exact (List.perm_append_comm (l₁ := [(b :: r).getLast (by simp)]) (l₂ := (b :: r).dropLast)).trans (by rw [e3])
end My

set_option Elab.async false
set_option linter.all false
set_option maxRecDepth 100000
set_option maxHeartbeats 4000000
namespace L2
open PySem PySem.Spec PyProof.Rows
theorem iteD {p A B : Prop} [Decidable p] (h1 : p → A) (h2 : ¬ p → B) : if decide p = true then A else B := by
  by_cases h : p
  · rw [decide_eq_true h, if_pos rfl]; exact h1 h
  · rw [decide_eq_false h, if_neg Bool.false_ne_true]; exact h2 h
theorem iteB {b : Bool} {A B : Prop} (h1 : b = true → A) (h2 : b = false → B) : if b = true then A else B := by
  cases b with
  | true => rw [if_pos rfl]; exact h1 rfl
  | false => rw [if_neg Bool.false_ne_true]; exact h2 rfl
/-- a word that no step opens -/
@[irreducible] def Blk (p : Prop) : Prop := p
theorem Blk.of {p : Prop} (h : p) : Blk p := by unfold Blk; exact h
theorem Blk.out {p : Prop} (h : Blk p) : p := by unfold Blk at h; exact h
/-- all but the addresses of S stays -/
def Keeps (S : List Addr) (H H' : Hp) : Prop := ∀ b o, H b = some o → b ∉ S → H' b = some o
theorem Keeps.refl (S : List Addr) (H : Hp) : Keeps S H H := fun _ _ h _ => h
theorem Keeps.trans {S : List Addr} {H H1 H2 : Hp} (a : Keeps S H H1) (b : Keeps S H1 H2) : Keeps S H H2 := fun c o h n => b c o (a c o h n) n
theorem Keeps.mono {S S' : List Addr} {H H1 : Hp} (a : Keeps S H H1) (h : ∀ x ∈ S, x ∈ S') : Keeps S' H H1 := fun c o e n => a c o e fun q => n (h c q)
theorem Keeps.upd {S : List Addr} {H H1 : Hp} {x : Addr} {o : HO} (a : Keeps S H H1) (hx : x ∈ S ∨ H x = none) : Keeps S H (upd H1 x o) := fun c u e n => by
  have ne : c ≠ x := fun q => by
    subst q
    rcases hx with h | h
    · exact n h
    · rw [h] at e; cases e
  rw [upd_ne ne]
  exact a c u e n
/-- fresh at H1, so fresh at H (or in S) -/
theorem Keeps.fresh {S : List Addr} {H H1 : Hp} {x : Addr} (a : Keeps S H H1) (h : H1 x = none) : x ∈ S ∨ H x = none := by
  cases e : H x with
  | none => exact .inr rfl
  | some o =>
    by_cases hm : x ∈ S
    · exact .inl hm
    · rw [a x o e hm] at h; cases h
section
variable {X : Cx}
/-- xs[i], by values -/
def rGetL (K : PySem.W.Frag) : V → V → Hp → VK → Prop := fun x y H Q => ∃ p xs i v, x = .ref p ∧ y = .int i ∧ SqL K H p xs ∧ 0 ≤ i ∧ xs[i.toNat]? = some v ∧ Q v H
theorem pget_list : PGet X (rGetL X.K) := by
  intro pins s σ H o i ov iv Q I ro ri h
  obtain ⟨p, xs, j, v, rfl, rfl, hq, h0, hv, q⟩ := h
  cases ro
  obtain ⟨t, rfl⟩ := ri
  obtain ⟨its, r, pl, hz⟩ := I.list hq
  obtain ⟨w, ew, rw'⟩ := r.get hv
  have hl := r.length
  have hlt : j.toNat < xs.length := (List.getElem?_eq_some_iff.mp hv).1
  have hn := line63
  exact wpAny_getItem_list pl.isList h0 (by omega) (by simpa using ew) ⟨v, H, I, rw', q⟩
/-- the keywords alone: each parameter but the first by its name, in their order -/
structure KwB (K : PySem.W.Frag) (fd : FuncData) (ps ks : List Str) : Prop where
  to : ∀ (s : Shared) (u : Value) (ws : List Value), K.In s.heap → ws.length = ks.length → BindsTo s fd ⟨[u], ks.zip ws⟩ (ps.zip (u :: ws))
  len : ps.length = ks.length + 1
def tMethKw (C : Addr) (m : Str) (sp : Sp) (E : XK) (ta : TE) (tk : TA) : TE := fun σ H Q => ta σ H fun x H1 => ∃ a dx fs, x = .ref a ∧ H1 a = some (.ins C dx fs) ∧ fs.lookup m = none ∧
  tk σ H1 fun vs H2 => sp (x :: vs) H2 Q E
variable {CX : CXT} {k : Nat} {f C : Addr} {fd : FuncData} {ps ks : List Str} {sp : Sp} {E : XK} {m : Str} {pos apos : Pos} {o : Expr} {kws : List Keyword} {ta : TE} {tk : TA}
theorem run_kwm {pins : List (Addr × Obj)} {σ : St} {H : Hp} {s : Shared} {Q : VK} {u : Value} {v : V} {ws : List Value} {zs : List V} (F : FnOk X.prog X.w X.K X.mg X.base CX k f fd ps sp) (hr : Room k X.A) (hb : KwB X.K fd ps ks) (hx : Passes CX X E)
    (I : Inv X pins σ H s) (r : RelV v u) (rz : Vals zs ws) (h : sp (v :: zs) H Q E) : wpAny (model X.prog X.w) X.A (call (.ref f) [u] (ks.zip ws)) (EP X pins σ Q) X.xe s := by
  have r2 : Vals (v :: zs) (u :: ws) := .cons r rz
  have hl : (u :: ws).length = ps.length := by rw [← r2.length]; exact F.len _ _ _ _ h
  have hl2 : ws.length = ks.length := by have := hb.len; rw [List.length_cons] at hl; omega
  refine wpAny_call (codeAny_mono (F.run X.A X.stack s H ⟨[u], ks.zip ws⟩ (u :: ws) (v :: zs) Q E hr I.env0 (hb.to s u ws I.kIn hl2) r2 h) fun r s' hq => ?_)
  cases r with
  | error e => exact hx pins σ H s e s' I hq
  | ok fl =>
    cases fl with
    | ret u => exact I.after hq
    | next => exact False.elim hq
    | brk => exact False.elim hq
    | cont => exact False.elim hq
/-- o.m(k = v, ..) -/
theorem pe_methKw {pl : Sem Bool} (he : PE X o ta) (c : Cls X.K C) (hm : Meth X.K C m f) (F : FnOk X.prog X.w X.K X.mg X.base CX k f fd ps sp) (hr : Room k X.A) (hb : KwB X.K fd ps ks) (hx : Passes CX X E) (hkw : PK X kws tk)
    (hall : (backToKw pos (keywordEach kws X.env)).all (·.1.isSome) = true := by rfl) (hks : (backToKw pos (keywordEach kws X.env)).filterMap (·.1) = ks := by rfl)
    (hpl : ((backTo pos (starEach [] X.env)).any (·.1) || (backToKw pos (keywordEach kws X.env)).any (·.1.isNone)) = false := by rfl)
    (ht : eval (.Call (.Attribute o m apos) [] kws pos) X.env = (do
      let v0 ← eval o X.env
      standAt apos.atName
      let (g, frst) ← holding [v0] (getMethod v0 m pl)
      callWith pos g frst (backTo pos (starEach [] X.env)) (backToKw pos (keywordEach kws X.env))) := by rfl) :
    PE X (.Call (.Attribute o m apos) [] kws pos) (tMethKw C m sp E ta tk) := by
  constructor
  intro pins s σ H Q I h
  refine PySem.W.methodCall_KW (pl := pl) (thn (he.run pins s σ H _ I h) fun w s1 ⟨y, H1, I1, ry, a, dx, fs, ey, ea, l, q⟩ => ?_) ht
  subst ey
  obtain rfl : w = Value.ref a := ry
  refine getmeth_ok I1 ea c hm l (PySem.W.callWith_KW0 (h₀ := X.base) I.ok.mod.kin hm.kp hall (thn (hkw.run pos pins s1 σ H1 _ I1 q) fun ws s2 ⟨zs, H2, I2, rz, q2⟩ => ⟨I2.kIn, ?_⟩) hpl)
  rw [hks]
  exact run_kwm (v := .ref a) F hr hb hx I2 rfl rz q2
end
theorem kwb_mk {K : PySem.W.Frag} {x qual : Str} {st : Stmt} {f : Addr} {fd : FuncData} {ps ks : List Str} (F : Fun K x qual st f fd) (hl : ps.length = ks.length + 1)
    (h : ∀ (kV doc pm : Value) (an : Option Addr) (cdv ct : Value) (u : Value) (ws : List Value), ws.length = ks.length → bindArgs (PySem.W.fnOf x qual (defArgs st) (defBody st) (defScope st) .none kV doc pm an cdv ct) ⟨[u], ks.zip ws⟩ = pure (ps.zip (u :: ws))) : KwB K fd ps ks := by
  obtain ⟨_, _, kV, doc, pm, an, cdv, ct, _, rfl, _, _⟩ := F.ex
  exact ⟨fun s u ws _ hw => .of_eq (h kV doc pm an cdv ct u ws hw), hl⟩
/-! ### the box of draws -/
/-- a box at b: its great cells at g, the rest of the one that is drawn from, the lesser cells at l, how many draws -/
def BoxAt (H : Hp) (b g l : Addr) (n : Int) : Prop := ∃ (gs ls : List Int) (cur : Int), H b = some (.lst [.ref g, .int cur, .ref l, .int n]) ∧ H g = some (.lst (gs.map V.int)) ∧ H l = some (.lst (ls.map V.int)) ∧ b ≠ g ∧ b ≠ l ∧ g ≠ l ∧ gs.length ≤ 63 ∧ ls.length ≤ 63
theorem ints_get {ns : List Int} {i : Nat} {y : V} (h : (ns.map V.int)[i]? = some y) : ∃ z, ns[i]? = some z ∧ y = V.int z := by
  rw [List.getElem?_map] at h
  cases e : ns[i]? with
  | none => rw [e] at h; cases h
  | some z => rw [e] at h; exact ⟨z, rfl, (Option.some.inj h).symm⟩
theorem get_lt {α : Type} {xs : List α} {i : Nat} {y : α} (h : xs[i]? = some y) : i < xs.length := (List.getElem?_eq_some_iff.mp h).1
theorem Same.upd {H H1 : Hp} {x : Addr} {o : HO} (a : Same H H1) (h : H x = none) : Same H (upd H1 x o) := fun c u e => by
  rw [upd_ne (ne_of_none e h)]
  exact a c u e
theorem small {n : Nat} (h : n ≤ 100000) : n < sizeLine := Nat.lt_of_le_of_lt h (by decide)
theorem ixN_at {n j : Nat} (h : j < n) : ixN n ((j : Nat) : Int) = some j := by
  have h2 : ((j : Nat) : Int) < ((n : Nat) : Int) := Int.ofNat_lt.mpr h
  simp [ixN, h2]
theorem BoxAt.upd {H : Hp} {b g l x : Addr} {n : Int} {o : HO} (h : BoxAt H b g l n) (hx : H x = none) : BoxAt (upd H x o) b g l n := by
  obtain ⟨gs, ls, cur, e1, e2, e3, r⟩ := h
  exact ⟨gs, ls, cur, by rw [upd_ne (ne_of_none e1 hx)]; exact e1, by rw [upd_ne (ne_of_none e2 hx)]; exact e2, by rw [upd_ne (ne_of_none e3 hx)]; exact e3, r⟩
theorem BoxAt.keep {H H' : Hp} {b g l : Addr} {n : Int} {S : List Addr} (h : BoxAt H b g l n) (k : Keeps S H H') (a : b ∉ S) (c : g ∉ S) (d : l ∉ S) : BoxAt H' b g l n := by
  obtain ⟨gs, ls, cur, e1, e2, e3, r⟩ := h
  exact ⟨gs, ls, cur, k _ _ e1 a, k _ _ e2 c, k _ _ e3 d, r⟩
theorem BoxAt.same {H H' : Hp} {b g l : Addr} {n : Int} (h : BoxAt H b g l n) (k : Same H H') : BoxAt H' b g l n := by
  obtain ⟨gs, ls, cur, e1, e2, e3, r⟩ := h
  exact ⟨gs, ls, cur, k _ _ e1, k _ _ e2, k _ _ e3, r⟩
theorem BoxAt.off {H : Hp} {b g l q : Addr} {n : Int} (h : BoxAt H b g l n) (hq : H q = none) : q ∉ [b, g] := by
  obtain ⟨gs, ls, cur, e1, e2, _⟩ := h
  intro c
  simp at c
  rcases c with rfl | rfl
  · rw [e1] at hq; cases hq
  · rw [e2] at hq; cases hq
end L2

set_option linter.all false
set_option maxRecDepth 100000
set_option maxHeartbeats 4000000
namespace L2
open PySem PySem.Spec PyProof.Rows
section
variable {X : Cx} {CX : CXT} {k : Nat} {g C : Addr} {fd : FuncData} {sp : Sp} {E : XK}
/-- len(o), o an instance whose class has its own __len__ -/
def rLenOwn (C : Addr) (sp : Sp) (E : XK) : List V → Hp → VK → Prop := fun xs H Q => ∃ a dx fs, xs = [V.ref a] ∧ H a = some (.ins C dx fs) ∧ sp [.ref a] H (fun v H' => ∃ n : Int, v = .int n ∧ 0 ≤ n ∧ n < 2 ^ 63 ∧ Q (.int n) H') E
theorem call_lenOwn (hm : Meth X.K C "__len__" g) (F : FnOk X.prog X.w X.K X.mg X.base CX k g fd ["self"] sp) (hr : Room (k + 1) X.A) (hb : Binds X.K fd ["self"] []) (hx : Passes CX X E) : CallR X (.builtin "len") (rLenOwn C sp E) := by
  intro pins s σ H xs us Q I r h
  obtain ⟨a, dx, fs, rfl, ha, q⟩ := h
  obtain ⟨u, rfl, ru⟩ := r.one
  cases (show u = Value.ref a from ru)
  obtain ⟨_, _, _, e, mA, ⟨od, es, ep, e2, _⟩, _⟩ := I.hok a _ ha
  have J : PySem.W.InstAt s.heap a (PySem.W.instObj C dx) C (some od) := ⟨e, rfl, rfl, e2⟩
  obtain ⟨m, hF⟩ := I.fr
  have r2 : Vals [V.ref a] [Value.ref a] := .cons (show RelV (.ref a) (.ref a) from rfl) .nil
  have key : codeAny (model X.prog X.w) X.A.in1 (.call (.ref g) ⟨[.ref a], []⟩) (fun r s' => match r with
    | .ok (.ret v) => EP X pins σ (fun v H' => ∃ n : Int, v = .int n ∧ 0 ≤ n ∧ n < 2 ^ 63 ∧ Q (.int n) H') v s'
    | .ok _ => False
    | .error e => X.xe e s') s := by
    refine codeAny_mono (F.run X.A.in1 X.stack s H ⟨[.ref a], []⟩ [.ref a] [.ref a] _ E hr.in1 I.env0.in1 (hb s [.ref a] I.kIn rfl) r2 q) fun r s' hq => ?_
    cases r with
    | error e => exact hx pins σ H s e s' I hq
    | ok fl =>
      cases fl with
      | ret u => exact I.after hq
      | next => exact False.elim hq
      | brk => exact False.elim hq
      | cont => exact False.elim hq
  refine PySem.W.len_K hF I.ok.mod.kin J hm.at_ hm.fn (wpAny_mono (wpAny_call key) (fun v s' hv => ?_) fun _ _ x => x)
  obtain ⟨z, H', I', rz, n, rfl, n0, n1, qz⟩ := hv
  obtain ⟨t, rfl⟩ := (show ∃ t, v = Value.int n t from rz)
  exact ⟨⟨n0, n1⟩, .int n, H', I'.tok _, ⟨_, rfl⟩, qz⟩
end
/-- a loop over a locked dict's keys, by an invariant -/
theorem for_keys {d : Addr} {o : Obj} {kvs : List (Key × V)} {g : TG} {tb : TS} {D : Ends} {σ : St} {H : Hp} (Pv : Nat → St → Hp → Prop) (h0 : Pv 0 σ H) (hl : ∀ i σ H, Pv i σ H → H d = some (.frz o (.dK kvs)))
    (hs : ∀ i k v σ H, kvs[i]? = some (k, v) → Pv i σ H → g (kV k) σ H fun σ2 H2 => tb { D with nx := Pv (i + 1), ct := Pv (i + 1), bk := D.nx } σ2 H2) (hd : ∀ σ H, Pv kvs.length σ H → D.nx σ H) :
    ∃ W : Nat → Nat → St → Hp → Prop, (∃ m, W 0 m σ H) ∧ ∀ i m σ H, W i m σ H → ((Itk d o kvs).stop i H ∧ D.nx σ H) ∨
      ((Itk d o kvs).go i H ∧ ∃ N : St → Hp → Prop, (∀ σ' H', N σ' H' → ∃ m', m' < m ∧ W (i + 1) m' σ' H') ∧ ∀ x H', (Itk d o kvs).yld i H x H' → g x σ H' fun σ2 H2 => tb { D with nx := N, ct := N, bk := D.nx } σ2 H2) := by
  refine ⟨fun i m σ H => m + i = kvs.length ∧ Pv i σ H, ⟨kvs.length, rfl, h0⟩, fun i m σ H ⟨hm, p⟩ => ?_⟩
  have q := hl i σ H p
  by_cases hlt : i < kvs.length
  · refine .inr ⟨⟨q, hlt⟩, Pv (i + 1), fun σ' H' p' => ⟨m - 1, by omega, by omega, p'⟩, fun x H' y => ?_⟩
    obtain ⟨rfl, k, v, hk, rfl⟩ := y
    exact hs i k v σ _ hk p
  · obtain rfl : i = kvs.length := by omega
    exact .inl ⟨⟨q, Nat.le_refl _⟩, hd σ H p⟩
end L2

set_option linter.all false
set_option maxRecDepth 100000
set_option maxHeartbeats 4000000
namespace L2
open PySem PySem.Spec PyProof.Rows
/-- what the top says of a class over ValueError without an own __init__ -/
structure MidC (K : PySem.W.Frag) (D : Addr) : Prop where
  ga : PySem.W.specialIn K (.ref D) "__getattribute__" = some (some (.builtin "type.__getattribute__"))
  rd : PySem.W.readsIn K D (.type "type") = true
  fi : PySem.W.findCls K (.ref D) (.type "type") "__init__" = some (.val (.builtin "ValueError.__init__"))
section
variable {X : Cx} {e : Expr} {es : List Expr} {ta : TA} {n : Str} {D : Addr} {p1 p2 pos : Pos}
/-- D.__init__(self, ..), D an own class over ValueError that has no __init__ of its own -/
theorem pe_midInit {pl : Sem Bool} (T : MidC X.K D) (hg : Gl X n) (hm : X.mg n = some (.ref D)) (ha : PA X (e :: es) ta)
    (hc : eval (.Call (.Attribute (.Name n p1) "__init__" p2) (e :: es) [] pos) X.env = (do
      let ov ← eval (.Name n p1) X.env
      standAt p2.atName
      let (g, frst) ← holding [ov] (getMethod ov "__init__" pl)
      callWith pos g frst (backTo pos (starEach (e :: es) X.env)) (backToKw pos (keywordEach [] X.env))) := by rfl)
    (hdb : (n == ("__debug__" : Str)) = false := by decide)
    (st1 : starEach (e :: es) X.env = (false, eval e X.env) :: starEach es X.env := by rfl) (st2 : (backTo pos (starEach es X.env)).any (·.1) = false := by rfl) :
    PE X (.Call (.Attribute (.Name n p1) "__init__" p2) (e :: es) [] pos) (tVeI X.K ta) := by
  refine ⟨fun pins s σ H Q I h => ?_⟩
  refine PySem.W.methodCall_KW (ld_glob I hg hm ?_ hdb) hc
  refine PySem.W.method_cls I.kIn T.ga (PySem.W.cls_value I.kIn T.rd T.fi (by decide +kernel) ?_)
  refine PyProof.Rows.callWith_method1 (id := "ValueError.__init__") (thn (ha.run pos pins _ σ H _ (I.tok _) h) fun us s1 ⟨vs, H1, I1, r1, a, C, ws, ev, hl, T2, ea, q⟩ => ?_) st1 st2
  subst ev
  cases r1 with
  | @cons _ u0 _ ur ra rw' =>
    obtain rfl : u0 = Value.ref a := ra
    have hlen : ur.length ≤ sizeLine := by
      rw [← Paired.length rw', sizeLine_eq]
      omega
    exact oinit_ok T2 I1 ea hlen fun s' J => ⟨.non, H1, J, rfl, q⟩
end
/-- two promises of one def: one that lets nothing out, one that may -/
theorem FnOk.orX {P : Program} {w : World} {K : PySem.W.Frag} {mg : Str → Option Value} {base : Heap} {CX : CXT} {k : Nat} {f : Addr} {fd : FuncData} {ps : List Str} {sp1 sp2 : Sp} (F1 : FnOk P w K mg base CX0 k f fd ps sp1) (F2 : FnOk P w K mg base CX k f fd ps sp2) :
    FnOk P w K mg base CX k f fd ps (fun vs H Q E => sp1 vs H Q E ∨ sp2 vs H Q E) := by
  constructor
  · intro vs H Q E h
    rcases h with h | h
    · exact F1.len _ _ _ _ h
    · exact F2.len _ _ _ _ h
  · intro A outer s H args us vs Q E hr he hb hv h
    rcases h with h | h
    · refine codeAny_mono (F1.run A outer s H args us vs Q E hr he hb hv h) fun r s' z => ?_
      cases r with
      | error e => exact False.elim z
      | ok fl =>
        cases fl with
        | ret u => exact z
        | next => exact z
        | brk => exact z
        | cont => exact z
    · exact F2.run A outer s H args us vs Q E hr he hb hv h
/-! ### a method whose errors are taken by the body around -/
def tMethAt (C : Addr) (m : Str) (sp : Sp) (E : St → XK) (ta : TE) (t : TA) : TE := fun σ H Q => ta σ H fun x H1 => ∃ a dx fs, x = .ref a ∧ H1 a = some (.ins C dx fs) ∧ fs.lookup m = none ∧ t σ H1 fun vs H2 => sp (x :: vs) H2 Q (E σ)
section
variable {X : Cx} {CX : CXT} {k : Nat} {f C : Addr} {fd : FuncData} {ps : List Str} {sp : Sp} {E : St → XK} {m : Str} {pos apos : Pos} {e o : Expr} {es : List Expr} {ta : TE} {t : TA}
theorem pe_methAt {pl : Sem Bool} (ho : PE X o ta) (c : Cls X.K C) (hm : Meth X.K C m f) (F : FnOk X.prog X.w X.K X.mg X.base CX k f fd ps sp) (hr : Room k X.A) (hb : Binds X.K fd ps []) (hx : ∀ σ, PassesAt CX X σ (E σ)) (ha : PA X (e :: es) t)
    (h1 : starEach (e :: es) X.env = (false, eval e X.env) :: starEach es X.env := by rfl) (h2 : (backTo pos (starEach es X.env)).any (·.1) = false := by rfl)
    (h3 : eval (.Call (.Attribute o m apos) (e :: es) [] pos) X.env = (do
      let v0 ← eval o X.env
      standAt apos.atName
      let (g, first) ← holding [v0] (getMethod v0 m pl)
      callWith pos g first (backTo pos (starEach (e :: es) X.env)) (backToKw pos (keywordEach [] X.env))) := by rfl) :
    PE X (.Call (.Attribute o m apos) (e :: es) [] pos) (tMethAt C m sp E ta t) := by
  constructor
  intro pins s σ H Q I h
  refine PySem.W.methodCall_KW (pl := pl) (thn (ho.run pins s σ H _ I h) fun u s1 ⟨x, H1, I1, rx, a, dx, fs, ex, ea, l, q⟩ => ?_) h3
  subst ex
  obtain rfl : u = Value.ref a := rx
  refine getmeth_ok I1 ea c hm l (PySem.W.callWith_K (h₀ := X.base) (first := [.ref a]) I.ok.mod.kin hm.kp (thn (ha.run pos pins s1 σ H1 _ I1 q) fun us s2 ⟨vs, H2, I2, r, q2⟩ => ⟨I2.kIn, ?_⟩) h1 h2)
  exact run_fnS (vs := .ref a :: vs) (us := .ref a :: us) F hr hb (hx σ) I2 (.cons rfl r) q2
end
/-! ### a tuple of numbers in an f-string -/
theorem reprs_int {prog : Program} {w : World} : ∀ {l : List Int} {its : List Value}, Vals (l.map V.int) its → (∀ y ∈ l, y.natAbs.log2 < 1920) → ReprAll prog w its (l.map fun i => Str.ofString (toString i))
  | [], _, r, _ => by
    cases r
    exact .nil
  | y :: l, _, r, h => by
    cases r with
    | cons r1 r2 =>
      obtain ⟨t, rfl⟩ := r1
      exact .cons (ReprIs.int t (h y List.mem_cons_self)) (reprs_int r2 fun z hz => h z (List.mem_cons_of_mem _ hz))
theorem piled_int : ∀ l : List Int, (∀ y ∈ l, y.natAbs.log2 < 1920) → piled (l.map fun i => Str.ofString (toString i)) ≤ 1923 * l.length
  | [], _ => Nat.zero_le _
  | y :: l, h => by
    have h1 := int_text_len_1921 (h y List.mem_cons_self)
    have h2 := piled_int l fun z hz => h z (List.mem_cons_of_mem _ hz)
    rw [List.map_cons, piled_cons, List.length_cons]
    omega
/-- {t}, t a tuple of numbers: some text -/
def tFmtI (K : PySem.W.Frag) (te : TE) : TE := fun σ H Q => te σ H fun x H1 => ∃ (a : Addr) (l : List Int), x = .ref a ∧ SqT K H1 a (l.map V.int) ∧ (∀ y ∈ l, y.natAbs.log2 < 1920) ∧ l.length ≤ 20 ∧ ∀ m : Str, m.length ≤ 40000 → Q (.str m) H1
theorem pe_fmtI {X : Cx} {e : Expr} {te : TE} {pos : Pos} {k : Nat} (hr : Room k X.A) (he : PE X e te) : PE X (.FormattedValue e (-1) none pos) (tFmtI X.K te) := by
  refine ⟨fun pins s σ H Q I h => ?_⟩
  refine wpAny_FormattedValue_plain (thn (he.run pins s σ H _ I h) fun v s1 got => ?_)
  obtain ⟨x, H1, I1, r1, a, l, rfl, ht, hc, hz, q⟩ := got
  cases r1
  obtain ⟨its, rv, ⟨ox, ho, hcl, nx, hd⟩, _⟩ := I1.tuple ht
  have hp := piled_int l hc
  have htx := fmt_text (l.map fun i => Str.ofString (toString i))
  have hu := hr.units
  have hb : 40000 ≤ sizeLine := by rw [sizeLine_eq]; decide
  exact fmt_tuple (by omega) ho hcl hd (reprs_int rv hc) (by omega) fun m u tk hm => ⟨.str m, H1, I1.tok _, ⟨u, rfl⟩, q m (by omega)⟩
end L2

set_option linter.all false
set_option maxRecDepth 100000
set_option maxHeartbeats 4000000
/-! several clauses `except C as n` -/
namespace L2
open PySem PySem.Spec PyProof.Rows
/-- the ends of a suite whose name, in slot i, is let go of -/
def unb (i : Nat) (D : Ends) : Ends where
  nx := fun σ' H' => D.nx (σ'.set i none) H'
  rt := D.rt
  bk := fun σ' H' => D.bk (σ'.set i none) H'
  ct := fun σ' H' => D.ct (σ'.set i none) H'
abbrev Clause := Value × Nat × (Addr → Value → Option Addr → TS)
def wNamed (K : PySem.W.Frag) (Wout : WX) (D : Ends) : List Clause → WX
  | [] => Wout
  | c :: r => fun cls d σ H => ∃ b : Bool, PySem.W.exmOne K cls c.1 = some b ∧ (b = true → ∀ z, H z = none → c.2.2 z cls d (unb c.2.1 D) (σ.set c.2.1 (some (.ref z))) H) ∧ (b = false → wNamed K Wout D r cls d σ H)
inductive HdN (X : Cx) : List ExceptHandler → List Clause → Prop
  | nil : HdN X [] []
  | cons {x n : Str} {c : Value} {i : Nat} {ts : Addr → Value → Option Addr → TS} {q0 : Stmt} {qs : List Stmt} {p1 p2 : Pos} {hds : List ExceptHandler} {l : List Clause} (hc : Names X x c) (hi : X.N[i]? = some n) (hk : X.env.kindOf n = some .local)
      (hq : ∀ (z : Addr) (oz : Obj) (cls : Value) (d : Option Addr) (pn : List (Addr × Obj)), Zc cls d oz → (∃ fv, oz.data = .fields fv) → PSs (X.suite z ((z, oz) :: pn)) (q0 :: qs) (ts z cls d)) (rest : HdN X hds l) :
      HdN X (.ExceptHandler (some (.Name x p1)) (some n) (q0 :: qs) p2 :: hds) ((c, i, ts) :: l)
/-- an exception at a on its way through the body of X, the state around as told -/
structure Fly (X : Cx) (pins : List (Addr × Obj)) (a : Addr) (cls : Value) (d : Option Addr) (σ : St) (H : Hp) (B : Heap) (sI s3 : Shared) : Prop where
  inv : Inv X pins σ H sI
  nb : ∀ b o, sI.heap.get? b = some o → b ∉ frs X.stack → B.get? b = some o
  up : sI.heap.UpToSlots s3.heap
  fly : HandSPX.FlyingZ B (X.env :: X.outer) a (Zc cls d) s3.heap
  na : H a = none
  os : s3.os = sI.os
  ag : AllBare s3.gens
section
variable {X : Cx} {pins : List (Addr × Obj)} {a : Addr} {cls : Value} {d : Option Addr} {σ : St} {H : Hp} {B : Heap} {sI s3 : Shared}
theorem Fly.stands (F : Fly X pins a cls d σ H B sI s3) : Inv X pins σ H s3 := F.inv.landed F.nb F.fly.1 F.up F.os F.ag
theorem Fly.held (F : Fly X pins a cls d σ H B sI s3) (hf : X.env.frame = some X.env.locals) :
    ∃ (oz : Obj) (fv : Array Value), s3.heap.get? a = some oz ∧ Zc cls d oz ∧ oz.data = .fields fv ∧ Inv (X.suite a ((a, oz) :: (X.pn ++ pins))) [] σ H s3 := by
  obtain ⟨oz, fv, e, z, hd⟩ := F.fly.there
  have off : a ∉ frs (X.env :: X.outer) := by
    intro m
    obtain ⟨_, o2, e2, nf⟩ := F.fly.2.2.1.mem m
    obtain rfl := Option.some.inj (e.symm.trans e2)
    exact nf _ hd
  refine ⟨oz, fv, e, z, hd, F.stands.suite e hd F.na (fun q => off ?_) (fun q => off ?_)⟩
  · rw [q]
    exact List.mem_filterMap.mpr ⟨X.env, List.mem_cons_self, hf⟩
  · obtain ⟨v, hv, hv2⟩ := List.mem_filterMap.mp q
    exact List.mem_filterMap.mpr ⟨v, List.mem_cons_of_mem _ hv, hv2⟩
/-- the clauses, one after the other -/
theorem Fly.clauses {l : List Clause} {hds : List ExceptHandler} {Wout : WX} {D : Ends} (hs : X.stack = X.env :: X.outer) (hf : X.env.frame = some X.env.locals) (hN : X.N.Nodup) (tk : Takes X Wout) (h : HdN X hds l) (F : Fly X pins a cls d σ H B sI s3)
    (w : wNamed X.K Wout D l cls d σ H) : wpAny (model X.prog X.w) X.A (handleBy (.ref a) X.env hds) (SP X pins D) X.xe s3 := by
  induction h with
  | nil =>
    refine wpAny_handleBy_nil ?_
    obtain ⟨_, _, _, oz, fv, tb0, oT, tn, e, z, hd, h1, hr⟩ := id F.fly
    unfold PySem.passOn
    refine wpAny_bind (wpAny_field e hd h1 ?_)
    rw [if_neg (by simp : ¬ ((Value.ref tb0 == Value.none) = true))]
    have out : wpAny (model X.prog X.w) X.A (setFlight (.ref a) X.env.frame) (fun _ s4 => wpAny (model X.prog X.w) X.A (throw (.ref a) : Sem Flow) (SP X pins D) X.xe s4) X.xe s3 := by
      rw [hf]
      refine HandSPX.setFlight_upZ F.fly fun h4 held up4 => wpAny_throw (tk _ _ ?_)
      refine ⟨a, B, sI, pins, σ, H, cls, d, rfl, F.inv, F.nb, F.up.trans up4, ?_, F.na, F.os, F.ag, w⟩
      rw [hs]
      exact .inr (.inr held)
    first
      | exact wpAny_bind (wpAny_pure (wpAny_bind out))
      | exact wpAny_bind out
  | @cons x n c i ts q0 qs p1 p2 hds l hc hi hk hq rest ih =>
    obtain ⟨b, hb, yes, no⟩ := w
    obtain ⟨oz, fv, e, z, hd, S3⟩ := F.held hf
    refine wpAny_handleBy_cons (codeAny_handlers_test ?_) (fun w => by cases w)
    have LC : PySem.W.Looks (model X.prog X.w) s3.heap (typeOf (.ref a)) cls := fun _ _ _ _ k q => wpAny_typeOf_ref (k _ _ e) (by rw [z.1]; exact q)
    have LM := PySem.W.exm_one (M := model X.prog X.w) F.stands.kIn LC hb
    have named : ∀ {Q E : Value → Shared → Prop}, Q c s3 → wpAny (model X.prog X.w) (X.A.mark (some (.ref a))) (eval (.Name x p1) X.env) Q E s3 := by
      intro Q E q
      obtain ⟨hg, hdb, hm | ⟨hm, hv, hn⟩⟩ := hc
      · exact ld_glob S3 hg hm q hdb
      · exact ld_blt S3 hg hm hv q hn hdb
    refine named (LM.here ?_)
    cases b with
    | false => exact ih (no rfl)
    | true =>
      refine codeAny_handlers_suite_as (HandSPX.lands_againZ F.fly fun h4 fl4 up4 => ?_)
      have F4 : Fly X pins a cls d σ H B sI { s3 with heap := h4 } := ⟨F.inv, F.nb, F.up.trans up4, fl4, F.na, F.os, F.ag⟩
      obtain ⟨oy, fy, ey, zy, dy, S4⟩ := F4.held hf
      refine store_ok (X := X.suite a ((a, oy) :: (X.pn ++ pins))) (v := .ref a) S4 hN hi (.inl hk) rfl (fun s5 S5 => ?_) (.inr hk)
      refine wpAny_mono ((hq a oy cls d (X.pn ++ pins) zy ⟨_, dy⟩).run [] s5 _ H _ S5 (yes rfl a F.na)) (fun f s6 hsp => ?_) (fun _ _ q => q.elim)
      have ok := F.inv.ok
      have fin : ∀ {τ : St} {H6 : Hp} {P : Shared → Prop}, Inv (X.suite a ((a, oy) :: (X.pn ++ pins))) [] τ H6 s6 → (∀ s7, Inv X pins (τ.set i none) H6 s7 → P s7) →
          wpAny (model X.prog X.w) X.A (do bindName X.env n .none; unbindBehindTheSuite X.env n p2) (fun _ s7 => P s7) X.xe s6 := fun I6 q => gone_ok (I6.unsuite ok) hN hi hk q
      cases f with
      | next =>
        obtain ⟨τ, H6, I6, q6⟩ := hsp
        exact fin I6 fun _ I7 => ⟨_, _, I7, q6⟩
      | brk =>
        obtain ⟨τ, H6, I6, q6⟩ := hsp
        exact fin I6 fun _ I7 => ⟨_, _, I7, q6⟩
      | cont =>
        obtain ⟨τ, H6, I6, q6⟩ := hsp
        exact fin I6 fun _ I7 => ⟨_, _, I7, q6⟩
      | ret u =>
        obtain ⟨v, τ, H6, I6, r6, q6⟩ := hsp
        exact fin I6 fun _ I7 => ⟨_, _, _, I7, r6, q6⟩
theorem ps_try_named {body : List Stmt} {h0 : ExceptHandler} {hds : List ExceptHandler} {l : List Clause} {pos : Pos} {tb : WX → TS} {Wout : WX} (hs : X.stack = X.env :: X.outer) (hf : X.env.frame = some X.env.locals) (hN : X.N.Nodup) (tk : Takes X Wout)
    (hb : ∀ (W : WX) (qs : List (Addr × Obj)) (xe : Value → Shared → Prop), Takes (X.tr qs xe) W → PassesOwn (model X.prog X.w) X.A X.env xe → PSs (X.tr qs xe) body (tb W))
    (hh : HdN X (h0 :: hds) l) : PS X (.Try body (h0 :: hds) [] [] pos) (fun D σ H => tb (wNamed X.K Wout D l) D σ H) := by
  constructor
  intro pins s σ H D I h
  have ok := I.ok
  have hfr : X.A.frames = some (X.env :: X.outer) := ok.frames.trans (by rw [hs])
  refine wpAny_Try_except (wpAny_mono ((hb (wNamed X.K Wout D l) (X.pn ++ pins) (fun e t1 => wpAny (model X.prog X.w) X.A (noteFrame e X.env) (fun _ t2 => wpAny (model X.prog X.w) X.A (setFlight e none)
    (fun _ t3 => wpAny (model X.prog X.w) X.A (handleBy e X.env (h0 :: hds)) (SP X pins D) X.xe t3) X.xe t2) X.xe t1) (fun u s' hx => ?_) PassesOwn.looking).run [] s σ H D (I.toTry _) h) (fun f s1 hsp => ?_) (fun _ _ q => q))
  · obtain ⟨a, B, sI, pn', τ, H', cls, d, rfl, J, nb, up, sky, na, os, ag, w⟩ := hx
    have sky2 : Sky B (X.env :: X.outer) a (Zc cls d) X.env.locals s'.heap := hs ▸ sky
    refine Sky.land (a := a) Zc.steady hfr hf sky2 fun h3 fl up3 => ?_
    exact Fly.clauses (s3 := { s' with heap := h3 }) hs hf hN tk hh ⟨J.ofTry ok, nb, up.trans up3, fl, na, os, ag⟩ w
  · cases f with
    | next =>
      obtain ⟨τ, H', J, q⟩ := hsp
      exact wpAny_execs_nil ⟨τ, H', J.ofTry ok, q⟩
    | brk =>
      obtain ⟨τ, H', J, q⟩ := hsp
      exact ⟨τ, H', J.ofTry ok, q⟩
    | cont =>
      obtain ⟨τ, H', J, q⟩ := hsp
      exact ⟨τ, H', J.ofTry ok, q⟩
    | ret u =>
      obtain ⟨v, τ, H', J, r, q⟩ := hsp
      exact ⟨v, τ, H', J.ofTry ok, r, q⟩
end
/-- isinstance(e, c), e the caught exception, which has its dict -/
def rIsD (K : PySem.W.Frag) (z : Addr) (cls : Value) (d : Option Addr) : List V → Hp → VK → Prop := fun xs H Q => ∃ (D dd : Addr) (fs : List (Str × V)) (c : V) (cv : Value) (b : Bool),
  cls = .ref D ∧ d = some dd ∧ H dd = some (.xd fs) ∧ ExcC K D ∧ xs = [.ref z, c] ∧ (∀ u, RelV c u → u = cv) ∧ PySem.W.kitOne K (.ref D) cv = some b ∧ Q (.bl b) H
theorem call_isD {X : Cx} {z : Addr} {cls : Value} {d : Option Addr} {oz : Obj} {pn : List (Addr × Obj)} (hz : Zc cls d oz) (hf : ∃ fv, oz.data = .fields fv) : CallR (X.suite z ((z, oz) :: pn)) (.builtin "isinstance") (rIsD X.K z cls d) := by
  intro pins s σ H xs us Q I r h
  obtain ⟨D, dd, fs, c, cv, b, rfl, rfl, ed, T, rfl, hcv, e, q⟩ := h
  obtain ⟨u1, u2, rfl, r1, r2⟩ : ∃ u1 u2, us = [u1, u2] ∧ RelV (.ref z) u1 ∧ RelV c u2 := by
    cases r with
    | cons r1 r =>
      cases r with
      | cons r2 r =>
        cases r
        exact ⟨_, _, rfl, r1, r2⟩
  obtain rfl : u1 = Value.ref z := r1
  obtain rfl := hcv _ r2
  obtain ⟨at1, _⟩ := I.pin (z, oz) (List.mem_append_left _ List.mem_cons_self)
  obtain ⟨fv, hd⟩ := hf
  have hx : ObjOk X.prog X.w H s.heap dd (.xd fs) := I.hok dd _ ed
  obtain ⟨mA, hns, hr⟩ := hx
  obtain ⟨od, ho, _⟩ := lookIn_ns hns
  have J : PySem.W.InstAt s.heap z oz D (some od) := ⟨at1, hz.1, by unfold PySem.W.notCls; rw [hd] <;> rfl, by rw [hz.2]; exact ho⟩
  have hcl : (PySem.W.clsIn X.K D).isSome = true := by
    obtain ⟨cd, hc, _⟩ := PySem.W.any_some T.hd
    rw [hc]
    rfl
  exact PySem.W.kia_one (PySem.W.kitx_exc hcl T.hg T.hk T.hs T.ha T.hn T.ht T.hm) I.kIn J e (fun w => nomatch w) fun tk => ⟨.bl b, H, I.kept (t' := tk) fun _ _ w => w, rfl, q⟩
end L2

set_option linter.all false
set_option maxRecDepth 100000
namespace My
open PySem
/-- small letters, names -/
def letter (c : Nat) : Bool := decide (97 ≤ c) && decide (c ≤ 122)
def nameB (s : Str) : Bool := decide (1 ≤ s.cps.size) && decide (s.cps.size ≤ 8) && s.cps.toList.all letter
/-- the pigeonhole -/
theorem len_le {α : Type} [DecidableEq α] : ∀ {l m : List α}, l.Nodup → (∀ x, x ∈ l → x ∈ m) → l.length ≤ m.length
  | [], m, _, _ => Nat.zero_le _
  | a :: l, m, nd, h => by
    rw [List.nodup_cons] at nd
    have h2 : ∀ x, x ∈ l → x ∈ m.erase a := fun x hx => (List.mem_erase_of_ne (fun (e : x = a) => nd.1 (e ▸ hx))).mpr (h x (List.mem_cons_of_mem _ hx))
    have := len_le nd.2 h2
    have hm := h a List.mem_cons_self
    have := List.length_erase_of_mem hm
    have := List.length_pos_of_mem hm
    rw [List.length_cons]
    omega
def spares : List Str := ["q", "qa", "qb", "qc", "qd", "qe", "qf", "qg", "qh", "qi", "qj", "qk", "ql", "qm", "qn", "qo"]
theorem spares_nodup : spares.Nodup := by decide +kernel
theorem spares_name : ∀ s, s ∈ spares → nameB s = true := by decide +kernel
/-- how far the search for a spare name has come: i spares were looked at -/
def Seek (found : List Str) (i : Nat) (x : Str) : Prop := nameB x = true ∧ (x ∉ found ∨ ((∀ j, j + 1 < i → ∀ s, spares[j]? = some s → s ∈ found) ∧ (∀ s, 0 < i → spares[i - 1]? = some s → x = s)))
theorem Seek.first {found : List Str} {x : Str} (h : nameB x = true) : Seek found 0 x := ⟨h, .inr ⟨fun j h => absurd h (by omega), fun s h => absurd h (by omega)⟩⟩
theorem Seek.keep {found : List Str} {i : Nat} {x : Str} (h : Seek found i x) (n : x ∉ found) : Seek found (i + 1) x := ⟨h.1, .inl n⟩
theorem Seek.next {found : List Str} {i : Nat} {x s : Str} (h : Seek found i x) (n : x ∈ found) (hs : spares[i]? = some s) : Seek found (i + 1) s := by
  refine ⟨spares_name s (List.mem_of_getElem? hs), .inr ⟨fun j hj t ht => ?_, fun t _ ht => ?_⟩⟩
  · rcases h.2 with h2 | ⟨h2, h3⟩
    · exact absurd n h2
    · by_cases e : j + 1 < i
      · exact h2 j e t ht
      · obtain rfl : i = j + 1 := by omega
        have := h3 t (by omega) (by simpa using ht)
        exact this ▸ n
  · have : i + 1 - 1 = i := by omega
    rw [this, hs] at ht
    exact Option.some.inj ht
theorem Seek.done {found : List Str} {x : Str} (h : Seek found 16 x) (hl : found.length < 15) : nameB x = true ∧ x ∉ found := by
  refine ⟨h.1, ?_⟩
  rcases h.2 with h2 | ⟨h2, _⟩
  · exact h2
  · exfalso
    have nd : (spares.take 15).Nodup := by decide +kernel
    have hle : (spares.take 15).length ≤ found.length := len_le nd fun s hs => by
      obtain ⟨j, hj⟩ := List.getElem?_of_mem hs
      have hj2 : j < 15 := by
        have := (List.getElem?_eq_some_iff.mp hj).1
        have e : (spares.take 15).length = 15 := by decide +kernel
        omega
      rw [List.getElem?_take, if_pos hj2] at hj
      exact h2 j (by omega) s hj
    have e : (spares.take 15).length = 15 := by decide +kernel
    omega
/-- pairs of words: near, far, laden -/
abbrev Pr := Str × Str × Bool
structure PairsOk (ps : List Pr) : Prop where
  many : ps.length ≤ 6
  nm : ∀ p, p ∈ ps → nameB p.1 = true ∧ nameB p.2.1 = true
  nears : (ps.map (·.1)).Nodup
  fars : (ps.map (·.2.1)).Nodup
theorem PairsOk.take {ps : List Pr} (h : PairsOk ps) (n : Nat) : PairsOk (ps.take n) := by
  refine ⟨by have := h.many; rw [List.length_take]; omega, fun p hp => h.nm p (List.mem_of_mem_take hp), ?_, ?_⟩
  · rw [List.map_take]; exact h.nears.sublist (List.take_sublist _ _)
  · rw [List.map_take]; exact h.fars.sublist (List.take_sublist _ _)
theorem rot_nodup {α : Type} {l : List α} (h : l.Nodup) : (l.drop 1 ++ l.take 1).Nodup := by
  have e : (l.drop 1 ++ l.take 1).Perm (l.take 1 ++ l.drop 1) := List.perm_append_comm
  rw [List.take_append_drop] at e
  exact e.nodup_iff.mpr h
theorem rot_len {α : Type} (l : List α) : (l.drop 1 ++ l.take 1).length = l.length := by
  rw [List.length_append, List.length_drop, List.length_take]
  omega
end My

set_option linter.all false
set_option maxRecDepth 100000
namespace My
open PySem
/-- a helper's pact -/
structure Hr where
  name : Str
  side : Int
  takes : List Str
  gives : Bool
  throws : List Str
deriving DecidableEq
def wd (i : Int) (p : Pr) : Str := if i = 0 then p.1 else p.2.1
def sideB (i : Int) : Bool := decide (i = 0 ∨ i = 1)
def takesB (ts : List Str) : Bool := decide (ts.length ≤ 3) && ts.all fun t => decide (t ∈ (["lent", "given"] : List Str))
def throwsB (ts : List Str) : Bool := decide (ts.length ≤ 4) && ts.all fun t => decide (ts.count t = 1)
def pactB (x : Hr) : Bool := nameB x.name && sideB x.side && takesB x.takes && throwsB x.throws
def fitsHB (x : Hr) (ps : List Pr) (hs : List Hr) : Bool :=
  !(decide ((hs.filter fun z => decide (z.side = x.side)).length = 4) || decide (x.name ∈ hs.map (·.name))) && x.throws.all fun t => decide (t ∈ ps.map (wd x.side))
structure CrewOk (ps : List Pr) (hs : List Hr) : Prop where
  one : ∀ x, x ∈ hs → pactB x = true ∧ ∀ t, t ∈ x.throws → t ∈ ps.map (wd x.side)
  names : (hs.map (·.name)).Nodup
  few : ∀ s : Int, (hs.filter fun z => decide (z.side = s)).length ≤ 4
theorem throws_count {ts : List Str} (nd : ts.Nodup) : ∀ t, t ∈ ts → ts.count t = 1 := fun t h => by
  rw [List.nodup_iff_count] at nd
  have h1 := nd t
  have h2 := List.count_pos_iff.mpr h
  omega
theorem throwsB_nodup {ts : List Str} (h : throwsB ts = true) : ts.length ≤ 4 ∧ ts.Nodup := by
  unfold throwsB at h
  simp only [Bool.and_eq_true, decide_eq_true_eq, List.all_eq_true] at h
  refine ⟨h.1, List.nodup_iff_count.mpr fun t => ?_⟩
  by_cases hm : t ∈ ts
  · have := h.2 t hm
    omega
  · rw [List.count_eq_zero.mpr hm]
    omega
theorem throwsB_of {ts : List Str} (hl : ts.length ≤ 4) (nd : ts.Nodup) : throwsB ts = true := by
  unfold throwsB
  simp only [Bool.and_eq_true, decide_eq_true_eq, List.all_eq_true]
  exact ⟨hl, fun t ht => throws_count nd t ht⟩
theorem nin_take {α β : Type} [DecidableEq β] {f : α → β} {xs : List α} {i : Nat} {q : α} (nd : (xs.map f).Nodup) (h : xs[i]? = some q) : f q ∉ (xs.take i).map f := by
  intro hc
  rw [← List.take_append_drop i (xs.map f), List.nodup_append] at nd
  have h2 : f q ∈ (xs.map f).drop i := by
    have : (xs.map f)[i]? = some (f q) := by rw [List.getElem?_map, h]; rfl
    exact List.mem_of_getElem? (i := 0) (by rw [List.getElem?_drop]; simpa using this)
  rw [List.map_take] at hc
  exact nd.2.2 _ hc _ h2 rfl
theorem CrewOk.next {ps : List Pr} {hs : List Hr} (ok : CrewOk ps hs) {i : Nat} {x : Hr} (h : hs[i]? = some x) : pactB x = true ∧ fitsHB x ps (hs.take i) = true := by
  have hm := List.mem_of_getElem? h
  refine ⟨(ok.one x hm).1, ?_⟩
  unfold fitsHB
  have h1 : ((hs.take i).filter fun z => decide (z.side = x.side)).length < 4 := by
    have hf := ok.few x.side
    have e : hs = hs.take i ++ (x :: hs.drop (i + 1)) := by
      have hl := (List.getElem?_eq_some_iff.mp h)
      obtain ⟨hl, e⟩ := hl
      rw [← e, List.getElem_cons_drop hl, List.take_append_drop]
    rw [e, List.filter_append, List.length_append, List.filter_cons, if_pos (by simp), List.length_cons] at hf
    omega
  have h2 : x.throws.all (fun t => decide (t ∈ ps.map (wd x.side))) = true := List.all_eq_true.mpr fun t ht => decide_eq_true ((ok.one x hm).2 t ht)
  rw [h2, decide_eq_false (by omega), decide_eq_false (nin_take ok.names h)]
  rfl
end My

set_option linter.all false
set_option maxRecDepth 100000
set_option maxHeartbeats 4000000
/-! a method called with values by place and by name -/
namespace L2
open PySem PySem.Spec PyProof.Rows
structure KwN (K : PySem.W.Frag) (fd : FuncData) (ps : List Str) (n : Nat) (ks : List Str) : Prop where
  to : ∀ (s : Shared) (us ws : List Value), K.In s.heap → us.length = n → ws.length = ks.length → BindsTo s fd ⟨us, ks.zip ws⟩ (ps.zip (us ++ ws))
  len : ps.length = n + ks.length
theorem kwn_mk {K : PySem.W.Frag} {x qual : Str} {st : Stmt} {f : Addr} {fd : FuncData} {ps ks : List Str} {n : Nat} (F : Fun K x qual st f fd) (hl : ps.length = n + ks.length)
    (h : ∀ (kV doc pm : Value) (an : Option Addr) (cdv ct : Value) (us ws : List Value), us.length = n → ws.length = ks.length → bindArgs (PySem.W.fnOf x qual (defArgs st) (defBody st) (defScope st) .none kV doc pm an cdv ct) ⟨us, ks.zip ws⟩ = pure (ps.zip (us ++ ws))) : KwN K fd ps n ks := by
  obtain ⟨_, _, kV, doc, pm, an, cdv, ct, _, rfl, _, _⟩ := F.ex
  exact ⟨fun s us ws _ hu hw => .of_eq (h kV doc pm an cdv ct us ws hu hw), hl⟩
section
variable {X : Cx} {CX : CXT} {k n : Nat} {f C : Addr} {fd : FuncData} {ps ks : List Str} {sp : Sp} {m : Str} {pos apos : Pos} {o e : Expr} {es : List Expr} {kws : List Keyword} {ta : TE} {t tk : TA}
theorem run_fnN2 {E : XK} {pins : List (Addr × Obj)} {σ : St} {H : Hp} {s : Shared} {Q : VK} {us ws : List Value} {vs zs : List V} (F : FnOk X.prog X.w X.K X.mg X.base CX k f fd ps sp) (hr : Room k X.A) (hb : KwN X.K fd ps n ks) (hx : PassesAt CX X σ E)
    (I : Inv X pins σ H s) (r : Vals vs us) (rz : Vals zs ws) (hn : vs.length = n) (h : sp (vs ++ zs) H Q E) : wpAny (model X.prog X.w) X.A (call (.ref f) us (ks.zip ws)) (EP X pins σ Q) X.xe s := by
  have r2 := r.append rz
  have hl : (vs ++ zs).length = ps.length := F.len _ _ _ _ h
  have l1 : us.length = n := by rw [← r.length]; exact hn
  have l2 : ws.length = ks.length := by
    have := hb.len
    rw [← rz.length]
    rw [List.length_append] at hl
    omega
  refine wpAny_call (codeAny_mono (F.run X.A X.stack s H ⟨us, ks.zip ws⟩ (us ++ ws) (vs ++ zs) Q E hr I.env0 (hb.to s us ws I.kIn l1 l2) r2 h) fun r s' hq => ?_)
  cases r with
  | error e => exact hx pins H s e s' I hq
  | ok fl =>
    cases fl with
    | ret u => exact I.after hq
    | next => exact False.elim hq
    | brk => exact False.elim hq
    | cont => exact False.elim hq
def tMethNAt (C : Addr) (m : Str) (n : Nat) (sp : Sp) (E : St → XK) (ta : TE) (t tk : TA) : TE := fun σ H Q => ta σ H fun x H1 => ∃ a dx fs, x = .ref a ∧ H1 a = some (.ins C dx fs) ∧ fs.lookup m = none ∧
  t σ H1 fun vs H2 => tk σ H2 fun zs H3 => vs.length + 1 = n ∧ sp (x :: (vs ++ zs)) H3 Q (E σ)
theorem pe_methNAt {E : St → XK} {pl : Sem Bool} (ho : PE X o ta) (c : Cls X.K C) (hm : Meth X.K C m f) (F : FnOk X.prog X.w X.K X.mg X.base CX k f fd ps sp) (hr : Room k X.A) (hb : KwN X.K fd ps n ks) (hx : ∀ σ, PassesAt CX X σ (E σ)) (ha : PA X (e :: es) t) (hkw : PK X kws tk)
    (hall : (backToKw pos (keywordEach kws X.env)).all (·.1.isSome) = true := by rfl) (hks : (backToKw pos (keywordEach kws X.env)).filterMap (·.1) = ks := by rfl)
    (h1 : starEach (e :: es) X.env = (false, eval e X.env) :: starEach es X.env := by rfl)
    (hpl : ((backTo pos (starEach (e :: es) X.env)).any (·.1) || (backToKw pos (keywordEach kws X.env)).any (·.1.isNone)) = false := by rfl)
    (h3 : eval (.Call (.Attribute o m apos) (e :: es) kws pos) X.env = (do
      let v0 ← eval o X.env
      standAt apos.atName
      let (g, first) ← holding [v0] (getMethod v0 m pl)
      callWith pos g first (backTo pos (starEach (e :: es) X.env)) (backToKw pos (keywordEach kws X.env))) := by rfl) :
    PE X (.Call (.Attribute o m apos) (e :: es) kws pos) (tMethNAt C m n sp E ta t tk) := by
  constructor
  intro pins s σ H Q I h
  refine PySem.W.methodCall_KW (pl := pl) (thn (ho.run pins s σ H _ I h) fun u s1 ⟨x, H1, I1, rx, a, dx, fs, ex, ea, l, q⟩ => ?_) h3
  subst ex
  obtain rfl : u = Value.ref a := rx
  refine getmeth_ok I1 ea c hm l (PySem.W.callWith_KW (h₀ := X.base) (first := [.ref a]) I.ok.mod.kin hm.kp hall (thn (ha.run pos pins s1 σ H1 _ I1 q) fun us s2 ⟨vs, H2, I2, r, q2⟩ => ?_) hpl h1)
  refine thn (hkw.run pos pins s2 σ H2 _ I2 q2) fun ws s3 ⟨zs, H3, I3, rz, hn, q3⟩ => ⟨I3.kIn, ?_⟩
  rw [hks]
  exact run_fnN2 (vs := .ref a :: vs) (us := .ref a :: us) F hr hb (hx σ) I3 (.cons rfl r) rz hn q3
def tMethN (C : Addr) (m : Str) (n : Nat) (sp : Sp) (E : XK) (ta : TE) (t tk : TA) : TE := tMethNAt C m n sp (fun _ => E) ta t tk
theorem pe_methN {E : XK} {pl : Sem Bool} (ho : PE X o ta) (c : Cls X.K C) (hm : Meth X.K C m f) (F : FnOk X.prog X.w X.K X.mg X.base CX k f fd ps sp) (hr : Room k X.A) (hb : KwN X.K fd ps n ks) (hx : Passes CX X E) (ha : PA X (e :: es) t) (hkw : PK X kws tk)
    (hall : (backToKw pos (keywordEach kws X.env)).all (·.1.isSome) = true := by rfl) (hks : (backToKw pos (keywordEach kws X.env)).filterMap (·.1) = ks := by rfl)
    (h1 : starEach (e :: es) X.env = (false, eval e X.env) :: starEach es X.env := by rfl)
    (hpl : ((backTo pos (starEach (e :: es) X.env)).any (·.1) || (backToKw pos (keywordEach kws X.env)).any (·.1.isNone)) = false := by rfl)
    (h3 : eval (.Call (.Attribute o m apos) (e :: es) kws pos) X.env = (do
      let v0 ← eval o X.env
      standAt apos.atName
      let (g, first) ← holding [v0] (getMethod v0 m pl)
      callWith pos g first (backTo pos (starEach (e :: es) X.env)) (backToKw pos (keywordEach kws X.env))) := by rfl) :
    PE X (.Call (.Attribute o m apos) (e :: es) kws pos) (tMethN C m n sp E ta t tk) :=
  pe_methNAt (pl := pl) ho c hm F hr hb (fun σ pins H s e s' I q => hx pins σ H s e s' I q) ha hkw hall hks h1 hpl h3
end
end L2

set_option linter.all false
set_option maxRecDepth 100000
set_option maxHeartbeats 4000000
/-! tuple.count of texts -/
namespace L2
open PySem PySem.Spec PyProof.Rows
theorem countP_eqU {x : V} : ∀ {xs : List V} {us : List Value}, Vals xs us → xs.all flatV = true → us.countP (eqU x) = xs.countP fun y => eqV y x
  | _, _, .nil, _ => rfl
  | y :: xs, u :: us, .cons r t, f => by
    rw [List.all_cons, Bool.and_eq_true] at f
    rw [List.countP_cons, List.countP_cons, eqU_of r f.1, countP_eqU t f.2]
theorem countP_str (z : Str) : ∀ ys : List Str, ((ys.map V.str).countP fun y => eqV y (.str z)) = ys.count z
  | [] => rfl
  | y :: ys => by
    rw [List.map_cons, List.countP_cons, List.count_cons, countP_str z ys]
    rfl
theorem flats (l : List Str) : (l.map V.str).all flatV = true := List.all_eq_true.mpr fun v hv => by
  obtain ⟨s, _, rfl⟩ := List.mem_map.mp hv
  rfl
def rCntS (K : PySem.W.Frag) : V → List V → Hp → VK → Prop := fun x xs H Q => ∃ (p : Addr) (ys : List Str) (z : Str), x = .ref p ∧ xs = [.str z] ∧ SqT K H p (ys.map V.str) ∧ Q (.int (ys.count z : Nat)) H
theorem mt_tcount {X : Cx} : MtR X "tuple.count" (rCntS X.K) := by
  intro pins s σ H x xs v us Q I rx rxs h
  obtain ⟨p, ys, z, rfl, rfl, hq, q⟩ := h
  cases rx
  obtain ⟨u, rfl, ru⟩ := rxs.one
  obtain ⟨t, rfl⟩ := ru
  obtain ⟨its, r, pl, hz⟩ := I.tuple hq
  obtain ⟨⟨cls, dd, dt, sl⟩, ho, hc, n, hd⟩ := pl
  simp only at hc hd
  subst hc
  subst hd
  refine call_meets PySem.F.slot_tuple_count ⟨_, ho, rfl⟩ PySem.F.entry_tuple_count (PySem.F.args_tuple_count_2 _ _) (SeqAt.tuple_countAt p its.toArray n dd sl (.str z t) (eqU (.str z)))
    ⟨ho, fun w hw => mem_eqAt (x := .str z) ⟨t, rfl⟩ rfl r (flats ys) w (by simpa using hw), .int (ys.count z : Nat), H, I.tok _, ⟨s.toks, ?_⟩, q⟩
  show Value.int ((its.toArray.toList.countP (eqU (.str z)) : Nat) : Int) s.toks = Value.int ((ys.count z : Nat) : Int) s.toks
  have e : its.toArray.toList.countP (eqU (.str z)) = ys.count z := by
    rw [← countP_str]
    simpa using countP_eqU r (flats ys)
  rw [e]
end L2

set_option linter.all false
set_option maxRecDepth 100000
set_option maxHeartbeats 4000000
/-! tuples of which it is known that they have no dict of their own: held as locked objects -/
namespace L2
open PySem PySem.Spec PyProof.Rows
def TupF (H : Hp) (a : Addr) (xs : List V) : Prop := ∃ o : Obj, o.dict = none ∧ H a = some (.frz o (.tup xs))
theorem TupF.seq {K : PySem.W.Frag} {H : Hp} {a : Addr} {xs : List V} (h : TupF H a xs) : SqT K H a xs := let ⟨o, _, e⟩ := h; .inl (.inr ⟨o, e⟩)
section
variable {X : Cx} {es : List Expr} {e o : Expr} {t : TA} {to : TE} {pos apos cpos : Pos} {T id : String} {name : Str} {r : V → List V → Hp → VK → Prop}
/-- (a, ..), a new tuple, locked -/
def tTupF (t : TA) : TE := fun σ H Q => t σ H fun xs H1 => xs.length ≤ sizeLine ∧ ∀ (p : Addr) (ob : Obj), H1 p = none → ob.dict = none → Q (.ref p) (upd H1 p (.frz ob (.tup xs)))
theorem pe_tupF {x1} (h : PA X es t) : PE X (.Tuple es x1 pos) (tTupF t) := by
  constructor
  intro pins s σ H Q I hq
  refine wpAny_Tuple_spliced (thn (h.run pos pins s σ H _ I hq) fun us s1 ⟨xs, H1, I1, r, z, q⟩ => ⟨by rw [← r.length]; exact z, ?_⟩)
  refine ⟨.ref s1.heap.objs.size, _, I1.laid (t' := s1.toks) (o := .frz { cls := .type "tuple", data := .seq us.toArray } (.tup xs)) (fun b u e => Heap.get?_push_of_some _ e) (Nat.le_refl _) ?_, rfl, q _ _ (I1.hok.fresh (Nat.le_refl _)) rfl⟩
  exact ⟨Heap.get?_push_size _ rfl, z, us, r, ⟨_, Heap.get?_push_size _ rfl, rfl, _, rfl⟩⟩
/-- tuple(xs), xs a list: a new tuple, locked -/
def rTupF (K : PySem.W.Frag) : List V → Hp → VK → Prop := fun vs H Q => ∃ (p : Addr) (ys : List V), vs = [.ref p] ∧ SqL K H p ys ∧ ∀ (l : Addr) (ob : Obj), H l = none → ob.dict = none → Q (.ref l) (upd H l (.frz ob (.tup ys)))
theorem call_tupleF : CallR X (.type "tuple") (rTupF X.K) := by
  intro pins s σ H vs us Q I r h
  obtain ⟨p, ys, rfl, hq, q⟩ := h
  obtain ⟨u, rfl, rx⟩ := r.one
  cases rx
  obtain ⟨its, r', pl, hz⟩ := I.list hq
  have hn : its.length = ys.length := r'.length.symm
  refine call_tuple_list pl.isList (fun h' kp => ?_) (by rw [List.size_toArray, hn]; exact hz)
  have J := I.kept (t' := s.toks) kp
  have J2 : Inv X pins σ (upd H h'.objs.size (.frz { cls := .type "tuple", data := .seq its.toArray } (.tup ys))) { s with heap := h'.push { cls := .type "tuple", data := .seq its.toArray } } :=
    J.laid (t' := s.toks) (fun b u e => Heap.get?_push_of_some _ e) (Nat.le_refl _) ⟨Heap.get?_push_size _ rfl, hz, its, r', IsTup.new _ _⟩
  exact ⟨.ref h'.objs.size, _, J2, rfl, q _ _ (J.hok.fresh (Nat.le_refl _)) rfl⟩
/-- t.m(x, ..), t a locked tuple -/
def tBMF (r : V → List V → Hp → VK → Prop) (to : TE) (t : TA) : TE := fun σ H Q => to σ H fun x H1 => (∃ p xs, x = .ref p ∧ TupF H1 p xs) ∧ t σ H1 fun vs H2 => r x vs H2 Q
theorem pe_bmF (pa : PlainAttrs "tuple") (slot : Slot "tuple" name id) (hty : typeOf (.builtin id) = pure (.type "method_descriptor")) (hm : MtR X id r) (ho : PE X o to) (ha : PA X (e :: es) t)
    (b1 : attributeBase o name X.env (eval o X.env) = eval o X.env := by rfl)
    (b2 : ((backTo cpos (starEach (e :: es) X.env)).all (fun x => !x.1) && (backToKw cpos (keywordEach [] X.env)).all (fun x => x.1.isSome)
      && decide ((e :: es).length + ([] : List Keyword).length + (if ([] : List Keyword).isEmpty then 0 else 1) < 30)) = true := by rfl)
    (b3 : (apos.endLine == cpos.line) = true := by rfl) (b4 : starEach (e :: es) X.env = (false, eval e X.env) :: starEach es X.env := by rfl) (b5 : (backTo cpos (starEach es X.env)).any (·.1) = false := by rfl) :
    PE X (.Call (.Attribute o name apos) (e :: es) [] cpos) (tBMF r to t) := by
  constructor
  intro pins s σ H Q I h
  refine wpAny_Call_method_late b1 b2 b3 rfl (thn (ho.run pins s σ H _ I h) fun v s1 ⟨x, H1, I1, r1, ⟨p, xs, ex, ob, hd, hp⟩, q1⟩ => ?_)
  subst ex
  cases r1
  obtain ⟨g1, _, its, rv, ot, g2, hc, _⟩ := I1.hok p _ hp
  have eo : ob = ot := Option.some.inj (g1.symm.trans g2)
  refine ⟨"tuple", id, pa, slot, hty, ⟨ob, g1, eo ▸ hc⟩, fun b eb => ?_, ?_⟩
  · cases eb
    exact ⟨ob, g1, hd⟩
  have hA := ha.run cpos pins s1 σ H1 _ I1 q1
  rw [b4] at hA ⊢
  refine Calls.callWith_builtin (by show (false || (backTo cpos (starEach es X.env)).any (·.1)) = false; rw [b5] <;> rfl) (Calls.evalArgs_plain ?_)
  exact thn hA fun us s2 ⟨vs, H2, I2, r2, q2⟩ => hm pins s2 σ H2 (.ref p) vs _ us Q I2 rfl r2 q2
end
end L2
namespace L2
open PySem PySem.Spec PyProof.Rows
section
variable {X : Cx}
/-- t + u, both locked: a locked one -/
def rCatF : R2 := fun x y H Q => ∃ a b xs ys, x = .ref a ∧ y = .ref b ∧ TupF H a xs ∧ TupF H b ys ∧ xs.length + ys.length ≤ sizeLine ∧ ∀ (p : Addr) (H' : Hp), Same H H' → TupF H' p (xs ++ ys) → Q (.ref p) H'
theorem op_catF : OpR X (binaryOp .Add) rCatF := by
  intro pins s σ H x y v u Q I rx ry h
  obtain ⟨a, b, xs, ys, rfl, rfl, ha, hb, hz, q⟩ := h
  cases rx
  cases ry
  obtain ⟨its, r1, p1, _⟩ := I.tuple ha.seq
  obtain ⟨its2, r2, p2, _⟩ := I.tuple hb.seq
  by_cases hx : xs = []
  · subst hx
    cases r1
    exact cat_tup0 p1 p2 ⟨.ref b, H, I, rfl, q b H (Same.refl H) hb⟩
  · refine HT.cat_tup p1 p2 (fun z => hx (r1.nil_iff.mp z)) (fun z => ⟨.ref a, H, I, rfl, q a H (Same.refl H) ?_⟩) (fun z => ?_) (by rw [← r1.length, ← r2.length]; exact hz)
    · rw [r2.nil_iff.mp z, List.append_nil]
      exact ha
    · have hn := I.hok.fresh (H := H) (Nat.le_refl s.heap.objs.size)
      refine ⟨.ref s.heap.objs.size, _, I.laid (t' := s.toks) (o := .frz { cls := .type "tuple", data := .seq (its ++ its2).toArray } (.tup (xs ++ ys))) (fun b ob q => Heap.get?_push_of_some _ q) (Nat.le_refl _) ?_, rfl, q _ _ ((Same.refl H).upd hn) ⟨_, rfl, upd_same⟩⟩
      exact ⟨Heap.get?_push_size _ rfl, by rw [List.length_append]; exact hz, _, r1.append r2, IsTup.new _ _⟩
/-- t[lo:hi], t locked: a locked one -/
def rSlF : V → Option Int → Option Int → Hp → VK → Prop := fun x lo hi H Q => ∃ a xs, x = .ref a ∧ TupF H a xs ∧ ∀ (p : Addr) (H' : Hp), Same H H' → TupF H' p (cutV xs lo hi) → Q (.ref p) H'
theorem sl_tupF : SlR X rSlF := by
  intro pins s σ H x v vl vu lo hi sl Q I rx hs pl pu h
  obtain ⟨a, xs, rfl, hx, q⟩ := h
  cases rx
  obtain ⟨its, r, ht, hz⟩ := I.tuple hx.seq
  have hlen : its.toArray.size = xs.length := by rw [List.size_toArray]; exact r.length.symm
  by_cases hw : HT.sIx xs.length 0 lo = 0 ∧ HT.sIx xs.length xs.length hi = xs.length
  · refine ⟨"tuple", _, PyProof.Rows.slot_tuple_getitem.lookup, ht.typeIs, ?_⟩
    refine getItem_tuple_whole ht hs pl pu (by rw [hlen]; exact hw) ⟨.ref a, H, I, rfl, q a H (Same.refl H) ?_⟩
    have e : cutV xs lo hi = xs := by
      unfold cutV
      rw [hw.1, hw.2, List.drop_zero, Nat.sub_zero, List.take_length]
    rw [e]
    exact hx
  · refine ⟨"tuple", _, PyProof.Rows.slot_tuple_getitem.lookup, ht.typeIs, ?_⟩
    refine HT.getItem_tuple_cut ht hs pl pu (by rw [hlen]; exact hw) ?_ (by rw [hlen]; exact hz)
    rw [hlen]
    have hn := I.hok.fresh (H := H) (Nat.le_refl s.heap.objs.size)
    refine ⟨.ref s.heap.objs.size, _, I.laid (t' := s.toks) (o := .frz { cls := .type "tuple", data := .seq ((its.drop (HT.sIx xs.length 0 lo)).take (HT.sIx xs.length xs.length hi - HT.sIx xs.length 0 lo)).toArray } (.tup (cutV xs lo hi))) (fun b ob q => Heap.get?_push_of_some _ q) (Nat.le_refl _) ?_, rfl, q _ _ ((Same.refl H).upd hn) ⟨_, rfl, upd_same⟩⟩
    exact ⟨Heap.get?_push_size _ rfl, Nat.le_trans (cutV_length xs lo hi) hz, _, (r.drop (HT.sIx xs.length 0 lo)).take (HT.sIx xs.length xs.length hi - HT.sIx xs.length 0 lo), IsTup.new _ _⟩
end
end L2

set_option linter.all false
set_option maxRecDepth 100000
set_option maxHeartbeats 4000000
/-! == and != by an own __eq__, whatever it tells -/
namespace OC
open PySem PySem.Spec PyProof.Rows PySem.SeqAt
variable {prog : Program} {w : World} {A : Around} {E : Value → Shared → Prop} {s : Shared} {K : PySem.W.Frag} {x C f : Addr} {ox : Obj} {od : Option Obj} {b tb : Value}
theorem bound_ne {M : Model} {Ar : Around} {args : List Value} {Q : Option Value → Shared → Prop} (X : K.In s.heap) (I : PySem.W.InstAt s.heap x ox C od) (hs : PySem.W.findIn K (.ref C) "__ne__" = some (some (.builtin "object.__ne__")))
    (h : wpAny M Ar (call (.builtin "object.__ne__") (.ref x :: args)) (fun v => Q (some v)) E s) : wpAny M Ar (callSpecialIfBound? (.ref x) "__ne__" args) Q E s := by
  simp only [callSpecialIfBound?, bindSpecialIfBound?]
  refine wpAny_holding (wpAny_bind (wpAny_bind (wpAny_bind (I.type.here ((PySem.W.looks_findIn X hs).here ?_)))))
  refine wpAny_bind (wpAny_askSetting (wpAny_ite ?_))
  have fin : wpAny M Ar (call (.builtin "object.__ne__") ([.ref x] ++ args) >>= fun v => pure (some v)) Q E s := wpAny_bind (wpAny_mono h (fun v s' q => wpAny_pure q) fun _ _ q => q)
  split
  · exact wpAny_bind (wpAny_of_eq (F.cmp_object.ne.bind _) (wpAny_pure (by exact fin)))
  · exact wpAny_tryCatch (wpAny_bind (wpAny_of_eq (F.cmp_object.ne.bind _) (wpAny_pure (by exact fin))))
theorem entry_ne {Q : PySem.Fin → Shared → Prop} (hu : A.units < cLine) (X : K.In s.heap) (I : PySem.W.InstAt s.heap x ox C od) (he : PySem.W.findIn K (.ref C) "__eq__" = some (some (.ref f))) (hf : PySem.W.isFn K (.ref f) = true)
    (h : wpAny (model prog w) A (call (.ref f) [.ref x, b]) (fun v s' => ∃ c, v = .bool c ∧ Q (.done (.ret (.bool (!c)))) s') E s) :
    wpAny (model prog w) A (Builtin.«object.__ne__» ⟨[.ref x, b], []⟩) Q E s := by
  unfold Builtin.«object.__ne__»
  repeat (first
    | with_reducible refine wpAny_cRoomFor hu ?_
    | (refine wpAny_bind (m := callSpecialIfBound? (.ref x) (Str.ofString "__eq__") [b])
        (PySem.W.ifBound_K X I he hf (wpAny_mono h (fun r s' hr => by
          obtain ⟨c, rfl, hq⟩ := hr
          repeat (first | exact hq | exact wpAny_pure hq | exact wpAny_truthy_bool hq | (refine wpAny_bind (m := truthy (.bool _)) (wpAny_truthy_bool ?_)) | wp_step)) fun _ _ e => e)))
    | wp_step)
theorem call_ne {Q : Value → Shared → Prop} (hu : A.in1.units < cLine) (X : K.In s.heap) (I : PySem.W.InstAt s.heap x ox C od) (hm : PySem.W.mroIn K C (.type "object") = some true) (he : PySem.W.findIn K (.ref C) "__eq__" = some (some (.ref f))) (hf : PySem.W.isFn K (.ref f) = true)
    (h : wpAny (model prog w) A.in1 (call (.ref f) [.ref x, b]) (fun v s' => ∃ c, v = .bool c ∧ Q (.bool (!c)) s') E s) : wpAny (model prog w) A (call (.builtin "object.__ne__") [.ref x, b]) Q E s :=
  wpAny_call (codeAny_call_builtin F.cmp_object.ne.plain F.cmpEntry_ne (PySem.W.check_slot F.cmpKind_ne F.cmpSplit_ne (I.type.andThen (PySem.W.looks_mroIn X hm)) (F.cmpArgs_ne _ _) (entry_ne hu X I he hf h)))
theorem rich_ne {Q : Value → Shared → Prop} (hu : A.units + 1 < cLine) (X : K.In s.heap) (I : PySem.W.InstAt s.heap x ox C od) (hb : PySem.W.Looks (model prog w) s.heap (typeOf b) tb) (hn : PySem.W.notFirst K C tb = true) (hm : PySem.W.mroIn K C (.type "object") = some true)
    (hne : PySem.W.findIn K (.ref C) "__ne__" = some (some (.builtin "object.__ne__"))) (he : PySem.W.findIn K (.ref C) "__eq__" = some (some (.ref f))) (hf : PySem.W.isFn K (.ref f) = true)
    (h : wpAny (model prog w) A.in1 (call (.ref f) [.ref x, b]) (fun v s' => ∃ c, v = .bool c ∧ Q (.bool (!c)) s') E s) : wpAny (model prog w) A (richCompare .NotEq (.ref x) b) Q E s := by
  have one : wpAny (model prog w) A (tryCompare (.ref x) (cmpInfo .NotEq).2.1 b) (fun r s' => ∃ v, r = some v ∧ Q v s') E s := by
    unfold tryCompare
    refine wpAny_bind (bound_ne X I hne (call_ne (by show A.units + 1 < cLine; exact hu) X I hm he hf (wpAny_mono h (fun v s' hv => ?_) fun _ _ e => e)))
    obtain ⟨c, rfl, q⟩ := hv
    exact ⟨c, rfl, wpAny_pure ⟨_, rfl, q⟩⟩
  unfold richCompare
  simp only [oneThing_ref]
  refine wpAny_holding (wpAny_bind (wpAny_cRoomFor (Nat.lt_of_succ_lt hu) ?_))
  refine wpAny_bind (I.type.here (wpAny_bind (hb.here ?_)))
  split
  · rename_i q
    have e : PySem.W.subIn K tb (.ref C) = some false := by
      rcases Bool.or_eq_true_iff.mp hn with e | e
      · rw [beq_iff_eq.mp e] at q; simp at q
      · exact beq_iff_eq.mp e
    refine wpAny_bind ((PySem.W.looks_subIn X e).here ?_)
    simp only [Bool.false_eq_true, if_false]
    refine wpAny_bind (wpAny_mono one (fun r s' z => ?_) fun _ _ e => e)
    obtain ⟨v, rfl, hq⟩ := z
    exact wpAny_pure hq
  · refine wpAny_bind (m := pure false) (wpAny_pure ?_)
    simp only [Bool.false_eq_true, if_false]
    refine wpAny_bind (wpAny_mono one (fun r s' z => ?_) fun _ _ e => e)
    obtain ⟨v, rfl, hq⟩ := z
    exact wpAny_pure hq
end OC
namespace L2
open PySem PySem.Spec PyProof.Rows
def rEqOwn (C : Addr) (sp : Sp) (E : XK) : R2 := fun x y H Q => ∃ a b dx dy fs gs, x = .ref a ∧ y = .ref b ∧ H a = some (.ins C dx fs) ∧ H b = some (.ins C dy gs) ∧ sp [.ref a, .ref b] H (fun v H' => ∃ c, v = .bl c ∧ Q (.bl c) H') E
def rNeOwn (C : Addr) (sp : Sp) (E : XK) : R2 := fun x y H Q => ∃ a b dx dy fs gs, x = .ref a ∧ y = .ref b ∧ H a = some (.ins C dx fs) ∧ H b = some (.ins C dy gs) ∧ sp [.ref a, .ref b] H (fun v H' => ∃ c, v = .bl c ∧ Q (.bl (!c)) H') E
section
variable {X : Cx} {CX : CXT} {k : Nat} {f C : Addr} {fd : FuncData} {ps : List Str} {sp : Sp} {E : XK}
/-- what the class must have -/
structure CmpC (K : PySem.W.Frag) (C f : Addr) : Prop where
  eq : PySem.W.findIn K (.ref C) "__eq__" = some (some (.ref f))
  ne : PySem.W.findIn K (.ref C) "__ne__" = some (some (.builtin "object.__ne__"))
  fn : PySem.W.isFn K (.ref f) = true
  ob : PySem.W.mroIn K C (.type "object") = some true
theorem op_eqOwn (T : CmpC X.K C f) (F : FnOk X.prog X.w X.K X.mg X.base CX k f fd ps sp) (hr : Room k X.A) (hb : Binds X.K fd ps []) (hx : Passes CX X E) : OpR X (compareOp .Eq) (rEqOwn C sp E) := by
  intro pins s σ H x y v u Q I rx ry h
  obtain ⟨a, b, dx, dy, fs, gs, rfl, rfl, ha, hbb, q⟩ := h
  cases rx
  cases ry
  obtain ⟨mA, J, _⟩ := ins_get I.hok ha
  obtain ⟨mB, J', _⟩ := ins_get I.hok hbb
  obtain ⟨od, J, _⟩ := J.look
  obtain ⟨od', J', _⟩ := J'.look
  obtain ⟨m, hF⟩ := I.fr
  refine PySem.W.cmp_K (op := .Eq) (tb := .ref C) hr.units0 hF I.ok.mod.kin J J'.type (by simp [PySem.W.notFirst]) T.eq T.fn ?_
  have hl := F.len _ _ _ _ q
  have r2 : Vals [V.ref a, V.ref b] [Value.ref a, Value.ref b] := .cons rfl (.cons rfl .nil)
  refine wpAny_call (codeAny_mono (F.run X.A X.stack s H ⟨[.ref a, .ref b], []⟩ [.ref a, .ref b] [.ref a, .ref b] _ E hr I.env0 (by
    have := hb s [.ref a, .ref b] I.kIn (by simpa using hl)
    simpa using this) r2 q) fun r s' hq => ?_)
  cases r with
  | error e => exact hx pins σ H s e s' I hq
  | ok fl =>
    cases fl with
    | ret w =>
      obtain ⟨z, H', I', rz, c, ez, qz⟩ := I.after hq
      subst ez
      cases rz
      exact ⟨.bl c, H', I', rfl, qz⟩
    | next => exact False.elim hq
    | brk => exact False.elim hq
    | cont => exact False.elim hq
theorem op_neOwn (T : CmpC X.K C f) (F : FnOk X.prog X.w X.K X.mg X.base CX k f fd ps sp) (hr : Room (k + 1) X.A) (hb : Binds X.K fd ps []) (hx : Passes CX X E) : OpR X (compareOp .NotEq) (rNeOwn C sp E) := by
  intro pins s σ H x y v u Q I rx ry h
  obtain ⟨a, b, dx, dy, fs, gs, rfl, rfl, ha, hbb, q⟩ := h
  cases rx
  cases ry
  obtain ⟨mA, J, _⟩ := ins_get I.hok ha
  obtain ⟨mB, J', _⟩ := ins_get I.hok hbb
  obtain ⟨od, J, _⟩ := J.look
  obtain ⟨od', J', _⟩ := J'.look
  refine OC.rich_ne (tb := .ref C) (by have := hr.units0; have := hr.units; omega) I.kIn J J'.type (by simp [PySem.W.notFirst]) T.ob T.ne T.eq T.fn ?_
  have hl := F.len _ _ _ _ q
  have r2 : Vals [V.ref a, V.ref b] [Value.ref a, Value.ref b] := .cons rfl (.cons rfl .nil)
  refine wpAny_call (codeAny_mono (F.run X.A.in1 X.stack s H ⟨[.ref a, .ref b], []⟩ [.ref a, .ref b] [.ref a, .ref b] _ E hr.in1 I.env0.in1 (by
    have := hb s [.ref a, .ref b] I.kIn (by simpa using hl)
    simpa using this) r2 q) fun r s' hq => ?_)
  cases r with
  | error e => exact hx pins σ H s e s' I hq
  | ok fl =>
    cases fl with
    | ret w =>
      obtain ⟨z, H', I', rz, c, ez, qz⟩ := I.after hq
      subst ez
      cases rz
      exact ⟨c, rfl, .bl (!c), H', I', rfl, qz⟩
    | next => exact False.elim hq
    | brk => exact False.elim hq
    | cont => exact False.elim hq
end
end L2

set_option linter.all false
set_option maxRecDepth 100000
set_option maxHeartbeats 4000000
/-! enumerate(tuple) -/
namespace L2
open PySem PySem.Spec PyProof.Rows
open Sem (wp)
theorem et_meets {v : Value} {o : Obj} {H : Heap → Prop} (B : Begins v o H) :
    Meets (Builtin.«enumerate.__new__» ⟨[.type "enumerate", v], []⟩) (fun _ R s => H s.heap ∧
      R (.ok (.ret (.ref (s.heap.push o).objs.size))) { s with heap := (s.heap.push o).push { cls := .type "enumerate", data := .fields #[.none, .bool false, .ref s.heap.objs.size, rawInt 0, .none, .none] } }) := by
  refine .of_wp fun prog w A R s h => ?_
  obtain ⟨hp, gl, dd, tk, os⟩ := s
  obtain ⟨h1, h⟩ := h
  have hsub := sub_enumerate
  have q1 : ∀ {A' : Around} {E : Value → Shared → Prop} {Q : Value → Shared → Prop}, Q (.ref hp.objs.size) ⟨hp.push o, gl, dd, tk, os⟩ → wpAny (model prog w) A' (pyIter v) Q E ⟨hp, gl, dd, tk, os⟩ := fun q => B.iter prog w _ _ ⟨hp, gl, dd, tk, os⟩ _ h1 q
  wp_walk using q1
  refine wpAny_stack_any fun st => wpAny_pure ?_
  split
  · rename_i c _ _ _ _ _
    cases (c == Value.type "enumerate") <;> (wp_walk using q1; exact ⟨_, rfl, h⟩)
  · wp_walk using q1
    exact ⟨_, rfl, h⟩
theorem et_call {prog : Program} {w : World} {A : Around} {E : Value → Shared → Prop} {s : Shared} {t : Addr} {its : Array Value} {Q : Value → Shared → Prop} (ht : s.heap.IsTuple t its)
    (h : ∀ h', IsEnum h' (s.heap.objs.size + 1) s.heap.objs.size 0 .none → h'.IsTupleIter s.heap.objs.size t 0 → h'.objs.size = s.heap.objs.size + 2 →
      (∀ b o, s.heap.get? b = some o → h'.get? b = some o) → Q (.ref (s.heap.objs.size + 1)) { s with heap := h' }) :
    wpAny (model prog w) A (call (.type "enumerate") [.ref t]) Q E s := by
  refine callType_new F.called_enumerate (by decide) (F.typeCall_enumerate_1 _) (F.newCall_enumerate_1 _) (fun obj => F.args_object_init_2 obj _) F.entry_enumerate_new (et_meets (begins_tuple t its)) ⟨ht, ?_⟩
  have hz : (s.heap.push { cls := .type "tuple_iterator", data := .fields #[.ref t, .int 0 0] }).objs.size = s.heap.objs.size + 1 := Heap.size_push ..
  show _ ∧ _
  rw [hz]
  have he := Heap.get?_push_size (s.heap.push { cls := .type "tuple_iterator", data := .fields #[.ref t, .int 0 0] }) (o := { cls := .type "enumerate", data := .fields #[.none, .bool false, .ref s.heap.objs.size, rawInt 0, .none, .none] }) rfl
  rw [hz] at he
  exact ⟨⟨_, he, rfl⟩, h _ he ⟨_, Heap.get?_push_of_some _ (Heap.get?_push_size _ rfl), rfl, rfl⟩ (by rw [Heap.size_push, hz]) fun b o x => Heap.get?_push_of_some _ (Heap.get?_push_of_some _ x)⟩
/-- the tuple at a, each part in a new pair -/
def IteT (K : PySem.W.Frag) (a : Addr) : It where
  go i H := ∃ (xs : List V) (x : V), SqT K H a xs ∧ xs[i]? = some x
  yld i H v H' := ∃ T x, v = .ref T ∧ H T = none ∧ H' = upd H T (.tup [.int (i : Nat), x]) ∧ ∀ xs, SqT K H a xs → xs[i]? = some x
  stop i H := ∃ xs : List V, SqT K H a xs ∧ xs.length ≤ i
theorem turn_enumT {P : Program} {w : World} {K : PySem.W.Frag} {elts : List Expr} {kk : Nat} {tpos : Pos} (a e it : Addr) :
    Turn P w K (.Tuple elts kk tpos) (IteT K a) [e, it] e (fun i h => (∃ old, IsEnum h e it ((i : Nat) : Int) old) ∧ h.IsTupleIter it a i ∧ e ≠ it ∧ a ≠ it ∧ a ≠ e) where
  mem := List.mem_cons_self
  obj := fun i h st b hb => by
    obtain ⟨⟨old, he⟩, ⟨o, ho, hc, hd⟩, _⟩ := st
    have e' : b = e ∨ b = it := by simpa using hb
    rcases e' with rfl | rfl
    · exact ⟨_, he, fun v q => nomatch q⟩
    · exact ⟨o, ho, fun v q => by rw [hd] at q; cases q⟩
  keep := fun i h h' st k => let ⟨⟨old, he⟩, hi, hne⟩ := st; ⟨⟨old, k e (by simp) _ he⟩, hi.at fun o q => k it (by simp) o q, hne⟩
  item := by
    intro X hP hw hK hc i pins s σ H E I hf st hg
    subst hP hw hK
    obtain ⟨⟨old, he⟩, hit, hne, n1, n2⟩ := st
    obtain ⟨xs, x, hq, hx⟩ := hg
    obtain ⟨its, rv, p, hz⟩ := I.tuple hq
    obtain ⟨u, hu, ru⟩ := rv.get hx
    have hel : e < s.heap.objs.size := Heap.lt_size he
    have hil : it < s.heap.objs.size := by obtain ⟨_, q, _⟩ := hit; exact Heap.lt_size q
    have hlt : i < its.toArray.size := by
      have := (List.getElem?_eq_some_iff.mp hu).1
      simpa using this
    refine wpAny_pyNext_enum_itemD (Draws.tuple (A := X.A.in1) (show X.A.in1.handled = none from I.ok.hd hc) it a n1 its.toArray) he ⟨hit, p⟩ hlt hne (by simp [hne, n2.symm]) fun y h' tk hy ho st' hT hsz hk => ?_
    obtain rfl : y = u := by
      have h2 : its.toArray[i]? = some u := by simpa using hu
      have h3 : its.toArray[i]? = some y := hy
      rw [h2] at h3
      exact (Option.some.inj h3).symm
    refine ⟨_, rfl, wpAny_letOwnedTupleGo_enum (s := { s with heap := h', toks := tk + 1 }) ho fun h'' he' sb => ?_⟩
    have hT2 : h''.get? s.heap.objs.size = some { cls := .type "tuple", data := .seq #[.int i tk, y] } := (sb.2 _ (Nat.ne_of_gt hel)).trans hT
    have new : ObjOk X.prog X.w (upd H s.heap.objs.size (.tup [.int (i : Nat), x])) h'' s.heap.objs.size (.tup [.int (i : Nat), x]) :=
      ⟨by show 2 ≤ sizeLine; decide, [.int i tk, y], .cons ⟨_, rfl⟩ (.cons ru .nil), ⟨_, hT2, rfl, _, rfl⟩⟩
    have I1 : Inv X pins σ (upd H s.heap.objs.size (.tup [.int (i : Nat), x])) { s with heap := h'', toks := tk + 1 } :=
      I.turnedNew (ch := [e, it]) (fun b ob hb q => (sb.2 b (fun z => hb (by simp [z]))).trans (hk b ob (fun z => hb (by simp [z])) (fun z => hb (by simp [z])) q)) hf (Nat.le_refl _) new
    refine ⟨.ref s.heap.objs.size, _, I1, rfl, ⟨_, x, rfl, I.hok.fresh (Nat.le_refl _), rfl, fun ys hq2 => ?_⟩, ⟨⟨y, ?_⟩, st'.1.at fun o q => (sb.2 it (Ne.symm hne)).trans q, hne, n1, n2⟩, fun b hb => ?_⟩
    · rw [I.tuple_inj hq2 hq]; exact hx
    · have e1 : ((i + 1 : Nat) : Int) = (i : Int) + 1 := by omega
      rw [e1]; exact he'
    · have hb' : b < s.heap.objs.size := by
        have e' : b = e ∨ b = it := by simpa using hb
        rcases e' with z | z
        · rw [z]; exact hel
        · rw [z]; exact hil
      rw [upd_ne (Nat.ne_of_lt hb')]
      exact (hf b hb).1
  done := by
    intro X hP hw hK hc i pins s σ H E I hf st hg
    subst hP hw hK
    obtain ⟨⟨old, he⟩, hit, hne, n1, n2⟩ := st
    obtain ⟨xs, hq, hx⟩ := hg
    obtain ⟨its, rv, p, hz⟩ := I.tuple hq
    obtain ⟨f0, f1, f2, f3, f4, f5⟩ := hf it (by simp)
    have hl := rv.length
    have hT : s.TypeIs (.ref e) "enumerate" := ⟨_, he, rfl⟩
    unfold pyNext
    refine wpAny_bind (wpAny_attempt (wpAny_callSpecial?_slot (name := Str.ofString "__next__") hT F.slot_enumerate_next
      (wpAny_call_entry F.slot_enumerate_next hT F.entry_enumerate_next ?_ (F.args_enumerate_next_1 _))))
    show wpAny _ _ (field (.ref e) 2 >>= _) _ _ _
    refine wpAny_bind (wpAny_field he rfl (x := .ref it) rfl ?_)
    refine wpAny_bind (wpAny_nextOf_tuple_end (A := X.A.in1) (show X.A.in1.handled = none from I.ok.hd hc) hit p (by simp; omega) fun h' x he' hx' => ?_)
    obtain ⟨o, ho, hc2⟩ := hx'
    refine wpAny_bind (wpAny_isInstance (T := "StopIteration") (b := true) ⟨o, ho, hc2⟩ isSubtype_stop ?_)
    exact wpAny_pure ⟨rfl, I.turned (t' := s.toks) (fun b ob hb e => he' b ob hb e) f0 f1 f3 f4 f5⟩
  self := fun A i s Q E st h => let ⟨⟨_, he⟩, _⟩ := st; wpAny_pyIter_enum he h
def iEnumT (K : PySem.W.Frag) (ta : TA) : TI := fun σ H R => ta σ H fun vs H1 => ∃ a xs, vs = [.ref a] ∧ SqT K H1 a xs ∧ R (IteT K a) H1
theorem pi_enumT {X : Cx} {e : Expr} {ta : TA} {p pos tpos : Pos} {elts : List Expr} {kk : Nat} (hg : Gl X "enumerate") (hm : X.mg "enumerate" = none) (ha : PA X [e] ta) (hs : starEach [e] X.env = [(false, eval e X.env)] := by rfl) :
    PI X (.Tuple elts kk tpos) (.Call (.Name "enumerate" p) [e] [] pos) (iEnumT X.K ta) := by
  refine ⟨fun pins s σ H R I h => Call_ (ld_blt I hg hm boot_enumerate (PyProof.Rows.callWith_type1 (thn (ha.run pos pins s σ H _ I h) fun us s1 ⟨vs, H1, I1, r1, q1⟩ => ?_) hs rfl))⟩
  obtain ⟨a, xs, rfl, hq, q⟩ := q1
  obtain ⟨u, rfl, r⟩ := r1.one
  cases r
  obtain ⟨its, rv, p', hz⟩ := I1.tuple hq
  have hal : a < s1.heap.objs.size := by obtain ⟨o, ho, _⟩ := p'; exact Heap.lt_size ho
  refine et_call p' fun h' he hit hsz hk => wpAny_pyIter_enum he ?_
  have I2 : Inv X pins σ H1 { s1 with heap := h' } := I1.kept (t' := s1.toks) hk
  refine ⟨s1.heap.objs.size + 1, [s1.heap.objs.size + 1, s1.heap.objs.size], _, _, H1, rfl, I2, turn_enumT a (s1.heap.objs.size + 1) s1.heap.objs.size, ⟨⟨.none, he⟩, hit, Nat.succ_ne_self _, Nat.ne_of_lt hal, Nat.ne_of_lt (Nat.lt_succ_of_lt hal)⟩, fun b hb => ?_, q⟩
  have e' : b = s1.heap.objs.size + 1 ∨ b = s1.heap.objs.size := by simpa using hb
  have hle : s1.heap.objs.size ≤ b := by
    rcases e' with z | z
    · rw [z]; exact Nat.le_add_right _ _
    · rw [z]; exact Nat.le_refl _
  exact I1.fpOk hle (I1.hok.fresh hle)
end L2
namespace L2
open PySem PySem.Spec PyProof.Rows
theorem walk_enumT {K : PySem.W.Frag} {a : Addr} {xs : List V} : Walk (IteT K a) xs.length (fun H => SqT K H a xs) (YPair (fun i => some (.int (i : Nat))) (fun i => xs[i]?)) := by
  refine ⟨fun i _ hi q => ⟨xs, xs[i], q, List.getElem?_eq_getElem hi⟩, fun _ q => ⟨xs, q, Nat.le_refl _⟩, fun i H v H' _ q y => ?_⟩
  obtain ⟨T, x, h1, h2, h3, h4⟩ := y
  exact ⟨T, .int (i : Nat), x, h1, h2, h3, rfl, h4 xs q⟩
end L2

set_option linter.all false
set_option maxRecDepth 100000
set_option maxHeartbeats 4000000
/-! an instance made where its __init__ may refuse and the body around takes the refusal -/
namespace L2
open PySem PySem.Spec PyProof.Rows
def tMakeAt (C : Addr) (sp : Sp) (E : St → XK) (t : TA) : TE := fun σ H Q => t σ H fun vs H1 => ∀ x dx, H1 x = none → H1 dx = none → dx ≠ x →
  sp (.ref x :: vs) (upd (upd H1 dx (.own x)) x (.ins C dx [])) (fun v H2 => v = .non ∧ Q (.ref x) H2) (E σ)
section
variable {X : Cx} {CX : CXT} {k : Nat} {f C : Addr} {fd : FuncData} {ps : List Str} {sp : Sp} {E : St → XK} {x : Str} {p pos : Pos} {e : Expr} {es : List Expr} {t : TA}
theorem pe_makeAt (M : Mk X.K C f) (F : FnOk X.prog X.w X.K X.mg X.base CX k f fd ps sp) (hr : Room (k + 1) X.A) (hg : Gl X x) (hm : X.mg x = some (.ref C)) (hb : Binds X.K fd ps []) (hx : ∀ σ, PassesAt CX X σ (E σ))
    (ha : PA X (e :: es) t) (hdb : (x == ("__debug__" : Str)) = false := by decide) (he : starEach (e :: es) X.env = (false, eval e X.env) :: starEach es X.env := by rfl) (hpl : (backTo pos (starEach es X.env)).any (·.1) = false := by rfl) :
    PE X (.Call (.Name x p) (e :: es) [] pos) (tMakeAt C sp E t) := by
  refine ⟨fun pins s σ H Q I h => wpAny_Call_Name_kw (ld_glob I hg hm ?_ hdb)⟩
  refine PySem.W.callWith_K (h₀ := X.base) I.ok.mod.kin M.kp (thn (ha.run pos pins s σ H _ I h) fun us s1 ⟨vs, H1, I1, r, q⟩ => ⟨I1.kIn, ?_⟩) he hpl
  have hq := q (s1.heap.objs.size + 1) s1.heap.objs.size (I1.hok.fresh (Nat.le_succ _)) (I1.hok.fresh (Nat.le_refl _)) (Nat.ne_of_lt (Nat.lt_succ_self _))
  have I2 := Inv.made (C := C) I1
  have r2 : Vals (V.ref (s1.heap.objs.size + 1) :: vs) (Value.ref (s1.heap.objs.size + 1) :: us) := .cons rfl r
  have hl : (Value.ref (s1.heap.objs.size + 1) :: us).length = ps.length := by
    rw [← r2.length]
    exact F.len _ _ _ _ hq
  have b := hb _ (Value.ref (s1.heap.objs.size + 1) :: us) I2.kIn (by rw [List.append_nil]; exact hl)
  rw [List.append_nil] at b
  refine wpAny_call (make_map (f := f) I1.kIn M.makes M.init (beq_iff_eq.mp M.fn) (codeAny_mono (F.run _ X.stack _ _ ⟨Value.ref (s1.heap.objs.size + 1) :: us, []⟩ _ _ _ (E σ) (hr.make C us []) (I2.env0.make C us []) b r2 hq) fun r s' hq' => ?_))
  cases r with
  | error e => exact hx σ pins _ _ e s' I2 hq'
  | ok fl =>
    cases fl with
    | ret u =>
      obtain ⟨v, H', I3, rv, ev, q3⟩ := I2.after hq'
      subst ev
      exact ⟨rv, ⟨V.ref (s1.heap.objs.size + 1), H', I3, rfl, q3⟩⟩
    | next => exact False.elim hq'
    | brk => exact False.elim hq'
    | cont => exact False.elim hq'
end
end L2

set_option linter.all false
set_option maxRecDepth 100000
namespace My
open PySem
/-! lists in which one thing, or two, are put otherwise -/
def rep {α : Type} (xs : List α) (n : Nat) (x : α) : List α := xs.take n ++ [x] ++ xs.drop (n + 1)
theorem cut_at {α : Type} {xs : List α} {n : Nat} {y : α} (h : xs[n]? = some y) : xs = xs.take n ++ (y :: xs.drop (n + 1)) := by
  obtain ⟨hl, e⟩ := List.getElem?_eq_some_iff.mp h
  rw [← e, List.getElem_cons_drop hl, List.take_append_drop]
theorem rep_self {α : Type} {xs : List α} {n : Nat} {y : α} (h : xs[n]? = some y) : rep xs n y = xs := by
  unfold rep
  rw [List.append_assoc]
  exact (cut_at h).symm
theorem rep_map {α β : Type} (f : α → β) (xs : List α) (n : Nat) (x : α) : (rep xs n x).map f = rep (xs.map f) n (f x) := by
  unfold rep
  simp [List.map_take, List.map_drop]
theorem rep_perm {α : Type} {xs : List α} {n : Nat} {y : α} (h : xs[n]? = some y) (x : α) : (y :: rep xs n x).Perm (x :: xs) := by
  have p1 : (rep xs n x).Perm (x :: (xs.take n ++ xs.drop (n + 1))) := by
    unfold rep
    rw [List.append_assoc]
    exact List.perm_middle
  have p2 : xs.Perm (y :: (xs.take n ++ xs.drop (n + 1))) := by
    have e := cut_at h
    exact (List.Perm.of_eq e).trans List.perm_middle
  exact ((p1.cons y).trans (List.Perm.swap x y _)).trans (p2.symm.cons x)
theorem rep_get {α : Type} {xs : List α} {n : Nat} (h : n ≤ xs.length) (x : α) : (rep xs n x)[n]? = some x := by
  unfold rep
  have : (xs.take n).length = n := by rw [List.length_take]; omega
  rw [List.append_assoc, List.getElem?_append_right (by omega), this]
  simp
theorem rep_len {α : Type} {xs : List α} {n : Nat} (h : n < xs.length) (x : α) : (rep xs n x).length = xs.length := by
  unfold rep
  simp
  omega
theorem rep_ne {α : Type} {xs : List α} {n : Nat} {y x : α} (h : xs[n]? = some y) (ne : x ≠ y) : rep xs n x ≠ xs := fun e => by
  have hl := (List.getElem?_eq_some_iff.mp h).1
  have := rep_get (xs := xs) (n := n) (by omega) x
  rw [e, h] at this
  exact ne (Option.some.inj this).symm
theorem mem_rep {α : Type} {xs : List α} {n : Nat} {x z : α} (h : z ∈ rep xs n x) : z = x ∨ z ∈ xs := by
  unfold rep at h
  rcases List.mem_append.mp h with h | h
  · rcases List.mem_append.mp h with h | h
    · exact .inr (List.mem_of_mem_take h)
    · exact .inl (by simpa using h)
  · exact .inr (List.mem_of_mem_drop h)
theorem rep_nodup {α : Type} {xs : List α} {n : Nat} {y x : α} (h : xs[n]? = some y) (nd : xs.Nodup) (nx : x ∉ xs) : (rep xs n x).Nodup := by
  have p := rep_perm h x
  have n2 : (x :: xs).Nodup := List.nodup_cons.mpr ⟨nx, nd⟩
  exact (List.nodup_cons.mp (p.nodup_iff.mpr n2)).2
theorem rep_in {α : Type} (xs : List α) (n : Nat) (x : α) : x ∈ rep xs n x := by unfold rep; simp
theorem rep_mem {α : Type} {xs : List α} {n : Nat} {y x z : α} (h : xs[n]? = some y) (hz : z ∈ xs) (ne : z ≠ y) : z ∈ rep xs n x := by
  have := (rep_perm h x).mem_iff.mpr (List.mem_cons_of_mem x hz)
  exact (List.mem_cons.mp this).resolve_left ne
def swp2 {α : Type} (xs : List α) (n : Nat) (b a : α) : List α := xs.take n ++ [b, a] ++ xs.drop (n + 2)
theorem cut_two {α : Type} {xs : List α} {n : Nat} {a b : α} (h1 : xs[n]? = some a) (h2 : xs[n + 1]? = some b) : xs = xs.take n ++ (a :: b :: xs.drop (n + 2)) := by
  have e := cut_at h1
  obtain ⟨hl, e2⟩ := List.getElem?_eq_some_iff.mp h2
  have e3 : xs.drop (n + 1) = b :: xs.drop (n + 2) := by rw [← e2, List.getElem_cons_drop hl]
  rw [e3] at e
  exact e
theorem swp2_perm {α : Type} {xs : List α} {n : Nat} {a b : α} (h1 : xs[n]? = some a) (h2 : xs[n + 1]? = some b) : (swp2 xs n b a).Perm xs := by
  have e := cut_two h1 h2
  have p : (swp2 xs n b a).Perm (xs.take n ++ (a :: b :: xs.drop (n + 2))) := by
    unfold swp2
    rw [List.append_assoc]
    exact List.Perm.append_left _ (List.Perm.swap a b _)
  exact p.trans (List.Perm.of_eq e.symm)
theorem swp2_ne {α : Type} {xs : List α} {n : Nat} {a b : α} (h1 : xs[n]? = some a) (h2 : xs[n + 1]? = some b) (ne : a ≠ b) : swp2 xs n b a ≠ xs := fun e => by
  have hl := (List.getElem?_eq_some_iff.mp h1).1
  have hg : (swp2 xs n b a)[n]? = some b := by
    unfold swp2
    have : (xs.take n).length = n := by rw [List.length_take]; omega
    rw [List.append_assoc, List.getElem?_append_right (by omega), this]
    simp
  rw [e, h1] at hg
  exact ne (Option.some.inj hg)
/-! takes and throws -/
theorem takesB_iff {ts : List Str} : takesB ts = true ↔ ts.length ≤ 3 ∧ ∀ t, t ∈ ts → t ∈ (["lent", "given"] : List Str) := by
  unfold takesB
  simp only [Bool.and_eq_true, decide_eq_true_eq, List.all_eq_true]
def flipT (t : Str) : Str := if t = "lent" then "given" else "lent"
theorem flipT_ne {t : Str} (h : t ∈ (["lent", "given"] : List Str)) : flipT t ≠ t := by
  have : t = "lent" ∨ t = "given" := by simpa using h
  rcases this with rfl | rfl
  · decide +kernel
  · decide +kernel
theorem flipT_in (t : Str) : flipT t ∈ (["lent", "given"] : List Str) := by
  unfold flipT
  split <;> simp
theorem takes_rep {ts : List Str} {n : Nat} (h : takesB ts = true) (hn : n < ts.length) {t : Str} (ht : t ∈ (["lent", "given"] : List Str)) : takesB (rep ts n t) = true := by
  obtain ⟨h1, h2⟩ := takesB_iff.mp h
  refine takesB_iff.mpr ⟨by rw [rep_len hn]; exact h1, fun z hz => ?_⟩
  rcases mem_rep hz with rfl | e
  · exact ht
  · exact h2 z e
theorem takes_less {ts : List Str} {n : Nat} (h : takesB ts = true) : takesB (ts.take n ++ ts.drop (n + 1)) = true := by
  obtain ⟨h1, h2⟩ := takesB_iff.mp h
  refine takesB_iff.mpr ⟨?_, fun z hz => ?_⟩
  · rw [List.length_append, List.length_take, List.length_drop]
    omega
  · rcases List.mem_append.mp hz with e | e
    · exact h2 z (List.mem_of_mem_take e)
    · exact h2 z (List.mem_of_mem_drop e)
theorem less_ne {α : Type} {ts : List α} {n : Nat} (hn : n < ts.length) : ts.take n ++ ts.drop (n + 1) ≠ ts := fun e => by
  have := congrArg List.length e
  rw [List.length_append, List.length_take, List.length_drop] at this
  omega
theorem throws_rev {ts : List Str} (h : throwsB ts = true) : throwsB ts.reverse = true := by
  obtain ⟨h1, h2⟩ := throwsB_nodup h
  exact throwsB_of (by rw [List.length_reverse]; exact h1) ((List.reverse_perm ts).nodup_iff.mpr h2)
theorem rev_ne {α : Type} {ts : List α} (nd : ts.Nodup) (hl : 1 < ts.length) : ts.reverse ≠ ts := fun e => by
  have h0 : ts.reverse[0]? = ts[0]? := by rw [e]
  rw [List.getElem?_reverse (by omega)] at h0
  have := (List.getElem?_inj (i := ts.length - 1 - 0) (j := 0) (by omega) nd).mp h0
  omega
theorem throws_less {ts : List Str} (h : throwsB ts = true) (n : Nat) : throwsB (ts.take n) = true := by
  obtain ⟨h1, h2⟩ := throwsB_nodup h
  exact throwsB_of (by rw [List.length_take]; omega) (h2.sublist (List.take_sublist _ _))
/-! pairs and crews that stay good -/
theorem PairsOk.perm {ps qs : List Pr} (h : PairsOk ps) (p : qs.Perm ps) : PairsOk qs :=
  ⟨by rw [p.length_eq]; exact h.many, fun z hz => h.nm z (p.mem_iff.mp hz), (p.map _).nodup_iff.mpr h.nears, (p.map _).nodup_iff.mpr h.fars⟩
theorem PairsOk.put {ps : List Pr} (h : PairsOk ps) {n : Nat} {y x : Pr} (e : ps[n]? = some y) (nm : nameB x.1 = true ∧ nameB x.2.1 = true) (a : x.1 = y.1 ∨ x.1 ∉ ps.map (·.1)) (b : x.2.1 = y.2.1 ∨ x.2.1 ∉ ps.map (·.2.1)) : PairsOk (rep ps n x) := by
  have hl := (List.getElem?_eq_some_iff.mp e).1
  refine ⟨by rw [rep_len hl]; exact h.many, fun z hz => ?_, ?_, ?_⟩
  · rcases mem_rep hz with rfl | q
    · exact nm
    · exact h.nm z q
  · rw [rep_map]
    have e1 : (ps.map (·.1))[n]? = some y.1 := by rw [List.getElem?_map, e]; rfl
    rcases a with a | a
    · rw [a, rep_self e1]; exact h.nears
    · exact rep_nodup e1 h.nears a
  · rw [rep_map]
    have e1 : (ps.map (·.2.1))[n]? = some y.2.1 := by rw [List.getElem?_map, e]; rfl
    rcases b with b | b
    · rw [b, rep_self e1]; exact h.fars
    · exact rep_nodup e1 h.fars b
theorem CrewOk.perm {ps : List Pr} {hs ks : List Hr} (h : CrewOk ps hs) (p : ks.Perm hs) : CrewOk ps ks :=
  ⟨fun x hx => h.one x (p.mem_iff.mp hx), (p.map _).nodup_iff.mpr h.names, fun s => by rw [(p.filter _).length_eq]; exact h.few s⟩
theorem CrewOk.take {ps : List Pr} {hs : List Hr} (h : CrewOk ps hs) (n : Nat) : CrewOk ps (hs.take n) := by
  refine ⟨fun x hx => h.one x (List.mem_of_mem_take hx), ?_, fun s => ?_⟩
  · rw [List.map_take]; exact h.names.sublist (List.take_sublist _ _)
  · exact Nat.le_trans ((List.take_sublist n hs).filter _).length_le (h.few s)
theorem CrewOk.put {ps : List Pr} {hs : List Hr} (h : CrewOk ps hs) {n : Nat} {y x : Hr} (e : hs[n]? = some y) (nm : x.name = y.name) (sd : x.side = y.side) (b : pactB x = true) (th : ∀ t, t ∈ x.throws → t ∈ y.throws) : CrewOk ps (rep hs n x) := by
  have hm := List.mem_of_getElem? e
  refine ⟨fun z hz => ?_, ?_, fun s => ?_⟩
  · rcases mem_rep hz with rfl | q
    · exact ⟨b, fun t ht => by rw [sd]; exact (h.one y hm).2 t (th t ht)⟩
    · exact h.one z q
  · rw [rep_map, nm, rep_self (by rw [List.getElem?_map, e]; rfl)]
    exact h.names
  · have p := ((rep_perm e x).filter fun z => decide (z.side = s)).length_eq
    rw [List.filter_cons, List.filter_cons, sd] at p
    have f := h.few s
    split at p <;> (try simp only [List.length_cons] at p) <;> omega
theorem CrewOk.words {ps qs : List Pr} {hs : List Hr} (h : CrewOk ps hs) (w : ∀ x, x ∈ hs → ∀ t, t ∈ x.throws → t ∈ ps.map (wd x.side) → t ∈ qs.map (wd x.side)) : CrewOk qs hs :=
  ⟨fun x hx => ⟨(h.one x hx).1, fun t ht => w x hx t ht ((h.one x hx).2 t ht)⟩, h.names, h.few⟩
/-! one word of side s called otherwise -/
def ren (old new t : Str) : Str := if t = old then new else t
def renH (s : Int) (old new : Str) (x : Hr) : Hr := if x.side = s then { x with throws := x.throws.map (ren old new) } else x
theorem renH_name (s : Int) (old new : Str) (x : Hr) : (renH s old new x).name = x.name := by unfold renH; split <;> rfl
theorem renH_side (s : Int) (old new : Str) (x : Hr) : (renH s old new x).side = x.side := by unfold renH; split <;> rfl
theorem ren_nodup {old new : Str} : ∀ {ts : List Str}, ts.Nodup → new ∉ ts → (ts.map (ren old new)).Nodup
  | [], _, _ => List.nodup_nil
  | t :: ts, nd, nn => by
    rw [List.nodup_cons] at nd
    rw [List.map_cons, List.nodup_cons]
    refine ⟨fun c => ?_, ren_nodup nd.2 fun q => nn (List.mem_cons_of_mem _ q)⟩
    obtain ⟨u, hu, e⟩ := List.mem_map.mp c
    unfold ren at e
    by_cases h1 : u = old
    · by_cases h2 : t = old
      · exact nd.1 (by rw [h2, ← h1]; exact hu)
      · rw [if_pos h1, if_neg h2] at e
        exact nn (by rw [e]; exact List.mem_cons_self)
    · by_cases h2 : t = old
      · rw [if_neg h1, if_pos h2] at e
        exact nn (by rw [← e]; exact List.mem_cons_of_mem _ hu)
      · rw [if_neg h1, if_neg h2] at e
        exact nd.1 (by rw [← e]; exact hu)
theorem CrewOk.ren {ps qs : List Pr} {hs : List Hr} (h : CrewOk ps hs) {s : Int} {old new : Str} (nn : new ∉ ps.map (wd s)) (w1 : ∀ t, t ∈ ps.map (wd s) → My.ren old new t ∈ qs.map (wd s)) (w2 : ∀ i : Int, (i = 0 ∨ i = 1) → i ≠ s → ∀ t, t ∈ ps.map (wd i) → t ∈ qs.map (wd i)) : CrewOk qs (hs.map (renH s old new)) := by
  refine ⟨fun z hz => ?_, ?_, fun i => ?_⟩
  · obtain ⟨x, hx, rfl⟩ := List.mem_map.mp hz
    obtain ⟨b, t⟩ := h.one x hx
    unfold pactB at b
    simp only [Bool.and_eq_true] at b
    obtain ⟨⟨⟨b1, b2⟩, b3⟩, b4⟩ := b
    by_cases c : x.side = s
    · have e : renH s old new x = { x with throws := x.throws.map (My.ren old new) } := if_pos c
      rw [e]
      obtain ⟨l4, nd⟩ := throwsB_nodup b4
      have b5 : throwsB (x.throws.map (My.ren old new)) = true := throwsB_of (by rw [List.length_map]; exact l4) (ren_nodup nd fun q => nn (by rw [← c]; exact t _ q))
      refine ⟨by unfold pactB; simp only [b1, b2, b3, b5]; rfl, fun u hu => ?_⟩
      obtain ⟨v, hv, rfl⟩ := List.mem_map.mp hu
      show _ ∈ qs.map (wd x.side)
      rw [c]
      exact w1 v (by rw [← c]; exact t v hv)
    · have e : renH s old new x = x := if_neg c
      rw [e]
      refine ⟨by unfold pactB; simp only [b1, b2, b3, b4]; rfl, fun u hu => w2 x.side ?_ c u (t u hu)⟩
      unfold sideB at b2
      exact of_decide_eq_true b2
  · rw [List.map_map]
    have e : (fun x : Hr => x.name) ∘ renH s old new = fun x : Hr => x.name := funext fun x => renH_name s old new x
    rw [e]
    exact h.names
  · rw [List.filter_map, List.length_map]
    have e : (fun z : Hr => decide (z.side = i)) ∘ renH s old new = fun z : Hr => decide (z.side = i) := funext fun x => by show decide ((renH s old new x).side = i) = _; rw [renH_side]
    rw [e]
    exact h.few i
/-! fresh words -/
def fresh7 : List Str := ["qt", "qu", "qv", "qw", "qx", "qy", "qz"]
theorem fresh7_name : ∀ s, s ∈ fresh7 → nameB s = true := by decide +kernel
theorem fresh_some {known : List Str} (h : known.length ≤ 6) : ∃ f r, (fresh7.filter fun t => !decide (t ∈ known)) = f :: r ∧ f ∈ fresh7 ∧ f ∉ known := by
  cases e : fresh7.filter fun t => !decide (t ∈ known) with
  | nil =>
    exfalso
    have nd : fresh7.Nodup := by decide +kernel
    have hl : fresh7.length = 7 := by decide +kernel
    have := len_le nd (m := known) fun x hx => by
      refine Classical.byContradiction fun c => ?_
      have := List.filter_eq_nil_iff.mp e x hx
      exact this (by simpa using c)
    omega
  | cons f r =>
    have hf : f ∈ fresh7.filter fun t => !decide (t ∈ known) := by rw [e]; exact List.mem_cons_self
    obtain ⟨h1, h2⟩ := List.mem_filter.mp hf
    exact ⟨f, r, rfl, h1, by simpa using h2⟩
end My

set_option linter.all false
set_option maxRecDepth 100000
set_option maxHeartbeats 4000000
/-! t[::-1], t a locked tuple -/
namespace RT
open PySem PySem.Spec PyProof.Rows
theorem places_back (n : Nat) : Builtin.Slice.slicePlaces ((n : Int) - 1) (-1) (-1) = n := by
  unfold Builtin.Slice.slicePlaces
  rw [if_neg (by decide)]
  by_cases h : n = 0
  · subst h
    rfl
  · rw [if_pos (by omega)]
    have e : ((n : Int) - 1 - -1 - 1) / (- -1) = (n : Int) - 1 := by
      have : (- -1 : Int) = 1 := by decide
      rw [this, Int.ediv_one]
      omega
    rw [e]
    omega
theorem pick_back (xs : Array Value) : ((List.range xs.size).filterMap fun (m : Nat) => xs[(((xs.size : Int) - 1) + (m : Int) * (-1)).toNat]?).toArray = xs.toList.reverse.toArray := by
  congr 1
  obtain ⟨l⟩ := xs
  show ((List.range l.length).filterMap fun (m : Nat) => l.toArray[(((l.length : Int) - 1) + (m : Int) * (-1)).toNat]?) = l.reverse
  have e : ∀ k, k ≤ l.length → ((List.range k).filterMap fun (m : Nat) => l.toArray[(((l.length : Int) - 1) + (m : Int) * (-1)).toNat]?) = l.reverse.take k := by
    intro k
    induction k with
    | zero => intro _; rfl
    | succ k ih =>
      intro hk
      rw [List.range_succ, List.filterMap_append, ih (by omega), List.take_add_one]
      congr 1
      have e1 : ((((l.length : Int) - 1) + (k : Int) * (-1)).toNat) = l.length - 1 - k := by omega
      rw [List.filterMap_cons, e1, List.getElem?_reverse (by omega)]
      have e2 : l[l.length - 1 - k]? = some l[l.length - 1 - k] := List.getElem?_eq_getElem (by omega)
      have e3 : l.toArray[l.length - 1 - k]? = some l[l.length - 1 - k] := by rw [← e2]; simp
      rw [e3, e2]
      rfl
  rw [e _ (Nat.le_refl _), ← List.length_reverse, List.take_length]
section
variable {prog : Program} {w : World} {A : Around} {E : Value → Shared → Prop} {s : Shared}
theorem applied_back {sl : Addr} {vs : Value} {n : Nat} {Q : Int × Int × Nat → Shared → Prop} (hs : s.heap.IsSliceOf sl .none .none vs) (ps : IsPart vs (some (-1)))
    (h : Q ((n : Int) - 1, -1, n) s) : wpAny (model prog w) A (Builtin.Slice.sliceApplied (.ref sl) (pure (n : Int))) Q E s := by
  obtain ⟨os, hos, hcs, hds⟩ := id hs
  unfold Builtin.Slice.sliceApplied Builtin.Slice.sliceFields
  refine wpAny_bind (wpAny_bind (wpAny_field hos hds (x := .none) rfl (wpAny_bind (wpAny_field hos hds (x := .none) rfl (wpAny_bind (wpAny_field hos hds (x := vs) rfl (wpAny_pure ?_)))))))
  refine wpAny_bind (HT.slicePart_ ps ?_)
  show wpAny _ _ (if ((-1 : Int) == 0) = true then _ else _) _ _ s
  rw [if_neg (by decide)]
  refine wpAny_bind (PyProof.Rows.slicePart_none (wpAny_bind (PyProof.Rows.slicePart_none (wpAny_bind (wpAny_pure ?_)))))
  show wpAny _ _ (pure (((n : Int) - 1), (-1 : Int), Builtin.Slice.slicePlaces ((n : Int) - 1) (-1) (-1))) _ _ s
  rw [places_back]
  exact wpAny_pure h
theorem item_back {t sl : Addr} {items : Array Value} {vs : Value} {Q : Value → Shared → Prop} (ht : IsTup s.heap t items) (hs : s.heap.IsSliceOf sl .none .none vs) (ps : IsPart vs (some (-1)))
    (h : Q (.ref s.heap.objs.size) { s with heap := s.heap.push { cls := .type "tuple", data := .seq items.toList.reverse.toArray } })
    (hsz : items.size ≤ sizeLine) : wpAny (model prog w) A (getItem (.ref t) (.ref sl)) Q E s := by
  have htake : sizeOk (.seq items.toList.reverse.toArray) := by
    show items.toList.reverse.toArray.size ≤ sizeLine
    rw [List.size_toArray, List.length_reverse, Array.length_toList]
    exact hsz
  obtain ⟨os, hos, hcs, hds⟩ := id hs
  have hTs : s.TypeIs (.ref sl) "slice" := ⟨os, hos, hcs⟩
  unfold getItem
  try with_reducible refine wpAny_holding ?_
  first | refine wpAny_bind (wpAny_pure ?_) | skip
  refine wpAny_bind (wpAny_sequenceKey ht.typeIs (by decide) ?_)
  refine wpAny_bind (wpAny_callSpecial?_slot (name := Str.ofString "__getitem__") ht.typeIs PyProof.Rows.slot_tuple_getitem
    (wpAny_call_entry PyProof.Rows.slot_tuple_getitem ht.typeIs PyProof.Rows.entry_tuple_getitem ?_ (PyProof.Rows.args_tuple_getitem _ _)))
  show wpAny _ _ (Builtin.Tuple.tupleItemsOf (.ref t) >>= _) _ _ s
  refine wpAny_bind (tupleItemsOf_ ht ?_)
  refine wpAny_bind (wpAny_typeOf hTs ?_)
  rw [if_pos (by decide)]
  refine wpAny_bind (applied_back (n := items.size) hs ps ?_)
  have hno : ¬ ((((items.size : Int) - 1) == 0 && (-1 : Int) == 1 && items.size == items.size) = true) := by
    intro q
    rw [Bool.and_eq_true, Bool.and_eq_true] at q
    exact absurd q.1.2 (by decide)
  show wpAny _ _ (if (((items.size : Int) - 1) == 0 && (-1 : Int) == 1 && items.size == items.size) = true then _ else _) _ _ s
  rw [if_neg hno, pick_back]
  first
    | exact wpAny_bind (m := Builtin.Tuple.tupleExact _) (wpAny_newObj_type (wpAny_pure ⟨_, rfl, wpAny_pure h⟩) htake)
    | exact wpAny_bind (m := Builtin.Tuple.tupleExact _) (wpAny_newObj_type (wpAny_bind (wpAny_pure (wpAny_pure ⟨_, rfl, wpAny_pure h⟩))) htake)
    | exact wpAny_bind (wpAny_bind (m := Builtin.Tuple.tupleExact _) (wpAny_newObj_type (wpAny_pure (wpAny_pure ⟨_, rfl, wpAny_pure h⟩)) htake))
    | exact wpAny_bind (wpAny_bind (m := Builtin.Tuple.tupleExact _) (wpAny_newObj_type (wpAny_pure ⟨_, rfl, wpAny_pure h⟩) htake))
end
end RT
namespace L2
open PySem PySem.Spec PyProof.Rows
section
variable {X : Cx}
def tRevTF (te : TE) : TE := fun σ H Q => te σ H fun x H1 => ∃ a xs, x = .ref a ∧ TupF H1 a xs ∧ ∀ (p : Addr) (H' : Hp), Same H1 H' → TupF H' p xs.reverse → Q (.ref p) H'
theorem pe_revTF {e : Expr} {te : TE} {k : Nat} {p1 p2 p3 pos : Pos} (he : PE X e te) : PE X (.Subscript e (.Slice none none (some (.UnaryOp .USub (.Constant (.int 1) k p1) p2)) p3) pos) (tRevTF te) := by
  refine ⟨fun pins s σ H Q I h => ?_⟩
  refine Subscript_ (thn (he.run pins s σ H _ I h) fun v s1 ⟨x, H1, I1, r1, q1⟩ => ?_)
  obtain ⟨a, xs, ex, hx, q⟩ := q1
  subst ex
  cases r1
  have hst : PO X (some (.UnaryOp .USub (.Constant (.int 1) k p1) p2)) (tPart (tUn (rU fun i => .int (-i)) (tC (.int 1)))) := po_some (pe_un un_neg pe_int)
  refine wpAny_Slice (thn (po_none.run pins s1 σ H1 (fun o H2 => o = none ∧ H2 = H1) I1 ⟨rfl, rfl⟩) fun vl s2 ⟨l, H2, I2, pl, el, e2⟩ => ?_)
  subst el e2
  refine thn (po_none.run pins s2 σ H2 (fun o H3 => o = none ∧ H3 = H2) I2 ⟨rfl, rfl⟩) fun vu s3 ⟨u, H3, I3, pu, eu, e3⟩ => ?_
  subst eu e3
  refine thn (hst.run pins s3 σ H3 (fun o H4 => o = some (-1) ∧ H4 = H3) I3 ⟨1, rfl, -1, rfl, rfl, rfl⟩) fun vs s4 ⟨o, H4, I4, ps, eo, e4⟩ => ?_
  subst eo e4
  cases pl
  cases pu
  have I5 : Inv X pins σ H4 { s4 with heap := s4.heap.push { cls := .type "slice", data := .fields #[.none, .none, vs] } } := I4.kept (t' := s4.toks) fun b ob q => Heap.get?_push_of_some _ q
  obtain ⟨its, r, ht, hz⟩ := I5.tuple hx.seq
  have hn := I5.hok.fresh (H := H4) (Nat.le_refl _)
  refine tail_any (ops := [.ref a, .ref s4.heap.objs.size]) ht.typeIs (PyProof.Rows.slot_tuple_getitem.lookup) ?_ (by with_unfolding_all rfl)
  refine RT.item_back ht (Heap.IsSliceOf.new _ .none .none vs) ps ?_ (by rw [List.size_toArray]; rw [← r.length]; omega)
  refine ⟨.ref _, _, I5.laid (t' := s4.toks) (o := .frz { cls := .type "tuple", data := .seq its.reverse.toArray } (.tup xs.reverse)) (fun b ob q => Heap.get?_push_of_some _ q) (Nat.le_refl _) ?_, rfl, q _ _ ((Same.refl H4).upd hn) ⟨_, rfl, upd_same⟩⟩
  exact ⟨Heap.get?_push_size _ rfl, by rw [List.length_reverse]; exact hz, _, r.reverse, IsTup.new _ _⟩
end
end L2

set_option linter.all false
set_option maxRecDepth 100000
set_option maxHeartbeats 4000000
/-! x in [..], x an instance with its own __eq__, the items of built-in types that decline -/
namespace OI
open PySem PySem.Spec PyProof.Rows PySem.SeqAt PySem.MeetsSeq PySem.SeqRoads2
section
variable {prog : Program} {w : World} {A : Around} {E : Value → Shared → Prop} {s : Shared} {K : PySem.W.Frag} {x C f : Addr} {ox : Obj} {od : Option Obj} {y : Value} {T id : String}
theorem rich_right {Q : Value → Shared → Prop} (hu : A.units < cLine) (X : K.In s.heap) (I : PySem.W.InstAt s.heap x ox C od) (hT : s.TypeIs y T) (hsub : PySem.W.subIn K (.ref C) (.type T) = some false) (slot : Slot T "__eq__" id)
    (hc : ∀ Q' : Value → Shared → Prop, Q' .notImplemented s → wpAny (model prog w) A (call (.builtin id) [y, .ref x]) Q' E s)
    (he : PySem.W.findIn K (.ref C) "__eq__" = some (some (.ref f))) (hf : PySem.W.isFn K (.ref f) = true)
    (h : wpAny (model prog w) A (call (.ref f) [.ref x, y]) (PySem.W.CmpBack Q) E s) : wpAny (model prog w) A (richCompare .Eq y (.ref x)) Q E s := by
  have one : wpAny (model prog w) A (tryCompare (.ref x) "__eq__" y) (fun r s' => ∃ v, r = some v ∧ Q v s') E s := by
    unfold tryCompare
    refine wpAny_bind (PySem.W.ifBound_K X I he hf (wpAny_mono h (fun v s' hv => ?_) fun _ _ e => e))
    cases v <;> first | exact hv.elim | exact wpAny_pure ⟨_, rfl, hv⟩
  unfold richCompare
  simp only [hT.oneThing_none]
  refine wpAny_holding (wpAny_bind (wpAny_cRoomFor hu ?_))
  refine wpAny_bind (wpAny_typeOf hT (wpAny_bind (I.type.here ?_)))
  have hne : (Value.type T != Value.ref C) = true := rfl
  rw [if_pos hne]
  refine wpAny_bind ((PySem.W.looks_subIn X hsub).here ?_)
  simp only [Bool.false_eq_true, if_false, Bool.not_false, if_true]
  refine wpAny_bind (m := tryCompare y _ (.ref x)) (wpAny_tryCompare_declines hT slot (hc _ ⟨rfl, ?_⟩))
  refine wpAny_bind (wpAny_mono one (fun r s' z => ?_) fun _ _ e => e)
  obtain ⟨v, rfl, hq⟩ := z
  exact wpAny_pure hq
/-- no truth, no float, not the instance -/
def Far (x : Addr) (y : Value) : Prop := y = .none ∨ (∃ i t, y = .int i t) ∨ (∃ a t, y = .str a t) ∨ ∃ l, y = .ref l ∧ l ≠ x
theorem bool_right {Q : Bool → Shared → Prop} (hf : Far x y)
    (h : wpAny (model prog w) A (richCompare .Eq y (.ref x)) (fun v s' => ∃ b, v = .bool b ∧ Q b s') E s) : wpAny (model prog w) A (eqBool y (.ref x)) Q E s := by
  have go : wpAny (model prog w) A (richCompare .Eq y (.ref x) >>= truthOfDropped) Q E s := by
    refine wpAny_bind (wpAny_mono h (fun v s' hv => ?_) fun _ _ e => e)
    obtain ⟨b, rfl, hq⟩ := hv
    exact wpAny_truthy_bool hq
  rcases hf with rfl | ⟨i, t, rfl⟩ | ⟨a, t, rfl⟩ | ⟨l, rfl, hl⟩
  · unfold eqBool
    refine wpAny_holding (wpAny_ite_split (fun hab => absurd (eq_of_beq hab) nofun) fun _ => go)
  · unfold eqBool
    refine wpAny_holding (wpAny_ite_split (fun hab => absurd (eq_of_beq hab) nofun) fun _ => go)
  · unfold eqBool
    refine wpAny_holding (wpAny_ite_split (fun hab => absurd (eq_of_beq hab) nofun) fun _ => go)
  · unfold eqBool
    refine wpAny_holding (wpAny_ite_split (fun hab => absurd (Value.ref.inj (eq_of_beq hab)) hl) fun _ => go)
/-- the loop over the items: J holds all the while -/
theorem loop {J : Shared → Prop} {l : Addr} {N : Nat} {P : Nat → Value → Prop} (hl : ∀ s, J s → ∃ items n, s.heap.get? l = some { cls := .type "list", dict := none, data := .seq items n, slots := #[] } ∧ items.size = N ∧ ∀ i y, items[i]? = some y → P i y)
    (A : Around) (R : Result → Shared → Prop) (he : ∀ (i : Nat) (y : Value), P i y → ∀ s, J s → wpAny (model prog w) A.in1 (eqBool y (.ref x)) (fun b s' => b = false ∧ J s') (fun e s' => R (.error e) s') s)
    (hR : ∀ s, J s → R (.ok (.ret (.bool false))) s) (k : Nat) : ∀ (i : Nat) (s : Shared), N - i = k → J s →
    wpAny (model prog w) A.in1 (Builtin.«list.__contains__.loop» ⟨[.ref l, .ref x, rawInt i], []⟩) (fun fin s' => match fin with | .done f => R (.ok f) s' | .again c' => c'.quiet = true ∧ codeAny (model prog w) A c' R s') (fun e s' => R (.error e) s') s := by
  induction k with
  | zero =>
    intro i s hk hJ
    obtain ⟨items, n, h1, hN, hP⟩ := hl s hJ
    have h2 := hR s hJ
    obtain ⟨hp, g, d, tk, os⟩ := s
    wp_walk using PySem.AutoSeq1.wpAny_loadPart' h1
    have hi : items[((i : Nat) : Int).toNat]? = none := by simp; omega
    rw [hi]
    wp_walk
    exact h2
  | succ k ih =>
    intro i s hk hJ
    obtain ⟨items, n, h1, hN, hP⟩ := hl s hJ
    have hlt : i < items.size := by omega
    have hi : items[((i : Nat) : Int).toNat]? = some items[i] := by simp [hlt]
    have h3 := he i items[i] (hP i _ (by simp [hlt])) s hJ
    obtain ⟨hp, g, d, tk, os⟩ := s
    wp_walk using PySem.AutoSeq1.wpAny_loadPart' h1
    rw [hi]
    refine wpAny_bind (wpAny_mono h3 (fun b s' hb => ?_) fun _ _ e => e)
    obtain ⟨rfl, hJ'⟩ := hb
    have hc : ((i : Int) + 1) = ((i + 1 : Nat) : Int) := by push_cast; rfl
    wp_walk
    rw [hc]
    exact ⟨plainId_quiet plain_contains_loop _, codeAny_builtin entry_contains_loop (by
      rw [Around.under_plainId plain_contains_loop _]
      exact ih (i + 1) s' (by omega) hJ')⟩
theorem in_own {J : Shared → Prop} {l : Addr} {N : Nat} {P : Nat → Value → Prop} {Q : Value → Shared → Prop} (hl : ∀ s, J s → ∃ items n, s.heap.get? l = some { cls := .type "list", dict := none, data := .seq items n, slots := #[] } ∧ items.size = N ∧ ∀ i y, items[i]? = some y → P i y)
    (he : ∀ (i : Nat) (y : Value), P i y → ∀ s, J s → wpAny (model prog w) A.in1 (eqBool y (.ref x)) (fun b s' => b = false ∧ J s') E s)
    (hQ : ∀ s, J s → Q (.bool false) s) (hJ : J s) : wpAny (model prog w) A (compareOp .In (.ref x) (.ref l)) Q E s := by
  obtain ⟨items0, n0, h0, _, _⟩ := hl s hJ
  have hT : s.TypeIs (.ref l) "list" := ⟨_, h0, rfl⟩
  show wpAny _ A (do return .bool (← contains (.ref l) (.ref x))) Q E s
  refine wpAny_bind (wpAny_contains_slot hT F.slot_list_contains (wpAny_mono (call_meetsIn (S := fun A' R s => A' = A ∧ R = wants (fun v s' => ∃ b, v = .bool b ∧ Q (.bool b) s') E ∧ J s) F.slot_list_contains hT F.entry_list_contains (F.args_list_contains_2 _ _) ?_ ⟨rfl, rfl, hJ⟩) (fun v s' hv => ?_) fun _ _ e => e))
  · rintro A' R s ⟨rfl, rfl, hJ⟩
    obtain ⟨items, n, h1, hN, hP⟩ := hl s hJ
    obtain ⟨hp, g, d, tk, os⟩ := s
    wp_walk using PySem.AutoSeq1.wpAny_loadPart' h1
    exact ⟨plainId_quiet plain_contains_loop _, codeAny_builtin entry_contains_loop (by
      rw [Around.under_plainId plain_contains_loop _]
      exact loop hl A' _ he (fun s hJ => ⟨false, rfl, hQ s hJ⟩) _ 0 _ rfl hJ)⟩
  · obtain ⟨b, rfl, hq⟩ := hv
    exact wpAny_truthy_bool (wpAny_pure hq)
/-! the built-in types that decline -/
theorem dec_str (b : Str) (u : Tok) (l : Addr) (o : Obj) (hd : o.data = .plain) :
    Meets (Builtin.«str.__eq__» ⟨[.str b u, .ref l], []⟩) (fun _ R s => s.heap.get? l = some o ∧ R (.ok (.ret .notImplemented)) s) := by
  obtain ⟨c, dd, da, sl⟩ := o
  cases hd
  exact .of_wp fun prog w A R s h => by obtain ⟨hp, g, d, tk, os⟩ := s; obtain ⟨hl, h⟩ := h; wp_walk using PySem.AutoSeq1.wpAny_loadPart' hl, wpAny_load hl; exact ⟨_, rfl, h⟩
theorem dec_int (b : Int) (u : Tok) (l : Addr) (o : Obj) (hd : o.data = .plain) :
    Meets (Builtin.«int.__eq__» ⟨[.int b u, .ref l], []⟩) (fun _ R s => s.heap.get? l = some o ∧ R (.ok (.ret .notImplemented)) s) := by
  obtain ⟨c, dd, da, sl⟩ := o
  cases hd
  exact .of_wp fun prog w A R s h => by obtain ⟨hp, g, d, tk, os⟩ := s; obtain ⟨hl, h⟩ := h; wp_walk using PySem.AutoSeq1.wpAny_loadPart' hl, wpAny_load hl; exact ⟨_, rfl, h⟩
theorem dec_list {prog : Program} {w : World} {A : Around} {R : Result → Shared → Prop} {s : Shared} {K : PySem.W.Frag} {x C : Addr} {ox : Obj} {od : Option Obj} (l : Addr) (X : K.In s.heap) (I : PySem.W.InstAt s.heap x ox C od) (hsub : PySem.W.subIn K (.ref C) (.type "list") = some false)
    (h : R (.ok (.ret .notImplemented)) s) : wpAny (model prog w) A.in1 (Builtin.«list.__eq__» ⟨[.ref l, .ref x], []⟩) (fun fin s' => match fin with | .done f => R (.ok f) s' | .again c' => c'.quiet = true ∧ codeAny (model prog w) A c' R s') (fun e s' => R (.error e) s') s := by
  have ht : ∀ {Q : Bool → Shared → Prop} {E : Value → Shared → Prop}, Q false s → wpAny (model prog w) A.in1 (isInstance (.ref x) (.type "list")) Q E s := fun {Q E} hq => by
    show wpAny _ _ (typeOf (.ref x) >>= fun t => isSubtype t (.type "list")) _ _ _
    exact wpAny_bind (I.type.here ((PySem.W.looks_subIn X hsub).here hq))
  obtain ⟨hp, g, d, tk, os⟩ := s
  wp_walk using ht
  exact h
end
end OI
namespace L2
open PySem PySem.Spec PyProof.Rows PySem.SeqAt
/-- what the class is beneath of: none of these -/
structure DecC (K : PySem.W.Frag) (C : Addr) : Prop where
  none : PySem.W.subIn K (.ref C) (.type "NoneType") = some false
  int : PySem.W.subIn K (.ref C) (.type "int") = some false
  str : PySem.W.subIn K (.ref C) (.type "str") = some false
  list : PySem.W.subIn K (.ref C) (.type "list") = some false
def DecV (H : Hp) (z : V) : Prop := z = .non ∨ (∃ i, z = .int i) ∨ (∃ t, z = .str t) ∨ ∃ p xs, z = .ref p ∧ H p = some (.lst xs)
def rInOwn (C : Addr) (sp : Sp) (E : XK) : R2 := fun x y H Q => ∃ a dx fs p xs, x = .ref a ∧ y = .ref p ∧ H a = some (.ins C dx fs) ∧ H p = some (.lst xs) ∧ (∀ z, z ∈ xs → DecV H z ∧ ∀ Q' : VK, Q' (.bl false) H → sp [.ref a, z] H Q' E) ∧ Q (.bl false) H
section
variable {X : Cx} {CX : CXT} {k : Nat} {f C : Addr} {fd : FuncData} {ps : List Str} {sp : Sp} {E : XK}
theorem op_inOwn (T : CmpC X.K C f) (D : DecC X.K C) (F : FnOk X.prog X.w X.K X.mg X.base CX k f fd ps sp) (hr : Room (k + 1) X.A) (hb : Binds X.K fd ps []) (hx : Passes CX X E) : OpR X (compareOp .In) (rInOwn C sp E) := by
  intro pins s σ H x y v u Q I rx ry h
  obtain ⟨a, dx, fs, p, xs, rfl, rfl, ha, hp, hz, q⟩ := h
  cases rx
  cases ry
  refine OI.in_own (J := fun s => Inv X pins σ H s) (N := xs.length) (P := fun i y => ∃ z, xs[i]? = some z ∧ RelV z y) (fun s I => ?_) (fun i y hP s I => ?_) (fun s I => ⟨.bl false, H, I, rfl, q⟩) I
  · obtain ⟨z, its, n, r, hl, e⟩ := I.lstM hp
    refine ⟨its.toArray, n, e, by rw [List.size_toArray]; exact r.length.symm, fun i y hy => ?_⟩
    have hy2 : its[i]? = some y := by simpa using hy
    have hi := (List.getElem?_eq_some_iff.mp hy2).1
    have hi2 : i < xs.length := by rw [r.length]; exact hi
    obtain ⟨w', e1, e2⟩ := Vals.get r (List.getElem?_eq_getElem hi2)
    rw [hy2] at e1
    cases e1
    exact ⟨_, List.getElem?_eq_getElem hi2, e2⟩
  · obtain ⟨z, ez, rz⟩ := hP
    obtain ⟨dec, hsp⟩ := hz z (List.mem_of_getElem? ez)
    obtain ⟨mA, J, _⟩ := ins_get I.hok ha
    obtain ⟨od, J, _⟩ := J.look
    have hu : X.A.in1.units < cLine := hr.in1.units0
    have hsq := hsp (fun v H' => v = .bl false ∧ H' = H) ⟨rfl, rfl⟩
    have hlen := F.len _ _ _ _ hsq
    have r2 : Vals [V.ref a, z] [Value.ref a, y] := .cons rfl (.cons rz .nil)
    have run : wpAny (model X.prog X.w) X.A.in1 (call (.ref f) [.ref a, y]) (PySem.W.CmpBack fun v s' => ∃ b, v = .bool b ∧ b = false ∧ Inv X pins σ H s') X.xe s := by
      refine wpAny_call (codeAny_mono (F.run X.A.in1 X.stack s H ⟨[.ref a, y], []⟩ [.ref a, y] [.ref a, z] _ E hr.in1 I.env0.in1 (by
        have := hb s [.ref a, y] I.kIn (by simpa using hlen)
        simpa using this) r2 hsq) fun r s' hq => ?_)
      cases r with
      | error e => exact hx pins σ H s e s' I hq
      | ok fl =>
        cases fl with
        | ret w' =>
          obtain ⟨z', H', I', rz', ez', eH⟩ := I.after hq
          subst ez' eH
          cases rz'
          exact ⟨false, rfl, rfl, I'⟩
        | next => exact False.elim hq
        | brk => exact False.elim hq
        | cont => exact False.elim hq
    rcases dec with rfl | ⟨i, rfl⟩ | ⟨t, rfl⟩ | ⟨l, ys, rfl, hl⟩
    · cases rz
      exact OI.bool_right (.inl rfl) (OI.rich_right hu I.kIn J rfl D.none PySem.F.slot_NoneType_eq (fun Q' hq => call_gives PySem.F.slot_NoneType_eq rfl PySem.F.entry_NoneType_eq (PySem.F.args_NoneType_eq_2 _ _) (NoneType___eq___none_ref_0 a) hq) T.eq T.fn run)
    · obtain ⟨tk, rfl⟩ := rz
      exact OI.bool_right (.inr (.inl ⟨_, _, rfl⟩)) (OI.rich_right hu I.kIn J (typeIs_int _ _ _) D.int PySem.F.slot_int_eq (fun Q' hq => call_meets PySem.F.slot_int_eq (typeIs_int _ _ _) PySem.F.entry_int_eq (PySem.F.args_int_eq_2 _ _) (OI.dec_int i tk a _ rfl) ⟨J.at_, hq⟩) T.eq T.fn run)
    · obtain ⟨tk, rfl⟩ := rz
      exact OI.bool_right (.inr (.inr (.inl ⟨_, _, rfl⟩))) (OI.rich_right hu I.kIn J (typeIs_str _ _ _) D.str PySem.F.slot_str_eq (fun Q' hq => call_meets PySem.F.slot_str_eq (typeIs_str _ _ _) PySem.F.entry_str_eq (PySem.F.args_str_eq_2 _ _) (OI.dec_str t tk a _ rfl) ⟨J.at_, hq⟩) T.eq T.fn run)
    · cases rz
      obtain ⟨z2, its, n, r, hl2, e⟩ := I.lstM hl
      have nla : l ≠ a := fun c => by subst c; rw [ha] at hl; cases hl
      have hT : s.TypeIs (.ref l) "list" := ⟨_, e, rfl⟩
      exact OI.bool_right (.inr (.inr (.inr ⟨_, rfl, nla⟩))) (OI.rich_right hu I.kIn J hT D.list PySem.F.slot_list_eq (fun Q' hq => call_meetsIn (S := fun A' R s' => s' = s ∧ R (.ok (.ret .notImplemented)) s) PySem.F.slot_list_eq hT PySem.F.entry_list_eq (PySem.F.args_list_eq_2 _ _) (fun A' R s' ⟨es, hR⟩ => by subst es; exact OI.dec_list l I.kIn J D.list hR) ⟨rfl, hq⟩) T.eq T.fn run)
end
end L2

set_option linter.all false
set_option maxRecDepth 100000
set_option maxHeartbeats 4000000
namespace L2
open PySem PySem.Spec PyProof.Rows
theorem KwN.kbn {K : PySem.W.Frag} {fd : FuncData} {ps ks : List Str} {n : Nat} (h : KwN K fd ps n ks) : KBn K fd ps n ks (fun us ws => us ++ ws) (fun vs zs => vs ++ zs) := ⟨h.to, fun r1 r2 => r1.append r2⟩
open PySem PySem.Spec PyProof.Rows
section
variable {X : Cx} {CX : CXT} {k : Nat} {g C : Addr} {fd : FuncData} {sp : Sp} {E : XK}
/-- str(o), o an instance whose class has its own __str__ -/
def rStrOwn (C : Addr) (sp : Sp) (E : XK) : List V → Hp → VK → Prop := fun xs H Q => ∃ a dx fs, xs = [V.ref a] ∧ H a = some (.ins C dx fs) ∧ sp [.ref a] H (fun v H' => ∃ t : Str, v = .str t ∧ Q (.str t) H') E
theorem call_strOwn (hm : Meth X.K C "__str__" g) (F : FnOk X.prog X.w X.K X.mg X.base CX k g fd ["self"] sp) (hr : Room (k + 2) X.A) (hb : Binds X.K fd ["self"] []) (hx : Passes CX X E) : CallR X (.type "str") (rStrOwn C sp E) := by
  intro pins s σ H xs us Q I r h
  obtain ⟨a, dx, fs, rfl, ha, q⟩ := h
  obtain ⟨u, rfl, ru⟩ := r.one
  cases (show u = Value.ref a from ru)
  obtain ⟨mA, J, _⟩ := ins_get I.hok ha
  obtain ⟨od, J, _⟩ := J.look
  have hr2 : Room k X.A.in1.in1 := hr.in1.in1
  have r2 : Vals [V.ref a] [Value.ref a] := .cons (show RelV (.ref a) (.ref a) from rfl) .nil
  refine PySem.W.kso_call hr2.units0 I.kIn J hm.at_ hm.fn (wpAny_call ?_)
  refine codeAny_mono (F.run X.A.in1.in1 X.stack s H ⟨[.ref a], []⟩ [.ref a] [.ref a] _ E hr2 I.env0.in1.in1 (hb s [.ref a] I.kIn rfl) r2 q) fun r s' hq => ?_
  cases r with
  | error e => exact hx pins σ H s e s' I hq
  | ok fl =>
    cases fl with
    | ret u =>
      obtain ⟨z, H', I', rz, t, rfl, qz⟩ := I.after hq
      obtain ⟨tk, rfl⟩ := rz
      exact ⟨.str t, H', I', ⟨_, rfl⟩, qz⟩
    | next => exact False.elim hq
    | brk => exact False.elim hq
    | cont => exact False.elim hq
end
end L2

set_option Elab.async false
set_option linter.all false
set_option maxRecDepth 100000
set_option maxHeartbeats 4000000
namespace Lw
open PySem L2
local macro_rules | `(tactic| walk_at "hp") => `(tactic| (repeat (first | exact upd_same | assumption | (refine (upd_ne (by first | assumption | exact Ne.symm (by assumption) | exact ne_of_none (by assumption) (by assumption) | exact Ne.symm (ne_of_none (by assumption) (by assumption)))).trans ?_))))
local macro_rules | `(tactic| walk_at "r1") => `(tactic| (first
  | (refine ⟨_, rfl, ?_⟩) | (refine ⟨_, _, rfl, rfl, ?_⟩) | (refine ⟨_, _, _, _, rfl, rfl, SqL.of (by walk_at "hp"), rfl, ?_⟩) | (refine ⟨_, _, _, _, rfl, rfl, (by walk_at "hp"), rfl, ?_⟩) | (refine ⟨rfl, ?_⟩)
  | (refine ⟨_, .inl ⟨_, SqL.of (by walk_at "hp"), rfl⟩, ?_⟩) | (refine ⟨_, _, rfl, .inl (SqL.of (by walk_at "hp")), ?_⟩) | (refine ⟨.inl ⟨rfl, _, SqL.of (by walk_at "hp")⟩, ?_⟩)
  | (refine ⟨_, _, _, _, _, rfl, (by walk_at "hp"), (by assumption), (by assumption), (by assumption), ?_⟩) | (refine ⟨_, _, _, _, rfl, (by walk_at "hp"), (by assumption), (by assumption), (by first | (show 0 < 1000; decide) | (show 1 < 1000; decide) | (show 2 < 1000; decide) | (show 3 < 1000; decide) | (show 4 < 1000; decide)), ?_⟩)
  | (refine ⟨(by show (0 : Int) < _; first | decide | omega), ?_⟩) | (refine ⟨⟨by assumption, by assumption⟩, ?_⟩) | (refine ⟨.inl ⟨by decide, by decide⟩, ?_⟩) | (refine ⟨.inr ⟨by decide, by decide⟩, ?_⟩)))
local macro_rules | `(tactic| walk_at "rd") => `(tactic| (repeat walk_at "r1"))
def top (i : Nat) : Stmt := PySem.Challenge.pw_pactford_k02_pacts_told.main.body.getD i (.Pass ⟨0, 0, 0, 0⟩)
abbrev s_NoHelper_init : Stmt := inClass (top 4) 0
theorem sc_NoHelper_init : FnScope ["self", "name"] ["self", "name"] (defScope s_NoHelper_init) := ⟨rfl, rfl, rfl, by decide +kernel, rfl, by decide +kernel, by decide +kernel⟩
abbrev s_is_whole : Stmt := top 7
theorem sc_is_whole : FnScope ["thing"] ["thing"] (defScope s_is_whole) := ⟨rfl, rfl, rfl, by decide +kernel, rfl, by decide +kernel, by decide +kernel⟩
abbrev s_is_side : Stmt := top 8
theorem sc_is_side : FnScope ["thing"] ["thing"] (defScope s_is_side) := ⟨rfl, rfl, rfl, by decide +kernel, rfl, by decide +kernel, by decide +kernel⟩
abbrev s_is_name : Stmt := top 9
theorem sc_is_name : FnScope ["thing", "sign"] ["thing"] (defScope s_is_name) := ⟨rfl, rfl, rfl, by decide +kernel, rfl, by decide +kernel, by decide +kernel⟩
abbrev s_Pacts_init : Stmt := inClass (top 16) 0
theorem sc_Pacts_init : FnScope ["self", "pairs", "helpers", "pair", "pact"] ["self", "pairs", "helpers"] (defScope s_Pacts_init) := ⟨rfl, rfl, rfl, by decide +kernel, rfl, by decide +kernel, by decide +kernel⟩
abbrev s_Pacts_pairs : Stmt := inClass (top 16) 1
theorem sc_Pacts_pairs : FnScope ["self"] ["self"] (defScope s_Pacts_pairs) := ⟨rfl, rfl, rfl, by decide +kernel, rfl, by decide +kernel, by decide +kernel⟩
abbrev s_Pacts_names : Stmt := inClass (top 16) 2
theorem sc_Pacts_names : FnScope ["self", "side", "pact"] ["self", "side"] (defScope s_Pacts_names) := ⟨rfl, rfl, rfl, by decide +kernel, rfl, by decide +kernel, by decide +kernel⟩
abbrev s_Pacts_pact : Stmt := inClass (top 16) 3
theorem sc_Pacts_pact : FnScope ["self", "name", "pact"] ["self", "name"] (defScope s_Pacts_pact) := ⟨rfl, rfl, rfl, by decide +kernel, rfl, by decide +kernel, by decide +kernel⟩
abbrev s_Pacts_laden : Stmt := inClass (top 16) 4
theorem sc_Pacts_laden : FnScope ["self", "word", "side"] ["self", "word", "side"] (defScope s_Pacts_laden) := ⟨rfl, rfl, rfl, by decide +kernel, rfl, by decide +kernel, by decide +kernel⟩
abbrev s_Pacts_over : Stmt := inClass (top 16) 5
theorem sc_Pacts_over : FnScope ["self", "word", "side"] ["self", "word", "side"] (defScope s_Pacts_over) := ⟨rfl, rfl, rfl, by decide +kernel, rfl, by decide +kernel, by decide +kernel⟩
abbrev s_Pacts_p_pair : Stmt := inClass (top 16) 6
theorem sc_Pacts_p_pair : FnScope ["self", "word", "side", "pair"] ["self", "word", "side"] (defScope s_Pacts_p_pair) := ⟨rfl, rfl, rfl, by decide +kernel, rfl, by decide +kernel, by decide +kernel⟩
abbrev s_Pacts_errors : Stmt := inClass (top 16) 7
theorem sc_Pacts_errors : FnScope ["self", "name", "side", "_", "own", "throws", "word"] ["self", "name", "side"] (defScope s_Pacts_errors) := ⟨rfl, rfl, rfl, by decide +kernel, rfl, by decide +kernel, by decide +kernel⟩
abbrev s_Pacts_len : Stmt := inClass (top 16) 8
theorem sc_Pacts_len : FnScope ["self"] ["self"] (defScope s_Pacts_len) := ⟨rfl, rfl, rfl, by decide +kernel, rfl, by decide +kernel, by decide +kernel⟩
abbrev s_p_is_pair : Stmt := top 17
theorem sc_p_is_pair : FnScope ["pair", "near", "far", "laden"] ["pair"] (defScope s_p_is_pair) := ⟨rfl, rfl, rfl, by decide +kernel, rfl, by decide +kernel, by decide +kernel⟩
abbrev s_p_fits_pairs : Stmt := top 18
theorem sc_p_fits_pairs : FnScope ["pair", "ahead", "nears", "fars", "one"] ["pair", "ahead"] (defScope s_p_fits_pairs) := ⟨rfl, rfl, rfl, by decide +kernel, rfl, by decide +kernel, by decide +kernel⟩
abbrev s_p_is_pact : Stmt := top 19
theorem sc_p_is_pact : FnScope ["pact", "name", "side", "takes", "gives", "throws"] ["pact"] (defScope s_p_is_pact) := ⟨rfl, rfl, rfl, by decide +kernel, rfl, by decide +kernel, by decide +kernel⟩
abbrev s_p_are_takes : Stmt := top 20
theorem sc_p_are_takes : FnScope ["takes", "take"] ["takes"] (defScope s_p_are_takes) := ⟨rfl, rfl, rfl, by decide +kernel, rfl, by decide +kernel, by decide +kernel⟩
abbrev s_p_are_throws : Stmt := top 21
theorem sc_p_are_throws : FnScope ["throws", "word"] ["throws"] (defScope s_p_are_throws) := ⟨rfl, rfl, rfl, by decide +kernel, rfl, by decide +kernel, by decide +kernel⟩
abbrev s_p_fits_helpers : Stmt := top 22
theorem sc_p_fits_helpers : FnScope ["pact", "pairs", "ahead", "name", "side", "_", "throws", "fellows", "words", "one", "pair", "word"] ["pact", "pairs", "ahead"] (defScope s_p_fits_helpers) := ⟨rfl, rfl, rfl, by decide +kernel, rfl, by decide +kernel, by decide +kernel⟩
abbrev s_box : Stmt := top 26
theorem sc_box : FnScope ["_law_script", "_law_great", "_law_cell"] ["_law_script"] (defScope s_box) := ⟨rfl, rfl, rfl, by decide +kernel, rfl, by decide +kernel, by decide +kernel⟩
abbrev s_mixed : Stmt := top 27
theorem sc_mixed : FnScope ["_law_cell", "_law_k", "_law_whole"] ["_law_cell", "_law_k"] (defScope s_mixed) := ⟨rfl, rfl, rfl, by decide +kernel, rfl, by decide +kernel, by decide +kernel⟩
abbrev s_take : Stmt := top 28
theorem sc_take : FnScope ["_law_box_here", "_law_size", "_law_found", "_law_cell", "_law_reach"] ["_law_box_here", "_law_size"] (defScope s_take) := ⟨rfl, rfl, rfl, by decide +kernel, rfl, by decide +kernel, by decide +kernel⟩
abbrev s_name : Stmt := top 29
theorem sc_name : FnScope ["_law_box_here", "_law_many", "_law_k"] ["_law_box_here"] (defScope s_name) := ⟨rfl, rfl, rfl, by decide +kernel, rfl, by decide +kernel, by decide +kernel⟩
abbrev s_names : Stmt := top 30
theorem sc_names : FnScope ["_law_box_here", "_law_many", "_law_found", "_law_k", "_law_who", "_law_spare"] ["_law_box_here", "_law_many"] (defScope s_names) := ⟨rfl, rfl, rfl, by decide +kernel, rfl, by decide +kernel, by decide +kernel⟩
abbrev s_pairs : Stmt := top 31
theorem sc_pairs : FnScope ["_law_box_here", "_law_most", "_law_nears", "_law_fars", "_law_near", "_law_far"] ["_law_box_here", "_law_most"] (defScope s_pairs) := ⟨rfl, rfl, rfl, by decide +kernel, rfl, by decide +kernel, by decide +kernel⟩
abbrev s_some : Stmt := top 32
theorem sc_some : FnScope ["_law_box_here", "_law_things", "_law_most", "_law_pool", "_law_k"] ["_law_box_here", "_law_things", "_law_most"] (defScope s_some) := ⟨rfl, rfl, rfl, by decide +kernel, rfl, by decide +kernel, by decide +kernel⟩
abbrev s_helpers : Stmt := top 33
theorem sc_helpers : FnScope ["_law_box_here", "_law_pairs_here", "_law_names_here", "_law_counts", "_law_found", "_law_team", "_law_k", "_law_takes", "_law_throws", "_law_helper", "_law_j", "_law_pair"] ["_law_box_here", "_law_pairs_here"] (defScope s_helpers) := ⟨rfl, rfl, rfl, by decide +kernel, rfl, by decide +kernel, by decide +kernel⟩
abbrev s_crossed : Stmt := top 34
theorem sc_crossed : FnScope ["_law_pairs_here", "_law_helper", "_law_team", "_law_found", "_law_word", "_law_pair"] ["_law_pairs_here", "_law_helper", "_law_team"] (defScope s_crossed) := ⟨rfl, rfl, rfl, by decide +kernel, rfl, by decide +kernel, by decide +kernel⟩
abbrev s_told : Stmt := top 35
theorem sc_told : FnScope ["_law_pacts", "_law_pairs_here", "_law_crew", "_law_team", "_law_helper"] ["_law_pacts", "_law_pairs_here", "_law_crew"] (defScope s_told) := ⟨rfl, rfl, rfl, by decide +kernel, rfl, by decide +kernel, by decide +kernel⟩
abbrev s_refused : Stmt := top 36
theorem sc_refused : FnScope ["_law_pacts", "_law_who", "_law_seen", "e"] ["_law_pacts", "_law_who"] (defScope s_refused) := ⟨rfl, rfl, rfl, by decide +kernel, rfl, by decide +kernel, by decide +kernel⟩
abbrev s_Pacts_eq : Stmt := inClass (top 16) 9
theorem sc_Pacts_eq : FnScope ["self", "other"] ["self", "other"] (defScope s_Pacts_eq) := ⟨rfl, rfl, rfl, by decide +kernel, rfl, by decide +kernel, by decide +kernel⟩
abbrev s_Pacts_str : Stmt := inClass (top 16) 10
theorem sc_Pacts_str : FnScope ["self", "words", "helpers", "pair", "pact"] ["self"] (defScope s_Pacts_str) := ⟨rfl, rfl, rfl, by decide +kernel, rfl, by decide +kernel, by decide +kernel⟩
abbrev s_p_pair_line : Stmt := top 23
theorem sc_p_pair_line : FnScope ["pair", "near", "far", "laden"] ["pair"] (defScope s_p_pair_line) := ⟨rfl, rfl, rfl, by decide +kernel, rfl, by decide +kernel, by decide +kernel⟩
abbrev s_p_helper_line : Stmt := top 24
theorem sc_p_helper_line : FnScope ["pact", "name", "side", "takes", "gives", "throws", "back", "thrown"] ["pact"] (defScope s_p_helper_line) := ⟨rfl, rfl, rfl, by decide +kernel, rfl, by decide +kernel, by decide +kernel⟩
abbrev s_row_otherwise : Stmt := top 37
theorem sc_row_otherwise : FnScope ["_law_box_here", "_law_helper", "_law_who", "_law_team", "_law_takes", "_law_gives", "_law_throws", "_law_way", "_law_at", "_law_how"] ["_law_box_here", "_law_helper"] (defScope s_row_otherwise) := ⟨rfl, rfl, rfl, by decide +kernel, rfl, by decide +kernel, by decide +kernel⟩
abbrev s_pair_otherwise : Stmt := top 38
theorem sc_pair_otherwise : FnScope ["_law_box_here", "_law_pairs_here", "_law_crew", "_law_at", "_law_way", "_law_near", "_law_far", "_law_laden", "_law_known", "_law_fresh", "_law_found", "_law_who", "_law_team", "_law_takes", "_law_gives", "_law_throws", "_law_pair", "_law_one"] ["_law_box_here", "_law_pairs_here", "_law_crew"] (defScope s_pair_otherwise) := ⟨rfl, rfl, rfl, by decide +kernel, rfl, by decide +kernel, by decide +kernel⟩
abbrev s_otherwise : Stmt := top 39
theorem sc_otherwise : FnScope ["_law_box_here", "_law_pairs_here", "_law_crew", "_law_way", "_law_at"] ["_law_box_here", "_law_pairs_here", "_law_crew"] (defScope s_otherwise) := ⟨rfl, rfl, rfl, by decide +kernel, rfl, by decide +kernel, by decide +kernel⟩
abbrev s_law : Stmt := top 40
theorem sc_law : FnScope ["_law_script", "_law_box_here", "_law_pairs_here", "_law_crew", "_law_mine", "_law_pacts", "_law_who", "_law_helper", "_law_same", "_law_lists", "_law_other", "_law_pair"] ["_law_script"] (defScope s_law) := ⟨rfl, rfl, rfl, by decide +kernel, rfl, by decide +kernel, by decide +kernel⟩
/-- the addresses -/
structure Ad where
  c_Pacts : Addr
  c_NoHelper : Addr
  c_PactError : Addr
  c_NoWord : Addr
  t_LONGEST_NAME : Tok
  t_MOST_PAIRS : Tok
  t_MOST_HELPERS : Tok
  t_MOST_TAKES : Tok
  t_MOST_THROWS : Tok
  t_TAKES : Addr
  f_NoHelper_init : Addr
  d_NoHelper_init : FuncData
  f_is_whole : Addr
  d_is_whole : FuncData
  f_is_side : Addr
  d_is_side : FuncData
  f_is_name : Addr
  d_is_name : FuncData
  f_Pacts_init : Addr
  d_Pacts_init : FuncData
  f_Pacts_pairs : Addr
  d_Pacts_pairs : FuncData
  f_Pacts_names : Addr
  d_Pacts_names : FuncData
  f_Pacts_pact : Addr
  d_Pacts_pact : FuncData
  f_Pacts_laden : Addr
  d_Pacts_laden : FuncData
  f_Pacts_over : Addr
  d_Pacts_over : FuncData
  f_Pacts_p_pair : Addr
  d_Pacts_p_pair : FuncData
  f_Pacts_errors : Addr
  d_Pacts_errors : FuncData
  f_Pacts_len : Addr
  d_Pacts_len : FuncData
  f_p_is_pair : Addr
  d_p_is_pair : FuncData
  f_p_fits_pairs : Addr
  d_p_fits_pairs : FuncData
  f_p_is_pact : Addr
  d_p_is_pact : FuncData
  f_p_are_takes : Addr
  d_p_are_takes : FuncData
  f_p_are_throws : Addr
  d_p_are_throws : FuncData
  f_p_fits_helpers : Addr
  d_p_fits_helpers : FuncData
  f_box : Addr
  d_box : FuncData
  f_mixed : Addr
  d_mixed : FuncData
  f_take : Addr
  d_take : FuncData
  f_name : Addr
  d_name : FuncData
  f_names : Addr
  d_names : FuncData
  f_pairs : Addr
  d_pairs : FuncData
  f_some : Addr
  d_some : FuncData
  f_helpers : Addr
  d_helpers : FuncData
  f_crossed : Addr
  d_crossed : FuncData
  f_told : Addr
  d_told : FuncData
  f_refused : Addr
  d_refused : FuncData
  f_Pacts_eq : Addr
  d_Pacts_eq : FuncData
  f_Pacts_str : Addr
  d_Pacts_str : FuncData
  f_p_pair_line : Addr
  d_p_pair_line : FuncData
  f_p_helper_line : Addr
  d_p_helper_line : FuncData
  f_row_otherwise : Addr
  d_row_otherwise : FuncData
  f_pair_otherwise : Addr
  d_pair_otherwise : FuncData
  f_otherwise : Addr
  d_otherwise : FuncData
  f_law : Addr
  d_law : FuncData
/-- what the top has written -/
structure Txt (K : PySem.W.Frag) (mg : Str → Option Value) (a : Ad) : Prop where
  cl_Pacts : Cls K a.c_Pacts
  mk_Pacts : Mk K a.c_Pacts a.f_Pacts_init
  g_Pacts : mg "Pacts" = some (.ref a.c_Pacts)
  n_Pacts__pairs : NoAttr K a.c_Pacts "_pairs"
  n_Pacts__helpers : NoAttr K a.c_Pacts "_helpers"
  x_NoHelper : OexC K a.c_NoHelper
  xi_NoHelper : PySem.W.findIn K (.ref a.c_NoHelper) "__init__" = some (some (.ref a.f_NoHelper_init))
  xt_NoHelper : PySem.W.typeIn K (.ref a.f_NoHelper_init) = some (.type "function")
  xf_NoHelper : XfC K a.c_NoHelper
  g_NoHelper : mg "NoHelper" = some (.ref a.c_NoHelper)
  n_NoHelper_name : PySem.W.findIn K (.ref a.c_NoHelper) "name" = some none
  md_PactError : MidC K a.c_PactError
  g_PactError : mg "PactError" = some (.ref a.c_PactError)
  g_NoWord : mg "NoWord" = some (.ref a.c_NoWord)
  fa_NoHelper : PySem.W.findIn K (.ref a.c_NoHelper) "__class__" = some (some (.builtin "object.__class__"))
  fm_NoHelper : PySem.W.mroIn K a.c_NoHelper (.type "object") = some true
  fs_NoHelper : PySem.W.kitOne K (.ref a.c_NoHelper) (.ref a.c_NoHelper) = some true
  fv_NoHelper : PySem.W.kitOne K (.ref a.c_NoHelper) (.type "ValueError") = some true
  fx_NoHelper : PySem.W.kitOne K (.ref a.c_NoHelper) (.ref a.c_NoWord) = some false
  fe_NoHelper : PySem.W.exmOne K (.ref a.c_NoHelper) (.ref a.c_PactError) = some true
  fg : PySem.W.specialIn K (.builtin "object.__class__") "__get__" = some (some (.builtin "getset_descriptor.__get__"))
  ft : PySem.W.takesIn K (.builtin "object.__class__") = some true
  pn_1 : PySem.W.findIn K (.ref a.c_Pacts) "__ne__" = some (some (.builtin "object.__ne__"))
  pn_2 : PySem.W.mroIn K a.c_Pacts (.type "object") = some true
  pn_3 : PySem.W.subIn K (.ref a.c_Pacts) (.type "NoneType") = some false
  pn_4 : PySem.W.subIn K (.ref a.c_Pacts) (.type "int") = some false
  pn_5 : PySem.W.subIn K (.ref a.c_Pacts) (.type "str") = some false
  pn_6 : PySem.W.subIn K (.ref a.c_Pacts) (.type "list") = some false
  pn_7 : PySem.W.findIn K (.ref a.c_Pacts) "__class__" = some (some (.builtin "object.__class__"))
  pn_8 : PySem.W.kitOne K (.ref a.c_Pacts) (.ref a.c_Pacts) = some true
  pn_9 : PySem.W.kitOne K (.type "NoneType") (.ref a.c_Pacts) = some false
  pn_10 : PySem.W.kitOne K (.type "int") (.ref a.c_Pacts) = some false
  pn_11 : PySem.W.kitOne K (.type "str") (.ref a.c_Pacts) = some false
  pn_12 : PySem.W.kitOne K (.type "list") (.ref a.c_Pacts) = some false
  F_NoHelper_init : Fun K "__init__" "NoHelper.__init__" s_NoHelper_init a.f_NoHelper_init a.d_NoHelper_init
  B_NoHelper_init : Binds K a.d_NoHelper_init ["self", "name"] []
  F_is_whole : Fun K "is_whole" "is_whole" s_is_whole a.f_is_whole a.d_is_whole
  B_is_whole : Binds K a.d_is_whole ["thing"] []
  g_is_whole : mg "is_whole" = some (.ref a.f_is_whole)
  k_is_whole : PySem.W.keepIn K (.ref a.f_is_whole) = true
  F_is_side : Fun K "is_side" "is_side" s_is_side a.f_is_side a.d_is_side
  B_is_side : Binds K a.d_is_side ["thing"] []
  g_is_side : mg "is_side" = some (.ref a.f_is_side)
  k_is_side : PySem.W.keepIn K (.ref a.f_is_side) = true
  F_is_name : Fun K "is_name" "is_name" s_is_name a.f_is_name a.d_is_name
  B_is_name : Binds K a.d_is_name ["thing"] []
  g_is_name : mg "is_name" = some (.ref a.f_is_name)
  k_is_name : PySem.W.keepIn K (.ref a.f_is_name) = true
  F_Pacts_init : Fun K "__init__" "Pacts.__init__" s_Pacts_init a.f_Pacts_init a.d_Pacts_init
  B_Pacts_init : Binds K a.d_Pacts_init ["self", "pairs", "helpers"] []
  F_Pacts_pairs : Fun K "pairs" "Pacts.pairs" s_Pacts_pairs a.f_Pacts_pairs a.d_Pacts_pairs
  B_Pacts_pairs : Binds K a.d_Pacts_pairs ["self"] []
  m_Pacts_pairs : Meth K a.c_Pacts "pairs" a.f_Pacts_pairs
  F_Pacts_names : Fun K "names" "Pacts.names" s_Pacts_names a.f_Pacts_names a.d_Pacts_names
  B_Pacts_names : Binds K a.d_Pacts_names ["self", "side"] []
  m_Pacts_names : Meth K a.c_Pacts "names" a.f_Pacts_names
  F_Pacts_pact : Fun K "pact" "Pacts.pact" s_Pacts_pact a.f_Pacts_pact a.d_Pacts_pact
  B_Pacts_pact : Binds K a.d_Pacts_pact ["self", "name"] []
  m_Pacts_pact : Meth K a.c_Pacts "pact" a.f_Pacts_pact
  F_Pacts_laden : Fun K "laden" "Pacts.laden" s_Pacts_laden a.f_Pacts_laden a.d_Pacts_laden
  m_Pacts_laden : Meth K a.c_Pacts "laden" a.f_Pacts_laden
  F_Pacts_over : Fun K "over" "Pacts.over" s_Pacts_over a.f_Pacts_over a.d_Pacts_over
  m_Pacts_over : Meth K a.c_Pacts "over" a.f_Pacts_over
  F_Pacts_p_pair : Fun K "_pair" "Pacts._pair" s_Pacts_p_pair a.f_Pacts_p_pair a.d_Pacts_p_pair
  B_Pacts_p_pair : Binds K a.d_Pacts_p_pair ["self", "word", "side"] []
  m_Pacts_p_pair : Meth K a.c_Pacts "_pair" a.f_Pacts_p_pair
  F_Pacts_errors : Fun K "errors" "Pacts.errors" s_Pacts_errors a.f_Pacts_errors a.d_Pacts_errors
  m_Pacts_errors : Meth K a.c_Pacts "errors" a.f_Pacts_errors
  F_Pacts_len : Fun K "__len__" "Pacts.__len__" s_Pacts_len a.f_Pacts_len a.d_Pacts_len
  B_Pacts_len : Binds K a.d_Pacts_len ["self"] []
  m_Pacts_len : Meth K a.c_Pacts "__len__" a.f_Pacts_len
  F_p_is_pair : Fun K "_is_pair" "_is_pair" s_p_is_pair a.f_p_is_pair a.d_p_is_pair
  B_p_is_pair : Binds K a.d_p_is_pair ["pair"] []
  g_p_is_pair : mg "_is_pair" = some (.ref a.f_p_is_pair)
  k_p_is_pair : PySem.W.keepIn K (.ref a.f_p_is_pair) = true
  F_p_fits_pairs : Fun K "_fits_pairs" "_fits_pairs" s_p_fits_pairs a.f_p_fits_pairs a.d_p_fits_pairs
  B_p_fits_pairs : Binds K a.d_p_fits_pairs ["pair", "ahead"] []
  g_p_fits_pairs : mg "_fits_pairs" = some (.ref a.f_p_fits_pairs)
  k_p_fits_pairs : PySem.W.keepIn K (.ref a.f_p_fits_pairs) = true
  F_p_is_pact : Fun K "_is_pact" "_is_pact" s_p_is_pact a.f_p_is_pact a.d_p_is_pact
  B_p_is_pact : Binds K a.d_p_is_pact ["pact"] []
  g_p_is_pact : mg "_is_pact" = some (.ref a.f_p_is_pact)
  k_p_is_pact : PySem.W.keepIn K (.ref a.f_p_is_pact) = true
  F_p_are_takes : Fun K "_are_takes" "_are_takes" s_p_are_takes a.f_p_are_takes a.d_p_are_takes
  B_p_are_takes : Binds K a.d_p_are_takes ["takes"] []
  g_p_are_takes : mg "_are_takes" = some (.ref a.f_p_are_takes)
  k_p_are_takes : PySem.W.keepIn K (.ref a.f_p_are_takes) = true
  F_p_are_throws : Fun K "_are_throws" "_are_throws" s_p_are_throws a.f_p_are_throws a.d_p_are_throws
  B_p_are_throws : Binds K a.d_p_are_throws ["throws"] []
  g_p_are_throws : mg "_are_throws" = some (.ref a.f_p_are_throws)
  k_p_are_throws : PySem.W.keepIn K (.ref a.f_p_are_throws) = true
  F_p_fits_helpers : Fun K "_fits_helpers" "_fits_helpers" s_p_fits_helpers a.f_p_fits_helpers a.d_p_fits_helpers
  B_p_fits_helpers : Binds K a.d_p_fits_helpers ["pact", "pairs", "ahead"] []
  g_p_fits_helpers : mg "_fits_helpers" = some (.ref a.f_p_fits_helpers)
  k_p_fits_helpers : PySem.W.keepIn K (.ref a.f_p_fits_helpers) = true
  F_box : Fun K "_law_box" "_law_box" s_box a.f_box a.d_box
  B_box : Binds K a.d_box ["_law_script"] []
  g_box : mg "_law_box" = some (.ref a.f_box)
  k_box : PySem.W.keepIn K (.ref a.f_box) = true
  F_mixed : Fun K "_law_mixed" "_law_mixed" s_mixed a.f_mixed a.d_mixed
  B_mixed : Binds K a.d_mixed ["_law_cell", "_law_k"] []
  g_mixed : mg "_law_mixed" = some (.ref a.f_mixed)
  k_mixed : PySem.W.keepIn K (.ref a.f_mixed) = true
  F_take : Fun K "_law_take" "_law_take" s_take a.f_take a.d_take
  B_take : Binds K a.d_take ["_law_box_here", "_law_size"] []
  g_take : mg "_law_take" = some (.ref a.f_take)
  k_take : PySem.W.keepIn K (.ref a.f_take) = true
  F_name : Fun K "_law_name" "_law_name" s_name a.f_name a.d_name
  B_name : Binds K a.d_name ["_law_box_here"] []
  g_name : mg "_law_name" = some (.ref a.f_name)
  k_name : PySem.W.keepIn K (.ref a.f_name) = true
  F_names : Fun K "_law_names" "_law_names" s_names a.f_names a.d_names
  B_names : Binds K a.d_names ["_law_box_here", "_law_many"] []
  g_names : mg "_law_names" = some (.ref a.f_names)
  k_names : PySem.W.keepIn K (.ref a.f_names) = true
  F_pairs : Fun K "_law_pairs" "_law_pairs" s_pairs a.f_pairs a.d_pairs
  B_pairs : Binds K a.d_pairs ["_law_box_here", "_law_most"] []
  g_pairs : mg "_law_pairs" = some (.ref a.f_pairs)
  k_pairs : PySem.W.keepIn K (.ref a.f_pairs) = true
  F_some : Fun K "_law_some" "_law_some" s_some a.f_some a.d_some
  B_some : Binds K a.d_some ["_law_box_here", "_law_things", "_law_most"] []
  g_some : mg "_law_some" = some (.ref a.f_some)
  k_some : PySem.W.keepIn K (.ref a.f_some) = true
  F_helpers : Fun K "_law_helpers" "_law_helpers" s_helpers a.f_helpers a.d_helpers
  B_helpers : Binds K a.d_helpers ["_law_box_here", "_law_pairs_here"] []
  g_helpers : mg "_law_helpers" = some (.ref a.f_helpers)
  k_helpers : PySem.W.keepIn K (.ref a.f_helpers) = true
  F_crossed : Fun K "_law_crossed" "_law_crossed" s_crossed a.f_crossed a.d_crossed
  B_crossed : Binds K a.d_crossed ["_law_pairs_here", "_law_helper", "_law_team"] []
  g_crossed : mg "_law_crossed" = some (.ref a.f_crossed)
  k_crossed : PySem.W.keepIn K (.ref a.f_crossed) = true
  F_told : Fun K "_law_told" "_law_told" s_told a.f_told a.d_told
  B_told : Binds K a.d_told ["_law_pacts", "_law_pairs_here", "_law_crew"] []
  g_told : mg "_law_told" = some (.ref a.f_told)
  k_told : PySem.W.keepIn K (.ref a.f_told) = true
  F_refused : Fun K "_law_refused" "_law_refused" s_refused a.f_refused a.d_refused
  B_refused : Binds K a.d_refused ["_law_pacts", "_law_who"] []
  g_refused : mg "_law_refused" = some (.ref a.f_refused)
  k_refused : PySem.W.keepIn K (.ref a.f_refused) = true
  F_Pacts_eq : Fun K "__eq__" "Pacts.__eq__" s_Pacts_eq a.f_Pacts_eq a.d_Pacts_eq
  B_Pacts_eq : Binds K a.d_Pacts_eq ["self", "other"] []
  m_Pacts_eq : Meth K a.c_Pacts "__eq__" a.f_Pacts_eq
  F_Pacts_str : Fun K "__str__" "Pacts.__str__" s_Pacts_str a.f_Pacts_str a.d_Pacts_str
  B_Pacts_str : Binds K a.d_Pacts_str ["self"] []
  m_Pacts_str : Meth K a.c_Pacts "__str__" a.f_Pacts_str
  F_p_pair_line : Fun K "_pair_line" "_pair_line" s_p_pair_line a.f_p_pair_line a.d_p_pair_line
  B_p_pair_line : Binds K a.d_p_pair_line ["pair"] []
  g_p_pair_line : mg "_pair_line" = some (.ref a.f_p_pair_line)
  k_p_pair_line : PySem.W.keepIn K (.ref a.f_p_pair_line) = true
  F_p_helper_line : Fun K "_helper_line" "_helper_line" s_p_helper_line a.f_p_helper_line a.d_p_helper_line
  B_p_helper_line : Binds K a.d_p_helper_line ["pact"] []
  g_p_helper_line : mg "_helper_line" = some (.ref a.f_p_helper_line)
  k_p_helper_line : PySem.W.keepIn K (.ref a.f_p_helper_line) = true
  F_row_otherwise : Fun K "_law_row_otherwise" "_law_row_otherwise" s_row_otherwise a.f_row_otherwise a.d_row_otherwise
  B_row_otherwise : Binds K a.d_row_otherwise ["_law_box_here", "_law_helper"] []
  g_row_otherwise : mg "_law_row_otherwise" = some (.ref a.f_row_otherwise)
  k_row_otherwise : PySem.W.keepIn K (.ref a.f_row_otherwise) = true
  F_pair_otherwise : Fun K "_law_pair_otherwise" "_law_pair_otherwise" s_pair_otherwise a.f_pair_otherwise a.d_pair_otherwise
  B_pair_otherwise : Binds K a.d_pair_otherwise ["_law_box_here", "_law_pairs_here", "_law_crew"] []
  g_pair_otherwise : mg "_law_pair_otherwise" = some (.ref a.f_pair_otherwise)
  k_pair_otherwise : PySem.W.keepIn K (.ref a.f_pair_otherwise) = true
  F_otherwise : Fun K "_law_otherwise" "_law_otherwise" s_otherwise a.f_otherwise a.d_otherwise
  B_otherwise : Binds K a.d_otherwise ["_law_box_here", "_law_pairs_here", "_law_crew"] []
  g_otherwise : mg "_law_otherwise" = some (.ref a.f_otherwise)
  k_otherwise : PySem.W.keepIn K (.ref a.f_otherwise) = true
  F_law : Fun K "law" "law" s_law a.f_law a.d_law
  B_law : Binds K a.d_law ["_law_script"] []
  g_law : mg "law" = some (.ref a.f_law)
  k_law : PySem.W.keepIn K (.ref a.f_law) = true
  KB_Pacts_pact : KwB K a.d_Pacts_pact ["self", "name"] ["name"]
  KN_Pacts_over_2 : KwN K a.d_Pacts_over ["self", "word", "side"] 2 ["side"]
  KN_Pacts_errors_2 : KwN K a.d_Pacts_errors ["self", "name", "side"] 2 ["side"]
  KN_Pacts_init_2 : KwN K a.d_Pacts_init ["self", "pairs", "helpers"] 2 ["helpers"]
  v_LONGEST_NAME : mg "LONGEST_NAME" = some (.int 8 a.t_LONGEST_NAME)
  v_MOST_PAIRS : mg "MOST_PAIRS" = some (.int 6 a.t_MOST_PAIRS)
  v_MOST_HELPERS : mg "MOST_HELPERS" = some (.int 4 a.t_MOST_HELPERS)
  v_MOST_TAKES : mg "MOST_TAKES" = some (.int 3 a.t_MOST_TAKES)
  v_MOST_THROWS : mg "MOST_THROWS" = some (.int 4 a.t_MOST_THROWS)
  v_TAKES : mg "TAKES" = some (.ref a.t_TAKES)
  q_TAKES : ∀ H, SqT K H a.t_TAKES [.str "lent", .str "given"]
  z_ValueError : mg "ValueError" = none
  z_isinstance : mg "isinstance" = none
  z_int : mg "int" = none
  z_bool : mg "bool" = none
  z_tuple : mg "tuple" = none
  z_list : mg "list" = none
  z_str : mg "str" = none
  z_len : mg "len" = none
  z_all : mg "all" = none
  z_range : mg "range" = none
  z_zip : mg "zip" = none
  z_min : mg "min" = none
section
variable {P : Program} {w : World} {K : PySem.W.Frag} {mg : Str → Option Value} {base : Heap} {a : Ad}
/-! ### texts and kinds -/
theorem inV_str (x : Str) : ∀ l : List Str, inV (.str x) (l.map V.str) = decide (x ∈ l)
  | [] => rfl
  | y :: l => by
    have ih := inV_str x l
    unfold inV at ih ⊢
    rw [List.map_cons, List.any_cons, ih]
    show ((y == x) || decide (x ∈ l)) = decide (x ∈ y :: l)
    by_cases e : y = x
    · subst e; simp
    · have e2 : ¬ x = y := fun z => e z.symm
      simp [e, e2]
theorem flat_str (l : List Str) : (l.map V.str).all flatV = true := List.all_eq_true.mpr fun v hv => by
  obtain ⟨s, _, rfl⟩ := List.mem_map.mp hv
  rfl
theorem strs_get {xs : List Str} {i : Nat} {y : V} (h : (xs.map V.str)[i]? = some y) : ∃ s, xs[i]? = some s ∧ y = V.str s := by
  rw [List.getElem?_map] at h
  cases e : xs[i]? with
  | none => rw [e] at h; cases h
  | some z => rw [e] at h; exact ⟨z, rfl, (Option.some.inj h).symm⟩
theorem refs_get {xs : List Addr} {i : Nat} {y : V} (h : (xs.map V.ref)[i]? = some y) : ∃ s, xs[i]? = some s ∧ y = V.ref s := by
  rw [List.getElem?_map] at h
  cases e : xs[i]? with
  | none => rw [e] at h; cases h
  | some z => rw [e] at h; exact ⟨z, rfl, (Option.some.inj h).symm⟩
theorem take_snoc {α : Type} {xs : List α} {i : Nat} {x : α} (h : xs[i]? = some x) : xs.take (i + 1) = xs.take i ++ [x] := by rw [List.take_add_one, h]; rfl
def sp_is_whole : Sp := fun vs H Q _ => ∃ i : Int, vs = [.int i] ∧ Q (.bl true) H
theorem ok_is_whole (T : Txt K mg a) : FnOk P w K mg base CX0 1 a.f_is_whole a.d_is_whole ["thing"] sp_is_whole := by
  refine T.F_is_whole.ok sc_is_whole (fun vs H Q E h => ?_) (fun cdv A outer s H vs Q E hr h => ?_)
  · obtain ⟨i, rfl, _⟩ := h
    rfl
  · obtain ⟨i, rfl, kk⟩ := h
    refine ⟨_, (pss_one (ps_ret (pe_and (pe_callB call_isi (by rfl) T.z_isinstance (by decide +kernel) (pa_cons (pv 0) (pa_cons (pe_bltn (v := .ty "int") (by rfl) T.z_int (by decide +kernel) rfl) pa_nil))) (pe_one (pe_not (pe_callB call_isi (by rfl) T.z_isinstance (by decide +kernel) (pa_cons (pv 0) (pa_cons (pe_bltn (v := .ty "bool") (by rfl) T.z_bool (by decide +kernel) rfl) pa_nil)))))))), ?_⟩
    refine ⟨_, rfl, _, _, _, _, true, rfl, .ty "int", .base (.int i), kit_ty (by decide +kernel), true, rfl, ?_⟩
    refine iteT ?_
    refine ⟨_, rfl, _, _, _, _, false, rfl, .ty "bool", .base (.int i), kit_ty (by decide +kernel), ?_⟩
    refine ⟨_, rfl, ?_⟩
    exact kk
theorem inV_01 (i : Int) : inV (.int i) [.int 0, .int 1] = decide (i = 0 ∨ i = 1) := by
  show ((0 == i) || ((1 == i) || false)) = _
  by_cases h0 : i = 0
  · subst h0; rfl
  · by_cases h1 : i = 1
    · subst h1; rfl
    · have a0 : ((0 : Int) == i) = false := beq_eq_false_iff_ne.mpr fun z => h0 z.symm
      have a1 : ((1 : Int) == i) = false := beq_eq_false_iff_ne.mpr fun z => h1 z.symm
      rw [a0, a1]
      simp [h0, h1]
def sp_is_side : Sp := fun vs H Q _ => ∃ i : Int, vs = [.int i] ∧ ∀ H', Same H H' → Q (.bl (decide (i = 0 ∨ i = 1))) H'
theorem ok_is_side (T : Txt K mg a) : FnOk P w K mg base CX0 2 a.f_is_side a.d_is_side ["thing"] sp_is_side := by
  refine T.F_is_side.ok sc_is_side (fun vs H Q E h => ?_) (fun cdv A outer s H vs Q E hr h => ?_)
  · obtain ⟨i, rfl, _⟩ := h
    rfl
  · obtain ⟨i, rfl, kk⟩ := h
    refine ⟨_, (pss_one (ps_ret (pe_and (pe_call (ok_is_whole T) (hr.mono (by decide)) rfl T.g_is_whole T.k_is_whole T.B_is_whole .nil pass0 (pa_cons (pv 0) pa_nil)) (pe_one (pe_cmpR op_in_seq (pv 0) (pe_tup (pa_cons pe_int (pa_cons pe_int pa_nil))) (by rfl)))))), ?_⟩
    refine ⟨_, rfl, i, rfl, true, rfl, ?_⟩
    refine iteT ?_
    refine ⟨_, rfl, by show 2 ≤ sizeLine; decide, fun t ht => ?_⟩
    refine ⟨t, _, rfl, .inr (SqT.of upd_same), rfl, rfl, ?_⟩
    show Q (.bl (inV (.int i) [.int 0, .int 1])) _
    rw [inV_01]
    exact kk _ ((Same.refl H).upd ht)
theorem one_lt (c d : Nat) : (([c] : List Nat) < [d]) ↔ c < d := by
  rw [List.cons_lt_cons_iff]
  simp
theorem le_a (c : Nat) : (!decide ((⟨#[c]⟩ : Str).cps.toList < ("a" : Str).cps.toList)) = decide (97 ≤ c) := by
  have e : ("a" : Str).cps.toList = [97] := by decide +kernel
  rw [e]
  show (!decide (([c] : List Nat) < [97])) = _
  rw [decide_eq_decide.mpr (one_lt c 97)]
  by_cases h : c < 97
  · rw [decide_eq_true h, decide_eq_false (by omega)]; rfl
  · rw [decide_eq_false h, decide_eq_true (by omega)]; rfl
theorem le_z (c : Nat) : (!decide (("z" : Str).cps.toList < (⟨#[c]⟩ : Str).cps.toList)) = decide (c ≤ 122) := by
  have e : ("z" : Str).cps.toList = [122] := by decide +kernel
  rw [e]
  show (!decide (([122] : List Nat) < [c])) = _
  rw [decide_eq_decide.mpr (one_lt 122 c)]
  by_cases h : 122 < c
  · rw [decide_eq_true h, decide_eq_false (by omega)]; rfl
  · rw [decide_eq_false h, decide_eq_true (by omega)]; rfl
theorem all_id (l : List Nat) : (l.map My.letter).all id = l.all My.letter := by rw [List.all_map]; rfl
def sp_is_name : Sp := fun vs H Q _ => ∃ s : Str, vs = [.str s] ∧ s.length ≤ sizeLine ∧ ∀ H', Same H H' → Q (.bl (My.nameB s)) H'
theorem ok_is_name (T : Txt K mg a) : FnOk P w K mg base CX0 1 a.f_is_name a.d_is_name ["thing"] sp_is_name := by
  refine T.F_is_name.ok sc_is_name (fun vs H Q E h => ?_) (fun cdv A outer s H vs Q E hr h => ?_)
  · obtain ⟨s, rfl, _⟩ := h
    rfl
  · obtain ⟨s, rfl, hz, kk⟩ := h
    refine ⟨_, (pss_cons (ps_if (PW.pt (pw_or (pt_not (pt_val (pe_callB call_isi (by rfl) T.z_isinstance (by decide +kernel) (pa_cons (pv 0) (pa_cons (pe_bltn (v := .ty "str") (by rfl) T.z_str (by decide +kernel) rfl) pa_nil))))) (pw_or1 (pt_not (pt_chain op_le op_le pe_int (pe_callB call_len_str (by rfl) T.z_len (by decide +kernel) (pa_cons (pv 0) pa_nil)) (pe_glob (v := .int 8) rfl T.v_LONGEST_NAME ⟨_, rfl⟩)))))) (pss_one (ps_ret pe_bl)) pss_nil)
      (pss_one (ps_ret (pe_callB (cr_all rfl) (by rfl) T.z_all (by decide +kernel) (pa_cons (pe_lc (own := [("sign", 1)]) (g := gName 1) (tt := tYes) rfl sc_is_name.nd (pi_str (pv 0)) (blkOk_by (own := [("sign", 1)]) (N := ["thing", "sign"]) (sc := defScope s_is_name) (by decide +kernel)) (fun _ _ _ _ _ => pg_name (i := 1) sc_is_name.nd rfl (Or.inl rfl)) (fun _ _ _ _ _ => pts_nil) (fun _ _ _ _ _ => by exact (pe_chain op_le_str op_le_str pe_str (pv 1) pe_str))) pa_nil))))), ?_⟩
    have no : ¬ (1 ≤ s.cps.size ∧ s.cps.size ≤ 8) → Q (.bl false) H := fun n => by
      have e : My.nameB s = false := by
        unfold My.nameB
        by_cases h1 : 1 ≤ s.cps.size
        · have h2 : ¬ s.cps.size ≤ 8 := fun z => n ⟨h1, z⟩
          rw [decide_eq_false h2]; simp
        · rw [decide_eq_false h1]; simp
      exact e ▸ kk H (Same.refl H)
    refine ⟨_, rfl, _, _, _, _, true, rfl, .ty "str", .base (.str s), kit_ty (by decide +kernel), true, rfl, ?_⟩
    refine iteF ?_
    refine ⟨_, rfl, _, rfl, hz, ?_⟩
    refine ⟨_, _, rfl, rfl, _, rfl, ?_⟩
    refine iteD (fun h1 => ?_) (fun h1 => ?_)
    · refine ⟨_, _, rfl, rfl, _, rfl, ?_⟩
      refine iteB (fun h2 => ?_) (fun h2 => ?_)
      · refine no fun z => ?_
        have z2 : ((s.length : Nat) : Int) ≤ 8 := by
          show ((s.cps.size : Nat) : Int) ≤ 8
          omega
        rw [show (!decide ((s.length : Int) ≤ 8)) = false by rw [decide_eq_true z2]; rfl] at h2
        cases h2
      · have h2' : ((s.cps.size : Nat) : Int) ≤ 8 := by
          show ((s.length : Nat) : Int) ≤ 8
          by_cases z : ((s.length : Nat) : Int) ≤ 8
          · exact z
          · rw [show (!decide ((s.length : Int) ≤ 8)) = true by rw [decide_eq_false z]; rfl] at h2
            cases h2
        have b1 : 1 ≤ s.cps.size := by
          have : (1 : Int) ≤ (s.cps.size : Int) := h1
          omega
        have b2 : s.cps.size ≤ 8 := by omega
        refine ⟨_, rfl, s, rfl, fun D hD => ?_⟩
        refine lc_it walk_str (fun i H1 => Blk (H1 = upd H D (.lst (((s.cps.toList.take i).map My.letter).map V.bl)) ∧ i ≤ s.cps.size)) (Blk.of ⟨rfl, by omega⟩) (fun i H1 _ hB => trivial) ?_ ?_
        · intro i y H1 H2 hi hB hy
          obtain ⟨rfl, hi2⟩ := hB.out
          obtain ⟨rfl, c, hc, rfl⟩ := hy
          have hc2 : s.cps.toList[i]? = some c := by rw [Array.getElem?_toList]; exact hc
          refine ⟨rfl, ?_⟩
          dsimp only [tYes]
          refine iteT ?_
          refine ⟨_, rfl, _, _, rfl, rfl, _, rfl, ?_⟩
          rw [le_a]
          have fin : ∀ b : Bool, b = My.letter c → ∃ acc, upd H D (.lst (((s.cps.toList.take i).map My.letter).map V.bl)) D = some (.lst acc) ∧ acc.length < sizeLine ∧
              Blk (upd (upd H D (.lst (((s.cps.toList.take i).map My.letter).map V.bl))) D (.lst (acc ++ [.bl b])) = upd H D (.lst (((s.cps.toList.take (i + 1)).map My.letter).map V.bl)) ∧ i + 1 ≤ s.cps.size) := by
            rintro b rfl
            refine ⟨_, upd_same, ?_, Blk.of ⟨?_, by omega⟩⟩
            · rw [List.length_map, List.length_map, List.length_take]
              exact small (by omega)
            · rw [upd_upd, take_snoc hc2, List.map_append, List.map_append]
              rfl
          refine iteD (fun ha => ?_) (fun ha => ?_)
          · refine ⟨_, _, rfl, rfl, ?_⟩
            rw [le_z]
            refine fin _ ?_
            unfold My.letter
            rw [decide_eq_true ha]
            rfl
          · refine fin false ?_
            unfold My.letter
            rw [decide_eq_false ha]
            rfl
        · intro H1 hB
          obtain ⟨rfl, _⟩ := hB.out
          refine ⟨D, _, rfl, SqL.of upd_same, ?_⟩
          have el : s.cps.toList.take s.cps.size = s.cps.toList := by rw [← Array.length_toList, List.take_length]
          rw [el, all_id]
          have en : s.cps.toList.all My.letter = My.nameB s := by
            unfold My.nameB
            rw [decide_eq_true b1, decide_eq_true b2]
            rfl
          rw [en]
          exact kk _ ((Same.refl H).upd hD)
    · refine ⟨_, rfl, ?_⟩
      refine iteT (no fun z => h1 ?_)
      show (1 : Int) ≤ (s.cps.size : Int)
      omega

/-! ### _law_mixed -/
def sp_mixed : Sp := fun vs H Q _ => ∃ (c k : Int), vs = [.int c, .int k] ∧ 0 ≤ k ∧ k < 100000000 ∧ ∀ r : Int, 0 ≤ r → r < 1000000007 → Q (.int r) H
theorem mixed_bound {c k : Int} (h0 : 0 ≤ k) (h1 : k < 100000000) : (c % 2147483647 + 1009 * k * k + 48611 * k + 17).natAbs < 2 ^ 64 := by
  have a0 := Int.emod_nonneg c (by decide : (2147483647 : Int) ≠ 0)
  have a1 := Int.emod_lt_of_pos c (by decide : (0 : Int) < 2147483647)
  have b0 : 0 ≤ 1009 * k * k := Int.mul_nonneg (by omega) h0
  have b1 : 1009 * k * k ≤ 1009 * 100000000 * 100000000 := Int.mul_le_mul (by omega) (by omega) h0 (by omega)
  have e : (2 : Nat) ^ 64 = 18446744073709551616 := by decide
  rw [e]
  omega
theorem ok_mixed (T : Txt K mg a) : FnOk P w K mg base CX0 1 a.f_mixed a.d_mixed ["_law_cell", "_law_k"] sp_mixed := by
  refine T.F_mixed.ok sc_mixed (fun vs H Q E h => ?_) (fun cdv A outer s H vs Q E hr h => ?_)
  · obtain ⟨c, k, rfl, _⟩ := h
    rfl
  · obtain ⟨c, k, rfl, h0, h1, kk⟩ := h
    refine ⟨_, (pss_cons (ps_set (i := 2) sc_mixed.nd rfl (Or.inl rfl) (pe_op op_mod (pe_op op_pow (pe_op op_add (pe_op op_add (pe_op op_add (pe_op op_mod (pv 0) pe_int) (pe_op op_mul (pe_op op_mul pe_int (pv 1)) (pv 1))) (pe_op op_mul pe_int (pv 1))) pe_int) pe_int) pe_int))
      (pss_one (ps_ret (pe_op op_mod (pe_op op_add (pe_op op_mul (pv 2) pe_int) (pe_op op_mul pe_int (pv 1))) pe_int)))), ?_⟩
    have eb := mixed_bound (c := c) h0 h1
    generalize hx : c % 2147483647 + 1009 * k * k + 48611 * k + 17 = x at eb
    refine ⟨_, rfl, _, _, rfl, rfl, (by show (0 : Int) < _; decide), _, rfl, _, _, rfl, rfl, .inl ⟨by decide, by decide⟩, _, rfl, _, _, rfl, rfl, .inl ⟨by omega, by omega⟩, _, _, rfl, rfl, _, rfl, _, _, rfl, rfl, .inl ⟨by decide, by decide⟩,
      _, _, rfl, rfl, _, _, rfl, rfl, _, _, rfl, rfl, ⟨by decide, by decide, by rw [hx]; exact eb⟩, _, _, rfl, rfl, (by show (0 : Int) < _; decide), ?_⟩
    rw [hx]
    generalize x ^ Int.toNat 5 % 2147483647 = y
    refine ⟨_, rfl, _, _, rfl, rfl, .inr ⟨by decide, by decide⟩, _, rfl, _, _, rfl, rfl, .inl ⟨by decide, by decide⟩, _, _, rfl, rfl, _, _, rfl, rfl, (by show (0 : Int) < _; decide), ?_⟩
    exact kk _ (Int.emod_nonneg _ (by decide)) (Int.emod_lt_of_pos _ (by decide))

/-! ### _law_take -/
def sp_take : Sp := fun vs H Q _ => ∃ (b g l : Addr) (n size : Int), vs = [.ref b, .int size] ∧ BoxAt H b g l n ∧ 0 ≤ n ∧ n < 10000000 ∧ 0 < size ∧ size.natAbs.log2 < 9000 ∧
  ∀ (k : Int) (H' : Hp), 0 ≤ k → k < size → BoxAt H' b g l (n + 1) → Keeps [b, g] H H' → Q (.int k) H'
theorem ok_take (T : Txt K mg a) : FnOk P w K mg base CX0 2 a.f_take a.d_take ["_law_box_here", "_law_size"] sp_take := by
  refine T.F_take.ok sc_take (fun vs H Q E h => ?_) (fun cdv A outer s H vs Q E hr h => ?_)
  · obtain ⟨b, g, l, n, size, rfl, _⟩ := h
    rfl
  · obtain ⟨b, g, l, n, size, rfl, ⟨gs, ls, cur, hb, hg, hl, nbg, nbl, ngl, zg, zl⟩, n0, n1, s0, s1, kk⟩ := h
    refine ⟨_, (pss_cons (ps_asg (pe_op op_add (pe_ix ix_list (pv 0) pe_int (fun _ _ => rfl)) pe_int) (pg_sub (pv 0) pe_int set_list))
      (C8.pss_cut (ps_if (PW.pt (pw_and (pt_cmpR op_eq (pe_ix ix_list (pv 0) pe_int (fun _ _ => rfl)) pe_int (nomark _)) (pw_and1 (pt_cmpR op_gt (pe_callB call_len_seq (by rfl) T.z_len (by decide +kernel) (pa_cons (pe_ix ix_list (pv 0) pe_int (fun _ _ => rfl)) pa_nil)) pe_int (nomark _))))) (pss_one (ps_asg (pe_bm PySem.F.plainAttrs_list PySem.F.slot_list_pop PySem.F.type_list_pop mt_popAt (pe_ix ix_list (pv 0) pe_int (fun _ _ => rfl)) (pa_cons pe_int pa_nil)) (pg_sub (pv 0) pe_int set_list))) pss_nil)
      (pss_cons (ps_if (pt_cmpR op_gt (pe_ix ix_list (pv 0) pe_int (fun _ _ => rfl)) pe_int (nomark _)) (pss_cons (ps_set (i := 2) sc_take.nd rfl (Or.inl rfl) (pe_op op_mod (pe_ix ix_list (pv 0) pe_int (fun _ _ => rfl)) (pv 1)))
      (pss_cons (ps_asg (pe_op op_fdivW (pe_ix ix_list (pv 0) pe_int (fun _ _ => rfl)) (pv 1)) (pg_sub (pv 0) pe_int set_list))
      (pss_one (ps_ret (pv 2))))) pss_nil)
      (pss_cons (ps_set (i := 3) sc_take.nd rfl (Or.inl rfl) (pe_op op_mul pe_int (pe_ix ix_list (pv 0) pe_int (fun _ _ => rfl))))
      (C8.pss_cut (ps_if (pt_cmpR op_gt (pe_callB call_len_seq (by rfl) T.z_len (by decide +kernel) (pa_cons (pe_ix ix_list (pv 0) pe_int (fun _ _ => rfl)) pa_nil)) pe_int (nomark _)) (pss_one (ps_set (i := 3) sc_take.nd rfl (Or.inl rfl) (pe_ix ix_list (pe_ix ix_list (pv 0) pe_int (fun _ _ => rfl)) (pe_op op_mod (pe_ix ix_list (pv 0) pe_int (fun _ _ => rfl)) (pe_callB call_len_seq (by rfl) T.z_len (by decide +kernel) (pa_cons (pe_ix ix_list (pv 0) pe_int (fun _ _ => rfl)) pa_nil))) (fun _ _ => rfl)))) pss_nil)
      (pss_cons (ps_set (i := 2) sc_take.nd rfl (Or.inl rfl) pe_int)
      (pss_cons (ps_set (i := 4) sc_take.nd rfl (Or.inl rfl) pe_int)
      (pss_cons (ps_while PassesOwn.never (pt_cmpR op_lt (pv 4) (pv 1) (nomark _)) (pss_cons (ps_set (i := 2) sc_take.nd rfl (Or.inl rfl) (pe_op op_add (pe_op op_mul (pv 2) pe_int) (pe_call (ok_mixed T) (hr.mono (by decide)) rfl T.g_mixed T.k_mixed T.B_mixed .nil pass0 (pa_cons (pv 3) (pa_cons (pe_op op_add (pe_ix ix_list (pv 0) pe_int (fun _ _ => rfl)) (pe_op op_mul pe_int (pe_op op_mod (pv 2) pe_int))) pa_nil)))))
      (pss_one (ps_set (i := 4) sc_take.nd rfl (Or.inl rfl) (pe_op op_mul (pv 4) pe_int)))))
      (pss_one (ps_ret (pe_op op_mod (pv 2) (pv 1)))))))))))), ?_⟩
    -- box[3] = box[3] + 1
    walk_at "rd"
    have kp0 : Keeps [b, g] H (upd H b (.lst [.ref g, .int cur, .ref l, .int (n + 1)])) := (Keeps.refl _ H).upd (.inl (List.mem_cons_self))
    refine ⟨fun σ H1 => Blk (σ = [some (.ref b), some (.int size), none, none, none] ∧ ∃ (gs : List Int) (cur : Int), H1 b = some (.lst [.ref g, .int cur, .ref l, .int (n + 1)]) ∧ H1 g = some (.lst (gs.map V.int)) ∧ gs.length ≤ 63 ∧ H1 l = some (.lst (ls.map V.int)) ∧ Keeps [b, g] H H1), ?_, ?_⟩
    · walk_at "rd"
      refine iteD (fun hc => ?_) (fun hc => ?_)
      · walk_at "rd"
        refine iteD (fun hc => ?_) (fun hc => ?_)
        · rw [List.length_map] at hc
          match gs, hc with
          | x :: gs, _ =>
            walk_at "rd"
            refine ⟨_, _, _, _, _, rfl, rfl, (by walk_at "hp"), by decide, by decide, seqIndex_of (by decide) (by simp), rfl, ?_⟩
            walk_at "rd"
            refine Blk.of ⟨rfl, gs, x, upd_same, (by walk_at "hp"), by rw [List.length_cons] at zg; omega, by walk_at "hp", ?_⟩
            exact (kp0.upd (.inl (by simp))).upd (.inl (by simp))
        · refine Blk.of ⟨rfl, gs, cur, upd_same, by walk_at "hp", zg, by walk_at "hp", kp0⟩
      · refine iteF ?_
        refine Blk.of ⟨rfl, gs, cur, upd_same, by walk_at "hp", zg, by walk_at "hp", kp0⟩
    · rintro σ H1 hB
      obtain ⟨rfl, gs, cur, hb, hg, zg, hl, kp⟩ := hB.out
      walk_at "rd"
      refine iteD (fun hc => ?_) (fun hc => ?_)
      · walk_at "rd"
        refine kk _ _ (Int.emod_nonneg _ (by omega)) (Int.emod_lt_of_pos _ s0) ⟨gs, ls, _, upd_same, by walk_at "hp", by walk_at "hp", nbg, nbl, ngl, zg, zl⟩ (kp.upd (.inl (by simp)))
      · walk_at "rd"
        refine ⟨fun σ H2 => Blk (H2 = H1 ∧ ∃ cell : Int, σ = [some (.ref b), some (.int size), none, some (.int cell), none]), ?_, ?_⟩
        · walk_at "rd"
          refine iteD (fun hc2 => ?_) (fun hc2 => ?_)
          · have hpos : (0 : Int) < ((ls.map V.int).length : Int) := hc2
            walk_at "rd"
            have i0 := Int.emod_nonneg (n + 1) (show (((ls.map V.int).length : Nat) : Int) ≠ 0 by omega)
            have i1 := Int.emod_lt_of_pos (n + 1) hpos
            have hx : (ls.map V.int)[((n + 1) % (((ls.map V.int).length : Nat) : Int)).toNat]? = some (.int (My.g ls ((n + 1) % (((ls.map V.int).length : Nat) : Int)).toNat)) := by
              rw [List.getElem?_map, My.g_lt (by rw [List.length_map] at *; omega)]; rfl
            refine ⟨_, _, _, _, rfl, rfl, SqL.of (by walk_at "hp"), at_of (j := ((n + 1) % (((ls.map V.int).length : Nat) : Int)).toNat) (by omega) hx, ?_⟩
            exact Blk.of ⟨rfl, _, rfl⟩
          · exact Blk.of ⟨rfl, _, rfl⟩
        · rintro σ H2 hB
          obtain ⟨rfl, cell, rfl⟩ := hB.out
          walk_at "rd"
          refine while_by (fun σ H1 => H1 = H2 ∧ ∃ found reach : Int, σ = [some (.ref b), some (.int size), some (.int found), some (.int cell), some (.int reach)] ∧ 0 < reach)
            (fun σ _ => match σ with | [_, _, _, _, some (.int r)] => (size - r).toNat | _ => 0) ⟨rfl, 0, 1, rfl, by decide⟩ ?_ ?_
          · rintro σ H1 ⟨rfl, found, reach, rfl, hr0⟩
            walk_at "rd"
            refine iteD (fun hlt => ?_) (fun hlt => ?_)
            · walk_at "rd"
              have f0 := Int.emod_nonneg found (show (89 : Int) ≠ 0 by decide)
              have f1 := Int.emod_lt_of_pos found (show (0 : Int) < 89 by decide)
              refine ⟨_, _, rfl, (by show 0 ≤ n + 1 + 1000 * (found % 89); omega), (by show n + 1 + 1000 * (found % 89) < 100000000; omega), fun r r0 r1 => ?_⟩
              walk_at "rd"
              refine ⟨⟨rfl, _, _, rfl, by omega⟩, ?_⟩
              show (size - reach * 1000000007).toNat < (size - reach).toNat
              omega
            · walk_at "rd"
              exact kk _ _ (Int.emod_nonneg _ (by omega)) (Int.emod_lt_of_pos _ s0) ⟨gs, ls, _, hb, hg, hl, nbg, nbl, ngl, zg, zl⟩ kp
          · intro σ H Q Q' hq h
            obtain ⟨v, h1, u, h2, i, j, e1, e2, k, e3, q⟩ := h
            exact ⟨v, h1, u, h2, i, j, e1, e2, k, e3, hq _ _ q⟩

/-! ### _law_box -/
def sp_box (K : PySem.W.Frag) : Sp := fun vs H Q _ => ∃ (s : Addr) (ns : List Int), vs = [.ref s] ∧ SqL K H s (ns.map V.int) ∧ ns.length ≤ 63 ∧
  ∀ (b g l : Addr) (H' : Hp), H b = none → H g = none → H l = none → BoxAt H' b g l 0 → Same H H' → Q (.ref b) H'
theorem ok_box (T : Txt K mg a) : FnOk P w K mg base CX0 1 a.f_box a.d_box ["_law_script"] (sp_box K) := by
  refine T.F_box.ok sc_box (fun vs H Q E h => ?_) (fun cdv A outer s H vs Q E hr h => ?_)
  · obtain ⟨s, ns, rfl, _⟩ := h
    rfl
  · obtain ⟨sc, ns, rfl, hS, hz, kk⟩ := h
    refine ⟨_, (pss_cons (ps_setLc (i := 1) (own := [("_law_cell", 2)]) (g := gName 2) rfl sc_box.nd rfl rfl (sw_true rfl rfl rfl (by decide +kernel)) (pi_list (pv 0)) (blkOk_by (own := [("_law_cell", 2)]) (N := ["_law_script", "_law_great", "_law_cell"]) (sc := defScope s_box) (by decide +kernel)) (fun _ _ _ _ _ => pg_name (i := 2) sc_box.nd rfl (Or.inl rfl)) (fun _ _ _ _ _ => pts_one (pt_cmpR op_ge (pv 2) (pe_op op_pow pe_int pe_int) (nomark _))) (fun _ _ _ _ _ => by exact (pv 2)))
      (pss_one (ps_ret (pe_lst (pa_cons (pv 1) (pa_cons pe_int (pa_cons (pe_lc (own := [("_law_cell", 2)]) (g := gName 2) rfl sc_box.nd (pi_list (pv 0)) (blkOk_by (own := [("_law_cell", 2)]) (N := ["_law_script", "_law_great", "_law_cell"]) (sc := defScope s_box) (by decide +kernel)) (fun _ _ _ _ _ => pg_name (i := 2) sc_box.nd rfl (Or.inl rfl)) (fun _ _ _ _ _ => pts_one (pt_cmpR op_lt (pv 2) (pe_op op_pow pe_int pe_int) (nomark _))) (fun _ _ _ _ _ => by exact (pv 2))) (pa_cons pe_int pa_nil)))))))), ?_⟩
    refine ⟨_, rfl, sc, rfl, ⟨_, hS⟩, fun g hg => ?_⟩
    have sG : ∀ o, Same H (upd H g o) := fun o => (Same.refl H).upd hg
    refine lc_list (K := K) (a := sc) (xs := ns.map V.int) (fun i H1 => Blk (∃ gs : List Int, H1 = upd H g (.lst (gs.map V.int)) ∧ gs.length ≤ i)) (Blk.of ⟨[], rfl, Nat.le_refl _⟩) (fun i H1 _ hB => ?_) ?_ ?_
    · obtain ⟨gs, rfl, _⟩ := hB.out
      exact (sG _).seq hS
    · intro i y H1 hi hB
      obtain ⟨gs, rfl, hl⟩ := hB.out
      obtain ⟨z, hz, rfl⟩ := ints_get hi
      have := get_lt hi
      rw [List.length_map] at this
      refine ⟨rfl, _, rfl, _, _, rfl, rfl, ⟨by decide, by decide, by decide⟩, _, _, rfl, rfl, _, rfl, iteD (fun hc => ?_) (fun hc => ?_)⟩
      · refine ⟨_, rfl, _, upd_same, by rw [List.length_map]; exact small (by omega), Blk.of ⟨gs ++ [z], ?_, by rw [List.length_append]; simp; omega⟩⟩
        rw [upd_upd, List.map_append]; rfl
      · exact Blk.of ⟨gs, rfl, by omega⟩
    · intro H1 hB
      obtain ⟨gs, rfl, hgl⟩ := hB.out
      rw [List.length_map] at hgl
      refine ⟨_, rfl, ?_⟩
      refine ⟨_, rfl, sc, rfl, ⟨_, (sG _).seq hS⟩, fun l hl => ?_⟩
      have ngl : g ≠ l := ne_of_none upd_same hl
      have hl0 : H l = none := by rw [upd_ne ngl.symm] at hl; exact hl
      refine lc_list (K := K) (a := sc) (xs := ns.map V.int) (fun i H1 => Blk (∃ ls : List Int, H1 = upd (upd H g (.lst (gs.map V.int))) l (.lst (ls.map V.int)) ∧ ls.length ≤ i)) (Blk.of ⟨[], rfl, Nat.le_refl _⟩) (fun i H1 _ hB => ?_) ?_ ?_
      · obtain ⟨ls, rfl, _⟩ := hB.out
        exact ((sG _).upd hl0).seq hS
      · intro i y H1 hi hB
        obtain ⟨ls, rfl, hl⟩ := hB.out
        obtain ⟨z, hz, rfl⟩ := ints_get hi
        have := get_lt hi
        rw [List.length_map] at this
        refine ⟨rfl, _, rfl, _, _, rfl, rfl, ⟨by decide, by decide, by decide⟩, _, _, rfl, rfl, _, rfl, iteD (fun hc => ?_) (fun hc => ?_)⟩
        · refine ⟨_, rfl, _, upd_same, by rw [List.length_map]; exact small (by omega), Blk.of ⟨ls ++ [z], ?_, by rw [List.length_append]; simp; omega⟩⟩
          rw [upd_upd, List.map_append]; rfl
        · exact Blk.of ⟨ls, rfl, by omega⟩
      · intro H1 hB
        obtain ⟨ls, rfl, hll⟩ := hB.out
        rw [List.length_map] at hll
        refine ⟨by show 4 ≤ sizeLine; decide, fun b hb => ?_⟩
        have nlb : l ≠ b := ne_of_none upd_same hb
        have hb' : upd H g (.lst (gs.map V.int)) b = none := by rw [upd_ne nlb.symm] at hb; exact hb
        have ngb : g ≠ b := ne_of_none upd_same hb'
        have hb0 : H b = none := by rw [upd_ne ngb.symm] at hb'; exact hb'
        exact kk b g l _ hb0 hg hl0 ⟨gs, ls, 0, upd_same, by rw [upd_ne ngb, upd_ne ngl, upd_same], by rw [upd_ne nlb, upd_same], ngb.symm, nlb.symm, ngl, by omega, by omega⟩ (((sG _).upd hl0).upd hb0)

/-! ### names that are drawn -/
theorem abc_at : ∀ j, j < 26 → ∃ c, ("abcdefghijklmnopqrstuvwxyz" : Str).cps.toList[j]? = some c ∧ My.letter c = true := by
  intro j hj
  have e : ("abcdefghijklmnopqrstuvwxyz" : Str).cps.toList = (List.range 26).map (· + 97) := by decide +kernel
  rw [e]
  refine ⟨j + 97, by rw [List.getElem?_map, List.getElem?_range hj]; rfl, ?_⟩
  unfold My.letter
  rw [decide_eq_true (by omega), decide_eq_true (by omega)]
  rfl
theorem abc_len : ("abcdefghijklmnopqrstuvwxyz" : Str).length ≤ sizeLine := by decide +kernel
theorem abc_ix {k : Int} (h0 : 0 ≤ k) (h1 : k < 26) : ∃ c, atI ("abcdefghijklmnopqrstuvwxyz" : Str).cps.toList k = some c ∧ My.letter c = true := by
  obtain ⟨j, rfl⟩ : ∃ j : Nat, k = j := ⟨k.toNat, by omega⟩
  obtain ⟨c, hc, l⟩ := abc_at j (by omega)
  exact ⟨c, atI_nat hc, l⟩
def sign (c : Nat) : Str := ⟨#[c]⟩
theorem join_signs (cs : List Nat) : Txt.join ("" : Str) (cs.map sign) = ⟨cs.toArray⟩ := by
  have e0 : ("" : Str) = SX.S [] := by decide +kernel
  have e1 : cs.map sign = (cs.map fun c => [c]).map SX.S := by rw [List.map_map]; rfl
  rw [e0, e1, SX.join_S]
  have e2 : ∀ l : List Nat, TL.joinL [] (l.map fun c => [c]) = l := by
    intro l
    induction l with
    | nil => rfl
    | cons x r ih =>
      cases r with
      | nil => rfl
      | cons y r =>
        show [x] ++ ([] ++ TL.joinL [] ((y :: r).map fun c => [c])) = _
        rw [ih]
        rfl
  rw [e2]
theorem name_of {cs : List Nat} (h1 : 1 ≤ cs.length) (h2 : cs.length ≤ 8) (hl : cs.all My.letter = true) : My.nameB ⟨cs.toArray⟩ = true := by
  unfold My.nameB
  have e : (cs.toArray).size = cs.length := by simp
  simp only [e]
  rw [decide_eq_true h1, decide_eq_true h2]
  simpa using hl
theorem nameB_out {s : Str} (h : My.nameB s = true) : 1 ≤ s.cps.size ∧ s.cps.size ≤ 8 ∧ s.cps.toList.all My.letter = true := by
  unfold My.nameB at h
  simp only [Bool.and_eq_true, decide_eq_true_eq] at h
  exact ⟨h.1.1, h.1.2, h.2⟩
theorem name_len {s : Str} (h : My.nameB s = true) : s.length ≤ 8 := (nameB_out h).2.1
theorem name_line {s : Str} (h : My.nameB s = true) : s.length ≤ sizeLine := Nat.le_trans (name_len h) (by rw [sizeLine_eq]; decide)
theorem cut7 (z : Str) : cutS z none (some 7) = ⟨(z.cps.toList.take 7).toArray⟩ := by
  unfold cutS
  congr 1
  congr 1
  have e0 : HT.sIx z.length 0 none = 0 := rfl
  have e1 : HT.sIx z.length z.length (some 7) = min 7 z.length := HT.sIx_nat _ _ 7
  rw [e0, e1, List.drop_zero, Nat.sub_zero]
  have hl : z.cps.toList.length = z.length := Array.length_toList
  by_cases h : 7 ≤ z.length
  · rw [Nat.min_eq_left h]
  · rw [Nat.min_eq_right (by omega), List.take_of_length_le (by omega), List.take_of_length_le (by omega)]
theorem name_cut {z : Str} {c : Nat} (h : My.nameB z = true) (hc : My.letter c = true) : My.nameB (cutS z none (some 7) ++ sign c) = true := by
  rw [cut7]
  have e : ((⟨(z.cps.toList.take 7).toArray⟩ : Str) ++ sign c) = ⟨(z.cps.toList.take 7 ++ [c]).toArray⟩ := SX.S_cat _ _
  rw [e]
  have hl := (nameB_out h).2.2
  refine name_of ?_ ?_ ?_
  · rw [List.length_append]; simp
  · rw [List.length_append, List.length_take]; simp; omega
  · rw [List.all_append]
    have : (z.cps.toList.take 7).all My.letter = true := List.all_eq_true.mpr fun x hx => (List.all_eq_true.mp hl) x (List.mem_of_mem_take hx)
    rw [this]
    simpa using hc
theorem offbox {b g l x : Addr} {n : Int} {H0 : Hp} (bx : BoxAt H0 b g l n) (hx : H0 x = none) : x ∉ [b, g] := by
  obtain ⟨gs, ls, cur, e1, e2, _⟩ := bx
  intro hq
  simp at hq
  rcases hq with rfl | rfl
  · rw [e1] at hx; cases hx
  · rw [e2] at hx; cases hx
theorem offbox3 {b g l x : Addr} {n : Int} {H0 : Hp} (bx : BoxAt H0 b g l n) (hx : H0 x = none) : x ∉ [b, g, l] := by
  obtain ⟨gs, ls, cur, e1, e2, e3, _⟩ := bx
  intro hq
  simp at hq
  rcases hq with rfl | rfl | rfl
  · rw [e1] at hx; cases hx
  · rw [e2] at hx; cases hx
  · rw [e3] at hx; cases hx
theorem box_put {H : Hp} {b g l x : Addr} {n : Int} {o : HO} (h : BoxAt H b g l n) (hx : x ∉ [b, g, l]) : BoxAt (upd H x o) b g l n := by
  obtain ⟨gs, ls, cur, e1, e2, e3, r⟩ := h
  simp at hx
  exact ⟨gs, ls, cur, by rw [upd_ne (Ne.symm hx.1)]; exact e1, by rw [upd_ne (Ne.symm hx.2.1)]; exact e2, by rw [upd_ne (Ne.symm hx.2.2)]; exact e3, r⟩
def sp_name : Sp := fun vs H Q _ => ∃ (b g l : Addr) (n : Int), vs = [.ref b] ∧ BoxAt H b g l n ∧ 0 ≤ n ∧ n < 9000000 ∧ ∀ (s : Str) (n' : Int) (H' : Hp), My.nameB s = true → n ≤ n' → n' ≤ n + 10 → BoxAt H' b g l n' → Keeps [b, g] H H' → Q (.str s) H'
theorem ok_name (T : Txt K mg a) : FnOk P w K mg base CX0 3 a.f_name a.d_name ["_law_box_here"] sp_name := by
  refine T.F_name.ok sc_name (fun vs H Q E h => ?_) (fun cdv A outer s H vs Q E hr h => ?_)
  · obtain ⟨b, g, l, n, rfl, _⟩ := h
    rfl
  · obtain ⟨b, g, l, n, rfl, bx, n0, n1, kk⟩ := h
    refine ⟨_, (pss_cons (ps_set (i := 1) sc_name.nd rfl (Or.inl rfl) (pe_op op_add pe_int (pe_call (ok_take T) (hr.mono (by decide)) rfl T.g_take T.k_take T.B_take .nil pass0 (pa_cons (pv 0) (pa_cons (pe_ix ix_list (pe_lst (pa_cons pe_int (pa_cons pe_int (pa_cons pe_int pa_nil)))) (pe_call (ok_take T) (hr.mono (by decide)) rfl T.g_take T.k_take T.B_take .nil pass0 (pa_cons (pv 0) (pa_cons pe_int pa_nil))) (fun _ _ => rfl)) pa_nil)))))
      (pss_one (ps_ret (pe_join pe_str (pe_lc (own := [("_law_k", 2)]) (g := gName 2) (tt := tYes) rfl sc_name.nd (pi_range1 (by rfl) T.z_range (pa_cons (pv 1) pa_nil)) (blkOk_by (own := [("_law_k", 2)]) (N := ["_law_box_here", "_law_many", "_law_k"]) (sc := defScope s_name) (by decide +kernel)) (fun _ _ _ _ _ => pg_name (i := 2) sc_name.nd rfl (Or.inl rfl)) (fun _ _ _ _ _ => pts_nil) (fun _ _ _ _ _ => by exact (pe_ix ix_str pe_str (pe_call (ok_take T) (hr.mono (by decide)) rfl T.g_take T.k_take T.B_take .nil pass0 (pa_cons (pv 0) (pa_cons pe_int pa_nil))) (fun _ _ => rfl)))))))), ?_⟩
    refine ⟨_, rfl, by show 3 ≤ sizeLine; decide, fun L hL => ?_⟩
    refine ⟨_, rfl, b, g, l, n, 3, rfl, bx.upd hL, n0, by omega, by decide, by decide, fun k H1 k0 k1 bx1 kp1 => ?_⟩
    have hL1 : H1 L = some (.lst [.int 1, .int 2, .int 8]) := kp1 _ _ upd_same (offbox bx hL)
    obtain ⟨z, hz, z0, z1⟩ : ∃ z : Int, atI [V.int 1, .int 2, .int 8] k = some (.int z) ∧ 0 < z ∧ z ≤ 8 := by
      have : k = 0 ∨ k = 1 ∨ k = 2 := by omega
      rcases this with rfl | rfl | rfl
      · exact ⟨_, rfl, by decide, by decide⟩
      · exact ⟨_, rfl, by decide, by decide⟩
      · exact ⟨_, rfl, by decide, by decide⟩
    have z2 : z.natAbs.log2 < 9000 := by
      have : z = 1 ∨ z = 2 ∨ z = 3 ∨ z = 4 ∨ z = 5 ∨ z = 6 ∨ z = 7 ∨ z = 8 := by omega
      rcases this with rfl | rfl | rfl | rfl | rfl | rfl | rfl | rfl <;> decide
    refine ⟨_, _, _, _, rfl, rfl, SqL.of hL1, hz, ?_⟩
    refine ⟨b, g, l, n + 1, z, rfl, bx1, by omega, by omega, z0, z2, fun m H2 m0 m1 bx2 kp2 => ?_⟩
    refine ⟨_, _, rfl, rfl, ?_⟩
    have k02 : Keeps [b, g] H H2 := (((Keeps.refl [b, g] H).upd (.inr hL)).trans kp1).trans kp2
    refine ⟨⟨_, rfl⟩, ?_⟩
    refine ⟨_, rfl, 1 + m, rfl, by omega, by omega, fun D hD => ?_⟩
    have hD0 : D ∉ [b, g] := offbox bx2 hD
    refine lc_range (lo := 0) (n := (1 + m).toNat) (fun i H3 => Blk (∃ cs : List Nat, cs.length = i ∧ cs.all My.letter = true ∧ H3 D = some (.lst ((cs.map sign).map V.str)) ∧ BoxAt H3 b g l (n + 2 + i) ∧ Keeps [b, g] H H3)) ?_ ?_ ?_
    · refine Blk.of ⟨[], rfl, rfl, upd_same, ?_, k02.upd ?_⟩
      · have e : n + 2 + ((0 : Nat) : Int) = n + 1 + 1 := by omega
        rw [e]
        exact bx2.upd hD
      · exact .inr (by
          rcases k02.fresh hD with q | q
          · exact absurd q hD0
          · exact q)
    · intro i H3 hi hB
      obtain ⟨cs, rfl, hl, h3, bx3, kp3⟩ := hB.out
      refine ⟨rfl, ?_⟩
      dsimp only [tYes]
      refine iteT ?_
      refine ⟨_, rfl, b, g, l, _, 26, rfl, bx3, by omega, by omega, by decide, by decide, fun j H4 j0 j1 bx4 kp4 => ?_⟩
      obtain ⟨c, hc, lc⟩ := abc_ix j0 j1
      refine ⟨_, _, _, rfl, rfl, abc_len, hc, ?_⟩
      have h4 := kp4 _ _ h3 hD0
      refine ⟨_, h4, ?_, Blk.of ⟨cs ++ [c], by rw [List.length_append]; rfl, by rw [List.all_append, hl]; simpa using lc, ?_, ?_, ?_⟩⟩
      · rw [List.length_map, List.length_map]
        exact small (by omega)
      · rw [upd_same, List.map_append, List.map_append]
        rfl
      · have e : n + 2 + ((cs.length + 1 : Nat) : Int) = n + 2 + (cs.length : Int) + 1 := by omega
        rw [e]
        exact box_put bx4 fun q => offbox3 bx2 hD q
      · refine (kp3.trans kp4).upd (.inr ?_)
        rcases k02.fresh hD with q | q
        · exact absurd q hD0
        · exact q
    · intro H3 hB
      obtain ⟨cs, hcl, hl, h3, bx3, kp3⟩ := hB.out
      refine ⟨_, D, cs.map sign, rfl, rfl, .inl (SqL.of h3), ?_, ?_⟩
      · have e : ((cs.map sign).map (·.length)).sum = cs.length := by
          rw [List.map_map]
          clear h3 hl hcl
          induction cs with
          | nil => rfl
          | cons x r ih => rw [List.map_cons, List.sum_cons, ih]; show 1 + r.length = _; rw [List.length_cons]; omega
        rw [e, List.length_map]
        have : ("" : Str).length = 0 := by decide +kernel
        rw [this]
        omega
      · rw [join_signs]
        exact kk _ _ _ (name_of (by omega) (by omega) hl) (by omega) (by omega) bx3 kp3

/-! ### _law_names -/
def sp_names : Sp := fun vs H Q _ => ∃ (b g l : Addr) (n m : Int), vs = [.ref b, .int m] ∧ BoxAt H b g l n ∧ 0 ≤ n ∧ n < 8000000 ∧ 0 ≤ m ∧ m ≤ 14 ∧
  ∀ (p : Addr) (ns : List Str) (n' : Int) (H' : Hp), H p = none → H' p = some (.lst (ns.map V.str)) → (ns.length : Int) = m → (∀ s, s ∈ ns → My.nameB s = true) → ns.Nodup → n ≤ n' → n' ≤ n + 12 * m → BoxAt H' b g l n' → Keeps [b, g] H H' → Q (.ref p) H'
theorem ok_names (T : Txt K mg a) : FnOk P w K mg base CX0 4 a.f_names a.d_names ["_law_box_here", "_law_many"] sp_names := by
  refine T.F_names.ok sc_names (fun vs H Q E h => ?_) (fun cdv A outer s H vs Q E hr h => ?_)
  · obtain ⟨b, g, l, n, m, rfl, _⟩ := h
    rfl
  · obtain ⟨b, g, l, n, m, rfl, bx, n0, n1, m0, m1, kk⟩ := h
    refine ⟨_, (pss_cons (ps_set (i := 2) sc_names.nd rfl (Or.inl rfl) (pe_lst pa_nil))
      (pss_cons (ps_for PassesOwn.never rfl (pi_range1 (by rfl) T.z_range (pa_cons (pv 1) pa_nil)) (pg_name (i := 3) sc_names.nd rfl (Or.inl rfl)) (pss_cons (ps_set (i := 4) sc_names.nd rfl (Or.inl rfl) (pe_call (ok_name T) (hr.mono (by decide)) rfl T.g_name T.k_name T.B_name .nil pass0 (pa_cons (pv 0) pa_nil)))
      (C8.pss_cut (ps_if (PW.pt (pw_and (pt_cmpR op_gt (pe_callB call_len_seq (by rfl) T.z_len (by decide +kernel) (pa_cons (pv 2) pa_nil)) pe_int (nomark _)) (pw_and1 (pt_cmpR op_eq (pe_call (ok_take T) (hr.mono (by decide)) rfl T.g_take T.k_take T.B_take .nil pass0 (pa_cons (pv 0) (pa_cons pe_int pa_nil))) pe_int (nomark _))))) (pss_one (ps_set (i := 4) sc_names.nd rfl (Or.inl rfl) (pe_op op_add_str (pe_slice sl_str (pe_ix ix_list (pv 2) (pe_un un_neg pe_int) (fun _ _ => rfl)) po_none (po_some pe_int)) (pe_ix ix_str pe_str (pe_call (ok_take T) (hr.mono (by decide)) rfl T.g_take T.k_take T.B_take .nil pass0 (pa_cons (pv 0) (pa_cons pe_int pa_nil))) (fun _ _ => rfl))))) pss_nil)
      (pss_cons (ps_for PassesOwn.never rfl (pi_list (pe_lst (pa_cons pe_str (pa_cons pe_str (pa_cons pe_str (pa_cons pe_str (pa_cons pe_str (pa_cons pe_str (pa_cons pe_str (pa_cons pe_str (pa_cons pe_str (pa_cons pe_str (pa_cons pe_str (pa_cons pe_str (pa_cons pe_str (pa_cons pe_str (pa_cons pe_str (pa_cons pe_str pa_nil)))))))))))))))))) (pg_name (i := 5) sc_names.nd rfl (Or.inl rfl)) (pss_one (ps_if (pt_cmpR op_in_seq (pv 4) (pv 2) (by rfl)) (pss_one (ps_set (i := 4) sc_names.nd rfl (Or.inl rfl) (pv 5))) pss_nil)))
      (pss_one (ps_expr (pe_bm PySem.F.plainAttrs_list PySem.F.slot_list_append PySem.F.type_list_append mt_append (pv 2) (pa_cons (pv 4) pa_nil))))))))
      (pss_one (ps_ret (pv 2))))), ?_⟩
    refine ⟨by show 0 ≤ sizeLine; decide, fun F hF => ?_⟩
    refine ⟨_, rfl, m, rfl, by omega, by omega, ?_⟩
    have hF0 : F ∉ [b, g, l] := offbox3 bx hF
    have hF2 : F ∉ [b, g] := offbox bx hF
    refine for_range (lo := 0) (n := m.toNat) (fun i σ H1 => Blk (∃ (v3 v4 v5 : Option V) (ns : List Str) (n1 : Int), σ = [some (.ref b), some (.int m), some (.ref F), v3, v4, v5] ∧ ns.length = i ∧ (∀ s, s ∈ ns → My.nameB s = true) ∧ ns.Nodup ∧ n ≤ n1 ∧ n1 ≤ n + 12 * i ∧
      H1 F = some (.lst (ns.map V.str)) ∧ BoxAt H1 b g l n1 ∧ Keeps [b, g] H H1)) ?_ ?_ ?_
    · exact Blk.of ⟨_, _, _, [], n, rfl, rfl, fun s hs => by simp at hs, List.nodup_nil, by omega, by omega, upd_same, bx.upd hF, (Keeps.refl [b, g] H).upd (.inr hF)⟩
    · intro i σ H1 hi hB
      obtain ⟨v3, v4, v5, ns, n2, rfl, rfl, hnm, hnd, hn1, hn2, h1, bx1, kp1⟩ := hB.out
      refine ⟨_, rfl, b, g, l, n2, rfl, bx1, by omega, by omega, fun x n3 H2 nx hn3 hn4 bx2 kp2 => ?_⟩
      have h2 := kp2 _ _ h1 hF2
      refine ⟨fun σ H3 => Blk (∃ (x : Str) (n4 : Int), σ = [some (.ref b), some (.int m), some (.ref F), some (.int (0 + (ns.length : Nat))), some (.str x), v5] ∧ My.nameB x = true ∧ n3 ≤ n4 ∧ n4 ≤ n3 + 2 ∧ H3 F = some (.lst (ns.map V.str)) ∧ BoxAt H3 b g l n4 ∧ Keeps [b, g] H H3), ?_, ?_⟩
      · refine ⟨_, rfl, _, _, rfl, .inl (SqL.of h2), _, _, rfl, rfl, _, rfl, ?_⟩
        refine iteD (fun hp => ?_) (fun hp => ?_)
        · refine ⟨_, rfl, b, g, l, n3, 3, rfl, bx2, by omega, by omega, by decide, by decide, fun k H3 k0 k1 bx3 kp3 => ?_⟩
          have h3 := kp3 _ _ h2 hF2
          refine ⟨rfl, _, rfl, ?_⟩
          refine iteB (fun hk => ?_) (fun hk => ?_)
          · have hne : ns ≠ [] := fun e => by
              subst e
              simp at hp
            obtain ⟨l0, y, rfl⟩ : ∃ l0 y, ns = l0 ++ [y] := ⟨ns.dropLast, ns.getLast hne, (List.dropLast_concat_getLast hne).symm⟩
            have hy := hnm y (by simp)
            refine ⟨_, rfl, _, rfl, _, _, _, _, rfl, rfl, SqL.of h3, (by rw [List.map_append]; exact atI_last _ _), ?_⟩
            refine ⟨_, rfl, _, rfl, name_line hy, ?_⟩
            refine ⟨_, rfl, b, g, l, n3 + 1, 26, rfl, bx3, by omega, by omega, by decide, by decide, fun j H4 j0 j1 bx4 kp4 => ?_⟩
            obtain ⟨c, hc, lc⟩ := abc_ix j0 j1
            have h4 := kp4 _ _ h3 hF2
            refine ⟨_, _, _, rfl, rfl, abc_len, hc, ?_⟩
            refine ⟨_, _, rfl, rfl, ?_, ?_⟩
            · have e1 : (cutS y none (some 7)).length ≤ 7 := by
                rw [cut7]
                show ((y.cps.toList.take 7).toArray).size ≤ 7
                simp
                omega
              have e2 : (⟨#[c]⟩ : Str).length = 1 := rfl
              rw [e2, sizeLine_eq]
              omega
            · exact Blk.of ⟨_, _, rfl, name_cut hy lc, by omega, by omega, h4, bx4, ((kp1.trans kp2).trans kp3).trans kp4⟩
          · exact Blk.of ⟨x, _, rfl, nx, by omega, by omega, h3, bx3, (kp1.trans kp2).trans kp3⟩
        · refine iteF ?_
          exact Blk.of ⟨x, n3, rfl, nx, by omega, by omega, h2, bx2, kp1.trans kp2⟩
      · rintro σ H3 hB
        obtain ⟨x, n4, rfl, nx, hn5, hn6, h3, bx3, kp3⟩ := hB.out
        refine ⟨by show 16 ≤ sizeLine; decide, fun L hL => ?_⟩
        have nFL : F ≠ L := ne_of_none h3 hL
        refine ⟨L, rfl, ⟨_, SqL.of upd_same⟩, ?_⟩
        refine for_list (K := K) (a := L) (xs := My.spares.map V.str) (fun i σ H4 => Blk (∃ (v5 : Option V) (x : Str), σ = [some (.ref b), some (.int m), some (.ref F), some (.int (0 + (ns.length : Nat))), some (.str x), v5] ∧ My.Seek ns i x ∧ H4 = upd H3 L (.lst (My.spares.map V.str)))) ?_ ?_ ?_ ?_
        · exact Blk.of ⟨_, x, rfl, My.Seek.first nx, rfl⟩
        · intro i σ H4 _ hB
          obtain ⟨v5, x, rfl, _, rfl⟩ := hB.out
          exact SqL.of upd_same
        · intro i y σ H4 hy hB
          obtain ⟨v5, x, rfl, sk, rfl⟩ := hB.out
          obtain ⟨s, hs, rfl⟩ := strs_get hy
          refine ⟨_, rfl, _, rfl, F, _, rfl, .inl (SqL.of ((upd_ne nFL).trans h3)), rfl, flat_str _, _, rfl, ?_⟩
          rw [if_neg Bool.false_ne_true, inV_str]
          refine iteD (fun hm => ?_) (fun hm => ?_)
          · exact ⟨_, rfl, Blk.of ⟨_, s, rfl, sk.next hm hs, rfl⟩⟩
          · exact Blk.of ⟨_, x, rfl, sk.keep hm, rfl⟩
        · intro σ H4 hB
          obtain ⟨v5, x, rfl, sk, rfl⟩ := hB.out
          obtain ⟨nx2, nin⟩ := sk.done (by omega)
          refine ⟨_, rfl, .inl ⟨rfl, _, SqL.of ((upd_ne nFL).trans h3)⟩, _, rfl, F, _, _, rfl, rfl, (upd_ne nFL).trans h3, by rw [List.length_map]; exact small (by omega), ?_⟩
          refine Blk.of ⟨_, _, _, ns ++ [x], n4, rfl, by rw [List.length_append]; rfl, ?_, ?_, by omega, by omega, ?_, ?_, ?_⟩
          · intro s hs
            rcases List.mem_append.mp hs with e | e
            · exact hnm s e
            · simp at e; subst e; exact nx2
          · rw [List.nodup_append]
            exact ⟨hnd, by simp, fun a ha b hb => by simp at hb; subst hb; exact fun e => nin (e ▸ ha)⟩
          · rw [upd_same, List.map_append]; rfl
          · exact box_put (bx3.upd hL) hF0
          · refine (kp3.upd (.inr ?_)).upd (.inr hF)
            rcases kp3.fresh hL with q | q
            · exact absurd q (offbox bx3 hL)
            · exact q
    · intro σ H1 hB
      obtain ⟨v3, v4, v5, ns, n2, rfl, hl, hnm, hnd, hn1, hn2, h1, bx1, kp1⟩ := hB.out
      exact ⟨_, rfl, kk F ns n2 H1 hF h1 (by omega) hnm hnd hn1 (by omega) bx1 kp1⟩

/-! ### pairs of words -/
def prO (p : My.Pr) : HO := .tup [.str p.1, .str p.2.1, .bl p.2.2]
/-- at as stand the objects of xs -/
structure Objs {α : Type} (H : Hp) (as : List Addr) (f : α → HO) (xs : List α) : Prop where
  len : as.length = xs.length
  at_ : ∀ (i : Nat) (h : Addr) (x : α), as[i]? = some h → xs[i]? = some x → H h = some (f x)
theorem Objs.keep {α : Type} {H H' : Hp} {R as : List Addr} {f : α → HO} {xs : List α} (o : Objs H as f xs) (k : Keeps R H H') (d : ∀ x, x ∈ R → x ∉ as) : Objs H' as f xs :=
  ⟨o.len, fun i h x e1 e2 => k _ _ (o.at_ i h x e1 e2) fun q => d h q (List.mem_of_getElem? e1)⟩
theorem Objs.same {α : Type} {H H' : Hp} {as : List Addr} {f : α → HO} {xs : List α} (o : Objs H as f xs) (k : Same H H') : Objs H' as f xs :=
  ⟨o.len, fun i h x e1 e2 => k _ _ (o.at_ i h x e1 e2)⟩
theorem Objs.get {α : Type} {H : Hp} {as : List Addr} {f : α → HO} {xs : List α} (o : Objs H as f xs) {i : Nat} {h : Addr} (e : as[i]? = some h) : ∃ x, xs[i]? = some x ∧ H h = some (f x) := by
  have hl := get_lt e
  rw [o.len] at hl
  have e2 : xs[i]? = some xs[i] := List.getElem?_eq_getElem hl
  exact ⟨_, e2, o.at_ i h _ e e2⟩
theorem Objs.nil {α : Type} {H : Hp} {f : α → HO} : Objs H [] f [] := ⟨rfl, fun i h x e => by simp at e⟩
theorem Objs.snoc {α : Type} {H : Hp} {as : List Addr} {f : α → HO} {xs : List α} (o : Objs H as f xs) {h : Addr} {x : α} (e : H h = some (f x)) : Objs H (as ++ [h]) f (xs ++ [x]) := by
  refine ⟨by rw [List.length_append, List.length_append, o.len]; rfl, fun i h' x' e1 e2 => ?_⟩
  by_cases hi : i < as.length
  · rw [List.getElem?_append_left hi] at e1
    rw [List.getElem?_append_left (by rw [← o.len]; exact hi)] at e2
    exact o.at_ i h' x' e1 e2
  · have hl := get_lt e1
    rw [List.length_append, List.length_singleton] at hl
    obtain rfl : i = as.length := by omega
    have e3 : as.length = xs.length := o.len
    simp at e1
    rw [e3] at e2
    simp at e2
    subst e1 e2
    exact e
theorem Objs.take {α : Type} {H : Hp} {as : List Addr} {f : α → HO} {xs : List α} (o : Objs H as f xs) (n : Nat) : Objs H (as.take n) f (xs.take n) := by
  refine ⟨by rw [List.length_take, List.length_take, o.len], fun i h x e1 e2 => ?_⟩
  by_cases hi : i < n
  · rw [List.getElem?_take, if_pos hi] at e1 e2
    exact o.at_ i h x e1 e2
  · rw [List.getElem?_take, if_neg hi] at e1
    cases e1
def sp_pairs : Sp := fun vs H Q _ => ∃ (b g l : Addr) (n m : Int), vs = [.ref b, .int m] ∧ BoxAt H b g l n ∧ 0 ≤ n ∧ n < 7000000 ∧ 0 ≤ m ∧ m ≤ 6 ∧
  ∀ (p : Addr) (as : List Addr) (ps : List My.Pr) (n' : Int) (H' : Hp), H p = none → H' p = some (.lst (as.map V.ref)) → Objs H' as prO ps → (∀ h, h ∈ as → H h = none) → My.PairsOk ps → n ≤ n' → n' ≤ n + 200 → BoxAt H' b g l n' → Keeps [b, g] H H' → Q (.ref p) H'
theorem cutV_tail (xs : List V) : cutV xs (some 1) none = xs.drop 1 := by
  unfold cutV
  have e0 : HT.sIx xs.length 0 (some 1) = min 1 xs.length := HT.sIx_nat _ _ 1
  have e1 : HT.sIx xs.length xs.length none = xs.length := rfl
  rw [e0, e1]
  cases xs with
  | nil => rfl
  | cons x r =>
    have : min 1 (x :: r).length = 1 := by rw [List.length_cons]; omega
    rw [this]
    refine List.take_of_length_le ?_
    rw [List.length_drop]
    exact Nat.le_refl _
theorem cutV_head (xs : List V) : cutV xs none (some 1) = xs.take 1 := by
  unfold cutV
  have e0 : HT.sIx xs.length 0 none = 0 := rfl
  have e1 : HT.sIx xs.length xs.length (some 1) = min 1 xs.length := HT.sIx_nat _ _ 1
  rw [e0, e1, List.drop_zero, Nat.sub_zero]
  cases xs with
  | nil => rfl
  | cons x r =>
    have : min 1 (x :: r).length = 1 := by rw [List.length_cons]; omega
    rw [this]
theorem ok_pairs (T : Txt K mg a) : FnOk P w K mg base CX0 5 a.f_pairs a.d_pairs ["_law_box_here", "_law_most"] sp_pairs := by
  refine T.F_pairs.ok sc_pairs (fun vs H Q E h => ?_) (fun cdv A outer s H vs Q E hr h => ?_)
  · obtain ⟨b, g, l, n, m, rfl, _⟩ := h
    rfl
  · obtain ⟨b, g, l, n, m, rfl, bx, n0, n1, m0, m1, kk⟩ := h
    refine ⟨_, (pss_cons (ps_set (i := 2) sc_pairs.nd rfl (Or.inl rfl) (pe_call (ok_names T) (hr.mono (by decide)) rfl T.g_names T.k_names T.B_names .nil pass0 (pa_cons (pv 0) (pa_cons (pe_call (ok_take T) (hr.mono (by decide)) rfl T.g_take T.k_take T.B_take .nil pass0 (pa_cons (pv 0) (pa_cons (pe_op op_add (pv 1) pe_int) pa_nil))) pa_nil))))
      (pss_cons (ps_set (i := 3) sc_pairs.nd rfl (Or.inl rfl) (pe_call (ok_names T) (hr.mono (by decide)) rfl T.g_names T.k_names T.B_names .nil pass0 (pa_cons (pv 0) (pa_cons (pe_callB call_len_seq (by rfl) T.z_len (by decide +kernel) (pa_cons (pv 2) pa_nil)) pa_nil))))
      (C8.pss_cut (ps_if (pt_cmpR op_eq (pe_call (ok_take T) (hr.mono (by decide)) rfl T.g_take T.k_take T.B_take .nil pass0 (pa_cons (pv 0) (pa_cons pe_int pa_nil))) pe_int (nomark _)) (pss_one (ps_set (i := 3) sc_pairs.nd rfl (Or.inl rfl) (pe_op op_cat (pe_slice sl_list (pv 2) (po_some pe_int) po_none) (pe_slice sl_list (pv 2) po_none (po_some pe_int))))) pss_nil)
      (pss_one (ps_ret (pe_lc (own := [("_law_near", 4), ("_law_far", 5)]) (g := (gTup K 2 (gCons (gName 4) (gCons (gName 5) gNil)))) (tt := tYes) rfl sc_pairs.nd (pi_zip (by rfl) T.z_zip (pa_cons (pv 2) (pa_cons (pv 3) pa_nil))) (blkOk_by (own := [("_law_near", 4), ("_law_far", 5)]) (N := ["_law_box_here", "_law_most", "_law_nears", "_law_fars", "_law_near", "_law_far"]) (sc := defScope s_pairs) (by decide +kernel)) (fun _ _ _ _ _ => by exact pg_tup rfl (pgs_cons (pg_name (i := 4) sc_pairs.nd rfl (Or.inl rfl)) (pgs_cons (pg_name (i := 5) sc_pairs.nd rfl (Or.inl rfl)) pgs_nil))) (fun _ _ _ _ _ => pts_nil) (fun _ _ _ _ _ => by exact (pe_tup (pa_cons (pv 4) (pa_cons (pv 5) (pa_cons (pe_cmpR op_eq (pe_call (ok_take T) (hr.mono (by decide)) rfl T.g_take T.k_take T.B_take .nil pass0 (pa_cons (pv 0) (pa_cons pe_int pa_nil))) pe_int (nomark _)) pa_nil))))))))))), ?_⟩
    refine ⟨_, rfl, _, rfl, _, rfl, _, _, rfl, rfl, ?_⟩
    have lm : (m + 1).natAbs.log2 < 9000 := by
      have : m = 0 ∨ m = 1 ∨ m = 2 ∨ m = 3 ∨ m = 4 ∨ m = 5 ∨ m = 6 := by omega
      rcases this with rfl | rfl | rfl | rfl | rfl | rfl | rfl <;> decide
    refine ⟨b, g, l, n, m + 1, rfl, bx, n0, by omega, by omega, lm, fun k H1 k0 k1 bx1 kp1 => ?_⟩
    refine ⟨b, g, l, n + 1, k, rfl, bx1, by omega, by omega, k0, by omega, fun N ns n2 H2 hN hN2 hl2 nm2 nd2 a2 b2 bx2 kp2 => ?_⟩
    refine ⟨_, rfl, _, rfl, N, _, rfl, .inl (SqL.of hN2), ?_⟩
    refine ⟨b, g, l, n2, _, rfl, bx2, by omega, by omega, by omega, by rw [List.length_map]; omega, fun F fs n3 H3 hF hF3 hl3 nm3 nd3 a3 b3 bx3 kp3 => ?_⟩
    rw [List.length_map] at hl3 b3
    have hN3 := kp3 _ _ hN2 (offbox bx1 hN ∘ fun q => q)
    have k03 := (kp1.trans kp2).trans kp3
    have hl32 : fs.length = ns.length := by omega
    have frN : H N = none := by
      rcases kp1.fresh hN with q | q
      · exact absurd q (offbox bx1 hN)
      · exact q
    have frF : H F = none := by
      rcases (kp1.trans kp2).fresh hF with q | q
      · exact absurd q (offbox bx2 hF)
      · exact q
    refine ⟨fun σ H4 => Blk (∃ (F : Addr) (fs : List Str) (n4 : Int), σ = [some (.ref b), some (.int m), some (.ref N), some (.ref F), none, none] ∧ fs.length = ns.length ∧ (∀ s, s ∈ fs → My.nameB s = true) ∧ fs.Nodup ∧ H4 N = some (.lst (ns.map V.str)) ∧ H4 F = some (.lst (fs.map V.str)) ∧ F ∉ [b, g] ∧
      n3 ≤ n4 ∧ n4 ≤ n3 + 1 ∧ BoxAt H4 b g l n4 ∧ Keeps [b, g] H H4), ?_, ?_⟩
    · refine ⟨_, rfl, b, g, l, n3, 3, rfl, bx3, by omega, by omega, by decide, by decide, fun k3 H4 k30 k31 bx4 kp4 => ?_⟩
      have hN4 := kp4 _ _ hN3 (offbox bx1 hN)
      have hF4 := kp4 _ _ hF3 (offbox bx2 hF)
      refine ⟨rfl, _, rfl, ?_⟩
      refine iteB (fun hk => ?_) (fun hk => ?_)
      · refine ⟨_, rfl, _, rfl, N, _, rfl, SqL.of hN4, fun p1 hp1 => ?_⟩
        have np1 : N ≠ p1 := ne_of_none hN4 hp1
        refine ⟨_, rfl, _, rfl, N, _, rfl, SqL.of ((upd_ne np1).trans hN4), fun p2 hp2 => ?_⟩
        have np2 : N ≠ p2 := ne_of_none ((upd_ne np1).trans hN4) hp2
        have n12 : p1 ≠ p2 := ne_of_none upd_same hp2
        have hp20 : H4 p2 = none := (upd_ne n12.symm).symm.trans hp2
        refine ⟨p1, p2, _, _, rfl, rfl, (upd_ne n12).trans upd_same, upd_same, ?_, fun p3 hp3 => ?_⟩
        · rw [cutV_tail, cutV_head, List.length_drop, List.length_take, List.length_map]
          exact Nat.le_of_lt (small (by omega))
        have n23 : p2 ≠ p3 := ne_of_none upd_same hp3
        have hp31 := (upd_ne n23.symm).symm.trans hp3
        have n13 : p1 ≠ p3 := ne_of_none upd_same hp31
        have hp30 : H4 p3 = none := (upd_ne n13.symm).symm.trans hp31
        have nN3 : N ≠ p3 := ne_of_none hN4 hp30
        refine Blk.of ⟨p3, ns.drop 1 ++ ns.take 1, n3 + 1, rfl, My.rot_len ns, ?_, My.rot_nodup nd2, ?_, ?_, ?_, by omega, by omega, ?_, ?_⟩
        · intro s hs
          rcases List.mem_append.mp hs with e | e
          · exact nm2 s (List.mem_of_mem_drop e)
          · exact nm2 s (List.mem_of_mem_take e)
        · rw [upd_ne nN3, upd_ne np2, upd_ne np1]
          exact hN4
        · rw [upd_same, cutV_tail, cutV_head, List.map_append, List.map_drop, List.map_take]
        · exact offbox bx4 hp30
        · exact ((bx4.upd hp1).upd hp2).upd hp3
        · have k04 := k03.trans kp4
          have fr : ∀ {x : Addr}, H4 x = none → x ∈ [b, g] ∨ H x = none := fun hx => k04.fresh hx
          exact ((k04.upd (fr hp1)).upd (fr hp20)).upd (fr hp30)
      · exact Blk.of ⟨F, fs, n3 + 1, rfl, hl32, nm3, nd3, hN4, hF4, offbox bx2 hF, by omega, by omega, bx4, k03.trans kp4⟩
    · rintro σ H4 hB
      obtain ⟨F, fs, n4, rfl, hlf, nmf, ndf, hN4, hF4, oF, a4, b4, bx4, k04⟩ := hB.out
      have frN4 : H4 N = some (.lst (ns.map V.str)) := hN4
      refine ⟨_, rfl, _, rfl, N, F, _, _, rfl, SqL.of hN4, SqL.of hF4, fun D hD => ?_⟩
      have hDo : D ∉ [b, g] := offbox bx4 hD
      have hDo3 : D ∉ [b, g, l] := offbox3 bx4 hD
      have nND : N ≠ D := ne_of_none hN4 hD
      have nFD : F ≠ D := ne_of_none hF4 hD
      have frD : H D = none := by
        rcases k04.fresh hD with q | q
        · exact absurd q hDo
        · exact q
      have oN : N ∉ [b, g] := fun q => by
        obtain ⟨gs, ls, cur, e1, e2, _⟩ := bx
        simp at q
        rcases q with rfl | rfl
        · rw [e1] at frN; cases frN
        · rw [e2] at frN; cases frN
      refine lc_it (walk_zip (K := K) (a := N) (b := F) (xs := ns.map V.str) (ys := fs.map V.str) (n := ns.length) (by rw [List.length_map, List.length_map]; omega))
        (fun i H5 => Blk (∃ (as : List Addr) (ps : List My.Pr), ps.length = i ∧ (∀ (j : Nat) (q : My.Pr), ps[j]? = some q → ns[j]? = some q.1 ∧ fs[j]? = some q.2.1) ∧ H5 D = some (.lst (as.map V.ref)) ∧ Objs H5 as prO ps ∧ (∀ h, h ∈ as → H h = none ∧ h ∉ [b, g] ∧ h ≠ D) ∧ H5 N = some (.lst (ns.map V.str)) ∧ H5 F = some (.lst (fs.map V.str)) ∧ BoxAt H5 b g l (n4 + i) ∧ Keeps [b, g] H H5)) ?_ ?_ ?_ ?_
      · refine Blk.of ⟨[], [], rfl, fun j q e => by simp at e, upd_same, Objs.nil, fun h e => by simp at e, (upd_ne nND).trans hN4, (upd_ne nFD).trans hF4, ?_, k04.upd (.inr frD)⟩
        have e : n4 + ((0 : Nat) : Int) = n4 := by omega
        rw [e]
        exact bx4.upd hD
      · intro i H5 _ hB
        obtain ⟨as, ps, _, _, _, _, _, e1, e2, _⟩ := hB.out
        exact ⟨SqL.of e1, SqL.of e2⟩
      · intro i x H5 H6 hi hB hy
        obtain ⟨as, ps, rfl, hps, h5, ob5, fr5, hN5, hF5, bx5, k05⟩ := hB.out
        obtain ⟨Tp, u, v, rfl, hT, rfl, hu, hv⟩ := hy
        obtain ⟨s1, hs1, rfl⟩ := strs_get hu
        obtain ⟨s2, hs2, rfl⟩ := strs_get hv
        have sT : Same H5 (upd H5 Tp (.tup [.str s1, .str s2])) := (Same.refl H5).upd hT
        refine ⟨Tp, _, rfl, SqT.of upd_same, rfl, _, _, rfl, _, _, rfl, rfl, ?_⟩
        refine ⟨rfl, ?_⟩
        dsimp only [tYes]
        refine iteT ?_
        refine ⟨_, rfl, _, rfl, _, rfl, b, g, l, _, 2, rfl, bx5.same sT, by omega, by omega, by decide, by decide, fun k H7 k0 k1 bx7 kp7 => ?_⟩
        refine ⟨rfl, by show 3 ≤ sizeLine; decide, fun t ht => ?_⟩
        have kT : Keeps [b, g] H5 H7 := (show Keeps [b, g] H5 _ from fun c o e _ => sT c o e).trans kp7
        have h7 := kT _ _ h5 hDo
        have hN7 := kT _ _ hN5 (offbox bx1 hN)
        have nDt : D ≠ t := ne_of_none h7 ht
        have nNt : N ≠ t := ne_of_none hN7 ht
        have hF7 := kT _ _ hF5 oF
        have nFt : F ≠ t := ne_of_none hF7 ht
        have ot := offbox bx7 ht
        have ht5 : H5 t = none := by
          rcases kT.fresh ht with q | q
          · exact absurd q ot
          · exact q
        have ht0 : H t = none := by
          rcases k05.fresh ht5 with q | q
          · exact absurd q ot
          · exact q
        have k58 : ∀ o1 o2, Keeps [b, g, D] H5 (upd (upd H7 t o1) D o2) := fun o1 o2 => ((kT.mono (fun x hx => by simp at hx ⊢; rcases hx with e | e <;> simp [e])).upd (.inr ht5)).upd (.inl (by simp))
        have asl : as.length = ps.length := ob5.len
        refine ⟨_, (upd_ne nDt).trans h7, by rw [List.length_map]; exact small (by omega), Blk.of ⟨as ++ [t], ps ++ [(s1, s2, decide (V.int k = V.int 1))], by rw [List.length_append]; rfl, ?_, ?_, ?_, ?_, ?_, ?_, ?_, ?_⟩⟩
        · intro j q e
          by_cases hj : j < ps.length
          · rw [List.getElem?_append_left hj] at e
            exact hps j q e
          · have hl := get_lt e
            rw [List.length_append, List.length_singleton] at hl
            obtain rfl : j = ps.length := by omega
            simp at e
            subst e
            exact ⟨hs1, hs2⟩
        · rw [upd_same, List.map_append]; rfl
        · refine Objs.snoc (ob5.keep (k58 _ _) fun x hx hm => ?_) ?_
          · have f := fr5 x hm
            simp at hx
            rcases hx with e | e | e
            · exact f.2.1 (by simp [e])
            · exact f.2.1 (by simp [e])
            · exact f.2.2 e
          · rw [upd_ne nDt.symm, upd_same]
            rfl
        · intro h hh
          rcases List.mem_append.mp hh with e | e
          · exact fr5 h e
          · simp at e
            subst e
            exact ⟨ht0, ot, nDt.symm⟩
        · rw [upd_ne nND, upd_ne nNt]; exact hN7
        · rw [upd_ne nFD, upd_ne nFt]; exact hF7
        · have e : n4 + ((ps.length + 1 : Nat) : Int) = n4 + (ps.length : Int) + 1 := by omega
          rw [e]
          exact box_put (bx7.upd ht) hDo3
        · exact ((k05.trans kT).upd (.inr ht0)).upd (.inr frD)
      · intro H5 hB
        obtain ⟨as, ps, hpl, hps, h5, ob5, fr5, hN5, hF5, bx5, k05⟩ := hB.out
        have e1 : ps.map (·.1) = ns := List.ext_getElem? fun j => by
          rw [List.getElem?_map]
          cases e : ps[j]? with
          | none =>
            have := List.getElem?_eq_none_iff.mp e
            rw [List.getElem?_eq_none (by omega)]
            rfl
          | some q => rw [(hps j q e).1]; rfl
        have e2 : ps.map (·.2.1) = fs := List.ext_getElem? fun j => by
          rw [List.getElem?_map]
          cases e : ps[j]? with
          | none =>
            have := List.getElem?_eq_none_iff.mp e
            rw [List.getElem?_eq_none (by omega)]
            rfl
          | some q => rw [(hps j q e).2]; rfl
        have hnl : ns.length ≤ 6 := by omega
        refine kk D as ps (n4 + (ns.length : Int)) H5 frD h5 ob5 (fun h hh => (fr5 h hh).1) ⟨by omega, fun q hq => ⟨nm2 _ ?_, nmf _ ?_⟩, by rw [e1]; exact nd2, by rw [e2]; exact ndf⟩ (by omega) (by omega) bx5 k05
        · rw [← e1]; exact List.mem_map.mpr ⟨q, hq, rfl⟩
        · rw [← e2]; exact List.mem_map.mpr ⟨q, hq, rfl⟩

/-! ### Pacts: made of pairs that fit -/
def sp_is_pair : Sp := fun vs H Q _ => ∃ (h : Addr) (q : My.Pr), vs = [.ref h] ∧ H h = some (prO q) ∧ q.1.length ≤ sizeLine ∧ q.2.1.length ≤ sizeLine ∧ ∀ H', Same H H' → Q (.bl (My.nameB q.1 && My.nameB q.2.1)) H'
theorem ok_p_is_pair (T : Txt K mg a) : FnOk P w K mg base CX0 2 a.f_p_is_pair a.d_p_is_pair ["pair"] sp_is_pair := by
  refine T.F_p_is_pair.ok sc_p_is_pair (fun vs H Q E h => ?_) (fun cdv A outer s H vs Q E hr h => ?_)
  · obtain ⟨h, q, rfl, _⟩ := h
    rfl
  · obtain ⟨h, ⟨q1, q2, q3⟩, rfl, e, z1, z2, kk⟩ := h
    refine ⟨_, (pss_cons (ps_if (PW.pt (pw_or (pt_not (pt_val (pe_callB call_isi (by rfl) T.z_isinstance (by decide +kernel) (pa_cons (pv 0) (pa_cons (pe_bltn (v := .ty "tuple") (by rfl) T.z_tuple (by decide +kernel) rfl) pa_nil))))) (pw_or1 (pt_cmpR op_ne (pe_callB call_len_seq (by rfl) T.z_len (by decide +kernel) (pa_cons (pv 0) pa_nil)) pe_int (nomark _))))) (pss_one (ps_ret pe_bl)) pss_nil)
      (pss_cons (ps_asg (pv 0) (pg_tup (by rfl) (pgs_cons (pg_name (i := 1) sc_p_is_pair.nd rfl (Or.inl rfl)) (pgs_cons (pg_name (i := 2) sc_p_is_pair.nd rfl (Or.inl rfl)) (pgs_cons (pg_name (i := 3) sc_p_is_pair.nd rfl (Or.inl rfl)) pgs_nil)))))
      (pss_one (ps_ret (pe_and (pe_call (ok_is_name T) (hr.mono (by decide)) rfl T.g_is_name T.k_is_name T.B_is_name .nil pass0 (pa_cons (pv 1) pa_nil)) (pe_and (pe_call (ok_is_name T) (hr.mono (by decide)) rfl T.g_is_name T.k_is_name T.B_is_name .nil pass0 (pa_cons (pv 2) pa_nil)) (pe_one (pe_callB call_isi (by rfl) T.z_isinstance (by decide +kernel) (pa_cons (pv 3) (pa_cons (pe_bltn (v := .ty "bool") (by rfl) T.z_bool (by decide +kernel) rfl) pa_nil)))))))))), ?_⟩
    have e' : H h = some (.tup [.str q1, .str q2, .bl q3]) := e
    refine ⟨_, rfl, _, _, _, _, true, rfl, .ty "tuple", .base (.tup e'), kit_ty (by decide +kernel), true, rfl, ?_⟩
    refine iteF ?_
    refine ⟨_, rfl, _, _, rfl, .inr (SqT.of e'), rfl, _, rfl, ?_⟩
    refine iteNS rfl ?_
    refine ⟨_, rfl, h, _, rfl, SqT.of e', rfl, ?_⟩
    refine ⟨_, _, rfl, _, _, rfl, _, _, rfl, rfl, ?_⟩
    refine ⟨_, rfl, q1, rfl, z1, fun H1 s1 => ⟨_, rfl, ?_⟩⟩
    refine iteB (fun h1 => ?_) (fun h1 => ?_)
    · refine ⟨_, rfl, q2, rfl, z2, fun H2 s2 => ⟨_, rfl, ?_⟩⟩
      refine iteB (fun h2 => ?_) (fun h2 => ?_)
      · refine ⟨_, rfl, _, _, _, _, true, rfl, .ty "bool", .base (.bl q3), kit_ty (by decide +kernel), ?_⟩
        have e3 : (My.nameB q1 && My.nameB q2) = true := by rw [h1, h2]; rfl
        exact e3 ▸ kk H2 (s1.trans s2)
      · have e3 : (My.nameB q1 && My.nameB q2) = false := by rw [h1, h2]; rfl
        exact e3 ▸ kk H2 (s1.trans s2)
    · have e3 : (My.nameB q1 && My.nameB q2) = false := by rw [h1]; rfl
      exact e3 ▸ kk H1 s1
def fitsB (q : My.Pr) (ps : List My.Pr) : Bool := decide (ps.length < 6) && !decide (q.1 ∈ ps.map (·.1)) && !decide (q.2.1 ∈ ps.map (·.2.1))
def sp_fits_pairs : Sp := fun vs H Q _ => ∃ (h l : Addr) (q : My.Pr) (as : List Addr) (ps : List My.Pr), vs = [.ref h, .ref l] ∧ H h = some (prO q) ∧ H l = some (.lst (as.map V.ref)) ∧ Objs H as prO ps ∧ ps.length ≤ 10000 ∧ ∀ H', Same H H' → Q (.bl (fitsB q ps)) H'
theorem ok_p_fits_pairs (T : Txt K mg a) : FnOk P w K mg base CX0 1 a.f_p_fits_pairs a.d_p_fits_pairs ["pair", "ahead"] sp_fits_pairs := by
  refine T.F_p_fits_pairs.ok sc_p_fits_pairs (fun vs H Q E h => ?_) (fun cdv A outer s H vs Q E hr h => ?_)
  · obtain ⟨h, l, q, as, ps, rfl, _⟩ := h
    rfl
  · obtain ⟨h, l, ⟨q1, q2, q3⟩, as, ps, rfl, e, el, ob, hz, kk⟩ := h
    have e' : H h = some (.tup [.str q1, .str q2, .bl q3]) := e
    have asl := ob.len
    refine ⟨_, (pss_cons (ps_setLc (i := 2) (own := [("one", 4)]) (g := gName 4) (te := tOp (rIxT K) (tVar 4) (tC (.int 0))) (tt := tYes) rfl sc_p_fits_pairs.nd rfl rfl (sw_true rfl rfl rfl (by decide +kernel)) (pi_list (pv 1)) (blkOk_by (own := [("one", 4)]) (N := ["pair", "ahead", "nears", "fars", "one"]) (sc := defScope s_p_fits_pairs) (by decide +kernel)) (fun _ _ _ _ _ => pg_name (i := 4) sc_p_fits_pairs.nd rfl (Or.inl rfl)) (fun _ _ _ _ _ => pts_nil) (fun _ _ _ _ _ => by exact (pe_ix ix_tup (pv 4) pe_int (fun _ _ => rfl))))
      (pss_cons (ps_setLc (i := 3) (own := [("one", 4)]) (g := gName 4) (te := tOp (rIxT K) (tVar 4) (tC (.int 1))) (tt := tYes) rfl sc_p_fits_pairs.nd rfl rfl (sw_true rfl rfl rfl (by decide +kernel)) (pi_list (pv 1)) (blkOk_by (own := [("one", 4)]) (N := ["pair", "ahead", "nears", "fars", "one"]) (sc := defScope s_p_fits_pairs) (by decide +kernel)) (fun _ _ _ _ _ => pg_name (i := 4) sc_p_fits_pairs.nd rfl (Or.inl rfl)) (fun _ _ _ _ _ => pts_nil) (fun _ _ _ _ _ => by exact (pe_ix ix_tup (pv 4) pe_int (fun _ _ => rfl))))
      (pss_one (ps_ret (pe_and (pe_cmpR op_lt (pe_callB call_len_seq (by rfl) T.z_len (by decide +kernel) (pa_cons (pv 1) pa_nil)) (pe_glob (v := .int 6) rfl T.v_MOST_PAIRS ⟨_, rfl⟩) (nomark _)) (pe_and (pe_cmpR op_notIn_seq (pe_ix ix_tup (pv 0) pe_int (fun _ _ => rfl)) (pv 2) (by rfl)) (pe_one (pe_cmpR op_notIn_seq (pe_ix ix_tup (pv 0) pe_int (fun _ _ => rfl)) (pv 3) (by rfl))))))))), ?_⟩
    refine ⟨_, rfl, l, rfl, ⟨_, SqL.of el⟩, fun D hD => ?_⟩
    have nlD : l ≠ D := ne_of_none el hD
    refine lc_list (K := K) (a := l) (xs := as.map V.ref) (fun i H1 => Blk (H1 = upd H D (.lst (((ps.take i).map (·.1)).map V.str)))) (Blk.of rfl) (fun i H1 _ hB => ?_) ?_ ?_
    · obtain rfl := hB.out
      exact SqL.of ((upd_ne nlD).trans el)
    · intro i y H1 hi hB
      obtain rfl := hB.out
      obtain ⟨x, hx, rfl⟩ := refs_get hi
      obtain ⟨r, hr1, hr2⟩ := ob.get hx
      have := get_lt hr1
      refine ⟨rfl, ?_⟩
      dsimp only [tYes]
      refine iteT ?_
      refine ⟨_, rfl, _, _, _, _, rfl, rfl, SqT.of ((upd_ne (ne_of_none hr2 hD)).trans hr2), rfl, ?_⟩
      refine ⟨_, upd_same, by rw [List.length_map, List.length_map, List.length_take]; exact small (by omega), Blk.of ?_⟩
      rw [upd_upd, take_snoc hr1, List.map_append, List.map_append]
      rfl
    · intro H1 hB
      obtain rfl := hB.out
      have e1 : ps.take (as.map V.ref).length = ps := by rw [List.length_map, asl, List.take_length]
      rw [e1]
      refine ⟨_, rfl, l, rfl, ⟨_, SqL.of ((upd_ne nlD).trans el)⟩, fun G hG => ?_⟩
      have nDG : D ≠ G := ne_of_none upd_same hG
      have hG0 : H G = none := (upd_ne nDG.symm).symm.trans hG
      have nlG : l ≠ G := ne_of_none el hG0
      refine lc_list (K := K) (a := l) (xs := as.map V.ref) (fun i H1 => Blk (H1 = upd (upd H D (.lst ((ps.map (·.1)).map V.str))) G (.lst (((ps.take i).map (·.2.1)).map V.str)))) (Blk.of rfl) (fun i H1 _ hB => ?_) ?_ ?_
      · obtain rfl := hB.out
        exact SqL.of ((upd_ne nlG).trans ((upd_ne nlD).trans el))
      · intro i y H1 hi hB
        obtain rfl := hB.out
        obtain ⟨x, hx, rfl⟩ := refs_get hi
        obtain ⟨r, hr1, hr2⟩ := ob.get hx
        have := get_lt hr1
        refine ⟨rfl, ?_⟩
        dsimp only [tYes]
        refine iteT ?_
        refine ⟨_, rfl, _, _, _, _, rfl, rfl, SqT.of ((upd_ne (ne_of_none hr2 hG0)).trans ((upd_ne (ne_of_none hr2 hD)).trans hr2)), rfl, ?_⟩
        refine ⟨_, upd_same, by rw [List.length_map, List.length_map, List.length_take]; exact small (by omega), Blk.of ?_⟩
        rw [upd_upd, take_snoc hr1, List.map_append, List.map_append]
        rfl
      · intro H1 hB
        obtain rfl := hB.out
        rw [e1]
        have sH : Same H (upd (upd H D (.lst ((ps.map (·.1)).map V.str))) G (.lst ((ps.map (·.2.1)).map V.str))) := ((Same.refl H).upd hD).upd hG0
        have hq := sH _ _ e'
        have hDl : (upd (upd H D (.lst ((ps.map (·.1)).map V.str))) G (.lst ((ps.map (·.2.1)).map V.str))) D = some (.lst ((ps.map (·.1)).map V.str)) := (upd_ne nDG).trans upd_same
        have hGl : (upd (upd H D (.lst ((ps.map (·.1)).map V.str))) G (.lst ((ps.map (·.2.1)).map V.str))) G = some (.lst ((ps.map (·.2.1)).map V.str)) := upd_same
        have fin := kk _ sH
        generalize (upd (upd H D (.lst ((ps.map (·.1)).map V.str))) G (.lst ((ps.map (·.2.1)).map V.str))) = H2 at sH hq hDl hGl fin
        have el2 := sH _ _ el
        refine ⟨_, rfl, l, _, rfl, .inl (SqL.of el2), _, _, rfl, rfl, _, rfl, ?_⟩
        have ec : (((as.map V.ref).length : Nat) : Int) = (ps.length : Int) := by rw [List.length_map, asl]
        rw [ec]
        refine iteD (fun c1 => ?_) (fun c1 => ?_)
        · refine ⟨_, rfl, _, _, _, _, rfl, rfl, SqT.of hq, rfl, ?_⟩
          refine ⟨_, rfl, D, _, rfl, .inl (SqL.of hDl), rfl, flat_str _, _, rfl, ?_⟩
          rw [if_pos rfl, inV_str]
          refine iteB (fun c2 => ?_) (fun c2 => ?_)
          · refine ⟨_, rfl, _, _, _, _, rfl, rfl, SqT.of hq, rfl, ?_⟩
            refine ⟨_, rfl, G, _, rfl, .inl (SqL.of hGl), rfl, flat_str _, ?_⟩
            rw [if_pos rfl, inV_str]
            have e3 : fitsB (q1, q2, q3) ps = !decide (q2 ∈ ps.map (·.2.1)) := by
              unfold fitsB
              rw [c2, decide_eq_true (by omega : ps.length < 6)]
              rfl
            exact e3 ▸ fin
          · have e3 : fitsB (q1, q2, q3) ps = false := by
              unfold fitsB
              rw [c2]
              simp
            exact e3 ▸ fin
        · have e3 : fitsB (q1, q2, q3) ps = false := by
            unfold fitsB
            rw [decide_eq_false (by omega : ¬ ps.length < 6)]
            simp
          exact e3 ▸ fin

/-! ### helpers' pacts -/
open My (Hr)
/-- at as stand things of which R speaks -/
structure AllAt {α : Type} (R : Addr → α → Prop) (as : List Addr) (xs : List α) : Prop where
  len : as.length = xs.length
  at_ : ∀ (i : Nat) (h : Addr) (x : α), as[i]? = some h → xs[i]? = some x → R h x
theorem AllAt.imp {α : Type} {R R' : Addr → α → Prop} {as : List Addr} {xs : List α} (o : AllAt R as xs) (h : ∀ a x, R a x → R' a x) : AllAt R' as xs := ⟨o.len, fun i a x e1 e2 => h a x (o.at_ i a x e1 e2)⟩
theorem AllAt.get {α : Type} {R : Addr → α → Prop} {as : List Addr} {xs : List α} (o : AllAt R as xs) {i : Nat} {h : Addr} (e : as[i]? = some h) : ∃ x, xs[i]? = some x ∧ R h x := by
  have hl := get_lt e
  rw [o.len] at hl
  have e2 : xs[i]? = some xs[i] := List.getElem?_eq_getElem hl
  exact ⟨_, e2, o.at_ i h _ e e2⟩
theorem AllAt.nil {α : Type} {R : Addr → α → Prop} : AllAt R [] [] := ⟨rfl, fun i h x e => by simp at e⟩
theorem AllAt.snoc {α : Type} {R : Addr → α → Prop} {as : List Addr} {xs : List α} (o : AllAt R as xs) {h : Addr} {x : α} (e : R h x) : AllAt R (as ++ [h]) (xs ++ [x]) := by
  refine ⟨by rw [List.length_append, List.length_append, o.len]; rfl, fun i h' x' e1 e2 => ?_⟩
  by_cases hi : i < as.length
  · rw [List.getElem?_append_left hi] at e1
    rw [List.getElem?_append_left (by rw [← o.len]; exact hi)] at e2
    exact o.at_ i h' x' e1 e2
  · have hl := get_lt e1
    rw [List.length_append, List.length_singleton] at hl
    obtain rfl : i = as.length := by omega
    have e3 : as.length = xs.length := o.len
    simp at e1
    rw [e3] at e2
    simp at e2
    subst e1 e2
    exact e
theorem AllAt.take {α : Type} {R : Addr → α → Prop} {as : List Addr} {xs : List α} (o : AllAt R as xs) (n : Nat) : AllAt R (as.take n) (xs.take n) := by
  refine ⟨by rw [List.length_take, List.length_take, o.len], fun i h x e1 e2 => ?_⟩
  by_cases hi : i < n
  · rw [List.getElem?_take, if_pos hi] at e1 e2
    exact o.at_ i h x e1 e2
  · rw [List.getElem?_take, if_neg hi] at e1
    cases e1
/-- the tuple of a helper's pact -/
def HrAt (H : Hp) (h : Addr) (x : Hr) : Prop := ∃ tk th : Addr, H h = some (.tup [.str x.name, .int x.side, .ref tk, .bl x.gives, .ref th]) ∧ TupF H tk (x.takes.map V.str) ∧ TupF H th (x.throws.map V.str)
theorem _root_.L2.TupF.same {H H' : Hp} {h : Addr} {xs : List V} (e : TupF H h xs) (s : Same H H') : TupF H' h xs := let ⟨o, ho, q⟩ := e; ⟨o, ho, s _ _ q⟩
theorem HrAt.same {H H' : Hp} {h : Addr} {x : Hr} (e : HrAt H h x) (s : Same H H') : HrAt H' h x := by
  obtain ⟨tk, th, e1, e2, e3⟩ := e
  exact ⟨tk, th, s _ _ e1, e2.same s, e3.same s⟩
def NoTup (H : Hp) (R : List Addr) : Prop := ∀ x, x ∈ R → ∀ ys, H x ≠ some (.tup ys) ∧ ∀ o, H x ≠ some (.frz o (.tup ys))
theorem NoTup.one {H : Hp} {x : Addr} {o : HO} (h : H x = some o) (n1 : ∀ ys, o ≠ .tup ys) (n2 : ∀ b ys, o ≠ .frz b (.tup ys)) : NoTup H [x] := fun y hy ys => by
  simp at hy
  subst hy
  rw [h]
  exact ⟨fun e => n1 ys (Option.some.inj e), fun b e => n2 b ys (Option.some.inj e)⟩
theorem NoTup.lst {H : Hp} {x : Addr} {xs : List V} (h : H x = some (.lst xs)) : NoTup H [x] := NoTup.one h (fun _ e => by cases e) fun _ _ e => by cases e
theorem tupF_keep {H H' : Hp} {R : List Addr} {h : Addr} {xs : List V} (e : TupF H h xs) (k : Keeps R H H') (n : NoTup H R) : TupF H' h xs := let ⟨o, ho, q⟩ := e; ⟨o, ho, k _ _ q fun z => (n _ z _).2 o q⟩
theorem HrAt.keep {H H' : Hp} {R : List Addr} {h : Addr} {x : Hr} (e : HrAt H h x) (k : Keeps R H H') (n : NoTup H R) : HrAt H' h x := by
  obtain ⟨tk, th, e1, e2, e3⟩ := e
  exact ⟨tk, th, k _ _ e1 fun q => (n _ q _).1 e1, tupF_keep e2 k n, tupF_keep e3 k n⟩
theorem Objs.keepN {H H' : Hp} {R as : List Addr} {ps : List My.Pr} (o : Objs H as prO ps) (k : Keeps R H H') (n : NoTup H R) : Objs H' as prO ps :=
  ⟨o.len, fun i h x e1 e2 => by
    have e := o.at_ i h x e1 e2
    exact k _ _ e fun q => (n _ q _).1 e⟩
abbrev Crew (H : Hp) (as : List Addr) (xs : List Hr) : Prop := AllAt (HrAt H) as xs
theorem Crew.same {H H' : Hp} {as : List Addr} {xs : List Hr} (o : Crew H as xs) (s : Same H H') : Crew H' as xs := o.imp fun _ _ e => e.same s
theorem Crew.keep {H H' : Hp} {R as : List Addr} {xs : List Hr} (o : Crew H as xs) (k : Keeps R H H') (n : NoTup H R) : Crew H' as xs := o.imp fun _ _ e => e.keep k n
theorem bools_step {α : Type} {D : Addr} {H : Hp} {xs : List α} {f : α → Bool} {i : Nat} {x : α} (h : xs[i]? = some x) (hz : xs.length ≤ 10000) :
    ∃ acc, upd H D (.lst (((xs.take i).map f).map V.bl)) D = some (.lst acc) ∧ acc.length < sizeLine ∧ upd (upd H D (.lst (((xs.take i).map f).map V.bl))) D (.lst (acc ++ [.bl (f x)])) = upd H D (.lst (((xs.take (i + 1)).map f).map V.bl)) := by
  refine ⟨_, upd_same, ?_, ?_⟩
  · rw [List.length_map, List.length_map, List.length_take]
    have := get_lt h
    exact small (by omega)
  · rw [upd_upd, take_snoc h, List.map_append, List.map_append]
    rfl
theorem all_map_id {α : Type} (l : List α) (f : α → Bool) : (l.map f).all id = l.all f := by rw [List.all_map]; rfl
def sp_are_takes : Sp := fun vs H Q _ => ∃ (t : Addr) (ts : List Str), vs = [.ref t] ∧ TupF H t (ts.map V.str) ∧ ts.length ≤ 10000 ∧ ∀ H', Same H H' → Q (.bl (My.takesB ts)) H'
theorem ok_p_are_takes (T : Txt K mg a) : FnOk P w K mg base CX0 1 a.f_p_are_takes a.d_p_are_takes ["takes"] sp_are_takes := by
  refine T.F_p_are_takes.ok sc_p_are_takes (fun vs H Q E h => ?_) (fun cdv A outer s H vs Q E hr h => ?_)
  · obtain ⟨t, ts, rfl, _⟩ := h
    rfl
  · obtain ⟨t, ts, rfl, ⟨ob, hob, e⟩, hz, kk⟩ := h
    have eq : ∀ {H' : Hp}, H' t = some (.frz ob (.tup (ts.map V.str))) → SqT K H' t (ts.map V.str) := fun e => .inl (.inr ⟨ob, e⟩)
    refine ⟨_, (pss_cons (ps_if (PW.pt (pw_or (pt_not (pt_val (pe_callB call_isi (by rfl) T.z_isinstance (by decide +kernel) (pa_cons (pv 0) (pa_cons (pe_bltn (v := .ty "tuple") (by rfl) T.z_tuple (by decide +kernel) rfl) pa_nil))))) (pw_or1 (pt_cmpR op_gt (pe_callB call_len_seq (by rfl) T.z_len (by decide +kernel) (pa_cons (pv 0) pa_nil)) (pe_glob (v := .int 3) rfl T.v_MOST_TAKES ⟨_, rfl⟩) (nomark _))))) (pss_one (ps_ret pe_bl)) pss_nil)
      (pss_one (ps_ret (pe_callB (cr_all rfl) (by rfl) T.z_all (by decide +kernel) (pa_cons (pe_lc (own := [("take", 1)]) (g := gName 1) (te := tOp (rIn K false) (tVar 1) (tC (.ref a.t_TAKES))) (tt := tYes) rfl sc_p_are_takes.nd (pi_tup (pv 0)) (blkOk_by (own := [("take", 1)]) (N := ["takes", "take"]) (sc := defScope s_p_are_takes) (by decide +kernel)) (fun _ _ _ _ _ => pg_name (i := 1) sc_p_are_takes.nd rfl (Or.inl rfl)) (fun _ _ _ _ _ => pts_nil) (fun _ _ _ _ _ => by exact (pe_cmpR op_in_seq (pv 1) (pe_glob (v := .ref a.t_TAKES) rfl T.v_TAKES rfl) (by rfl)))) pa_nil))))), ?_⟩
    refine ⟨_, rfl, _, _, _, _, true, rfl, .ty "tuple", .fTuple e, kit_ty (by decide +kernel), true, rfl, ?_⟩
    refine iteF ?_
    refine ⟨_, rfl, t, _, rfl, .inr (eq e), _, _, rfl, rfl, _, rfl, ?_⟩
    have el : (((ts.map V.str).length : Nat) : Int) = (ts.length : Int) := by rw [List.length_map]
    rw [el]
    refine iteD (fun c => ?_) (fun c => ?_)
    · have eb : My.takesB ts = false := by
        unfold My.takesB
        rw [decide_eq_false (by omega)]
        rfl
      exact eb ▸ kk H (Same.refl H)
    · refine ⟨_, rfl, t, rfl, ⟨_, eq e⟩, fun D hD => ?_⟩
      have nD : t ≠ D := ne_of_none e hD
      refine lc_tup (K := K) (a := t) (xs := ts.map V.str) (fun i H1 => Blk (H1 = upd H D (.lst (((ts.take i).map fun t => decide (t ∈ (["lent", "given"] : List Str))).map V.bl)))) (Blk.of rfl) (fun i H1 _ hB => ?_) ?_ ?_
      · obtain rfl := hB.out
        exact eq ((upd_ne nD).trans e)
      · intro i y H1 hi hB
        obtain rfl := hB.out
        obtain ⟨x, hx, rfl⟩ := strs_get hi
        refine ⟨rfl, ?_⟩
        dsimp only [tYes]
        refine iteT ?_
        refine ⟨_, rfl, _, _, rfl, .inr (T.q_TAKES _), rfl, rfl, ?_⟩
        rw [if_neg Bool.false_ne_true]
        have ei : inV (.str x) [.str "lent", .str "given"] = decide (x ∈ (["lent", "given"] : List Str)) := inV_str x ["lent", "given"]
        rw [ei]
        obtain ⟨acc, h1, h2, h3⟩ := bools_step (D := D) (H := H) (f := fun t => decide (t ∈ (["lent", "given"] : List Str))) hx hz
        exact ⟨acc, h1, h2, Blk.of h3⟩
      · intro H1 hB
        obtain rfl := hB.out
        refine ⟨D, _, rfl, SqL.of upd_same, ?_⟩
        rw [List.length_map, List.take_length, all_map_id]
        have eb : ts.all (fun t => decide (t ∈ (["lent", "given"] : List Str))) = My.takesB ts := by
          unfold My.takesB
          rw [decide_eq_true (by omega : ts.length ≤ 3)]
          rfl
        rw [eb]
        exact kk _ ((Same.refl H).upd hD)
def sp_are_throws : Sp := fun vs H Q _ => ∃ (t : Addr) (ts : List Str), vs = [.ref t] ∧ TupF H t (ts.map V.str) ∧ ts.length ≤ 10000 ∧ ∀ H', Same H H' → Q (.bl (My.throwsB ts)) H'
theorem ok_p_are_throws (T : Txt K mg a) : FnOk P w K mg base CX0 1 a.f_p_are_throws a.d_p_are_throws ["throws"] sp_are_throws := by
  refine T.F_p_are_throws.ok sc_p_are_throws (fun vs H Q E h => ?_) (fun cdv A outer s H vs Q E hr h => ?_)
  · obtain ⟨t, ts, rfl, _⟩ := h
    rfl
  · obtain ⟨t, ts, rfl, ⟨ob, hob, e⟩, hz, kk⟩ := h
    have eq : ∀ {H' : Hp}, H' t = some (.frz ob (.tup (ts.map V.str))) → SqT K H' t (ts.map V.str) := fun e => .inl (.inr ⟨ob, e⟩)
    refine ⟨_, (pss_cons (ps_if (PW.pt (pw_or (pt_not (pt_val (pe_callB call_isi (by rfl) T.z_isinstance (by decide +kernel) (pa_cons (pv 0) (pa_cons (pe_bltn (v := .ty "tuple") (by rfl) T.z_tuple (by decide +kernel) rfl) pa_nil))))) (pw_or1 (pt_cmpR op_gt (pe_callB call_len_seq (by rfl) T.z_len (by decide +kernel) (pa_cons (pv 0) pa_nil)) (pe_glob (v := .int 4) rfl T.v_MOST_THROWS ⟨_, rfl⟩) (nomark _))))) (pss_one (ps_ret pe_bl)) pss_nil)
      (pss_one (ps_ret (pe_callB (cr_all rfl) (by rfl) T.z_all (by decide +kernel) (pa_cons (pe_lc (own := [("word", 1)]) (g := gName 1) (te := tOp rEq (tBMF (rCntS K) (tVar 0) (tCons (tVar 1) tNil)) (tC (.int 1))) (tt := tYes) rfl sc_p_are_throws.nd (pi_tup (pv 0)) (blkOk_by (own := [("word", 1)]) (N := ["throws", "word"]) (sc := defScope s_p_are_throws) (by decide +kernel)) (fun _ _ _ _ _ => pg_name (i := 1) sc_p_are_throws.nd rfl (Or.inl rfl)) (fun _ _ _ _ _ => pts_nil) (fun _ _ _ _ _ => by exact (pe_cmpR op_eq (pe_bmF PySem.F.plainAttrs_tuple PySem.F.slot_tuple_count PySem.F.type_tuple_count mt_tcount (pv 0) (pa_cons (pv 1) pa_nil)) pe_int (nomark _)))) pa_nil))))), ?_⟩
    refine ⟨_, rfl, _, _, _, _, true, rfl, .ty "tuple", .fTuple e, kit_ty (by decide +kernel), true, rfl, ?_⟩
    refine iteF ?_
    refine ⟨_, rfl, t, _, rfl, .inr (eq e), _, _, rfl, rfl, _, rfl, ?_⟩
    have el : (((ts.map V.str).length : Nat) : Int) = (ts.length : Int) := by rw [List.length_map]
    rw [el]
    refine iteD (fun c => ?_) (fun c => ?_)
    · have eb : My.throwsB ts = false := by
        unfold My.throwsB
        rw [decide_eq_false (by omega)]
        rfl
      exact eb ▸ kk H (Same.refl H)
    · refine ⟨_, rfl, t, rfl, ⟨_, eq e⟩, fun D hD => ?_⟩
      have nD : t ≠ D := ne_of_none e hD
      refine lc_tup (K := K) (a := t) (xs := ts.map V.str) (fun i H1 => Blk (H1 = upd H D (.lst (((ts.take i).map fun t => decide (ts.count t = 1)).map V.bl)))) (Blk.of rfl) (fun i H1 _ hB => ?_) ?_ ?_
      · obtain rfl := hB.out
        exact eq ((upd_ne nD).trans e)
      · intro i y H1 hi hB
        obtain rfl := hB.out
        obtain ⟨x, hx, rfl⟩ := strs_get hi
        refine ⟨rfl, ?_⟩
        dsimp only [tYes]
        refine iteT ?_
        have e2 : ∀ o, upd H D o t = some (.frz ob (.tup (ts.map V.str))) := fun o => (upd_ne nD).trans e
        refine ⟨_, rfl, ⟨t, _, rfl, ob, hob, e2 _⟩, _, rfl, t, ts, x, rfl, rfl, eq (e2 _), rfl, ?_⟩
        have ed : decide (V.int ((ts.count x : Nat) : Int) = V.int 1) = decide (ts.count x = 1) := by
          by_cases h : ts.count x = 1
          · rw [h]; rfl
          · rw [decide_eq_false h, decide_eq_false fun z => h (by have := V.int.inj z; omega)]
        rw [ed]
        obtain ⟨acc, h1, h2, h3⟩ := bools_step (D := D) (H := H) (f := fun t => decide (ts.count t = 1)) hx hz
        exact ⟨acc, h1, h2, Blk.of h3⟩
      · intro H1 hB
        obtain rfl := hB.out
        refine ⟨D, _, rfl, SqL.of upd_same, ?_⟩
        rw [List.length_map, List.take_length, all_map_id]
        have eb : ts.all (fun t => decide (ts.count t = 1)) = My.throwsB ts := by
          unfold My.throwsB
          rw [decide_eq_true (by omega : ts.length ≤ 4)]
          rfl
        rw [eb]
        exact kk _ ((Same.refl H).upd hD)

open My (Hr)
theorem lenI (n : Nat) (xs : List V) (h : xs.length = n) : ((xs.length : Nat) : Int) = (n : Int) := by rw [h]
def sp_is_pact : Sp := fun vs H Q _ => ∃ (h : Addr) (x : Hr), vs = [.ref h] ∧ HrAt H h x ∧ x.name.length ≤ sizeLine ∧ x.takes.length ≤ 10000 ∧ x.throws.length ≤ 10000 ∧ ∀ H', Same H H' → Q (.bl (My.pactB x)) H'
theorem ok_p_is_pact (T : Txt K mg a) : FnOk P w K mg base CX0 3 a.f_p_is_pact a.d_p_is_pact ["pact"] sp_is_pact := by
  refine T.F_p_is_pact.ok sc_p_is_pact (fun vs H Q E h => ?_) (fun cdv A outer s H vs Q E hr h => ?_)
  · obtain ⟨h, x, rfl, _⟩ := h
    rfl
  · obtain ⟨h, x, rfl, ⟨tk, th, e, etk, eth⟩, z1, z2, z3, kk⟩ := h
    refine ⟨_, (pss_cons (ps_if (PW.pt (pw_or (pt_not (pt_val (pe_callB call_isi (by rfl) T.z_isinstance (by decide +kernel) (pa_cons (pv 0) (pa_cons (pe_bltn (v := .ty "tuple") (by rfl) T.z_tuple (by decide +kernel) rfl) pa_nil))))) (pw_or1 (pt_cmpR op_ne (pe_callB call_len_seq (by rfl) T.z_len (by decide +kernel) (pa_cons (pv 0) pa_nil)) pe_int (nomark _))))) (pss_one (ps_ret pe_bl)) pss_nil)
      (pss_cons (ps_asg (pv 0) (pg_tup (by rfl) (pgs_cons (pg_name (i := 1) sc_p_is_pact.nd rfl (Or.inl rfl)) (pgs_cons (pg_name (i := 2) sc_p_is_pact.nd rfl (Or.inl rfl)) (pgs_cons (pg_name (i := 3) sc_p_is_pact.nd rfl (Or.inl rfl)) (pgs_cons (pg_name (i := 4) sc_p_is_pact.nd rfl (Or.inl rfl)) (pgs_cons (pg_name (i := 5) sc_p_is_pact.nd rfl (Or.inl rfl)) pgs_nil)))))))
      (pss_cons (ps_if (PW.pt (pw_or (pt_not (pt_val (pe_call (ok_is_name T) (hr.mono (by decide)) rfl T.g_is_name T.k_is_name T.B_is_name .nil pass0 (pa_cons (pv 1) pa_nil)))) (pw_or (pt_not (pt_val (pe_call (ok_is_side T) (hr.mono (by decide)) rfl T.g_is_side T.k_is_side T.B_is_side .nil pass0 (pa_cons (pv 2) pa_nil)))) (pw_or1 (pt_not (pt_val (pe_callB call_isi (by rfl) T.z_isinstance (by decide +kernel) (pa_cons (pv 4) (pa_cons (pe_bltn (v := .ty "bool") (by rfl) T.z_bool (by decide +kernel) rfl) pa_nil))))))))) (pss_one (ps_ret pe_bl)) pss_nil)
      (pss_one (ps_ret (pe_and (pe_call (ok_p_are_takes T) (hr.mono (by decide)) rfl T.g_p_are_takes T.k_p_are_takes T.B_p_are_takes .nil pass0 (pa_cons (pv 3) pa_nil)) (pe_one (pe_call (ok_p_are_throws T) (hr.mono (by decide)) rfl T.g_p_are_throws T.k_p_are_throws T.B_p_are_throws .nil pass0 (pa_cons (pv 5) pa_nil))))))))), ?_⟩
    refine ⟨_, rfl, _, _, _, _, true, rfl, .ty "tuple", .base (.tup e), kit_ty (by decide +kernel), true, rfl, ?_⟩
    refine iteF ?_
    refine ⟨_, rfl, _, _, rfl, .inr (SqT.of e), rfl, _, rfl, ?_⟩
    refine iteNS rfl ?_
    refine ⟨_, rfl, h, _, rfl, SqT.of e, rfl, ?_⟩
    refine ⟨_, _, rfl, _, _, rfl, _, _, rfl, _, _, rfl, _, _, rfl, rfl, ?_⟩
    have no : ∀ {H1 : Hp}, Same H H1 → (My.nameB x.name && My.sideB x.side) = false → Q (.bl false) H1 := fun s c => by
      have e2 : My.pactB x = false := by unfold My.pactB; rw [c]; rfl
      exact e2 ▸ kk _ s
    refine ⟨_, rfl, x.name, rfl, z1, fun H1 s1 => ⟨_, rfl, ?_⟩⟩
    refine iteB (fun c1 => ?_) (fun c1 => ?_)
    · have c : My.nameB x.name = false := by simpa using c1
      exact iteT (no s1 (by rw [c]; rfl))
    · have c1' : My.nameB x.name = true := by simpa using c1
      refine ⟨_, rfl, x.side, rfl, fun H2 s2 => ⟨_, rfl, ?_⟩⟩
      refine iteB (fun c2 => ?_) (fun c2 => ?_)
      · have c : My.sideB x.side = false := by
          show decide (x.side = 0 ∨ x.side = 1) = false
          cases hq : decide (x.side = 0 ∨ x.side = 1) with
          | true => rw [hq] at c2; cases c2
          | false => rfl
        exact iteT (no (s1.trans s2) (by rw [c, Bool.and_false]))
      · have c2' : My.sideB x.side = true := by
          show decide (x.side = 0 ∨ x.side = 1) = true
          cases hq : decide (x.side = 0 ∨ x.side = 1) with
          | true => rfl
          | false => rw [hq] at c2; cases c2
        refine ⟨_, rfl, _, _, _, _, true, rfl, .ty "bool", .base (.bl x.gives), kit_ty (by decide +kernel), true, rfl, ?_⟩
        refine iteF ?_
        have s12 := s1.trans s2
        refine ⟨_, rfl, tk, x.takes, rfl, etk.same s12, z2, fun H3 s3 => ⟨_, rfl, ?_⟩⟩
        obtain ⟨ob, hob, eth2⟩ := eth
        refine iteB (fun c3 => ?_) (fun c3 => ?_)
        · refine ⟨_, rfl, th, x.throws, rfl, ⟨ob, hob, s3 _ _ (s12 _ _ eth2)⟩, z3, fun H4 s4 => ?_⟩
          have e2 : My.pactB x = My.throwsB x.throws := by unfold My.pactB; rw [c1', c2', c3]; rfl
          exact e2 ▸ kk _ ((s12.trans s3).trans s4)
        · have e2 : My.pactB x = false := by unfold My.pactB; rw [c3]; simp
          exact e2 ▸ kk _ (s12.trans s3)
def sp_fits_helpers : Sp := fun vs H Q _ => ∃ (h l L : Addr) (x : Hr) (as has : List Addr) (ps : List My.Pr) (hs : List Hr), vs = [.ref h, .ref l, .ref L] ∧ HrAt H h x ∧ (x.side = 0 ∨ x.side = 1) ∧ H l = some (.lst (as.map V.ref)) ∧ Objs H as prO ps ∧ H L = some (.lst (has.map V.ref)) ∧ Crew H has hs ∧
  ps.length ≤ 10000 ∧ hs.length ≤ 10000 ∧ x.throws.length ≤ 10000 ∧ ∀ H', Same H H' → Q (.bl (My.fitsHB x ps hs)) H'
theorem wd_at2 {i : Int} (hi : i = 0 ∨ i = 1) (p : My.Pr) : atI [V.str p.1, .str p.2.1, .bl p.2.2] i = some (.str (My.wd i p)) := by
  rcases hi with rfl | rfl <;> rfl
theorem ok_p_fits_helpers (T : Txt K mg a) : FnOk P w K mg base CX0 1 a.f_p_fits_helpers a.d_p_fits_helpers ["pact", "pairs", "ahead"] sp_fits_helpers := by
  refine T.F_p_fits_helpers.ok sc_p_fits_helpers (fun vs H Q E h => ?_) (fun cdv A outer s H vs Q E hr h => ?_)
  · obtain ⟨h, l, L, x, as, has, ps, hs, rfl, _⟩ := h
    rfl
  · obtain ⟨h, l, L, x, as, has, ps, hs, rfl, ⟨tk, th, e, etk, ob, hob, eth⟩, hside, el, obs, eL, crew, hz1, hz2, hz3, kk⟩ := h
    refine ⟨_, (pss_cons (ps_asg (pv 0) (pg_tup (by rfl) (pgs_cons (pg_name (i := 3) sc_p_fits_helpers.nd rfl (Or.inl rfl)) (pgs_cons (pg_name (i := 4) sc_p_fits_helpers.nd rfl (Or.inr rfl)) (pgs_cons (pg_name (i := 5) sc_p_fits_helpers.nd rfl (Or.inl rfl)) (pgs_cons (pg_name (i := 5) sc_p_fits_helpers.nd rfl (Or.inl rfl)) (pgs_cons (pg_name (i := 6) sc_p_fits_helpers.nd rfl (Or.inl rfl)) pgs_nil)))))))
      (pss_cons (ps_setLc (i := 7) (own := [("one", 9)]) (g := gName 9) (te := tVar 9) (tt := tTest (tOp rEq (tOp (rIxT K) (tVar 9) (tC (.int 1))) (tVar 4))) rfl sc_p_fits_helpers.nd rfl rfl (sw_true rfl rfl rfl (by decide +kernel)) (pi_list (pv 2)) (blkOk_by (own := [("one", 9)]) (N := ["pact", "pairs", "ahead", "name", "side", "_", "throws", "fellows", "words", "one", "pair", "word"]) (sc := defScope s_p_fits_helpers) (by decide +kernel)) (fun _ _ _ _ _ => pg_name (i := 9) sc_p_fits_helpers.nd rfl (Or.inl rfl)) (fun _ _ _ _ _ => pts_one (pt_cmpR op_eq (pe_ix ix_tup (pv 9) pe_int (fun _ _ => rfl)) (pv 4) (nomark _))) (fun _ _ _ _ _ => by exact (pv 9)))
      (pss_cons (ps_if (PW.pt (pw_or (pt_cmpR op_eq (pe_callB call_len_seq (by rfl) T.z_len (by decide +kernel) (pa_cons (pv 7) pa_nil)) (pe_glob (v := .int 4) rfl T.v_MOST_HELPERS ⟨_, rfl⟩) (nomark _)) (pw_or1 (pt_cmpR op_in_seq (pv 3) (pe_lc (own := [("one", 9)]) (g := gName 9) (te := tOp (rIxT K) (tVar 9) (tC (.int 0))) (tt := tYes) rfl sc_p_fits_helpers.nd (pi_list (pv 2)) (blkOk_by (own := [("one", 9)]) (N := ["pact", "pairs", "ahead", "name", "side", "_", "throws", "fellows", "words", "one", "pair", "word"]) (sc := defScope s_p_fits_helpers) (by decide +kernel)) (fun _ _ _ _ _ => pg_name (i := 9) sc_p_fits_helpers.nd rfl (Or.inl rfl)) (fun _ _ _ _ _ => pts_nil) (fun _ _ _ _ _ => by exact (pe_ix ix_tup (pv 9) pe_int (fun _ _ => rfl)))) (by rfl))))) (pss_one (ps_ret pe_bl)) pss_nil)
      (pss_cons (ps_set (i := 8) sc_p_fits_helpers.nd rfl (Or.inr rfl) (pe_lc (own := [("pair", 10)]) (g := gName 10) (te := tOp (rIxT K) (tVar 10) (tVar 4)) (tt := tYes) rfl sc_p_fits_helpers.nd (pi_list (pv 1)) (blkOk_by (own := [("pair", 10)]) (N := ["pact", "pairs", "ahead", "name", "side", "_", "throws", "fellows", "words", "one", "pair", "word"]) (sc := defScope s_p_fits_helpers) (by decide +kernel)) (fun _ _ _ _ _ => pg_name (i := 10) sc_p_fits_helpers.nd rfl (Or.inl rfl)) (fun _ _ _ _ _ => pts_nil) (fun _ _ _ _ _ => by exact (pe_ix ix_tup (pv 10) (pv 4) (fun _ _ => rfl)))))
      (pss_one (ps_ret (pe_callB (cr_all rfl) (by rfl) T.z_all (by decide +kernel) (pa_cons (pe_lc (own := [("word", 11)]) (g := gName 11) (te := tOp (rIn K false) (tVar 11) (tVar 8)) (tt := tYes) rfl sc_p_fits_helpers.nd (pi_tup (pv 6)) (blkOk_by (own := [("word", 11)]) (N := ["pact", "pairs", "ahead", "name", "side", "_", "throws", "fellows", "words", "one", "pair", "word"]) (sc := defScope s_p_fits_helpers) (by decide +kernel)) (fun _ _ _ _ _ => pg_name (i := 11) sc_p_fits_helpers.nd rfl (Or.inl rfl)) (fun _ _ _ _ _ => pts_nil) (fun _ _ _ _ _ => by exact (pe_cmpR op_in_seq (pv 11) (pv 8) (by rfl)))) pa_nil)))))))), ?_⟩
    refine ⟨_, rfl, h, _, rfl, SqT.of e, rfl, ?_⟩
    refine ⟨_, _, rfl, _, _, rfl, _, _, rfl, _, _, rfl, _, _, rfl, rfl, ?_⟩
    have asl := obs.len
    have hasl := crew.len
    -- fellows
    refine ⟨_, rfl, L, rfl, ⟨_, SqL.of eL⟩, fun D hD => ?_⟩
    have nLD : L ≠ D := ne_of_none eL hD
    refine lc_list (K := K) (a := L) (xs := has.map V.ref) (fun i H1 => Blk (∃ fs : List Addr, H1 = upd H D (.lst (fs.map V.ref)) ∧ fs.length = ((hs.take i).filter fun z => decide (z.side = x.side)).length)) (Blk.of ⟨[], rfl, rfl⟩) (fun i H1 _ hB => ?_) ?_ ?_
    · obtain ⟨fs, rfl, _⟩ := hB.out
      exact SqL.of ((upd_ne nLD).trans eL)
    · intro i y H1 hi hB
      obtain ⟨fs, rfl, hf⟩ := hB.out
      obtain ⟨b, hb, rfl⟩ := refs_get hi
      obtain ⟨z, hz, tk2, th2, ez, _⟩ := crew.get hb
      have hil := get_lt hz
      refine ⟨rfl, ?_⟩
      refine ⟨_, rfl, _, _, _, _, rfl, rfl, SqT.of ((upd_ne (ne_of_none ez hD)).trans ez), rfl, _, rfl, rfl, _, rfl, ?_⟩
      have ed : decide (V.int z.side = V.int x.side) = decide (z.side = x.side) := by
        by_cases c : z.side = x.side
        · rw [c]; simp
        · rw [decide_eq_false c, decide_eq_false fun q => c (V.int.inj q)]
      rw [ed]
      have et : (hs.take (i + 1)).filter (fun z => decide (z.side = x.side)) = (hs.take i).filter (fun z => decide (z.side = x.side)) ++ (if z.side = x.side then [z] else []) := by
        rw [take_snoc hz, List.filter_append]
        by_cases c : z.side = x.side
        · simp [c]
        · simp [c]
      have hfl : fs.length ≤ i := by
        rw [hf]
        refine Nat.le_trans (List.length_filter_le _ _) ?_
        rw [List.length_take]
        omega
      refine iteD (fun c => ?_) (fun c => ?_)
      · refine ⟨_, rfl, _, upd_same, by rw [List.length_map]; exact small (by omega), Blk.of ⟨fs ++ [b], ?_, ?_⟩⟩
        · rw [upd_upd, List.map_append]; rfl
        · rw [et, if_pos c, List.length_append, List.length_append, hf]; rfl
      · exact Blk.of ⟨fs, rfl, by rw [et, if_neg c, List.append_nil, hf]⟩
    · intro H1 hB
      obtain ⟨fs, rfl, hf⟩ := hB.out
      rw [List.length_map, hasl, List.take_length] at hf
      have sD : Same H (upd H D (.lst (fs.map V.ref))) := (Same.refl H).upd hD
      have hD1 : (upd H D (.lst (fs.map V.ref))) D = some (.lst (fs.map V.ref)) := upd_same
      show _
      generalize (upd H D (.lst (fs.map V.ref))) = H1 at sD hD1
      have eL1 := sD _ _ eL
      have no : ∀ {H2 : Hp}, Same H H2 → (decide ((hs.filter fun z => decide (z.side = x.side)).length = 4) || decide (x.name ∈ hs.map (·.name))) = true → Q (.bl false) H2 := fun s c => by
        have e2 : My.fitsHB x ps hs = false := by unfold My.fitsHB; rw [c]; rfl
        exact e2 ▸ kk _ s
      refine ⟨_, rfl, D, _, rfl, .inl (SqL.of hD1), rfl, _, rfl, ?_⟩
      have el1 : decide (V.int (((fs.map V.ref).length : Nat) : Int) = V.int 4) = decide ((hs.filter fun z => decide (z.side = x.side)).length = 4) := by
        rw [List.length_map, hf]
        by_cases c : (hs.filter fun z => decide (z.side = x.side)).length = 4
        · rw [c]; rfl
        · rw [decide_eq_false c, decide_eq_false fun q => c (by have := V.int.inj q; omega)]
      rw [el1]
      refine iteB (fun c1 => iteT (no sD (by rw [c1]; rfl))) (fun c1 => ?_)
      refine ⟨_, rfl, _, rfl, L, rfl, ⟨_, SqL.of eL1⟩, fun G hG => ?_⟩
      have nLG : L ≠ G := ne_of_none eL1 hG
      refine lc_list (K := K) (a := L) (xs := has.map V.ref) (fun i H2 => Blk (H2 = upd H1 G (.lst (((hs.take i).map (·.name)).map V.str)))) (Blk.of rfl) (fun i H2 _ hB => ?_) ?_ ?_
      · obtain rfl := hB.out
        exact SqL.of ((upd_ne nLG).trans eL1)
      · intro i y H2 hi hB
        obtain rfl := hB.out
        obtain ⟨b, hb, rfl⟩ := refs_get hi
        obtain ⟨z, hz, tk2, th2, ez, _⟩ := crew.get hb
        have ez1 := sD _ _ ez
        have hil := get_lt hz
        refine ⟨rfl, ?_⟩
        dsimp only [tYes]
        refine iteT ?_
        refine ⟨_, rfl, _, _, _, _, rfl, rfl, SqT.of ((upd_ne (ne_of_none ez1 hG)).trans ez1), rfl, ?_⟩
        refine ⟨_, upd_same, by rw [List.length_map, List.length_map, List.length_take]; exact small (by omega), Blk.of ?_⟩
        rw [upd_upd, take_snoc hz, List.map_append, List.map_append]
        rfl
      · intro H2 hB
        obtain rfl := hB.out
        have e1 : hs.take (has.map V.ref).length = hs := by rw [List.length_map, hasl, List.take_length]
        rw [e1]
        have sG : Same H (upd H1 G (.lst ((hs.map (·.name)).map V.str))) := sD.trans ((Same.refl H1).upd hG)
        refine ⟨G, _, rfl, .inl (SqL.of upd_same), rfl, flat_str _, _, rfl, ?_⟩
        rw [if_neg Bool.false_ne_true, inV_str]
        refine iteB (fun c2 => no sG (by rw [c2, Bool.or_true])) (fun c2 => ?_)
        show _
        generalize (upd H1 G (.lst ((hs.map (·.name)).map V.str))) = H2 at sG
        have el2 := sG _ _ el
        refine ⟨_, rfl, l, rfl, ⟨_, SqL.of el2⟩, fun J hJ => ?_⟩
        have nlJ : l ≠ J := ne_of_none el2 hJ
        refine lc_list (K := K) (a := l) (xs := as.map V.ref) (fun i H3 => Blk (H3 = upd H2 J (.lst (((ps.take i).map (My.wd x.side)).map V.str)))) (Blk.of rfl) (fun i H3 _ hB => ?_) ?_ ?_
        · obtain rfl := hB.out
          exact SqL.of ((upd_ne nlJ).trans el2)
        · intro i y H3 hi hB
          obtain rfl := hB.out
          obtain ⟨b, hb, rfl⟩ := refs_get hi
          obtain ⟨z, hz, ez⟩ := obs.get hb
          have ez1 := sG _ _ ez
          have hil := get_lt hz
          refine ⟨rfl, ?_⟩
          dsimp only [tYes]
          refine iteT ?_
          refine ⟨_, rfl, _, rfl, _, _, _, _, rfl, rfl, SqT.of ((upd_ne (ne_of_none ez1 hJ)).trans ez1), wd_at2 hside z, ?_⟩
          refine ⟨_, upd_same, by rw [List.length_map, List.length_map, List.length_take]; exact small (by omega), Blk.of ?_⟩
          rw [upd_upd, take_snoc hz, List.map_append, List.map_append]
          rfl
        · intro H3 hB
          obtain rfl := hB.out
          have e2 : ps.take (as.map V.ref).length = ps := by rw [List.length_map, asl, List.take_length]
          rw [e2]
          have sJ : Same H (upd H2 J (.lst ((ps.map (My.wd x.side)).map V.str))) := sG.trans ((Same.refl H2).upd hJ)
          have hJ3 : (upd H2 J (.lst ((ps.map (My.wd x.side)).map V.str))) J = some (.lst ((ps.map (My.wd x.side)).map V.str)) := upd_same
          show _
          generalize (upd H2 J (.lst ((ps.map (My.wd x.side)).map V.str))) = H3 at sJ hJ3
          have eth3 := sJ _ _ eth
          have eqT : ∀ {H' : Hp}, H' th = some (.frz ob (.tup (x.throws.map V.str))) → SqT K H' th (x.throws.map V.str) := fun e => .inl (.inr ⟨ob, e⟩)
          refine ⟨_, rfl, th, rfl, ⟨_, eqT eth3⟩, fun M hM => ?_⟩
          have ntM : th ≠ M := ne_of_none eth3 hM
          have nJM : J ≠ M := ne_of_none hJ3 hM
          refine lc_tup (K := K) (a := th) (xs := x.throws.map V.str) (fun i H4 => Blk (H4 = upd H3 M (.lst (((x.throws.take i).map fun t => decide (t ∈ ps.map (My.wd x.side))).map V.bl)))) (Blk.of rfl) (fun i H4 _ hB => ?_) ?_ ?_
          · obtain rfl := hB.out
            exact eqT ((upd_ne ntM).trans eth3)
          · intro i y H4 hi hB
            obtain rfl := hB.out
            obtain ⟨t, ht, rfl⟩ := strs_get hi
            refine ⟨rfl, ?_⟩
            dsimp only [tYes]
            refine iteT ?_
            refine ⟨_, rfl, _, rfl, J, _, rfl, .inl (SqL.of ((upd_ne nJM).trans hJ3)), rfl, flat_str _, ?_⟩
            rw [if_neg Bool.false_ne_true, inV_str]
            obtain ⟨acc, h1, h2, h3⟩ := bools_step (D := M) (H := H3) (f := fun t => decide (t ∈ ps.map (My.wd x.side))) ht hz3
            exact ⟨acc, h1, h2, Blk.of h3⟩
          · intro H4 hB
            obtain rfl := hB.out
            refine ⟨M, _, rfl, SqL.of upd_same, ?_⟩
            rw [List.length_map, List.take_length, all_map_id]
            have eb : x.throws.all (fun t => decide (t ∈ ps.map (My.wd x.side))) = My.fitsHB x ps hs := by
              unfold My.fitsHB
              rw [c1, c2]
              rfl
            rw [eb]
            exact kk _ (sJ.trans ((Same.refl H3).upd hM))

open My (Hr)
abbrev pfs (pl hl : Addr) : List (Str × V) := [("_pairs", .ref pl), ("_helpers", .ref hl)]
theorem pfs_p {pl hl : Addr} : (pfs pl hl).lookup ("_pairs" : Str) = some (.ref pl) := by kernel_rfl
theorem pfs_h {pl hl : Addr} : (pfs pl hl).lookup ("_helpers" : Str) = some (.ref hl) := by kernel_rfl
theorem pfs_make {pl hl : Addr} : putF "_helpers" (.ref hl) (putF "_pairs" (.ref pl) []) = pfs pl hl := by kernel_rfl
theorem fits_next {ps : List My.Pr} (ok : My.PairsOk ps) {i : Nat} {q : My.Pr} (h : ps[i]? = some q) : fitsB q (ps.take i) = true := by
  have hl := get_lt h
  have hm := ok.many
  unfold fitsB
  rw [decide_eq_true (by rw [List.length_take]; omega), decide_eq_false (My.nin_take (f := fun z : My.Pr => z.1) ok.nears h), decide_eq_false (My.nin_take (f := fun z : My.Pr => z.2.1) ok.fars h)]
  rfl
/-- the Pacts at p: its lists at pl and hl; the pairs -/
structure PactsAt (C : Addr) (H : Hp) (p pl hl : Addr) (as : List Addr) (ps : List My.Pr) : Prop where
  ob : ∃ dx, H p = some (.ins C dx (pfs pl hl))
  lp : H pl = some (.lst (as.map V.ref))
  ps : Objs H as prO ps
theorem PactsAt.same {C : Addr} {H H' : Hp} {p pl hl : Addr} {as : List Addr} {ps : List My.Pr} (h : PactsAt C H p pl hl as ps) (k : Same H H') : PactsAt C H' p pl hl as ps := by
  obtain ⟨⟨dx, e⟩, e1, e3⟩ := h
  exact ⟨⟨dx, k _ _ e⟩, k _ _ e1, e3.same k⟩
/-- .. the helpers -/
structure CrewAt (H : Hp) (hl : Addr) (has : List Addr) (hs : List Hr) : Prop where
  lh : H hl = some (.lst (has.map V.ref))
  hs : Crew H has hs
theorem CrewAt.same {H H' : Hp} {hl : Addr} {has : List Addr} {hs : List Hr} (h : CrewAt H hl has hs) (k : Same H H') : CrewAt H' hl has hs := ⟨k _ _ h.lh, h.hs.same k⟩
theorem filter_sides {hs : List Hr} (h : ∀ x, x ∈ hs → x.side = 0 ∨ x.side = 1) : hs.length = (hs.filter fun z => decide (z.side = 0)).length + (hs.filter fun z => decide (z.side = 1)).length := by
  induction hs with
  | nil => rfl
  | cons x r ih =>
    have h2 := ih fun z hz => h z (List.mem_cons_of_mem _ hz)
    rcases h x List.mem_cons_self with e | e
    · rw [List.filter_cons, if_pos (by simp [e]), List.filter_cons, if_neg (by simp [e]), List.length_cons, List.length_cons]
      omega
    · rw [List.filter_cons, if_neg (by simp [e]), List.filter_cons, if_pos (by simp [e]), List.length_cons, List.length_cons]
      omega
theorem pactB_out {x : Hr} (h : My.pactB x = true) : My.nameB x.name = true ∧ (x.side = 0 ∨ x.side = 1) ∧ My.takesB x.takes = true ∧ My.throwsB x.throws = true := by
  unfold My.pactB at h
  simp only [Bool.and_eq_true] at h
  exact ⟨h.1.1.1, of_decide_eq_true h.1.1.2, h.1.2, h.2⟩
theorem takesB_len {ts : List Str} (h : My.takesB ts = true) : ts.length ≤ 3 := by
  unfold My.takesB at h
  simp only [Bool.and_eq_true, decide_eq_true_eq] at h
  exact h.1
theorem crew_many {ps : List My.Pr} {hs : List Hr} (ok : My.CrewOk ps hs) : hs.length ≤ 8 := by
  have h1 := ok.few 0
  have h2 := ok.few 1
  have := filter_sides fun x hx => (pactB_out (ok.one x hx).1).2.1
  omega
def sp_Pinit (C : Addr) : Sp := fun vs H Q _ => ∃ (p dx L Lh : Addr) (as has : List Addr) (ps : List My.Pr) (hs : List Hr), vs = [.ref p, .ref L, .ref Lh] ∧ H p = some (.ins C dx []) ∧ H L = some (.lst (as.map V.ref)) ∧ H Lh = some (.lst (has.map V.ref)) ∧ Objs H as prO ps ∧ Crew H has hs ∧ My.PairsOk ps ∧ My.CrewOk ps hs ∧
  ∀ (pl hl : Addr) (H' : Hp), H pl = none → H hl = none → PactsAt C H' p pl hl as ps → CrewAt H' hl has hs → Keeps [p] H H' → Q .non H'
theorem ok_Pacts_init (T : Txt K mg a) : FnOk P w K mg base CX0 4 a.f_Pacts_init a.d_Pacts_init ["self", "pairs", "helpers"] (sp_Pinit a.c_Pacts) := by
  refine T.F_Pacts_init.ok sc_Pacts_init (fun vs H Q E h => ?_) (fun cdv A outer s H vs Q E hr h => ?_)
  · obtain ⟨p, dx, L, Lh, as, has, ps, hs, rfl, _⟩ := h
    rfl
  · obtain ⟨p, dx, L, Lh, as, has, ps, hs, rfl, hp, hL, hLh, ob, crew, ok, cok, kk⟩ := h
    refine ⟨_, (pss_cons (ps_fld (pv 0) (pe_lst pa_nil) rfl)
      (pss_cons (ps_fld (pv 0) (pe_lst pa_nil) rfl)
      (pss_cons (ps_for PassesOwn.never rfl (pi_list (pv 1)) (pg_name (i := 3) sc_Pacts_init.nd rfl (Or.inl rfl)) (pss_cons (ps_if (PW.pt (pw_or (pt_not (pt_val (pe_call (ok_p_is_pair T) (hr.mono (by decide)) rfl T.g_p_is_pair T.k_p_is_pair T.B_p_is_pair .nil pass0 (pa_cons (pv 3) pa_nil)))) (pw_or1 (pt_not (pt_val (pe_call (ok_p_fits_pairs T) (hr.mono (by decide)) rfl T.g_p_fits_pairs T.k_p_fits_pairs T.B_p_fits_pairs .nil pass0 (pa_cons (pv 3) (pa_cons (pe_fld (pv 0) rfl) pa_nil)))))))) (pss_one ps_never) pss_nil)
      (pss_one (ps_expr (pe_bm PySem.F.plainAttrs_list PySem.F.slot_list_append PySem.F.type_list_append mt_append (pe_fld (pv 0) rfl) (pa_cons (pv 3) pa_nil))))))
      (pss_one (ps_for PassesOwn.never rfl (pi_list (pv 2)) (pg_name (i := 4) sc_Pacts_init.nd rfl (Or.inl rfl)) (pss_cons (ps_if (PW.pt (pw_or (pt_not (pt_val (pe_call (ok_p_is_pact T) (hr.mono (by decide)) rfl T.g_p_is_pact T.k_p_is_pact T.B_p_is_pact .nil pass0 (pa_cons (pv 4) pa_nil)))) (pw_or1 (pt_not (pt_val (pe_call (ok_p_fits_helpers T) (hr.mono (by decide)) rfl T.g_p_fits_helpers T.k_p_fits_helpers T.B_p_fits_helpers .nil pass0 (pa_cons (pv 4) (pa_cons (pe_fld (pv 0) rfl) (pa_cons (pe_fld (pv 0) rfl) pa_nil))))))))) (pss_one ps_never) pss_nil)
      (pss_one (ps_expr (pe_bm PySem.F.plainAttrs_list PySem.F.slot_list_append PySem.F.type_list_append mt_append (pe_fld (pv 0) rfl) (pa_cons (pv 4) pa_nil)))))))))), ?_⟩
    have c0 := T.cl_Pacts
    have c1 := T.n_Pacts__pairs
    have c2 := T.n_Pacts__helpers
    have asl := ob.len
    have many := ok.many
    have hmany := crew_many cok
    refine ⟨by show 0 ≤ sizeLine; decide, fun pl hpl => ?_⟩
    have n1 : p ≠ pl := ne_of_none hp hpl
    walk_at "rd"
    refine ⟨by show 0 ≤ sizeLine; decide, fun hl hhl => ?_⟩
    have n2 : p ≠ hl := fun e => by subst e; rw [upd_same] at hhl; cases hhl
    have hhl1 := (upd_ne n2.symm).symm.trans hhl
    have n3 : pl ≠ hl := ne_of_none upd_same hhl1
    have hhl0 : H hl = none := (upd_ne n3.symm).symm.trans hhl1
    refine ⟨_, rfl, _, _, _, _, rfl, (by walk_at "hp"), c0, c2, (by show 1 < 1000; decide), ?_⟩
    have nLp : L ≠ p := ne_of hL hp (fun q => by cases q)
    have nHp : Lh ≠ p := ne_of hLh hp (fun q => by cases q)
    have k0 : Keeps [p] H (upd (upd (upd (upd H pl (.lst [])) p (.ins a.c_Pacts dx (putF "_pairs" (.ref pl) []))) hl (.lst [])) p (.ins a.c_Pacts dx (putF "_helpers" (.ref hl) (putF "_pairs" (.ref pl) [])))) :=
      ((((Keeps.refl [p] H).upd (.inr hpl)).upd (.inl (by simp))).upd (.inr hhl0)).upd (.inl (by simp))
    have e0 : (upd (upd (upd (upd H pl (.lst [])) p (.ins a.c_Pacts dx (putF "_pairs" (.ref pl) []))) hl (.lst [])) p (.ins a.c_Pacts dx (putF "_helpers" (.ref hl) (putF "_pairs" (.ref pl) [])))) p = some (.ins a.c_Pacts dx (pfs pl hl)) := by
      rw [upd_same]
      exact congrArg (fun q => some (HO.ins a.c_Pacts dx q)) pfs_make
    have e1 : (upd (upd (upd (upd H pl (.lst [])) p (.ins a.c_Pacts dx (putF "_pairs" (.ref pl) []))) hl (.lst [])) p (.ins a.c_Pacts dx (putF "_helpers" (.ref hl) (putF "_pairs" (.ref pl) [])))) pl = some (.lst []) := by
      walk_at "hp"
    have e2 : (upd (upd (upd (upd H pl (.lst [])) p (.ins a.c_Pacts dx (putF "_pairs" (.ref pl) []))) hl (.lst [])) p (.ins a.c_Pacts dx (putF "_helpers" (.ref hl) (putF "_pairs" (.ref pl) [])))) hl = some (.lst []) := by
      walk_at "hp"
    generalize (upd (upd (upd (upd H pl (.lst [])) p (.ins a.c_Pacts dx (putF "_pairs" (.ref pl) []))) hl (.lst [])) p (.ins a.c_Pacts dx (putF "_helpers" (.ref hl) (putF "_pairs" (.ref pl) [])))) = H1 at k0 e0 e1 e2
    have np : NoTup H [p] := NoTup.one hp (fun _ e => by cases e) fun _ _ e => by cases e
    have ob1 : Objs H1 as prO ps := ob.keepN k0 np
    have crew1 : Crew H1 has hs := Crew.keep crew k0 np
    refine ⟨_, rfl, L, rfl, ⟨_, SqL.of (k0 _ _ hL (by simp [nLp]))⟩, ?_⟩
    refine for_list (K := K) (a := L) (xs := as.map V.ref) (fun i σ H2 => Blk (∃ v3, σ = [some (.ref p), some (.ref L), some (.ref Lh), v3, none] ∧ H2 p = some (.ins a.c_Pacts dx (pfs pl hl)) ∧ H2 pl = some (.lst ((as.take i).map V.ref)) ∧ H2 hl = some (.lst []) ∧ Objs H2 as prO ps ∧ Crew H2 has hs ∧ Keeps [p] H H2)) ?_ ?_ ?_ ?_
    · exact Blk.of ⟨_, rfl, e0, e1, e2, ob1, crew1, k0⟩
    · intro i σ H2 _ hB
      obtain ⟨v3, _, _, _, _, _, _, k2⟩ := hB.out
      exact SqL.of (k2 _ _ hL (by simp [nLp]))
    · intro i y σ H2 hi hB
      obtain ⟨v3, rfl, f0, f1, f2, ob2, cr2, k2⟩ := hB.out
      obtain ⟨h, hh, rfl⟩ := refs_get hi
      obtain ⟨q, hq, hq2⟩ := ob2.get hh
      have hil := get_lt hq
      obtain ⟨nm1, nm2⟩ := ok.nm q (List.mem_of_getElem? hq)
      refine ⟨_, rfl, h, q, rfl, hq2, name_line nm1, name_line nm2, fun H3 s3 => ⟨_, rfl, ?_⟩⟩
      rw [nm1, nm2]
      refine iteF ?_
      have f03 := s3 _ _ f0
      have f13 := s3 _ _ f1
      have k1 := @pfs_p pl hl
      refine ⟨_, rfl, ?_⟩
      refine ⟨_, rfl, _, _, _, _, _, rfl, f03, c0, c1, k1, ?_⟩
      refine ⟨h, pl, q, as.take i, ps.take i, rfl, s3 _ _ hq2, f13, (ob2.same s3).take i, by rw [List.length_take]; omega, fun H4 s4 => ⟨_, rfl, ?_⟩⟩
      rw [fits_next ok hq]
      refine iteF ?_
      have f04 := s4 _ _ f03
      have f14 := s4 _ _ f13
      have f24 := s4 _ _ (s3 _ _ f2)
      refine ⟨_, rfl, _, _, _, _, _, rfl, f04, c0, c1, k1, ?_⟩
      refine ⟨.inl ⟨rfl, _, SqL.of f14⟩, _, rfl, pl, _, _, rfl, rfl, f14, by rw [List.length_map, List.length_take]; exact small (by omega), ?_⟩
      have kpl : ∀ o, Keeps [pl] H4 (upd H4 pl o) := fun o => (Keeps.refl _ H4).upd (.inl (by simp))
      have npl : NoTup H4 [pl] := NoTup.lst f14
      refine Blk.of ⟨_, rfl, (upd_ne n1).trans f04, ?_, (upd_ne n3.symm).trans f24, ?_, ?_, ?_⟩
      · rw [upd_same, take_snoc hh, List.map_append]; rfl
      · exact ((ob2.same s3).same s4).keepN (kpl _) npl
      · exact Crew.keep ((Crew.same cr2 s3).same s4) (kpl _) npl
      · have k4 : Keeps [p] H H4 := (k2.trans (fun c o e _ => s3 c o e)).trans (fun c o e _ => s4 c o e)
        exact k4.upd (.inr hpl)
    · intro σ H2 hB
      obtain ⟨v3, rfl, f0, f1, f2, ob2, cr2, k2⟩ := hB.out
      have et : as.take (as.map V.ref).length = as := by rw [List.length_map, List.take_length]
      rw [et] at f1
      refine ⟨_, rfl, Lh, rfl, ⟨_, SqL.of (k2 _ _ hLh (by simp [nHp]))⟩, ?_⟩
      refine for_list (K := K) (a := Lh) (xs := has.map V.ref) (fun i σ H3 => Blk (∃ v3 v4, σ = [some (.ref p), some (.ref L), some (.ref Lh), v3, v4] ∧ H3 p = some (.ins a.c_Pacts dx (pfs pl hl)) ∧ H3 pl = some (.lst (as.map V.ref)) ∧ H3 hl = some (.lst ((has.take i).map V.ref)) ∧ Objs H3 as prO ps ∧ Crew H3 has hs ∧ Keeps [p] H H3)) ?_ ?_ ?_ ?_
      · exact Blk.of ⟨_, _, rfl, f0, f1, f2, ob2, cr2, k2⟩
      · intro i σ H3 _ hB
        obtain ⟨v3, v4, _, _, _, _, _, _, k3⟩ := hB.out
        exact SqL.of (k3 _ _ hLh (by simp [nHp]))
      · intro i y σ H3 hi hB
        obtain ⟨v3, v4, rfl, f0, f1, f2, ob3, cr3, k3⟩ := hB.out
        obtain ⟨h, hh, rfl⟩ := refs_get hi
        obtain ⟨x, hx, hx2⟩ := AllAt.get cr3 hh
        have hil := get_lt hx
        obtain ⟨b1, b2⟩ := cok.next hx
        obtain ⟨nm, sd, tkb, thb⟩ := pactB_out b1
        have t1 := takesB_len tkb
        have t2 := (My.throwsB_nodup thb).1
        have k1 := @pfs_p pl hl
        have k4 := @pfs_h pl hl
        refine ⟨_, rfl, h, x, rfl, hx2, name_line nm, by omega, by omega, fun H4 s4 => ⟨_, rfl, ?_⟩⟩
        rw [b1]
        refine iteF ?_
        have f04 := s4 _ _ f0
        refine ⟨_, rfl, _, rfl, _, _, _, _, _, rfl, f04, c0, c1, k1, _, rfl, _, _, _, _, _, rfl, f04, c0, c2, k4, ?_⟩
        refine ⟨h, pl, hl, x, as, has.take i, ps, hs.take i, rfl, hx2.same s4, sd, s4 _ _ f1, ob3.same s4, s4 _ _ f2, AllAt.take (Crew.same cr3 s4) i, by omega, by rw [List.length_take]; omega, by omega, fun H5 s5 => ⟨_, rfl, ?_⟩⟩
        rw [b2]
        refine iteF ?_
        have f05 := s5 _ _ f04
        have f15 := s5 _ _ (s4 _ _ f1)
        have f25 := s5 _ _ (s4 _ _ f2)
        refine ⟨_, rfl, _, _, _, _, _, rfl, f05, c0, c2, k4, ?_⟩
        refine ⟨.inl ⟨rfl, _, SqL.of f25⟩, _, rfl, hl, _, _, rfl, rfl, f25, by rw [List.length_map, List.length_take]; exact small (by omega), ?_⟩
        have khl : ∀ o, Keeps [hl] H5 (upd H5 hl o) := fun o => (Keeps.refl _ H5).upd (.inl (by simp))
        have nhl : NoTup H5 [hl] := NoTup.lst f25
        refine Blk.of ⟨_, _, rfl, (upd_ne n2).trans f05, (upd_ne n3).trans f15, ?_, ?_, ?_, ?_⟩
        · rw [upd_same, take_snoc hh, List.map_append]; rfl
        · exact ((ob3.same s4).same s5).keepN (khl _) nhl
        · exact Crew.keep ((Crew.same cr3 s4).same s5) (khl _) nhl
        · have k5 : Keeps [p] H H5 := (k3.trans (fun c o e _ => s4 c o e)).trans (fun c o e _ => s5 c o e)
          exact k5.upd (.inr hhl0)
      · intro σ H3 hB
        obtain ⟨v3, v4, rfl, f0, f1, f2, ob3, cr3, k3⟩ := hB.out
        have et2 : has.take (has.map V.ref).length = has := by rw [List.length_map, List.take_length]
        rw [et2] at f2
        exact kk pl hl _ hpl hhl0 ⟨⟨dx, f0⟩, f1, ob3⟩ ⟨f2, cr3⟩ k3

/-! ### the pair of a word -/
open My (wd)
theorem wd_at {i : Int} (hi : i = 0 ∨ i = 1) (p : My.Pr) : atI [V.str p.1, .str p.2.1, .bl p.2.2] i = some (.str (wd i p)) := by
  rcases hi with rfl | rfl <;> rfl
theorem find_first {α : Type} {P : α → Prop} [DecidablePred P] : ∀ {xs : List α} {k : Nat} {q : α}, (∀ (j : Nat) (z : α), j < k → xs[j]? = some z → ¬ P z) → xs[k]? = some q → P q → xs.find? (fun z => decide (P z)) = some q
  | [], k, q, _, h, _ => by simp at h
  | x :: r, 0, q, _, h, hp => by
    obtain rfl := Option.some.inj (show some x = some q from h)
    rw [List.find?_cons, decide_eq_true hp]
  | x :: r, k + 1, q, hn, h, hp => by
    rw [List.find?_cons, decide_eq_false (hn 0 x (by omega) rfl)]
    exact find_first (k := k) (fun j z hj e => hn (j + 1) z (by omega) e) h hp
theorem find_no {α : Type} {P : α → Prop} [DecidablePred P] {xs : List α} (hn : ∀ (j : Nat) (z : α), j < xs.length → xs[j]? = some z → ¬ P z) : xs.find? (fun z => decide (P z)) = none := by
  rw [List.find?_eq_none]
  intro x hx
  obtain ⟨j, hj⟩ := List.getElem?_of_mem hx
  simpa using hn j x (get_lt hj) hj
def pairOf (i : Int) (w : Str) (ps : List My.Pr) : Option My.Pr := ps.find? fun z => decide (wd i z = w)
def sp_pair (C : Addr) : Sp := fun vs H Q _ => ∃ (p pl hl : Addr) (as : List Addr) (ps : List My.Pr) (w : Str) (i : Int) (q : My.Pr), vs = [.ref p, .str w, .int i] ∧ PactsAt C H p pl hl as ps ∧ (i = 0 ∨ i = 1) ∧ pairOf i w ps = some q ∧
  ∀ (h : Addr) (H' : Hp), Same H H' → H' h = some (prO q) → Q (.ref h) H'
theorem ok_Pacts_p_pair (T : Txt K mg a) : FnOk P w K mg base CX0 3 a.f_Pacts_p_pair a.d_Pacts_p_pair ["self", "word", "side"] (sp_pair a.c_Pacts) := by
  refine T.F_Pacts_p_pair.ok sc_Pacts_p_pair (fun vs H Q E h => ?_) (fun cdv A outer s H vs Q E hr h => ?_)
  · obtain ⟨p, pl, hl, as, ps, w, i, q, rfl, _⟩ := h
    rfl
  · obtain ⟨p, pl, hl, as, ps, w, i, q, rfl, pa, hi, hq, kk⟩ := h
    refine ⟨_, (C8.pss_cut (ps_if (pt_val (pe_call (ok_is_side T) (hr.mono (by decide)) rfl T.g_is_side T.k_is_side T.B_is_side .nil pass0 (pa_cons (pv 2) pa_nil))) (pss_one (ps_for PassesOwn.never rfl (pi_list (pe_fld (pv 0) rfl)) (pg_name (i := 3) sc_Pacts_p_pair.nd rfl (Or.inl rfl)) (pss_one (ps_if (pt_cmpR op_eq (pe_ix ix_tup (pv 3) (pv 2) (fun _ _ => rfl)) (pv 1) (nomark _)) (pss_one (ps_ret (pv 3))) pss_nil)))) pss_nil)
      (pss_one ps_never)), ?_⟩
    refine ⟨fun σ H2 => False, ?_, fun σ H2 hB => hB.elim⟩
    refine ⟨_, rfl, i, rfl, fun H1 s1 => ⟨_, rfl, ?_⟩⟩
    have pa1 := pa.same s1
    obtain ⟨dx, e0⟩ := pa1.ob
    rw [decide_eq_true hi]
    refine iteT ?_
    refine ⟨_, rfl, _, _, _, _, _, rfl, e0, T.cl_Pacts, T.n_Pacts__pairs, pfs_p, pl, rfl, ⟨_, SqL.of pa1.lp⟩, ?_⟩
    refine for_list (K := K) (a := pl) (xs := as.map V.ref) (fun k σ H2 => Blk (∃ v3, σ = [some (.ref p), some (.str w), some (.int i), v3] ∧ H2 = H1 ∧ ∀ (j : Nat) (z : My.Pr), j < k → ps[j]? = some z → ¬ wd i z = w)) ?_ ?_ ?_ ?_
    · exact Blk.of ⟨_, rfl, rfl, fun j z h => absurd h (by omega)⟩
    · intro k σ H2 _ hB
      obtain ⟨v3, _, rfl, _⟩ := hB.out
      exact SqL.of pa1.lp
    · intro k y σ H2 hy hB
      obtain ⟨v3, rfl, rfl, no⟩ := hB.out
      obtain ⟨h, hh, rfl⟩ := refs_get hy
      obtain ⟨z, hz, hz2⟩ := pa1.ps.get hh
      refine ⟨_, rfl, _, rfl, _, _, _, _, rfl, rfl, SqT.of hz2, wd_at hi z, ?_⟩
      refine ⟨_, rfl, rfl, _, rfl, ?_⟩
      refine iteD (fun c => ?_) (fun c => ?_)
      · have c' : wd i z = w := V.str.inj c
        have := find_first (P := fun z => wd i z = w) no hz c'
        have e : some z = some q := this.symm.trans hq
        obtain rfl := Option.some.inj e
        exact ⟨_, rfl, kk h _ s1 hz2⟩
      · refine Blk.of ⟨_, rfl, rfl, fun j z' hj e => ?_⟩
        by_cases e2 : j = k
        · subst e2
          rw [hz] at e
          obtain rfl := Option.some.inj e
          exact fun c2 => c (congrArg V.str c2)
        · exact no j z' (by omega) e
    · intro σ H2 hB
      obtain ⟨v3, rfl, rfl, no⟩ := hB.out
      rw [List.length_map, pa1.ps.len] at no
      have : pairOf i w ps = none := find_no no
      rw [hq] at this
      cases this
theorem pfs_no1 {pl hl : Addr} : (pfs pl hl).lookup ("_pair" : Str) = none := by kernel_rfl
def sp_over (C : Addr) : Sp := fun vs H Q _ => ∃ (p pl hl : Addr) (as : List Addr) (ps : List My.Pr) (w : Str) (i : Int) (q : My.Pr), vs = [.ref p, .str w, .int i] ∧ PactsAt C H p pl hl as ps ∧ (i = 0 ∨ i = 1) ∧ pairOf i w ps = some q ∧
  ∀ (H' : Hp), Same H H' → Q (.str (wd (1 - i) q)) H'
theorem ok_Pacts_over (T : Txt K mg a) : FnOk P w K mg base CX0 4 a.f_Pacts_over a.d_Pacts_over ["self", "word", "side"] (sp_over a.c_Pacts) := by
  refine T.F_Pacts_over.ok sc_Pacts_over (fun vs H Q E h => ?_) (fun cdv A outer s H vs Q E hr h => ?_)
  · obtain ⟨p, pl, hl, as, ps, w, i, q, rfl, _⟩ := h
    rfl
  · obtain ⟨p, pl, hl, as, ps, w, i, q, rfl, pa, hi, hq, kk⟩ := h
    refine ⟨_, (pss_one (ps_ret (pe_ix ix_tup (pe_meth (pv 0) T.cl_Pacts T.m_Pacts_p_pair (ok_Pacts_p_pair T) (hr.mono (by decide)) T.B_Pacts_p_pair .nil pass0 (pa_cons (pv 1) (pa_cons (pv 2) pa_nil))) (pe_op op_sub pe_int (pv 2)) (fun _ _ => rfl)))), ?_⟩
    obtain ⟨dx, e0⟩ := pa.ob
    refine ⟨_, rfl, p, dx, _, rfl, e0, pfs_no1, _, rfl, _, rfl, p, pl, hl, as, ps, w, i, q, rfl, pa, hi, hq, fun h H1 s1 h1 => ?_⟩
    refine ⟨_, rfl, _, _, rfl, rfl, ?_⟩
    exact ⟨_, _, _, _, rfl, rfl, SqT.of h1, wd_at (by omega) q, kk H1 s1⟩

open My (Hr wd)
/-! ### what is told of the helpers -/
def sp_Ppairs (C : Addr) : Sp := fun vs H Q _ => ∃ (p pl hl : Addr) (as : List Addr) (ps : List My.Pr), vs = [.ref p] ∧ PactsAt C H p pl hl as ps ∧ ∀ (r : Addr) (H' : Hp), H r = none → H' r = some (.lst (as.map V.ref)) → Same H H' → Q (.ref r) H'
theorem ok_Pacts_pairs (T : Txt K mg a) : FnOk P w K mg base CX0 1 a.f_Pacts_pairs a.d_Pacts_pairs ["self"] (sp_Ppairs a.c_Pacts) := by
  refine T.F_Pacts_pairs.ok sc_Pacts_pairs (fun vs H Q E h => ?_) (fun cdv A outer s H vs Q E hr h => ?_)
  · obtain ⟨p, pl, hl, as, ps, rfl, _⟩ := h
    rfl
  · obtain ⟨p, pl, hl, as, ps, rfl, pa, kk⟩ := h
    refine ⟨_, (pss_one (ps_ret (pe_callTy call_list_of (by rfl) T.z_list (by decide +kernel) (pa_cons (pe_fld (pv 0) rfl) pa_nil)))), ?_⟩
    obtain ⟨dx, e0⟩ := pa.ob
    refine ⟨_, rfl, _, _, _, _, _, rfl, e0, T.cl_Pacts, T.n_Pacts__pairs, pfs_p, ?_⟩
    exact ⟨pl, _, rfl, .inl (SqL.of pa.lp), fun r hr => kk r _ hr upd_same ((Same.refl H).upd hr)⟩
def sp_Plen (C : Addr) : Sp := fun vs H Q _ => ∃ (p pl hl : Addr) (as has : List Addr) (ps : List My.Pr) (hs : List Hr), vs = [.ref p] ∧ PactsAt C H p pl hl as ps ∧ CrewAt H hl has hs ∧ Q (.int hs.length) H
theorem ok_Pacts_len (T : Txt K mg a) : FnOk P w K mg base CX0 1 a.f_Pacts_len a.d_Pacts_len ["self"] (sp_Plen a.c_Pacts) := by
  refine T.F_Pacts_len.ok sc_Pacts_len (fun vs H Q E h => ?_) (fun cdv A outer s H vs Q E hr h => ?_)
  · obtain ⟨p, pl, hl, as, has, ps, hs, rfl, _⟩ := h
    rfl
  · obtain ⟨p, pl, hl, as, has, ps, hs, rfl, pa, cr, kk⟩ := h
    refine ⟨_, (pss_one (ps_ret (pe_callB call_len_seq (by rfl) T.z_len (by decide +kernel) (pa_cons (pe_fld (pv 0) rfl) pa_nil)))), ?_⟩
    obtain ⟨dx, e0⟩ := pa.ob
    refine ⟨_, rfl, _, _, _, _, _, rfl, e0, T.cl_Pacts, T.n_Pacts__helpers, pfs_h, ?_⟩
    have hl := AllAt.len cr.hs
    refine ⟨_, _, rfl, .inl (SqL.of cr.lh), ?_⟩
    rw [List.length_map, hl]
    exact kk
def ofSide (i : Int) (hs : List Hr) : List Hr := hs.filter fun z => decide (z.side = i)
theorem ofSide_snoc {hs : List Hr} {k : Nat} {z : Hr} (i : Int) (h : hs[k]? = some z) : ofSide i (hs.take (k + 1)) = ofSide i (hs.take k) ++ (if z.side = i then [z] else []) := by
  unfold ofSide
  rw [take_snoc h, List.filter_append]
  by_cases c : z.side = i
  · simp [c]
  · simp [c]
theorem ofSide_le (i : Int) (hs : List Hr) : (ofSide i hs).length ≤ hs.length := List.length_filter_le _ _
def sp_Pnames (C : Addr) : Sp := fun vs H Q _ => ∃ (p pl hl : Addr) (as has : List Addr) (ps : List My.Pr) (hs : List Hr) (i : Int), vs = [.ref p, .int i] ∧ PactsAt C H p pl hl as ps ∧ CrewAt H hl has hs ∧ hs.length ≤ 10000 ∧
  ∀ (r : Addr) (H' : Hp), H r = none → H' r = some (.lst (((ofSide i hs).map (·.name)).map V.str)) → Same H H' → Q (.ref r) H'
theorem dec_int_eq (i j : Int) : decide (V.int i = V.int j) = decide (i = j) := by
  by_cases c : i = j
  · rw [c]; simp
  · rw [decide_eq_false c, decide_eq_false fun q => c (V.int.inj q)]
theorem ok_Pacts_names (T : Txt K mg a) : FnOk P w K mg base CX0 1 a.f_Pacts_names a.d_Pacts_names ["self", "side"] (sp_Pnames a.c_Pacts) := by
  refine T.F_Pacts_names.ok sc_Pacts_names (fun vs H Q E h => ?_) (fun cdv A outer s H vs Q E hr h => ?_)
  · obtain ⟨p, pl, hl, as, has, ps, hs, i, rfl, _⟩ := h
    rfl
  · obtain ⟨p, pl, hl, as, has, ps, hs, i, rfl, pa, cr, hz, kk⟩ := h
    refine ⟨_, (pss_one (ps_ret (pe_lc (own := [("pact", 2)]) (g := gName 2) (te := tOp (rIxT K) (tVar 2) (tC (.int 0))) (tt := tTest (tOp rEq (tOp (rIxT K) (tVar 2) (tC (.int 1))) (tVar 1))) rfl sc_Pacts_names.nd (pi_list (pe_fld (pv 0) rfl)) (blkOk_by (own := [("pact", 2)]) (N := ["self", "side", "pact"]) (sc := defScope s_Pacts_names) (by decide +kernel)) (fun _ _ _ _ _ => pg_name (i := 2) sc_Pacts_names.nd rfl (Or.inl rfl)) (fun _ _ _ _ _ => pts_one (pt_cmpR op_eq (pe_ix ix_tup (pv 2) pe_int (fun _ _ => rfl)) (pv 1) (nomark _))) (fun _ _ _ _ _ => by exact (pe_ix ix_tup (pv 2) pe_int (fun _ _ => rfl)))))), ?_⟩
    obtain ⟨dx, e0⟩ := pa.ob
    have hasl := AllAt.len cr.hs
    have eL := cr.lh
    refine ⟨_, rfl, _, _, _, _, _, rfl, e0, T.cl_Pacts, T.n_Pacts__helpers, pfs_h, hl, rfl, ⟨_, SqL.of eL⟩, fun D hD => ?_⟩
    have nLD : hl ≠ D := ne_of_none eL hD
    refine lc_list (K := K) (a := hl) (xs := has.map V.ref) (fun k H1 => Blk (H1 = upd H D (.lst (((ofSide i (hs.take k)).map (·.name)).map V.str)))) (Blk.of rfl) (fun k H1 _ hB => ?_) ?_ ?_
    · obtain rfl := hB.out
      exact SqL.of ((upd_ne nLD).trans eL)
    · intro k y H1 hi hB
      obtain rfl := hB.out
      obtain ⟨b, hb, rfl⟩ := refs_get hi
      obtain ⟨z, hz2, tk2, th2, ez, _⟩ := AllAt.get cr.hs hb
      have hil := get_lt hz2
      have ez2 : ∀ o, upd H D o b = some (.tup [.str z.name, .int z.side, .ref tk2, .bl z.gives, .ref th2]) := fun o => (upd_ne (ne_of_none ez hD)).trans ez
      refine ⟨rfl, ?_⟩
      refine ⟨_, rfl, _, _, _, _, rfl, rfl, SqT.of (ez2 _), rfl, _, rfl, rfl, _, rfl, ?_⟩
      rw [dec_int_eq]
      have hle := ofSide_le i (hs.take k)
      rw [List.length_take] at hle
      refine iteD (fun c => ?_) (fun c => ?_)
      · refine ⟨_, rfl, _, _, _, _, rfl, rfl, SqT.of (ez2 _), rfl, ?_⟩
        refine ⟨_, upd_same, by rw [List.length_map, List.length_map]; exact small (by omega), Blk.of ?_⟩
        rw [upd_upd, ofSide_snoc i hz2, if_pos c, List.map_append, List.map_append]
        rfl
      · refine Blk.of ?_
        rw [ofSide_snoc i hz2, if_neg c, List.append_nil]
    · intro H1 hB
      obtain rfl := hB.out
      have e1 : hs.take (has.map V.ref).length = hs := by rw [List.length_map, hasl, List.take_length]
      rw [e1]
      exact kk D _ hD upd_same ((Same.refl H).upd hD)
def crewOf (w : Str) (hs : List Hr) : Option Hr := hs.find? fun z => decide (z.name = w)
def sp_Ppact (C : Addr) : Sp := fun vs H Q _ => ∃ (p pl hl : Addr) (as has : List Addr) (ps : List My.Pr) (hs : List Hr) (w : Str) (x : Hr), vs = [.ref p, .str w] ∧ PactsAt C H p pl hl as ps ∧ CrewAt H hl has hs ∧ crewOf w hs = some x ∧
  ∀ (h : Addr), HrAt H h x → Q (.ref h) H
theorem ok_Pacts_pact (T : Txt K mg a) : FnOk P w K mg base CX0 1 a.f_Pacts_pact a.d_Pacts_pact ["self", "name"] (sp_Ppact a.c_Pacts) := by
  refine T.F_Pacts_pact.ok sc_Pacts_pact (fun vs H Q E h => ?_) (fun cdv A outer s H vs Q E hr h => ?_)
  · obtain ⟨p, pl, hl, as, has, ps, hs, w, x, rfl, _⟩ := h
    rfl
  · obtain ⟨p, pl, hl, as, has, ps, hs, w, x, rfl, pa, cr, hx, kk⟩ := h
    refine ⟨_, (pss_cons (ps_for PassesOwn.never rfl (pi_list (pe_fld (pv 0) rfl)) (pg_name (i := 2) sc_Pacts_pact.nd rfl (Or.inl rfl)) (pss_one (ps_if (pt_cmpR op_eq (pe_ix ix_tup (pv 2) pe_int (fun _ _ => rfl)) (pv 1) (nomark _)) (pss_one (ps_ret (pv 2))) pss_nil)))
      (pss_one ps_never)), ?_⟩
    obtain ⟨dx, e0⟩ := pa.ob
    have eL := cr.lh
    refine ⟨_, rfl, _, _, _, _, _, rfl, e0, T.cl_Pacts, T.n_Pacts__helpers, pfs_h, hl, rfl, ⟨_, SqL.of eL⟩, ?_⟩
    refine for_list (K := K) (a := hl) (xs := has.map V.ref) (fun k σ H2 => Blk (∃ v2, σ = [some (.ref p), some (.str w), v2] ∧ H2 = H ∧ ∀ (j : Nat) (z : Hr), j < k → hs[j]? = some z → ¬ z.name = w)) ?_ ?_ ?_ ?_
    · exact Blk.of ⟨_, rfl, rfl, fun j z h => absurd h (by omega)⟩
    · intro k σ H2 _ hB
      obtain ⟨v2, _, rfl, _⟩ := hB.out
      exact SqL.of eL
    · intro k y σ H2 hy hB
      obtain ⟨v2, rfl, rfl, no⟩ := hB.out
      obtain ⟨h, hh, rfl⟩ := refs_get hy
      obtain ⟨z, hz, hz2⟩ := AllAt.get cr.hs hh
      obtain ⟨tk2, th2, ez, _⟩ := id hz2
      refine ⟨_, rfl, _, _, _, _, rfl, rfl, SqT.of ez, rfl, ?_⟩
      refine ⟨_, rfl, rfl, _, rfl, ?_⟩
      refine iteD (fun c => ?_) (fun c => ?_)
      · have c' : z.name = w := V.str.inj c
        have := find_first (P := fun z : Hr => z.name = w) no hz c'
        have e : some z = some x := this.symm.trans hx
        obtain rfl := Option.some.inj e
        exact ⟨_, rfl, kk h hz2⟩
      · refine Blk.of ⟨_, rfl, rfl, fun j z' hj e => ?_⟩
        by_cases e2 : j = k
        · subst e2
          rw [hz] at e
          obtain rfl := Option.some.inj e
          exact fun c2 => c (congrArg V.str c2)
        · exact no j z' (by omega) e
    · intro σ H2 hB
      obtain ⟨v2, rfl, rfl, no⟩ := hB.out
      rw [List.length_map, AllAt.len cr.hs] at no
      have : crewOf w hs = none := find_no no
      rw [hx] at this
      cases this
/-- a helper's errors as side i calls them -/
def errs (i : Int) (ps : List My.Pr) (x : Hr) : List Str := if x.side = i then x.throws else x.throws.map fun t => ((pairOf x.side t ps).map (wd (1 - x.side))).getD t
theorem errs_own {i : Int} {ps : List My.Pr} {x : Hr} (h : x.side = i) : errs i ps x = x.throws := if_pos h
theorem errs_other {i : Int} {ps : List My.Pr} {x : Hr} (h : ¬ x.side = i) : errs i ps x = x.throws.map fun t => ((pairOf x.side t ps).map (wd (1 - x.side))).getD t := if_neg h
theorem pairOf_mem {i : Int} {t : Str} {ps : List My.Pr} (h : t ∈ ps.map (My.wd i)) : ∃ q, pairOf i t ps = some q := by
  cases e : pairOf i t ps with
  | some q => exact ⟨q, rfl⟩
  | none =>
    obtain ⟨q, hq, e2⟩ := List.mem_map.mp h
    have := List.find?_eq_none.mp e q hq
    exact absurd (decide_eq_true e2) this
theorem pfs_no3 {pl hl : Addr} : (pfs pl hl).lookup ("over" : Str) = none := by kernel_rfl
theorem pfs_no4 {pl hl : Addr} : (pfs pl hl).lookup ("pact" : Str) = none := by kernel_rfl
def sp_Perrors (C : Addr) : Sp := fun vs H Q _ => ∃ (p pl hl : Addr) (as has : List Addr) (ps : List My.Pr) (hs : List Hr) (w : Str) (i : Int) (x : Hr), vs = [.ref p, .str w, .int i] ∧ PactsAt C H p pl hl as ps ∧ CrewAt H hl has hs ∧ crewOf w hs = some x ∧
  (x.side = 0 ∨ x.side = 1) ∧ (∀ t, t ∈ x.throws → t ∈ ps.map (My.wd x.side)) ∧ x.throws.length ≤ 10000 ∧
  ∀ (r : Addr) (H' : Hp), H r = none → H' r = some (.lst ((errs i ps x).map V.str)) → Same H H' → Q (.ref r) H'
theorem ok_Pacts_errors (T : Txt K mg a) : FnOk P w K mg base CX0 5 a.f_Pacts_errors a.d_Pacts_errors ["self", "name", "side"] (sp_Perrors a.c_Pacts) := by
  refine T.F_Pacts_errors.ok sc_Pacts_errors (fun vs H Q E h => ?_) (fun cdv A outer s H vs Q E hr h => ?_)
  · obtain ⟨p, pl, hl, as, has, ps, hs, w, i, x, rfl, _⟩ := h
    rfl
  · obtain ⟨p, pl, hl, as, has, ps, hs, w, i, x, rfl, pa, cr, hx, hsd, hth, hz, kk⟩ := h
    refine ⟨_, (pss_cons (ps_asg (pe_meth (pv 0) T.cl_Pacts T.m_Pacts_pact (ok_Pacts_pact T) (hr.mono (by decide)) T.B_Pacts_pact .nil pass0 (pa_cons (pv 1) pa_nil)) (pg_tup (by rfl) (pgs_cons (pg_name (i := 3) sc_Pacts_errors.nd rfl (Or.inl rfl)) (pgs_cons (pg_name (i := 4) sc_Pacts_errors.nd rfl (Or.inr rfl)) (pgs_cons (pg_name (i := 3) sc_Pacts_errors.nd rfl (Or.inl rfl)) (pgs_cons (pg_name (i := 3) sc_Pacts_errors.nd rfl (Or.inl rfl)) (pgs_cons (pg_name (i := 5) sc_Pacts_errors.nd rfl (Or.inl rfl)) pgs_nil)))))))
      (pss_cons (ps_if (pt_cmpR op_eq (pv 4) (pv 2) (nomark _)) (pss_one (ps_ret (pe_callTy call_list_of (by rfl) T.z_list (by decide +kernel) (pa_cons (pv 5) pa_nil)))) pss_nil)
      (pss_one (ps_ret (pe_lc (own := [("word", 6)]) (g := gName 6) (tt := tYes) rfl sc_Pacts_errors.nd (pi_tup (pv 5)) (blkOk_by (own := [("word", 6)]) (N := ["self", "name", "side", "_", "own", "throws", "word"]) (sc := defScope s_Pacts_errors) (by decide +kernel)) (fun _ _ _ _ _ => pg_name (i := 6) sc_Pacts_errors.nd rfl (Or.inl rfl)) (fun _ _ _ _ _ => pts_nil) (fun _ _ _ _ _ => by exact (pe_methN (ks := ["side"]) (pv 0) T.cl_Pacts T.m_Pacts_over (ok_Pacts_over T) (hr.mono (by decide)) T.KN_Pacts_over_2 (pass0) (pa_cons (pv 6) pa_nil) (pk_cons (pv 4) pk_nil)))))))), ?_⟩
    obtain ⟨dx, e0⟩ := pa.ob
    refine ⟨_, rfl, p, dx, _, rfl, e0, pfs_no4, _, rfl, p, pl, hl, as, has, ps, hs, w, x, rfl, pa, cr, hx, fun h ⟨tk, th, e, etk, ob, hob, eth⟩ => ?_⟩
    have eqT : ∀ {H' : Hp}, H' th = some (.frz ob (.tup (x.throws.map V.str))) → SqT K H' th (x.throws.map V.str) := fun e => .inl (.inr ⟨ob, e⟩)
    refine ⟨h, _, rfl, SqT.of e, rfl, ?_⟩
    refine ⟨_, _, rfl, _, _, rfl, _, _, rfl, _, _, rfl, _, _, rfl, rfl, ?_⟩
    refine ⟨_, rfl, _, rfl, rfl, _, rfl, ?_⟩
    rw [dec_int_eq]
    refine iteD (fun c => ?_) (fun c => ?_)
    · refine ⟨_, rfl, th, _, rfl, .inr (eqT eth), fun r hr => kk r _ hr ?_ ((Same.refl H).upd hr)⟩
      rw [upd_same, errs_own c]
    · refine ⟨_, rfl, th, rfl, ⟨_, eqT eth⟩, fun D hD => ?_⟩
      refine lc_tup (K := K) (a := th) (xs := x.throws.map V.str) (fun k H1 => Blk (Same H H1 ∧ H1 D = some (.lst (((x.throws.take k).map fun t => ((pairOf x.side t ps).map (wd (1 - x.side))).getD t).map V.str)))) (Blk.of ⟨(Same.refl H).upd hD, upd_same⟩) (fun k H1 _ hB => ?_) ?_ ?_
      · exact eqT (hB.out.1 _ _ eth)
      · intro k y H1 hi hB
        obtain ⟨s1, h1⟩ := hB.out
        obtain ⟨t, ht, rfl⟩ := strs_get hi
        obtain ⟨q, hq⟩ := pairOf_mem (hth t (List.mem_of_getElem? ht))
        have hil := get_lt ht
        refine ⟨rfl, ?_⟩
        dsimp only [tYes]
        refine iteT ?_
        have pa1 := pa.same s1
        obtain ⟨dx1, e1⟩ := pa1.ob
        refine ⟨_, rfl, p, dx1, _, rfl, e1, pfs_no3, _, rfl, _, rfl, rfl, p, pl, hl, as, ps, t, x.side, q, rfl, pa1, hsd, hq, fun H2 s2 => ?_⟩
        refine ⟨_, s2 _ _ h1, by rw [List.length_map, List.length_map, List.length_take]; exact small (by omega), Blk.of ⟨?_, ?_⟩⟩
        · exact (s1.trans s2).upd hD
        · rw [upd_same, take_snoc ht, List.map_append, List.map_append]
          show _ = some (HO.lst (_ ++ [V.str (((pairOf x.side t ps).map (wd (1 - x.side))).getD t)]))
          rw [hq]
          rfl
      · intro H1 hB
        obtain ⟨s1, h1⟩ := hB.out
        rw [List.length_map, List.take_length] at h1
        refine kk D H1 hD ?_ s1
        rw [h1, errs_other c]

open My (Hr)
/-! ### helpers that are drawn -/
theorem AllAt.append {α : Type} {R : Addr → α → Prop} {as bs : List Addr} {xs ys : List α} (o : AllAt R as xs) (q : AllAt R bs ys) : AllAt R (as ++ bs) (xs ++ ys) := by
  refine ⟨by rw [List.length_append, List.length_append, o.len, q.len], fun i h x e1 e2 => ?_⟩
  by_cases hi : i < as.length
  · rw [List.getElem?_append_left hi] at e1
    rw [List.getElem?_append_left (by rw [← o.len]; exact hi)] at e2
    exact o.at_ i h x e1 e2
  · rw [List.getElem?_append_right (by omega)] at e1
    rw [List.getElem?_append_right (by rw [← o.len]; omega), ← o.len] at e2
    exact q.at_ _ h x e1 e2
theorem AllAt.drop {α : Type} {R : Addr → α → Prop} {as : List Addr} {xs : List α} (o : AllAt R as xs) (n : Nat) : AllAt R (as.drop n) (xs.drop n) := by
  refine ⟨by rw [List.length_drop, List.length_drop, o.len], fun i h x e1 e2 => ?_⟩
  rw [List.getElem?_drop] at e1 e2
  exact o.at_ _ h x e1 e2
theorem AllAt.one {α : Type} {R : Addr → α → Prop} {h : Addr} {x : α} (e : R h x) : AllAt R [h] [x] := AllAt.nil.snoc e
/-- a text that may be told -/
def WOk (s : Str) : Prop := s.length ≤ 20 ∧ PyData.strOk s = true
theorem letters_ok {s : Str} (h : s.cps.toList.all My.letter = true) : PyData.strOk s = true := by
  unfold PyData.strOk
  rw [← Array.all_toList]
  refine List.all_eq_true.mpr fun c hc => ?_
  have h4 := (List.all_eq_true.mp h) c hc
  unfold My.letter at h4
  simp only [Bool.and_eq_true, decide_eq_true_eq] at h4
  exact decide_eq_true (by omega)
theorem name_wok {s : Str} (h : My.nameB s = true) : WOk s := ⟨by have := name_len h; omega, letters_ok (nameB_out h).2.2⟩
structure HrOk (x : Hr) : Prop where
  nm : WOk x.name
  tl : x.takes.length ≤ 8
  tk : ∀ t, t ∈ x.takes → WOk t
  hl : x.throws.length ≤ 8
  th : ∀ t, t ∈ x.throws → WOk t
def rLenK (K : PySem.W.Frag) : List V → Hp → VK → Prop := fun xs H Q => ∃ p ys, xs = [V.ref p] ∧ (SqL K H p ys ∨ SqT K H p ys) ∧ Q (.int ys.length) H
theorem erase_map {α β : Type} (f : α → β) : ∀ (l : List α) (n : Nat), (l.map f).eraseIdx n = (l.eraseIdx n).map f
  | [], _ => rfl
  | _ :: _, 0 => rfl
  | x :: l, n + 1 => by
    show f x :: (l.map f).eraseIdx n = f x :: (l.eraseIdx n).map f
    rw [erase_map f l n]
theorem drop_le {α : Type} {xs : List α} {n : Nat} {x : α} (h : x ∈ xs.drop n) : x ∈ xs := List.mem_of_mem_drop h
def sp_some : Sp := fun vs H Q _ => ∃ (b g l L : Addr) (n m : Int) (xs : List Str), vs = [.ref b, .ref L, .int m] ∧ BoxAt H b g l n ∧ 0 ≤ n ∧ n < 8000000 ∧ H L = some (.lst (xs.map V.str)) ∧ xs.length ≤ 1000 ∧ 0 ≤ m ∧ m ≤ 4 ∧
  ∀ (p : Addr) (ys : List Str) (n' : Int) (H' : Hp), H p = none → H' p = some (.lst (ys.map V.str)) → ys.length ≤ 4 → (∀ y, y ∈ ys → y ∈ xs) → (xs.Nodup → ys.Nodup) → n ≤ n' → n' ≤ n + 5 → BoxAt H' b g l n' → Keeps [b, g] H H' → Q (.ref p) H'
theorem min_two (m k : Int) : (if k < m then k else m) ≤ m ∧ (if k < m then k else m) ≤ k := by
  split <;> omega
theorem ok_some (T : Txt K mg a) : FnOk P w K mg base CX0 3 a.f_some a.d_some ["_law_box_here", "_law_things", "_law_most"] sp_some := by
  refine T.F_some.ok sc_some (fun vs H Q E h => ?_) (fun cdv A outer s H vs Q E hr h => ?_)
  · obtain ⟨b, g, l, L, n, m, xs, rfl, _⟩ := h
    rfl
  · obtain ⟨b, g, l, L, n, m, xs, rfl, bx, n0, n1, hL, hz, m0, m1, kk⟩ := h
    refine ⟨_, (pss_cons (ps_set (i := 3) sc_some.nd rfl (Or.inr rfl) (pe_callTy call_list_of (by rfl) T.z_list (by decide +kernel) (pa_cons (pv 1) pa_nil)))
      (pss_one (ps_ret (pe_lc (own := [("_law_k", 4)]) (g := gName 4) (te := tBM K "list" rPopAt (tVar 3) (tCons (tCall sp_take [] (fun _ _ _ => False) (tCons (tVar 0) (tCons (tCB (rLenK K) (tCons (tVar 3) tNil)) tNil))) tNil)) (tt := tYes) rfl sc_some.nd (pi_range1 (by rfl) T.z_range (pa_cons (pe_call (ok_take T) (hr.mono (by decide)) rfl T.g_take T.k_take T.B_take .nil pass0 (pa_cons (pv 0) (pa_cons (pe_op op_add (pe_callB (call_min2 rfl) (by rfl) T.z_min (by decide +kernel) (pa_cons (pv 2) (pa_cons (pe_callB call_len_seq (by rfl) T.z_len (by decide +kernel) (pa_cons (pv 3) pa_nil)) pa_nil))) pe_int) pa_nil))) pa_nil)) (blkOk_by (own := [("_law_k", 4)]) (N := ["_law_box_here", "_law_things", "_law_most", "_law_pool", "_law_k"]) (sc := defScope s_some) (by decide +kernel)) (fun _ _ _ _ _ => pg_name (i := 4) sc_some.nd rfl (Or.inl rfl)) (fun _ _ _ _ _ => pts_nil) (fun _ _ _ _ _ => by exact (pe_bm PySem.F.plainAttrs_list PySem.F.slot_list_pop PySem.F.type_list_pop mt_popAt (pv 3) (pa_cons (pe_call (ok_take T) (hr.mono (by decide)) rfl T.g_take T.k_take T.B_take .nil pass0 (pa_cons (pv 0) (pa_cons (pe_callB call_len_seq (by rfl) T.z_len (by decide +kernel) (pa_cons (pv 3) pa_nil)) pa_nil))) pa_nil))))))), ?_⟩
    refine ⟨_, rfl, L, _, rfl, .inl (SqL.of hL), fun p hp => ?_⟩
    have hp1 : (upd H p (.lst (xs.map V.str))) p = some (.lst (xs.map V.str)) := upd_same
    have bx1 := bx.upd (o := .lst (xs.map V.str)) hp
    have hpo := offbox bx hp
    have hpo3 := offbox3 bx hp
    have k01 : Keeps [b, g] H (upd H p (.lst (xs.map V.str))) := (Keeps.refl [b, g] H).upd (.inr hp)
    show _
    generalize (upd H p (.lst (xs.map V.str))) = H1 at hp1 bx1 k01
    refine ⟨_, rfl, _, rfl, _, rfl, p, _, rfl, .inl (SqL.of hp1), _, _, rfl, ?_⟩
    have el : (((xs.map V.str).length : Nat) : Int) = (xs.length : Int) := by rw [List.length_map]
    rw [el]
    have mt := min_two m (xs.length : Int)
    have mp : 0 ≤ (if (xs.length : Int) < m then (xs.length : Int) else m) := by split <;> omega
    generalize (if (xs.length : Int) < m then (xs.length : Int) else m) = c at mt mp
    refine ⟨_, _, rfl, rfl, ?_⟩
    have lc : (c + 1).natAbs.log2 < 9000 := by
      have : c = 0 ∨ c = 1 ∨ c = 2 ∨ c = 3 ∨ c = 4 := by omega
      rcases this with rfl | rfl | rfl | rfl | rfl <;> decide
    refine ⟨b, g, l, n, c + 1, rfl, bx1, n0, by omega, by omega, lc, fun k H2 k0 k1 bx2 kp2 => ?_⟩
    have hp2 := kp2 _ _ hp1 hpo
    have k02 := k01.trans kp2
    refine ⟨k, rfl, by omega, by omega, fun D hD => ?_⟩
    have npD : p ≠ D := ne_of_none hp2 hD
    have hDo := offbox bx2 hD
    have hDo3 := offbox3 bx2 hD
    have hD0 : H D = none := by
      rcases k02.fresh hD with q | q
      · exact absurd q hDo
      · exact q
    refine lc_range (lo := 0) (n := k.toNat) (fun i H3 => Blk (∃ zs ys : List Str, zs.length + i = xs.length ∧ (∀ z, z ∈ zs → z ∈ xs) ∧ ys.length = i ∧ (∀ y, y ∈ ys → y ∈ xs) ∧ (ys ++ zs).Perm xs ∧ H3 p = some (.lst (zs.map V.str)) ∧ H3 D = some (.lst (ys.map V.str)) ∧ BoxAt H3 b g l (n + 1 + i) ∧ Keeps [b, g] H H3)) ?_ ?_ ?_
    · refine Blk.of ⟨xs, [], rfl, fun z hz => hz, rfl, fun y hy => by simp at hy, List.Perm.refl _, (upd_ne npD).trans hp2, upd_same, ?_, k02.upd (.inr hD0)⟩
      have e : n + 1 + ((0 : Nat) : Int) = n + 1 := by omega
      rw [e]
      exact bx2.upd hD
    · intro i H3 hi hB
      obtain ⟨zs, ys, hzl, hzs, rfl, hys, hpm, h3p, h3D, bx3, k03⟩ := hB.out
      have zpos : 0 < zs.length := by omega
      refine ⟨rfl, ?_⟩
      dsimp only [tYes]
      refine iteT ?_
      have elz : (((zs.map V.str).length : Nat) : Int) = (zs.length : Int) := by rw [List.length_map]
      refine ⟨_, rfl, .inl ⟨rfl, _, SqL.of h3p⟩, ?_⟩
      refine ⟨_, rfl, _, rfl, p, _, rfl, .inl (SqL.of h3p), ?_⟩
      rw [elz]
      have lz : ((zs.length : Nat) : Int).natAbs.log2 < 9000 := by
        rw [Int.natAbs_natCast]
        by_cases h0 : zs.length = 0
        · rw [h0]; decide
        · have : zs.length.log2 < 17 := (Nat.log2_lt h0).mpr (by omega)
          omega
      refine ⟨b, g, l, _, _, rfl, bx3, by omega, by omega, by omega, lz, fun j H4 j0 j1 bx4 kp4 => ?_⟩
      have h4p := kp4 _ _ h3p hpo
      have h4D := kp4 _ _ h3D hDo
      obtain ⟨jn, rfl⟩ : ∃ m : Nat, j = m := ⟨j.toNat, by omega⟩
      have hj : jn < zs.length := by omega
      have hzj : zs[jn]? = some zs[jn] := List.getElem?_eq_getElem hj
      have hmem := List.mem_of_getElem? hzj
      generalize zs[jn] = z at hzj hmem
      refine ⟨p, _, _, jn, .str z, rfl, rfl, h4p, by omega, by omega, seqIndex_of (by omega) (by rw [List.length_map]; omega), by rw [List.getElem?_map, hzj]; rfl, ?_⟩
      have e1 : (zs.map V.str).eraseIdx jn = (zs.eraseIdx jn).map V.str := erase_map V.str zs jn
      rw [e1]
      refine ⟨_, (upd_ne npD.symm).trans h4D, by rw [List.length_map]; exact small (by omega), Blk.of ⟨zs.eraseIdx jn, ys ++ [z], ?_, ?_, by rw [List.length_append]; rfl, ?_, ?_, ?_, ?_, ?_, ?_⟩⟩
      · rw [List.length_eraseIdx, if_pos hj]
        omega
      · intro y hy
        exact hzs y (List.mem_of_mem_eraseIdx hy)
      · intro y hy
        rcases List.mem_append.mp hy with e | e
        · exact hys y e
        · simp at e; subst e; exact hzs _ hmem
      · refine List.Perm.trans ?_ hpm
        rw [List.append_assoc]
        refine List.Perm.append_left _ ?_
        obtain ⟨hl2, e2⟩ := List.getElem?_eq_some_iff.mp hzj
        rw [List.eraseIdx_eq_take_drop_succ]
        have p := (List.perm_middle (a := z) (l₁ := zs.take jn) (l₂ := zs.drop (jn + 1))).symm
        have e3 : zs.take jn ++ z :: zs.drop (jn + 1) = zs := by
          rw [← e2, List.getElem_cons_drop hl2, List.take_append_drop]
        rw [e3] at p
        exact p
      · rw [upd_ne npD, upd_same]
      · rw [upd_same, List.map_append]; rfl
      · have e : n + 1 + ((ys.length + 1 : Nat) : Int) = n + 1 + (ys.length : Int) + 1 := by omega
        rw [e]
        exact box_put (box_put bx4 hpo3) hDo3
      · exact ((k03.trans kp4).upd (.inr hp)).upd (.inr hD0)
    · intro H3 hB
      obtain ⟨zs, ys, hzl, hzs, hyl, hys, hpm, h3p, h3D, bx3, k03⟩ := hB.out
      exact kk D ys _ H3 hD0 h3D (by omega) hys (fun nd => (List.nodup_append.mp (hpm.nodup_iff.mpr nd)).1) (by omega) (by omega) bx3 k03

open My (Hr)
theorem box_notup {b g l : Addr} {n : Int} {H : Hp} (bx : BoxAt H b g l n) : NoTup H [b, g] := by
  obtain ⟨gs, ls, cur, e1, e2, _⟩ := bx
  intro x hx ys
  simp at hx
  rcases hx with rfl | rfl
  · rw [e1]; exact ⟨fun e => (by cases e), fun o e => (by cases e)⟩
  · rw [e2]; exact ⟨fun e => (by cases e), fun o e => (by cases e)⟩
/-- the words of a side, as they are read off the pairs: the comprehension's own name in slot sl -/
theorem words_comp {K : PySem.W.Frag} {L : Addr} {as : List Addr} {ps : List My.Pr} {H1 : Hp} {i : Int} {te : TE} {σ : L2.St} {D : Addr} {Qd : Hp → Prop} {sl : Nat} (ob : Objs H1 as prO ps) (hL : H1 L = some (.lst (as.map V.ref))) (hD : H1 D = none) (hz : ps.length ≤ 1000)
    (hw : ∀ x : Option V, wipe ((wipe σ [sl]).set sl x) [sl] = wipe σ [sl])
    (ht : ∀ (h : Addr) (q : My.Pr) (H2 : Hp) (R : VK), H2 h = some (prO q) → R (.str (My.wd i q)) H2 → te ((wipe σ [sl]).set sl (some (.ref h))) H2 R)
    (hd : ∀ H2 : Hp, Same H1 H2 → H2 D = some (.lst ((ps.map (My.wd i)).map V.str)) → Qd H2) :
    ∃ W : Nat → Nat → Hp → Prop, (∃ m, W 0 m (upd H1 D (.lst []))) ∧ ∀ i m H, W i m H →
      ((Itl K L).stop i H ∧ Qd H) ∨ ((Itl K L).go i H ∧ ∃ Nx : Hp → Prop, (∀ H', Nx H' → ∃ m', m' < m ∧ W (i + 1) m' H') ∧ ∀ x H', (Itl K L).yld i H x H' → gName sl x (wipe σ [sl]) H' fun σ2 H2 => wipe σ2 [sl] = wipe σ [sl] ∧ tYes σ2 H2 fun b H3 =>
        if b = true then te σ2 H3 fun y H4 => ∃ acc, H4 D = some (.lst acc) ∧ acc.length < sizeLine ∧ Nx (upd H4 D (.lst (acc ++ [y]))) else Nx H3) := by
  have nLD : L ≠ D := ne_of_none hL hD
  have asl := ob.len
  refine lc_list (K := K) (a := L) (xs := as.map V.ref) (fun k H2 => Blk (H2 = upd H1 D (.lst (((ps.take k).map (My.wd i)).map V.str)))) (Blk.of rfl) (fun k H2 _ hB => ?_) ?_ ?_
  · obtain rfl := hB.out
    exact SqL.of ((upd_ne nLD).trans hL)
  · intro k y H2 hy hB
    obtain rfl := hB.out
    obtain ⟨h, hh, rfl⟩ := refs_get hy
    obtain ⟨q, hq, hq2⟩ := ob.get hh
    have hk := get_lt hq
    refine ⟨hw _, ?_⟩
    dsimp only [tYes]
    refine iteT ?_
    refine ht h q _ _ ((upd_ne (ne_of_none hq2 hD)).trans hq2) ⟨_, upd_same, by rw [List.length_map, List.length_map, List.length_take]; exact small (by omega), Blk.of ?_⟩
    rw [upd_upd, take_snoc hq, List.map_append, List.map_append]
    rfl
  · intro H2 hB
    obtain rfl := hB.out
    have e : ps.take (as.map V.ref).length = ps := by rw [List.length_map, asl, List.take_length]
    rw [e]
    exact hd _ ((Same.refl H1).upd hD) upd_same
def cap (i : Int) (k : Nat) (s : Int) : Nat := if s < i then 4 else if s = i then k else 0
/-- the helpers so far, and the names that are left -/
structure Mo (ps : List My.Pr) (hs : List Hr) (ns : List Str) (c : Int → Nat) : Prop where
  nd : (hs.map (·.name) ++ ns).Nodup
  ok : ∀ x, x ∈ hs → My.pactB x = true ∧ ∀ t, t ∈ x.throws → t ∈ ps.map (My.wd x.side)
  few : ∀ s : Int, (hs.filter fun z => decide (z.side = s)).length ≤ c s
theorem ins_perm {hs : List Hr} {x : Hr} (n : Nat) : (hs.take n ++ [x] ++ hs.drop n).Perm (x :: hs) := by
  have h : (hs.take n ++ [x] ++ hs.drop n).Perm (x :: (hs.take n ++ hs.drop n)) := by
    rw [List.append_assoc]
    exact List.perm_middle
  rw [List.take_append_drop] at h
  exact h
theorem Mo.insert {ps : List My.Pr} {hs : List Hr} {nl : List Str} {i : Int} {k : Nat} {x : Hr} (m : Mo ps hs (nl ++ [x.name]) (cap i k)) (n : Nat) (hi : x.side = i) (b : My.pactB x = true) (ht : ∀ t, t ∈ x.throws → t ∈ ps.map (My.wd x.side)) : Mo ps (hs.take n ++ [x] ++ hs.drop n) nl (cap i (k + 1)) := by
  have p := ins_perm (hs := hs) (x := x) n
  refine ⟨?_, fun z hz => ?_, fun s => ?_⟩
  · have p2 : ((hs.take n ++ [x] ++ hs.drop n).map (·.name) ++ nl).Perm (hs.map (·.name) ++ (nl ++ [x.name])) := by
      refine ((p.map (·.name)).append_right nl).trans ?_
      rw [List.map_cons, ← List.append_assoc]
      exact (List.perm_append_comm (l₁ := [x.name])).trans (List.Perm.refl _)
    exact p2.nodup_iff.mpr m.nd
  · rcases List.mem_cons.mp (p.mem_iff.mp hz) with rfl | e
    · exact ⟨b, ht⟩
    · exact m.ok z e
  · have l := (p.filter fun z => decide (z.side = s)).length_eq
    rw [l]
    have f := m.few s
    unfold cap at f ⊢
    by_cases c : x.side = s
    · rw [List.filter_cons, if_pos (by simp [c]), List.length_cons]
      subst hi
      rw [if_neg (by omega), if_pos c.symm] at f ⊢
      omega
    · rw [List.filter_cons, if_neg (by simp [c])]
      subst hi
      by_cases d : s < x.side
      · rw [if_pos d] at f ⊢
        exact f
      · rw [if_neg d, if_neg fun q => c q.symm] at f ⊢
        exact f
theorem Mo.mono {ps : List My.Pr} {hs : List Hr} {ns : List Str} {c d : Int → Nat} (m : Mo ps hs ns c) (h : ∀ s, c s ≤ d s) : Mo ps hs ns d := ⟨m.nd, m.ok, fun s => Nat.le_trans (m.few s) (h s)⟩
theorem Mo.crew {ps : List My.Pr} {hs : List Hr} {ns : List Str} {i : Int} {k : Nat} (m : Mo ps hs ns (cap i k)) (hk : k ≤ 4) : My.CrewOk ps hs := ⟨m.ok, (List.nodup_append.mp m.nd).1, fun s => Nat.le_trans (m.few s) (by
  unfold cap
  split
  · omega
  · split <;> omega)⟩
theorem words_nodup {ps : List My.Pr} (ok : My.PairsOk ps) {i : Int} (hi : i = 0 ∨ i = 1) : (ps.map (My.wd i)).Nodup := by
  rcases hi with rfl | rfl
  · exact ok.nears
  · exact ok.fars
structure HelpSt (H0 H : Hp) (b g l L N Cn F : Addr) (as : List Addr) (ps : List My.Pr) (c0 c1 n : Int) (has : List Addr) (hs : List Hr) (ns : List Str) (tot : Nat) : Prop where
  bx : BoxAt H b g l n
  hF : H F = some (.lst (has.map V.ref))
  cr : Crew H has hs
  ok : ∀ x, x ∈ hs → HrOk x ∧ (x.side = 0 ∨ x.side = 1) ∧ x.throws.length ≤ 4
  hN : H N = some (.lst (ns.map V.str))
  nl : ns.length + hs.length = tot
  nm : ∀ s, s ∈ ns → My.nameB s = true
  hC : H Cn = some (.lst [.int c0, .int c1])
  hL : H L = some (.lst (as.map V.ref))
  ob : Objs H as prO ps
  kp : Keeps [b, g] H0 H
theorem HelpSt.box {H0 H H' : Hp} {b g l L N Cn F : Addr} {as : List Addr} {ps : List My.Pr} {c0 c1 n n' : Int} {has : List Addr} {hs : List Hr} {ns : List Str} {tot : Nat} (s : HelpSt H0 H b g l L N Cn F as ps c0 c1 n has hs ns tot)
    (bx : BoxAt H' b g l n') (k : Keeps [b, g] H H') (o : ∀ x, x ∈ [L, N, Cn, F] → x ∉ [b, g]) : HelpSt H0 H' b g l L N Cn F as ps c0 c1 n' has hs ns tot :=
  ⟨bx, k _ _ s.hF (o F (by simp)), Crew.keep s.cr k (box_notup s.bx), s.ok, k _ _ s.hN (o N (by simp)), s.nl, s.nm, k _ _ s.hC (o Cn (by simp)), k _ _ s.hL (o L (by simp)), s.ob.keepN k (box_notup s.bx), s.kp.trans k⟩
theorem Same.keeps {R : List Addr} {H H' : Hp} (s : Same H H') : Keeps R H H' := fun c o e _ => s c o e
theorem HelpSt.same {H0 H H' : Hp} {b g l L N Cn F : Addr} {as : List Addr} {ps : List My.Pr} {c0 c1 n : Int} {has : List Addr} {hs : List Hr} {ns : List Str} {tot : Nat} (s : HelpSt H0 H b g l L N Cn F as ps c0 c1 n has hs ns tot)
    (k : Same H H') : HelpSt H0 H' b g l L N Cn F as ps c0 c1 n has hs ns tot :=
  ⟨s.bx.same k, k _ _ s.hF, Crew.same s.cr k, s.ok, k _ _ s.hN, s.nl, s.nm, k _ _ s.hC, k _ _ s.hL, s.ob.same k, s.kp.trans (Same.keeps k)⟩
theorem lent_wok : ∀ t, t ∈ (["lent", "given"] : List Str) → WOk t := by
  intro t ht
  have : t = "lent" ∨ t = "given" := by simpa using ht
  rcases this with rfl | rfl
  · exact ⟨by decide +kernel, by decide +kernel⟩
  · exact ⟨by decide +kernel, by decide +kernel⟩
theorem log_le {n : Nat} (h : n ≤ 100000) : ((n : Nat) : Int).natAbs.log2 < 9000 := by
  rw [Int.natAbs_natCast]
  by_cases h0 : n = 0
  · subst h0; decide
  · have : n.log2 < 17 := (Nat.log2_lt h0).mpr (by omega)
    omega
def sp_helpers : Sp := fun vs H Q _ => ∃ (b g l L : Addr) (n : Int) (as : List Addr) (ps : List My.Pr), vs = [.ref b, .ref L] ∧ BoxAt H b g l n ∧ 0 ≤ n ∧ n < 6000000 ∧ H L = some (.lst (as.map V.ref)) ∧ L ∉ [b, g] ∧ Objs H as prO ps ∧ My.PairsOk ps ∧
  ∀ (p : Addr) (has : List Addr) (hs : List Hr) (n' : Int) (H' : Hp), H p = none → H' p = some (.lst (has.map V.ref)) → Crew H' has hs → hs.length ≤ 8 → (∀ x, x ∈ hs → HrOk x) → My.CrewOk ps hs → n ≤ n' → n' ≤ n + 400 → BoxAt H' b g l n' → Keeps [b, g] H H' → Q (.ref p) H'
theorem ok_helpers (T : Txt K mg a) : FnOk P w K mg base CX0 5 a.f_helpers a.d_helpers ["_law_box_here", "_law_pairs_here"] sp_helpers := by
  refine T.F_helpers.ok sc_helpers (fun vs H Q E h => ?_) (fun cdv A outer s H vs Q E hr h => ?_)
  · obtain ⟨b, g, l, L, n, as, ps, rfl, _⟩ := h
    rfl
  · obtain ⟨b, g, l, L, n, as, ps, rfl, bx, n0, n1, hL, oL, ob, pok, kk⟩ := h
    have hz := pok.many
    have hw : ∀ q, q ∈ ps → WOk q.1 ∧ WOk q.2.1 := fun q hq => ⟨name_wok (pok.nm q hq).1, name_wok (pok.nm q hq).2⟩
    refine ⟨_, (pss_cons (ps_set (i := 2) sc_helpers.nd rfl (Or.inl rfl) (pe_call (ok_names T) (hr.mono (by decide)) rfl T.g_names T.k_names T.B_names .nil pass0 (pa_cons (pv 0) (pa_cons pe_int pa_nil))))
      (pss_cons (ps_set (i := 3) sc_helpers.nd rfl (Or.inl rfl) (pe_lst (pa_cons (pe_call (ok_take T) (hr.mono (by decide)) rfl T.g_take T.k_take T.B_take .nil pass0 (pa_cons (pv 0) (pa_cons pe_int pa_nil))) (pa_cons (pe_call (ok_take T) (hr.mono (by decide)) rfl T.g_take T.k_take T.B_take .nil pass0 (pa_cons (pv 0) (pa_cons pe_int pa_nil))) pa_nil))))
      (pss_cons (ps_set (i := 4) sc_helpers.nd rfl (Or.inl rfl) (pe_lst pa_nil))
      (pss_cons (ps_for PassesOwn.never rfl (pi_range1 (by rfl) T.z_range (pa_cons pe_int pa_nil)) (pg_name (i := 5) sc_helpers.nd rfl (Or.inr rfl)) (pss_one (ps_for PassesOwn.never rfl (pi_range1 (by rfl) T.z_range (pa_cons (pe_ix ix_list (pv 3) (pv 5) (fun _ _ => rfl)) pa_nil)) (pg_name (i := 6) sc_helpers.nd rfl (Or.inl rfl)) (pss_cons (ps_set (i := 7) sc_helpers.nd rfl (Or.inl rfl) (pe_callTy call_tupleF (by rfl) T.z_tuple (by decide +kernel) (pa_cons (pe_lc (own := [("_law_j", 10)]) (g := gName 10) (te := tOp (rIxL K) (tLst (tCons (tC (.str "lent")) (tCons (tC (.str "given")) tNil))) (tCall sp_take [] (fun _ _ _ => False) (tCons (tVar 0) (tCons (tC (.int 2)) tNil)))) (tt := tYes) rfl sc_helpers.nd (pi_range1 (by rfl) T.z_range (pa_cons (pe_call (ok_take T) (hr.mono (by decide)) rfl T.g_take T.k_take T.B_take .nil pass0 (pa_cons (pv 0) (pa_cons pe_int pa_nil))) pa_nil)) (blkOk_by (own := [("_law_j", 10)]) (N := ["_law_box_here", "_law_pairs_here", "_law_names_here", "_law_counts", "_law_found", "_law_team", "_law_k", "_law_takes", "_law_throws", "_law_helper", "_law_j", "_law_pair"]) (sc := defScope s_helpers) (by decide +kernel)) (fun _ _ _ _ _ => pg_name (i := 10) sc_helpers.nd rfl (Or.inl rfl)) (fun _ _ _ _ _ => pts_nil) (fun _ _ _ _ _ => by exact (pe_ix ix_list (pe_lst (pa_cons pe_str (pa_cons pe_str pa_nil))) (pe_call (ok_take T) (hr.mono (by decide)) rfl T.g_take T.k_take T.B_take .nil pass0 (pa_cons (pv 0) (pa_cons pe_int pa_nil))) (fun _ _ => rfl)))) pa_nil)))
      (pss_cons (ps_set (i := 8) sc_helpers.nd rfl (Or.inl rfl) (pe_callTy call_tupleF (by rfl) T.z_tuple (by decide +kernel) (pa_cons (pe_call (ok_some T) (hr.mono (by decide)) rfl T.g_some T.k_some T.B_some .nil pass0 (pa_cons (pv 0) (pa_cons (pe_lc (own := [("_law_pair", 11)]) (g := gName 11) (te := tOp (rIxT K) (tVar 11) (tVar 5)) (tt := tYes) rfl sc_helpers.nd (pi_list (pv 1)) (blkOk_by (own := [("_law_pair", 11)]) (N := ["_law_box_here", "_law_pairs_here", "_law_names_here", "_law_counts", "_law_found", "_law_team", "_law_k", "_law_takes", "_law_throws", "_law_helper", "_law_j", "_law_pair"]) (sc := defScope s_helpers) (by decide +kernel)) (fun _ _ _ _ _ => pg_name (i := 11) sc_helpers.nd rfl (Or.inl rfl)) (fun _ _ _ _ _ => pts_nil) (fun _ _ _ _ _ => by exact (pe_ix ix_tup (pv 11) (pv 5) (fun _ _ => rfl)))) (pa_cons pe_int pa_nil)))) pa_nil)))
      (pss_cons (ps_set (i := 9) sc_helpers.nd rfl (Or.inl rfl) (pe_tup (pa_cons (pe_bm0 PySem.F.plainAttrs_list PySem.F.slot_list_pop PySem.F.type_list_pop mt_pop (pv 2)) (pa_cons (pv 5) (pa_cons (pv 7) (pa_cons (pe_cmpR op_eq (pe_call (ok_take T) (hr.mono (by decide)) rfl T.g_take T.k_take T.B_take .nil pass0 (pa_cons (pv 0) (pa_cons pe_int pa_nil))) pe_int (nomark _)) (pa_cons (pv 8) pa_nil)))))))
      (pss_one (ps_expr (pe_bm PySem.F.plainAttrs_list PySem.F.slot_list_insert PySem.F.type_list_insert mt_insert (pv 4) (pa_cons (pe_call (ok_take T) (hr.mono (by decide)) rfl T.g_take T.k_take T.B_take .nil pass0 (pa_cons (pv 0) (pa_cons (pe_op op_add (pe_callB call_len_seq (by rfl) T.z_len (by decide +kernel) (pa_cons (pv 4) pa_nil)) pe_int) pa_nil))) (pa_cons (pv 9) pa_nil)))))))))))
      (pss_one (ps_ret (pv 4))))))), ?_⟩
    refine ⟨_, rfl, b, g, l, n, 8, rfl, bx, n0, by omega, by omega, by omega, fun N ns n2 H2 hN hN2 hl2 nm2 nd2 a2 b2 bx2 kp2 => ?_⟩
    refine ⟨_, rfl, b, g, l, n2, 5, rfl, bx2, by omega, by omega, by decide, by decide, fun c0 H3 c00 c01 bx3 kp3 => ?_⟩
    refine ⟨_, rfl, b, g, l, n2 + 1, 5, rfl, bx3, by omega, by omega, by decide, by decide, fun c1 H4 c10 c11 bx4 kp4 => ?_⟩
    have k04 := (kp2.trans kp3).trans kp4
    have oN := offbox bx hN
    have oN3 := offbox3 bx hN
    have hN4 := kp4 _ _ (kp3 _ _ hN2 oN) oN
    refine ⟨by show 2 ≤ sizeLine; decide, fun Cn hCn => ?_⟩
    have oC := offbox bx4 hCn
    have oC3 := offbox3 bx4 hCn
    have nNC : N ≠ Cn := ne_of_none hN4 hCn
    refine ⟨by show 0 ≤ sizeLine; decide, fun F hF => ?_⟩
    have nCF : Cn ≠ F := ne_of_none upd_same hF
    have hF4 : H4 F = none := (upd_ne nCF.symm).symm.trans hF
    have nNF : N ≠ F := ne_of_none hN4 hF4
    have oF := offbox bx4 hF4
    have oF3 := offbox3 bx4 hF4
    have hF0 : H F = none := by
      rcases k04.fresh hF4 with q | q
      · exact absurd q oF
      · exact q
    have nLF : L ≠ F := ne_of_none hL hF0
    have nLN : L ≠ N := ne_of_none hL hN
    have hC0 : H Cn = none := by
      rcases k04.fresh hCn with q | q
      · exact absurd q oC
      · exact q
    have off : ∀ x, x ∈ [L, N, Cn, F] → x ∉ [b, g] := fun x hx => by
      simp at hx
      rcases hx with rfl | rfl | rfl | rfl
      · exact oL
      · exact oN
      · exact oC
      · exact oF
    have st5 : HelpSt H (upd (upd H4 Cn (.lst [.int c0, .int c1])) F (.lst [])) b g l L N Cn F as ps c0 c1 (n2 + 1 + 1) [] [] ns 8 := by
      have s45 : Same H4 (upd (upd H4 Cn (.lst [.int c0, .int c1])) F (.lst [])) := ((Same.refl H4).upd hCn).upd hF4
      exact ⟨bx4.same s45, upd_same, AllAt.nil, fun x hx => by simp at hx, s45 _ _ hN4, by simp; omega, nm2, (upd_ne nCF).trans upd_same, s45 _ _ (k04 _ _ hL oL), (ob.keepN k04 (box_notup bx)).same s45, k04.trans (Same.keeps s45)⟩
    show _
    generalize (upd (upd H4 Cn (.lst [.int c0, .int c1])) F (.lst [])) = H5 at st5
    refine ⟨2, rfl, by decide, by decide, ?_⟩
    refine for_range (lo := 0) (n := 2) (fun i σ H6 => Blk (∃ v5 v6 v7 v8 v9 n6 has hs ns, σ = [some (.ref b), some (.ref L), some (.ref N), some (.ref Cn), some (.ref F), v5, v6, v7, v8, v9, none, none] ∧ HelpSt H H6 b g l L N Cn F as ps c0 c1 n6 has hs ns 8 ∧ n ≤ n6 ∧ n6 ≤ n + 100 + 20 * hs.length ∧ hs.length ≤ 4 * i ∧ Mo ps hs ns (cap (0 + (i : Nat)) 0))) ?_ ?_ ?_
    · exact Blk.of ⟨_, _, _, _, _, _, _, _, _, rfl, st5, by omega, by simp; omega, by simp, ⟨by simpa using nd2, fun x hx => by simp at hx, fun s => by simp⟩⟩
    · intro i σ H6 hi hB
      obtain ⟨v5, v6, v7, v8, v9, n6, has, hs, ns, rfl, st6, a6, b6, l6, mo6⟩ := hB.out
      have si : (0 : Int) + (i : Nat) = 0 ∨ (0 : Int) + (i : Nat) = 1 := by omega
      have cnt : ∃ c : Int, atI [V.int c0, .int c1] (0 + (i : Nat)) = some (.int c) ∧ 0 ≤ c ∧ c ≤ 4 := by
        have : i = 0 ∨ i = 1 := by omega
        rcases this with rfl | rfl
        · exact ⟨c0, rfl, by omega, by omega⟩
        · exact ⟨c1, rfl, by omega, by omega⟩
      obtain ⟨c, hc, hc0, hc4⟩ := cnt
      generalize esd : (0 : Int) + (i : Nat) = sd at hc si mo6
      refine ⟨_, rfl, _, rfl, _, _, _, _, rfl, rfl, SqL.of st6.hC, hc, c, rfl, by omega, by omega, ?_⟩
      refine for_range (lo := 0) (n := c.toNat) (fun k σ H7 => Blk (∃ v6 v7 v8 v9 n7 has hs ns, σ = [some (.ref b), some (.ref L), some (.ref N), some (.ref Cn), some (.ref F), some (.int sd), v6, v7, v8, v9, none, none] ∧ HelpSt H H7 b g l L N Cn F as ps c0 c1 n7 has hs ns 8 ∧ n ≤ n7 ∧ n7 ≤ n + 100 + 20 * hs.length ∧ hs.length ≤ 4 * i + k ∧ Mo ps hs ns (cap sd k))) ?_ ?_ ?_
      · exact Blk.of ⟨_, _, _, _, _, _, _, _, rfl, st6, a6, b6, by omega, mo6⟩
      · intro k σ H7 hk hB
        obtain ⟨v6, v7, v8, v9, n7, has, hs, ns, rfl, st, a7, b7, l7, mo7⟩ := hB.out
        have hs7 : hs.length ≤ 7 := by omega
        -- takes
        refine ⟨_, rfl, b, g, l, n7, 4, rfl, st.bx, by omega, by omega, by decide, by decide, fun m H8 m0 m1 bx8 kp8 => ?_⟩
        have st8 := st.box bx8 kp8 off
        refine ⟨m, rfl, by omega, by omega, fun D hD => ?_⟩
        have oD := offbox bx8 hD
        have oD3 := offbox3 bx8 hD
        refine lc_range (lo := 0) (n := m.toNat) (fun j H9 => Blk (∃ (ts : List Str), ts.length = j ∧ (∀ t, t ∈ ts → t ∈ (["lent", "given"] : List Str)) ∧ H9 D = some (.lst (ts.map V.str)) ∧ HelpSt H H9 b g l L N Cn F as ps c0 c1 (n7 + 1 + j) has hs ns 8)) ?_ ?_ ?_
        · refine Blk.of ⟨[], rfl, fun t ht => by simp at ht, upd_same, ?_⟩
          have e : n7 + 1 + ((0 : Nat) : Int) = n7 + 1 := by omega
          rw [e]
          exact st8.same ((Same.refl H8).upd hD)
        · intro j H9 hj hB
          obtain ⟨ts, rfl, hts, h9D, st9⟩ := hB.out
          refine ⟨rfl, ?_⟩
          dsimp only [tYes]
          refine iteT ?_
          refine ⟨by show 2 ≤ sizeLine; decide, fun G hG => ?_⟩
          have nDG : D ≠ G := ne_of_none h9D hG
          have oG := offbox st9.bx hG
          refine ⟨_, rfl, b, g, l, _, 2, rfl, st9.bx.upd hG, by omega, by omega, by decide, by decide, fun z H10 z0 z1 bx10 kp10 => ?_⟩
          have hG10 := kp10 _ _ upd_same oG
          have h10D := kp10 _ _ ((upd_ne nDG).trans h9D) oD
          have st10 := (st9.same ((Same.refl H9).upd (o := .lst [.str "lent", .str "given"]) hG)).box bx10 kp10 off
          obtain ⟨t, ht, htm⟩ : ∃ t : Str, atI [V.str "lent", .str "given"] z = some (.str t) ∧ t ∈ (["lent", "given"] : List Str) := by
            have : z = 0 ∨ z = 1 := by omega
            rcases this with rfl | rfl
            · exact ⟨_, rfl, by simp⟩
            · exact ⟨_, rfl, by simp⟩
          refine ⟨_, _, _, _, rfl, rfl, SqL.of hG10, ht, ?_⟩
          have hDn : NoTup H10 [D] := NoTup.lst h10D
          have kD : ∀ o, Keeps [D] H10 (upd H10 D o) := fun o => (Keeps.refl _ H10).upd (.inl (by simp))
          have nDx : ∀ x, x ∈ [L, N, Cn, F] → x ≠ D := fun x hx q => by
            subst q
            simp at hx
            rcases hx with rfl | rfl | rfl | rfl
            · rw [st8.hL] at hD; cases hD
            · rw [st8.hN] at hD; cases hD
            · rw [st8.hC] at hD; cases hD
            · rw [st8.hF] at hD; cases hD
          have hD0 : H D = none := by
            rcases st8.kp.fresh hD with q | q
            · exact absurd q oD
            · exact q
          refine ⟨_, h10D, by rw [List.length_map]; exact small (by omega), Blk.of ⟨ts ++ [t], by rw [List.length_append]; rfl, ?_, ?_, ?_⟩⟩
          · intro y hy
            rcases List.mem_append.mp hy with e | e
            · exact hts y e
            · simp at e; subst e; exact htm
          · rw [upd_same, List.map_append]; rfl
          · have e : n7 + 1 + ((ts.length + 1 : Nat) : Int) = n7 + 1 + (ts.length : Int) + 1 := by omega
            rw [e]
            exact ⟨box_put bx10 oD3, (upd_ne (nDx F (by simp))).trans st10.hF, Crew.keep st10.cr (kD _) hDn, st10.ok, (upd_ne (nDx N (by simp))).trans st10.hN, st10.nl, st10.nm, (upd_ne (nDx Cn (by simp))).trans st10.hC, (upd_ne (nDx L (by simp))).trans st10.hL, st10.ob.keepN (kD _) hDn, st10.kp.upd (.inr hD0)⟩
        · intro H9 hB
          obtain ⟨ts, htl, hts, h9D, st9⟩ := hB.out
          refine ⟨D, _, rfl, SqL.of h9D, fun tk ob1 htk hob1 => ?_⟩
          have sA : Same H9 (upd H9 tk (.frz ob1 (.tup (ts.map V.str)))) := (Same.refl H9).upd htk
          have stA := st9.same sA
          have tkA : TupF (upd H9 tk (.frz ob1 (.tup (ts.map V.str)))) tk (ts.map V.str) := ⟨ob1, hob1, upd_same⟩
          show _
          generalize (upd H9 tk (.frz ob1 (.tup (ts.map V.str)))) = HA at stA tkA
          -- throws
          refine ⟨_, rfl, _, rfl, L, rfl, ⟨_, SqL.of stA.hL⟩, fun W hW => ?_⟩
          refine words_comp (i := sd) (sl := 11) stA.ob stA.hL hW (by omega) (fun _ => rfl) (fun h q H2 R hq hR => ⟨_, rfl, _, rfl, _, _, _, _, rfl, rfl, SqT.of hq, wd_at2 si q, hR⟩) fun HB sB hWB => ?_
          have stB := stA.same sB
          have tkB := tkA.same sB
          have oW := offbox stA.bx hW
          refine ⟨b, g, l, W, _, 4, ps.map (My.wd sd), rfl, stB.bx, by omega, by omega, hWB, by rw [List.length_map]; omega, by omega, by omega, fun Y ys n9 HC hY hYC yl ym ynd an bn bxC kpC => ?_⟩
          have stC := stB.box bxC kpC off
          have tkC := tupF_keep tkB kpC (box_notup stB.bx)
          refine ⟨Y, _, rfl, SqL.of hYC, fun th ob2 hth hob2 => ?_⟩
          have sD : Same HC (upd HC th (.frz ob2 (.tup (ys.map V.str)))) := (Same.refl HC).upd hth
          have stD := stC.same sD
          have tkD := tkC.same sD
          have thD : TupF (upd HC th (.frz ob2 (.tup (ys.map V.str)))) th (ys.map V.str) := ⟨ob2, hob2, upd_same⟩
          show _
          generalize (upd HC th (.frz ob2 (.tup (ys.map V.str)))) = HD at stD tkD thD
          -- the helper
          obtain ⟨nl, s, rfl⟩ : ∃ nl s, ns = nl ++ [s] := by
            have hne : ns ≠ [] := fun e => by
              have := st.nl
              rw [e] at this
              simp at this
              omega
            exact ⟨ns.dropLast, ns.getLast hne, (List.dropLast_concat_getLast hne).symm⟩
          have hsn := st.nm s (by simp)
          refine ⟨_, rfl, .inl ⟨rfl, _, SqL.of stD.hN⟩, N, _, .str s, rfl, rfl, stD.hN, ?_, ?_⟩
          · rw [List.map_append, List.length_append, List.map_singleton, List.length_singleton, Nat.add_sub_cancel, List.getElem?_append_right (Nat.le_refl _)]
            simp
          have edl : ((nl ++ [s]).map V.str).dropLast = nl.map V.str := by rw [List.map_append]; simp
          rw [edl]
          have nLN' : L ≠ N := nLN
          have nNn : NoTup HD [N] := NoTup.lst stD.hN
          have kN : ∀ o, Keeps [N] HD (upd HD N o) := fun o => (Keeps.refl _ HD).upd (.inl (by simp))
          have stE : HelpSt H (upd HD N (.lst (nl.map V.str))) b g l L N Cn F as ps c0 c1 n9 has hs nl 7 :=
            ⟨box_put stD.bx oN3, (upd_ne nNF.symm).trans stD.hF, Crew.keep stD.cr (kN _) nNn, stD.ok, upd_same, by have := stD.nl; rw [List.length_append, List.length_singleton] at this; omega, fun x hx => stD.nm x (by simp [hx]), (upd_ne nNC.symm).trans stD.hC, (upd_ne nLN).trans stD.hL, stD.ob.keepN (kN _) nNn, stD.kp.upd (.inr hN)⟩
          have tkE := tupF_keep tkD (kN (.lst (nl.map V.str))) nNn
          have thE := tupF_keep thD (kN (.lst (nl.map V.str))) nNn
          show _
          generalize (upd HD N (.lst (nl.map V.str))) = HE at stE tkE thE
          refine ⟨_, rfl, _, rfl, _, rfl, b, g, l, n9, 2, rfl, stE.bx, by omega, by omega, by decide, by decide, fun z HG z0 z1 bxG kpG => ?_⟩
          have stG := stE.box bxG kpG off
          have tkG := tupF_keep tkE kpG (box_notup stE.bx)
          have thG := tupF_keep thE kpG (box_notup stE.bx)
          refine ⟨rfl, _, rfl, by show 5 ≤ sizeLine; decide, fun hp hhp => ?_⟩
          have sH : Same HG (upd HG hp (.tup [.str s, .int sd, .ref tk, .bl (decide (V.int z = V.int 1)), .ref th])) := (Same.refl HG).upd hhp
          have stH := stG.same sH
          have hrH : HrAt (upd HG hp (.tup [.str s, .int sd, .ref tk, .bl (decide (V.int z = V.int 1)), .ref th])) hp ⟨s, sd, ts, decide (V.int z = V.int 1), ys⟩ := ⟨tk, th, upd_same, tkG.same sH, thG.same sH⟩
          show _
          generalize (upd HG hp (.tup [.str s, .int sd, .ref tk, .bl (decide (V.int z = V.int 1)), .ref th])) = HH at stH hrH
          have hrk : HrOk ⟨s, sd, ts, decide (V.int z = V.int 1), ys⟩ := ⟨name_wok hsn, by show ts.length ≤ 8; omega, fun t ht => lent_wok t (hts t ht), by show ys.length ≤ 8; omega, fun t ht => by
            obtain ⟨q, hq, e⟩ := List.mem_map.mp (ym t ht)
            subst e
            obtain ⟨w1, w2⟩ := hw q hq
            unfold My.wd
            split
            · exact w1
            · exact w2⟩
          have asl : has.length = hs.length := AllAt.len stH.cr
          have elF : (((has.map V.ref).length : Nat) : Int) = (hs.length : Int) := by rw [List.length_map, asl]
          refine ⟨_, rfl, .inl ⟨rfl, _, SqL.of stH.hF⟩, ?_⟩
          refine ⟨_, rfl, _, rfl, F, _, rfl, .inl (SqL.of stH.hF), _, _, rfl, rfl, ?_⟩
          rw [elF]
          refine ⟨b, g, l, n9 + 1, _, rfl, stH.bx, by omega, by omega, by omega, log_le (n := hs.length + 1) (by omega), fun at_ HJ at0 at1 bxJ kpJ => ?_⟩
          have stJ := stH.box bxJ kpJ off
          have hrJ := hrH.keep kpJ (box_notup stH.bx)
          refine ⟨_, rfl, F, _, at_, _, rfl, rfl, stJ.hF, by rw [List.length_map]; exact small (by omega), at0, by omega, ?_⟩
          have nFn : NoTup HJ [F] := NoTup.lst stJ.hF
          have kF : ∀ o, Keeps [F] HJ (upd HJ F o) := fun o => (Keeps.refl _ HJ).upd (.inl (by simp))
          refine Blk.of ⟨_, _, _, _, n9 + 1 + 1, has.take at_.toNat ++ [hp] ++ has.drop at_.toNat, hs.take at_.toNat ++ [⟨s, sd, ts, decide (V.int z = V.int 1), ys⟩] ++ hs.drop at_.toNat, nl, rfl, ?_, by omega, ?_, ?_, mo7.insert (x := ⟨s, sd, ts, decide (V.int z = V.int 1), ys⟩) _ rfl (by
            unfold My.pactB My.sideB My.takesB
            rw [hsn, decide_eq_true si, My.throwsB_of yl (ynd (words_nodup pok si)), decide_eq_true (show ts.length ≤ 3 by omega)]
            simp only [Bool.true_and, Bool.and_true]
            exact List.all_eq_true.mpr fun t ht => decide_eq_true (hts t ht)) ym⟩
          · refine ⟨box_put stJ.bx oF3, ?_, ?_, ?_, (upd_ne nNF).trans stJ.hN, ?_, stJ.nm, (upd_ne nCF).trans stJ.hC, (upd_ne nLF).trans stJ.hL, stJ.ob.keepN (kF _) nFn, stJ.kp.upd (.inr hF0)⟩
            · rw [upd_same, List.map_append, List.map_append, List.map_take, List.map_drop]
              rfl
            · exact ((AllAt.take (Crew.keep stJ.cr (kF _) nFn) _).append (AllAt.one (hrJ.keep (kF _) nFn))).append (AllAt.drop (Crew.keep stJ.cr (kF _) nFn) _)
            · intro x hx
              simp only [List.mem_append, List.mem_singleton] at hx
              rcases hx with (hx | rfl) | hx
              · exact stJ.ok x (List.mem_of_mem_take hx)
              · exact ⟨hrk, si, by show ys.length ≤ 4; omega⟩
              · exact stJ.ok x (List.mem_of_mem_drop hx)
            · have := stJ.nl
              rw [List.length_append, List.length_append, List.length_take, List.length_drop, List.length_singleton]
              omega
          · rw [List.length_append, List.length_append, List.length_take, List.length_drop, List.length_singleton]
            omega
          · rw [List.length_append, List.length_append, List.length_take, List.length_drop, List.length_singleton]
            omega
      · intro σ H7 hB
        obtain ⟨v6, v7, v8, v9, n7, has, hs, ns, rfl, st, a7, b7, l7, mo7⟩ := hB.out
        exact Blk.of ⟨_, _, _, _, _, _, _, _, _, rfl, st, a7, b7, by omega, mo7.mono fun s => by
          have e : (0 : Int) + ((i + 1 : Nat) : Int) = sd + 1 := by omega
          rw [e]
          unfold cap
          by_cases d : s < sd
          · rw [if_pos d, if_pos (by omega)]
            omega
          · by_cases f : s = sd
            · rw [if_neg d, if_pos f, if_pos (by omega)]
              omega
            · rw [if_neg d, if_neg f]
              omega⟩
    · intro σ H6 hB
      obtain ⟨v5, v6, v7, v8, v9, n6, has, hs, ns, rfl, st6, a6, b6, l6, mo6⟩ := hB.out
      exact ⟨_, rfl, kk F has hs n6 H6 hF0 st6.hF st6.cr (by omega) (fun x hx => (st6.ok x hx).1) (mo6.crew (by omega)) a6 (by omega) st6.bx st6.kp⟩

open My (Hr)
/-! ### the errors as a side calls them -/
def crossed (i : Int) (ps : List My.Pr) (x : Hr) : List Str := x.throws.map fun t => ((pairOf x.side t ps).map (My.wd i)).getD t
theorem filter_one {ps : List My.Pr} {s : Int} {t : Str} : ∀ (_ : (ps.map (My.wd s)).Nodup) {q : My.Pr} (_ : pairOf s t ps = some q), (ps.filter fun z => decide (My.wd s z = t)) = [q] := by
  induction ps with
  | nil =>
    intro _ q h
    cases h
  | cons z r ih =>
    intro nd q h
    rw [List.map_cons, List.nodup_cons] at nd
    unfold pairOf at h
    rw [List.find?_cons] at h
    by_cases c : My.wd s z = t
    · rw [decide_eq_true c] at h
      obtain rfl := Option.some.inj h
      rw [List.filter_cons, if_pos (decide_eq_true c)]
      have e : (r.filter fun y => decide (My.wd s y = t)) = [] := by
        rw [List.filter_eq_nil_iff]
        intro y hy d
        exact nd.1 (List.mem_map.mpr ⟨y, hy, (of_decide_eq_true d).trans c.symm⟩)
      rw [e]
    · rw [decide_eq_false c] at h
      rw [List.filter_cons, if_neg (by simp [c])]
      exact ih nd.2 h
theorem crossed_errs {ps : List My.Pr} {x : Hr} {i : Int} (hs : x.side = 0 ∨ x.side = 1) (hi : i = 0 ∨ i = 1) (ht : ∀ t, t ∈ x.throws → t ∈ ps.map (My.wd x.side)) : crossed i ps x = errs i ps x := by
  by_cases c : x.side = i
  · rw [errs_own c]
    unfold crossed
    have e : x.throws.map (fun t => ((pairOf x.side t ps).map (My.wd i)).getD t) = x.throws.map id := by
      refine List.map_congr_left fun t h => ?_
      obtain ⟨q, hq⟩ := pairOf_mem (ht t h)
      rw [hq]
      have := List.find?_some hq
      have e := of_decide_eq_true this
      rw [← c]
      exact e
    rw [e, List.map_id]
  · rw [errs_other c]
    have e : i = 1 - x.side := by omega
    rw [e]
    rfl
def sp_crossed : Sp := fun vs H Q _ => ∃ (L h : Addr) (as : List Addr) (ps : List My.Pr) (x : Hr) (i : Int), vs = [.ref L, .ref h, .int i] ∧ H L = some (.lst (as.map V.ref)) ∧ Objs H as prO ps ∧ HrAt H h x ∧ My.PairsOk ps ∧ (x.side = 0 ∨ x.side = 1) ∧ (i = 0 ∨ i = 1) ∧ (∀ t, t ∈ x.throws → t ∈ ps.map (My.wd x.side)) ∧ x.throws.length ≤ 1000 ∧
  ∀ (D : Addr) (H' : Hp), H D = none → H' D = some (.lst ((crossed i ps x).map V.str)) → Same H H' → Q (.ref D) H'
theorem ok_crossed (T : Txt K mg a) : FnOk P w K mg base CX0 1 a.f_crossed a.d_crossed ["_law_pairs_here", "_law_helper", "_law_team"] sp_crossed := by
  refine T.F_crossed.ok sc_crossed (fun vs H Q E h => ?_) (fun cdv A outer s H vs Q E hr h => ?_)
  · obtain ⟨L, h, as, ps, x, i, rfl, _⟩ := h
    rfl
  · obtain ⟨L, h, as, ps, x, i, rfl, hL, ob, hx, pok, hs, hi, ht, hz, kk⟩ := h
    refine ⟨_, (pss_cons (ps_set (i := 3) sc_crossed.nd rfl (Or.inl rfl) (pe_lst pa_nil))
      (pss_cons (ps_for PassesOwn.never rfl (pi_tup (pe_ix ix_tup (pv 1) pe_int (fun _ _ => rfl))) (pg_name (i := 4) sc_crossed.nd rfl (Or.inl rfl)) (pss_one (ps_for PassesOwn.never rfl (pi_list (pv 0)) (pg_name (i := 5) sc_crossed.nd rfl (Or.inl rfl)) (pss_one (ps_if (pt_cmpR op_eq (pe_ix ix_tup (pv 5) (pe_ix ix_tup (pv 1) pe_int (fun _ _ => rfl)) (fun _ _ => rfl)) (pv 4) (nomark _)) (pss_one (ps_expr (pe_bm PySem.F.plainAttrs_list PySem.F.slot_list_append PySem.F.type_list_append mt_append (pv 3) (pa_cons (pe_ix ix_tup (pv 5) (pv 2) (fun _ _ => rfl)) pa_nil)))) pss_nil)))))
      (pss_one (ps_ret (pv 3))))), ?_⟩
    have asl := ob.len
    have many := pok.many
    have nd := words_nodup pok hs
    obtain ⟨tk, th, ex, etk, eth⟩ := id hx
    refine ⟨by show 0 ≤ sizeLine; decide, fun D hD => ?_⟩
    have s1 : Same H (upd H D (.lst [])) := (Same.refl H).upd hD
    have nLD : L ≠ D := ne_of_none hL hD
    have base_ : ∀ xs : List V, Same H (upd H D (.lst xs)) := fun xs => (Same.refl H).upd hD
    refine ⟨_, rfl, _, _, _, _, rfl, rfl, SqT.of (s1 _ _ ex), rfl, th, rfl, ⟨_, (eth.same s1).seq⟩, ?_⟩
    refine for_it (walk_tup (K := K) (a := th) (xs := x.throws.map V.str)) (fun k σ H1 => Blk (∃ v4 v5, σ = [some (.ref L), some (.ref h), some (.int i), some (.ref D), v4, v5] ∧ H1 = upd H D (.lst (((x.throws.take k).map fun t => ((pairOf x.side t ps).map (My.wd i)).getD t).map V.str)))) ?_ ?_ ?_ ?_
    · exact Blk.of ⟨_, _, rfl, rfl⟩
    · intro k σ H1 _ hB
      obtain ⟨v4, v5, _, rfl⟩ := hB.out
      exact (eth.same (base_ _)).seq
    · intro k y σ H1 H2 hk hB hy
      obtain ⟨v4, v5, rfl, rfl⟩ := hB.out
      obtain ⟨rfl, hy2⟩ := hy
      obtain ⟨t, htk, rfl⟩ := strs_get hy2
      have htm := List.mem_of_getElem? htk
      obtain ⟨q, hq⟩ := pairOf_mem (ht t htm)
      have kl := get_lt htk
      generalize hacc : ((x.throws.take k).map fun t => ((pairOf x.side t ps).map (My.wd i)).getD t) = acc
      have accl : acc.length ≤ 1000 := by rw [← hacc, List.length_map, List.length_take]; omega
      refine ⟨_, rfl, L, rfl, ⟨_, SqL.of ((base_ _) _ _ hL)⟩, ?_⟩
      refine for_list (K := K) (a := L) (xs := as.map V.ref) (fun j σ H1 => Blk (∃ v5, σ = [some (.ref L), some (.ref h), some (.int i), some (.ref D), some (.str t), v5] ∧ H1 = upd H D (.lst ((acc ++ ((ps.take j).filter fun z => decide (My.wd x.side z = t)).map (My.wd i)).map V.str)))) ?_ ?_ ?_ ?_
      · exact Blk.of ⟨_, rfl, by simp⟩
      · intro j σ H1 _ hB
        obtain ⟨v5, _, rfl⟩ := hB.out
        exact SqL.of ((base_ _) _ _ hL)
      · intro j y σ H1 hy hB
        obtain ⟨v5, rfl, rfl⟩ := hB.out
        obtain ⟨pa, hpa, rfl⟩ := refs_get hy
        obtain ⟨z, hz2, hz3⟩ := ob.get hpa
        have hz4 : H pa = some (.tup [.str z.1, .str z.2.1, .bl z.2.2]) := hz3
        refine ⟨_, rfl, _, rfl, _, _, _, _, rfl, rfl, SqT.of ((base_ _) _ _ ex), rfl, _, _, _, _, rfl, rfl, SqT.of ((base_ _) _ _ hz4), wd_at2 hs z, ?_⟩
        refine ⟨_, rfl, rfl, _, rfl, ?_⟩
        have et : (ps.take (j + 1)).filter (fun z => decide (My.wd x.side z = t)) = (ps.take j).filter (fun z => decide (My.wd x.side z = t)) ++ (if My.wd x.side z = t then [z] else []) := by
          rw [take_snoc hz2, List.filter_append]
          by_cases c : My.wd x.side z = t
          · simp [c]
          · simp [c]
        have fl : ((ps.take j).filter fun z => decide (My.wd x.side z = t)).length ≤ 6 := by
          refine Nat.le_trans (List.length_filter_le _ _) ?_
          rw [List.length_take]
          omega
        refine iteD (fun c => ?_) (fun c => ?_)
        · refine ⟨_, rfl, .inl ⟨rfl, _, SqL.of upd_same⟩, _, rfl, _, rfl, _, _, _, _, rfl, rfl, SqT.of ((base_ _) _ _ hz4), wd_at2 hi z, D, _, _, rfl, rfl, upd_same, by rw [List.length_map, List.length_append, List.length_map]; exact small (by omega), Blk.of ⟨_, rfl, ?_⟩⟩
          rw [upd_upd, et, if_pos (V.str.inj c), List.map_append (l₂ := [z]), ← List.append_assoc, List.map_append (l₂ := List.map _ [z])]
          rfl
        · refine Blk.of ⟨_, rfl, ?_⟩
          rw [et, if_neg fun d => c (congrArg V.str d), List.append_nil]
      · intro σ H1 hB
        obtain ⟨v5, rfl, rfl⟩ := hB.out
        have e1 : ps.take (as.map V.ref).length = ps := by rw [List.length_map, asl, List.take_length]
        rw [e1, filter_one nd hq]
        refine Blk.of ⟨_, _, rfl, ?_⟩
        rw [← hacc, take_snoc htk, List.map_append (l₂ := [t]), List.map_singleton, List.map_singleton, hq]
        rfl
    · intro σ H1 hB
      obtain ⟨v4, v5, rfl, rfl⟩ := hB.out
      have e1 : x.throws.take (x.throws.map V.str).length = x.throws := by rw [List.length_map, List.take_length]
      rw [e1]
      exact ⟨_, rfl, kk D _ hD upd_same (base_ _)⟩

open My (Hr)
def prD (z : My.Pr) : PyData := .tuple [.str z.1, .str z.2.1, .bool z.2.2]
def hrD (x : Hr) : PyData := .tuple [.str x.name, .int x.side, .tuple (x.takes.map PyData.str), .bool x.gives, .tuple (x.throws.map PyData.str)]
theorem strs_lay : ∀ ts : List Str, (∀ t, t ∈ ts → WOk t) → PyData.canLayAll0 (ts.map PyData.str) = true
  | [], _ => rfl
  | t :: r, h => by
    rw [List.map_cons, PyData.canLayAll0, PyData.canLay0, (h t List.mem_cons_self).2, strs_lay r fun q hq => h q (List.mem_cons_of_mem _ hq)]
    rfl
theorem strs_deep : ∀ ts : List Str, PyData.depthAll (ts.map PyData.str) ≤ 0
  | [] => by simp [PyData.depthAll]
  | t :: r => by
    rw [List.map_cons, PyData.depthAll, PyData.depth]
    have := strs_deep r
    omega
theorem prD_lay {z : My.Pr} (h : WOk z.1 ∧ WOk z.2.1) : (prD z).canLay0 = true := by simp [prD, PyData.canLay0, PyData.canLayAll0, h.1.2, h.2.2]
theorem prD_deep (z : My.Pr) : (prD z).depth = 1 := by simp [prD, PyData.depth, PyData.depthAll]
theorem hrD_lay {x : Hr} (h : HrOk x) : (hrD x).canLay0 = true := by
  simp [hrD, PyData.canLay0, PyData.canLayAll0, h.nm.2, strs_lay _ h.tk, strs_lay _ h.th]
theorem hrD_deep (x : Hr) : (hrD x).depth ≤ 3 := by
  have h1 := strs_deep x.takes
  have h2 := strs_deep x.throws
  simp only [hrD, PyData.depth, PyData.depthAll]
  omega
theorem all_lay {α : Type} (f : α → PyData) : ∀ zs : List α, (∀ z, z ∈ zs → (f z).canLay0 = true) → PyData.canLayAll0 (zs.map f) = true
  | [], _ => rfl
  | z :: r, h => by
    rw [List.map_cons, PyData.canLayAll0, h z List.mem_cons_self, all_lay f r fun q hq => h q (List.mem_cons_of_mem _ hq)]
    rfl
theorem all_deep {α : Type} (f : α → PyData) (n : Nat) (h : ∀ z, (f z).depth ≤ n) : ∀ zs : List α, PyData.depthAll (zs.map f) ≤ n
  | [] => by simp [PyData.depthAll]
  | z :: r => by
    rw [List.map_cons, PyData.depthAll]
    have h1 := all_deep f n h r
    have h2 := h z
    omega
theorem dp_prs {K : PySem.W.Frag} {H : Hp} : ∀ {as : List Addr} {ps : List My.Pr}, Objs H as prO ps → DpAll K H (as.map V.ref) (ps.map prD)
  | [], [], _ => .nil
  | h :: hs, z :: zs, o => .cons (.tup (SqT.of (o.at_ 0 h z rfl rfl)) (.cons (.str _) (.cons (.str _) (.cons (.bl _) .nil)))) (dp_prs ⟨by have := o.len; simpa using this, fun i h' z' a b => o.at_ (i + 1) h' z' (by simpa using a) (by simpa using b)⟩)
  | [], _ :: _, o => by have := o.len; simp at this
  | _ :: _, [], o => by have := o.len; simp at this
theorem dp_strs {K : PySem.W.Frag} {H : Hp} : ∀ ts : List Str, DpAll K H (ts.map V.str) (ts.map PyData.str)
  | [] => .nil
  | t :: r => .cons (.str t) (dp_strs r)
theorem dp_hr {K : PySem.W.Frag} {H : Hp} {h : Addr} {x : Hr} (e : HrAt H h x) : Dp K H (.ref h) (hrD x) := by
  obtain ⟨tk, th, e1, e2, e3⟩ := e
  exact .tup (SqT.of e1) (.cons (.str _) (.cons (.int _) (.cons (.tup e2.seq (dp_strs _)) (.cons (.bl _) (.cons (.tup e3.seq (dp_strs _)) .nil)))))
theorem dp_hrs {K : PySem.W.Frag} {H : Hp} : ∀ {as : List Addr} {hs : List Hr}, Crew H as hs → DpAll K H (as.map V.ref) (hs.map hrD)
  | [], [], _ => .nil
  | h :: hs, z :: zs, o => .cons (dp_hr (AllAt.at_ o 0 h z rfl rfl)) (dp_hrs ⟨by have := AllAt.len o; simpa using this, fun i h' z' a b => AllAt.at_ o (i + 1) h' z' (by simpa using a) (by simpa using b)⟩)
  | [], _ :: _, o => by have := AllAt.len o; simp at this
  | _ :: _, [], o => by have := AllAt.len o; simp at this
theorem shaped_of {d : PyData} (h1 : d.canLay0 = true) (h2 : d.depth ≤ 60) : SeqAt.shaped d = true := by
  unfold SeqAt.shaped
  rw [h1]
  exact decide_eq_true (by omega)

open My (Hr)
theorem crew_find {ps : List My.Pr} {hs : List Hr} (ok : My.CrewOk ps hs) {i : Nat} {x : Hr} (h : hs[i]? = some x) : crewOf x.name hs = some x := by
  refine find_first (P := fun z : Hr => z.name = x.name) (k := i) (fun j z hj e c => ?_) h rfl
  have := My.nin_take (f := fun z : Hr => z.name) ok.names h
  exact this (List.mem_map.mpr ⟨z, List.mem_of_getElem? (i := j) (by rw [List.getElem?_take, if_pos hj]; exact e), c⟩)
theorem strs_data {ts : List Str} (h : ∀ t, t ∈ ts → WOk t) : (PyData.list (ts.map PyData.str)).canLay0 = true ∧ SeqAt.shaped (.list (ts.map PyData.str)) = true := by
  have l : (PyData.list (ts.map PyData.str)).canLay0 = true := by rw [PyData.canLay0]; exact strs_lay ts h
  have := strs_deep ts
  exact ⟨l, shaped_of l (by rw [PyData.depth]; omega)⟩
theorem pfs_nm {pl hl : Addr} : (pfs pl hl).lookup ("names" : Str) = none := by kernel_rfl
theorem pfs_er {pl hl : Addr} : (pfs pl hl).lookup ("errors" : Str) = none := by kernel_rfl
theorem pfs_pr {pl hl : Addr} : (pfs pl hl).lookup ("pairs" : Str) = none := by kernel_rfl
def sp_told2 (C : Addr) : Sp := fun vs H Q _ => ∃ (p pl hl L Lh : Addr) (as has as2 has2 : List Addr) (ps : List My.Pr) (hs : List Hr), vs = [.ref p, .ref L, .ref Lh] ∧ PactsAt C H p pl hl as ps ∧ CrewAt H hl has hs ∧ My.PairsOk ps ∧ My.CrewOk ps hs ∧ (∀ x, x ∈ hs → HrOk x) ∧
  H L = some (.lst (as2.map V.ref)) ∧ Objs H as2 prO ps ∧ H Lh = some (.lst (has2.map V.ref)) ∧ Crew H has2 hs ∧ ∀ H', Same H H' → Q (.bl true) H'
theorem ok_told (T : Txt K mg a) : FnOk P w K mg base CX0 6 a.f_told a.d_told ["_law_pacts", "_law_pairs_here", "_law_crew"] (sp_told2 a.c_Pacts) := by
  refine T.F_told.ok sc_told (fun vs H Q E h => ?_) (fun cdv A outer s H vs Q E hr h => ?_)
  · obtain ⟨p, pl, hl, L, Lh, as, has, as2, has2, ps, hs, rfl, _⟩ := h
    rfl
  · obtain ⟨p, pl, hl, L, Lh, as, has, as2, has2, ps, hs, rfl, pa, cr, pok, cok, hok, hL, ob, hLh, crew, kk⟩ := h
    refine ⟨_, (pss_cons (ps_for PassesOwn.never rfl (pi_range1 (by rfl) T.z_range (pa_cons pe_int pa_nil)) (pg_name (i := 3) sc_told.nd rfl (Or.inr rfl)) (pss_one (ps_if (pt_cmpR (op_neD hr.units) (pe_meth (pv 0) T.cl_Pacts T.m_Pacts_names (ok_Pacts_names T) (hr.mono (by decide)) T.B_Pacts_names .nil pass0 (pa_cons (pv 3) pa_nil)) (pe_lc (own := [("_law_helper", 4)]) (g := gName 4) (te := tOp (rIxT K) (tVar 4) (tC (.int 0))) (tt := tTest (tOp rEq (tOp (rIxT K) (tVar 4) (tC (.int 1))) (tVar 3))) rfl sc_told.nd (pi_list (pv 2)) (blkOk_by (own := [("_law_helper", 4)]) (N := ["_law_pacts", "_law_pairs_here", "_law_crew", "_law_team", "_law_helper"]) (sc := defScope s_told) (by decide +kernel)) (fun _ _ _ _ _ => pg_name (i := 4) sc_told.nd rfl (Or.inl rfl)) (fun _ _ _ _ _ => pts_one (pt_cmpR op_eq (pe_ix ix_tup (pv 4) pe_int (fun _ _ => rfl)) (pv 3) (nomark _))) (fun _ _ _ _ _ => by exact (pe_ix ix_tup (pv 4) pe_int (fun _ _ => rfl)))) (nomark _)) (pss_one (ps_ret pe_bl)) pss_nil)))
      (pss_cons (ps_for PassesOwn.never rfl (pi_list (pv 2)) (pg_name (i := 4) sc_told.nd rfl (Or.inl rfl)) (pss_cons (ps_if (PW.pt (pw_or (pt_cmpR (op_neD hr.units) (pe_meth (pv 0) T.cl_Pacts T.m_Pacts_pact (ok_Pacts_pact T) (hr.mono (by decide)) T.B_Pacts_pact .nil pass0 (pa_cons (pe_ix ix_tup (pv 4) pe_int (fun _ _ => rfl)) pa_nil)) (pv 4) (nomark _)) (pw_or1 (pt_not (pt_val (pe_callB call_isi (by rfl) T.z_isinstance (by decide +kernel) (pa_cons (pe_ix ix_tup (pe_methKw (ks := ["name"]) (pv 0) T.cl_Pacts T.m_Pacts_pact (ok_Pacts_pact T) (hr.mono (by decide)) T.KB_Pacts_pact pass0 (pk_cons (pe_ix ix_tup (pv 4) pe_int (fun _ _ => rfl)) pk_nil)) pe_int (fun _ _ => rfl)) (pa_cons (pe_bltn (v := .ty "bool") (by rfl) T.z_bool (by decide +kernel) rfl) pa_nil)))))))) (pss_one (ps_ret pe_bl)) pss_nil)
      (pss_one (ps_for PassesOwn.never rfl (pi_range1 (by rfl) T.z_range (pa_cons pe_int pa_nil)) (pg_name (i := 3) sc_told.nd rfl (Or.inr rfl)) (pss_one (ps_if (pt_cmpR (op_neD hr.units) (pe_methN (ks := ["side"]) (pv 0) T.cl_Pacts T.m_Pacts_errors (ok_Pacts_errors T) (hr.mono (by decide)) T.KN_Pacts_errors_2 (pass0) (pa_cons (pe_ix ix_tup (pv 4) pe_int (fun _ _ => rfl)) pa_nil) (pk_cons (pv 3) pk_nil)) (pe_call (ok_crossed T) (hr.mono (by decide)) rfl T.g_crossed T.k_crossed T.B_crossed .nil pass0 (pa_cons (pv 1) (pa_cons (pv 4) (pa_cons (pv 3) pa_nil)))) (nomark _)) (pss_one (ps_ret pe_bl)) pss_nil))))))
      (pss_one (ps_ret (pe_and (pe_cmpR op_eq (pe_callB (call_lenOwn T.m_Pacts_len (ok_Pacts_len T) (hr.mono (by decide)) T.B_Pacts_len pass0) (by rfl) T.z_len (by decide +kernel) (pa_cons (pv 0) pa_nil)) (pe_callB call_len_seq (by rfl) T.z_len (by decide +kernel) (pa_cons (pv 2) pa_nil)) (nomark _)) (pe_one (pe_cmpR (op_eqD hr.units) (pe_meth0 (pv 0) T.cl_Pacts T.m_Pacts_pairs (ok_Pacts_pairs T) (hr.mono (by decide)) T.B_Pacts_pairs .nil pass0) (pv 1) (nomark _)))))))), ?_⟩
    have many := pok.many
    have hmany := crew_many cok
    refine ⟨2, rfl, by decide, by decide, ?_⟩
    refine for_range (lo := 0) (n := 2) (fun i σ H1 => Blk (∃ v3, σ = [some (.ref p), some (.ref L), some (.ref Lh), v3, none] ∧ Same H H1)) ?_ ?_ ?_
    · exact Blk.of ⟨_, rfl, Same.refl H⟩
    · intro i σ H1 hi hB
      obtain ⟨v3, rfl, s1⟩ := hB.out
      have si : (0 : Int) + (i : Nat) = 0 ∨ (0 : Int) + (i : Nat) = 1 := by omega
      generalize (0 : Int) + (i : Nat) = sd at si
      have pa1 := pa.same s1
      obtain ⟨dx, e0⟩ := pa1.ob
      refine ⟨_, rfl, p, dx, _, rfl, e0, pfs_nm, _, rfl, p, pl, hl, as, has, ps, hs, sd, rfl, pa1, cr.same s1, by omega, fun r H2 hr hr2 s2 => ?_⟩
      have s12 := s1.trans s2
      walk_at "rd"
      have hLh2 := s12 _ _ hLh
      have crew2 := Crew.same crew s12
      refine ⟨⟨_, SqL.of hLh2⟩, fun D hD => ?_⟩
      have nLD : Lh ≠ D := ne_of_none hLh2 hD
      refine lc_list (K := K) (a := Lh) (xs := has2.map V.ref) (fun k H3 => Blk (H3 = upd H2 D (.lst (((ofSide sd (hs.take k)).map (·.name)).map V.str)))) (Blk.of rfl) (fun k H3 _ hB => ?_) ?_ ?_
      · obtain rfl := hB.out
        exact SqL.of ((upd_ne nLD).trans hLh2)
      · intro k y H3 hy hB
        obtain rfl := hB.out
        obtain ⟨b, hb, rfl⟩ := refs_get hy
        obtain ⟨z, hz2, tk2, th2, ez, _⟩ := AllAt.get crew2 hb
        have ez2 : ∀ o, upd H2 D o b = some (.tup [.str z.name, .int z.side, .ref tk2, .bl z.gives, .ref th2]) := fun o => (upd_ne (ne_of_none ez hD)).trans ez
        refine ⟨rfl, ?_⟩
        refine ⟨_, rfl, _, _, _, _, rfl, rfl, SqT.of (ez2 _), rfl, _, rfl, rfl, _, rfl, ?_⟩
        rw [dec_int_eq]
        have hle := ofSide_le sd (hs.take k)
        rw [List.length_take] at hle
        refine iteD (fun c => ?_) (fun c => ?_)
        · refine ⟨_, rfl, _, _, _, _, rfl, rfl, SqT.of (ez2 _), rfl, ?_⟩
          refine ⟨_, upd_same, by rw [List.length_map, List.length_map]; exact small (by omega), Blk.of ?_⟩
          rw [upd_upd, ofSide_snoc sd hz2, if_pos c, List.map_append, List.map_append]
          rfl
        · refine Blk.of ?_
          rw [ofSide_snoc sd hz2, if_neg c, List.append_nil]
      · intro H3 hB
        obtain rfl := hB.out
        have e1 : hs.take (has2.map V.ref).length = hs := by rw [List.length_map, AllAt.len crew2, List.take_length]
        rw [e1]
        have s23 : Same H2 (upd H2 D (.lst (((ofSide sd hs).map (·.name)).map V.str))) := (Same.refl H2).upd hD
        have dd := strs_data (ts := (ofSide sd hs).map (·.name)) fun t ht => by
          obtain ⟨z, hz, rfl⟩ := List.mem_map.mp ht
          exact (hok z (List.mem_filter.mp hz).1).nm
        refine ⟨.list (((ofSide sd hs).map (·.name)).map PyData.str), .list (((ofSide sd hs).map (·.name)).map PyData.str), .lst (SqL.of (s23 _ _ hr2)) (dp_strs _), .lst (SqL.of upd_same) (dp_strs _), dd.2, dd.2, ?_⟩
        rw [SeqAt.eqv_refl _ dd.1]
        refine ⟨_, rfl, ?_⟩
        refine iteF ?_
        exact Blk.of ⟨_, rfl, s12.trans s23⟩
    · intro σ H1 hB
      obtain ⟨v3, rfl, s1⟩ := hB.out
      refine ⟨_, rfl, Lh, rfl, ⟨_, SqL.of (s1 _ _ hLh)⟩, ?_⟩
      refine for_list (K := K) (a := Lh) (xs := has2.map V.ref) (fun j σ H2 => Blk (∃ v3 v4, σ = [some (.ref p), some (.ref L), some (.ref Lh), v3, v4] ∧ Same H H2)) ?_ ?_ ?_ ?_
      · exact Blk.of ⟨_, _, rfl, s1⟩
      · intro j σ H2 _ hB
        obtain ⟨v3, v4, _, s2⟩ := hB.out
        exact SqL.of (s2 _ _ hLh)
      · intro j y σ H2 hy hB
        obtain ⟨v3, v4, rfl, s2⟩ := hB.out
        obtain ⟨h, hh, rfl⟩ := refs_get hy
        have crew2 := Crew.same crew s2
        obtain ⟨x, hx, hx2⟩ := AllAt.get crew2 hh
        have hm := List.mem_of_getElem? hx
        have okx := hok x hm
        obtain ⟨pb, hth⟩ := cok.one x hm
        obtain ⟨_, si, _, _⟩ := pactB_out pb
        obtain ⟨tk, th, ex, _, _⟩ := id hx2
        have pa2 := pa.same s2
        have cr2 := cr.same s2
        obtain ⟨dx, e0⟩ := pa2.ob
        have shx : SeqAt.shaped (hrD x) = true := shaped_of (hrD_lay okx) (by have := hrD_deep x; omega)
        refine ⟨_, rfl, p, dx, _, rfl, e0, pfs_no4, _, rfl, _, _, _, _, rfl, rfl, SqT.of ex, rfl, p, pl, hl, as, has, ps, hs, x.name, x, rfl, pa2, cr2, crew_find cok hx, fun h2 hh2 => ?_⟩
        refine ⟨_, rfl, hrD x, hrD x, dp_hr hh2, dp_hr hx2, shx, shx, ?_⟩
        rw [SeqAt.eqv_refl _ (hrD_lay okx)]
        refine ⟨_, rfl, ?_⟩
        refine iteF ?_
        refine ⟨_, rfl, p, dx, _, rfl, e0, pfs_no4, _, rfl, _, _, _, _, rfl, rfl, SqT.of ex, rfl, p, pl, hl, as, has, ps, hs, x.name, x, rfl, pa2, cr2, crew_find cok hx, fun h3 hh3 => ?_⟩
        obtain ⟨tk3, th3, ex3, _, _⟩ := id hh3
        refine ⟨_, _, _, _, rfl, rfl, SqT.of ex3, rfl, _, _, _, _, true, rfl, .ty "bool", .base (.bl x.gives), kit_ty (by decide +kernel), true, rfl, ?_⟩
        refine iteF ?_
        refine ⟨2, rfl, by decide, by decide, ?_⟩
        refine for_range (lo := 0) (n := 2) (fun i σ H3 => Blk (∃ v3, σ = [some (.ref p), some (.ref L), some (.ref Lh), v3, some (.ref h)] ∧ Same H H3)) ?_ ?_ ?_
        · exact Blk.of ⟨_, rfl, s2⟩
        · intro i σ H3 hi hB
          obtain ⟨v3, rfl, s3⟩ := hB.out
          have sd2 : (0 : Int) + (i : Nat) = 0 ∨ (0 : Int) + (i : Nat) = 1 := by omega
          generalize (0 : Int) + (i : Nat) = sd at sd2
          have pa3 := pa.same s3
          obtain ⟨dx3, e3⟩ := pa3.ob
          obtain ⟨x', hx', hx3⟩ := AllAt.get (Crew.same crew s3) hh
          rw [hx] at hx'
          obtain rfl := Option.some.inj hx'
          obtain ⟨tk4, th4, ex4, _, _⟩ := id hx3
          have thl := (My.throwsB_nodup (pactB_out pb).2.2.2).1
          refine ⟨_, rfl, p, dx3, _, rfl, e3, pfs_er, _, rfl, _, _, _, _, rfl, rfl, SqT.of ex4, rfl, _, rfl, rfl, p, pl, hl, as, has, ps, hs, x.name, sd, x, rfl, pa3, cr.same s3, crew_find cok hx, si, hth, by omega, fun r H4 hr hr4 s4 => ?_⟩
          have s34 := s3.trans s4
          refine ⟨_, rfl, _, rfl, _, rfl, L, h, as2, ps, x, sd, rfl, s34 _ _ hL, ob.same s34, hx3.same s4, pok, si, sd2, hth, by omega, fun D H5 hD hD5 s5 => ?_⟩
          rw [crossed_errs si sd2 hth] at hD5
          have dd := strs_data (ts := errs sd ps x) fun t ht => by
            rw [← crossed_errs si sd2 hth] at ht
            obtain ⟨u, hu, rfl⟩ := List.mem_map.mp ht
            obtain ⟨q, hq⟩ := pairOf_mem (hth u hu)
            have hqm := List.mem_of_find?_eq_some hq
            rw [hq]
            show WOk (My.wd sd q)
            unfold My.wd
            split
            · exact name_wok (pok.nm q hqm).1
            · exact name_wok (pok.nm q hqm).2
          refine ⟨.list ((errs sd ps x).map PyData.str), .list ((errs sd ps x).map PyData.str), .lst (SqL.of (s5 _ _ hr4)) (dp_strs _), .lst (SqL.of hD5) (dp_strs _), dd.2, dd.2, ?_⟩
          rw [SeqAt.eqv_refl _ dd.1]
          refine ⟨_, rfl, ?_⟩
          refine iteF ?_
          exact Blk.of ⟨_, rfl, s34.trans s5⟩
        · intro σ H3 hB
          obtain ⟨v3, rfl, s3⟩ := hB.out
          exact Blk.of ⟨_, _, rfl, s3⟩
      · intro σ H2 hB
        obtain ⟨v3, v4, rfl, s2⟩ := hB.out
        have paC := pa.same s2
        obtain ⟨dx, e0⟩ := paC.ob
        refine ⟨_, rfl, p, dx, _, rfl, e0, p, pl, hl, as, has, ps, hs, rfl, paC, cr.same s2, _, rfl, by omega, by omega, _, rfl, Lh, _, rfl, .inl (SqL.of (s2 _ _ hLh)), ?_⟩
        walk_at "rd"
        have ee : decide (V.int ((hs.length : Nat) : Int) = V.int (((has2.map V.ref).length : Nat) : Int)) = true := by
          rw [List.length_map, AllAt.len crew]
          exact decide_eq_true rfl
        rw [ee]
        refine iteT ?_
        refine ⟨_, rfl, p, dx, _, rfl, e0, pfs_pr, p, pl, hl, as, ps, rfl, paC, fun r HF hr hrF sF => ?_⟩
        have obF := ob.same (s2.trans sF)
        have lay1 : (PyData.list (ps.map prD)).canLay0 = true := by rw [PyData.canLay0]; exact all_lay prD ps fun z hz => prD_lay ⟨name_wok (pok.nm z hz).1, name_wok (pok.nm z hz).2⟩
        have dp1 := all_deep prD 1 (fun z => by rw [prD_deep]; omega) ps
        have sh1 : SeqAt.shaped (.list (ps.map prD)) = true := shaped_of lay1 (by simp only [PyData.depth]; omega)
        refine ⟨_, rfl, .list (ps.map prD), .list (ps.map prD), .lst (SqL.of hrF) (dp_prs ((pa.same (s2.trans sF)).ps)), .lst (SqL.of ((s2.trans sF) _ _ hL)) (dp_prs obF), sh1, sh1, ?_⟩
        rw [SeqAt.eqv_refl _ lay1]
        exact kk _ (s2.trans sF)

open My (Hr)
/-! ### a name that is no helper's -/
def sp_who (C : Addr) : Sp := fun vs H Q _ => ∃ (e : Addr) (w : Str), vs = [.ref e, .str w] ∧ H e = some (exo e C none) ∧ w.length ≤ 40000 ∧
  ∀ (d : Addr) (H' : Hp), H d = none → d ≠ e → H' e = some (exo e C (some d)) → H' d = some (exd d [("name", .str w)]) → Keeps [e] H H' → Q .non H'
theorem str_small {m k : Str} {n : Nat} (h : m.length ≤ 40000) (hk : k.length = n) (hn : n ≤ 1000) : (k ++ m).length ≤ sizeLine := by
  rw [strLen_append, hk, sizeLine_eq]
  omega
theorem ok_NoHelper_init (T : Txt K mg a) : FnOk P w K mg base CX0 1 a.f_NoHelper_init a.d_NoHelper_init ["self", "name"] (sp_who a.c_NoHelper) := by
  refine T.F_NoHelper_init.ok sc_NoHelper_init (fun vs H Q E h => ?_) (fun cdv A outer s H vs Q E hr h => ?_)
  · obtain ⟨e, w, rfl, _⟩ := h
    rfl
  · obtain ⟨e, w, rfl, he, hw, kk⟩ := h
    refine ⟨_, (pss_cons (ps_expr (pe_midInit T.md_PactError (by rfl) T.g_PactError (pa_cons (pv 0) (pa_cons (pe_joined (.cons pe_str (.cons (pe_fmt (pv 1)) .nil))) pa_nil))))
      (pss_one (ps_ost (pv 0) (pv 1) rfl))), ?_⟩
    refine ⟨_, rfl, _, rfl, by rw [sizeLine_eq]; decide +kernel, ?_⟩
    refine ⟨_, rfl, .inl ⟨w, rfl, by rw [sizeLine_eq]; omega, ?_⟩⟩
    refine ⟨_, rfl, str_small hw (by decide +kernel : _ = 16) (by decide), ?_⟩
    refine ⟨e, a.c_NoHelper, _, rfl, by show 1 ≤ 1000; decide, T.x_NoHelper, he, ?_⟩
    refine ⟨_, rfl, _, rfl, e, a.c_NoHelper, rfl, T.x_NoHelper, T.n_NoHelper_name, .inl ⟨he, fun d hd nd => ?_⟩⟩
    refine kk d _ hd nd upd_same ?_ ?_
    · rw [upd_ne nd, upd_same]
    · exact ((Keeps.refl [e] H).upd (.inr hd)).upd (.inl (by simp))
def OutN (CN : Addr) (w : Str) (H : Hp) (E : XK) : Prop := ∀ (d : Addr) (H' : Hp), Same H H' → H d = none → H' d = some (.xd [("name", .str w)]) → E (.ref CN) (some d) H'
theorem mk_who {C : Addr} {H H1 : Hp} {w : Str} {E : XK} {σ : L2.St} (s1 : Same H H1) (hw : w.length ≤ 40000) (hσ : σ[1]? = some (some (.str w))) (kk : OutN C w H E) :
    tMkO C (sp_who C) [] (tCons (tVar 1) tNil) σ H1 (fun cls d H' => E cls d H') := by
  refine ⟨_, hσ, by show 1 ≤ 1000; decide, fun e he => ?_⟩
  refine ⟨e, w, rfl, upd_same, hw, fun d H2 hd nde h1 h2 kp => ⟨rfl, d, _, h1, h2, ?_, ?_⟩⟩
  · exact (upd_ne nde).symm.trans hd
  · have hd1 : H1 d = none := (upd_ne nde).symm.trans hd
    refine kk d _ (fun c o ec => ?_) (s1.free hd1) upd_same
    have e1 := s1 _ _ ec
    have n1 : c ≠ e := ne_of_none e1 he
    have n2 : c ≠ d := ne_of_none e1 hd1
    rw [upd_ne n2, del_ne n1]
    exact kp c o ((upd_ne n1).trans e1) (by simp [n1])
def sp_pactX (CN C : Addr) : Sp := fun vs H _ E => ∃ (p pl hl : Addr) (as has : List Addr) (ps : List My.Pr) (hs : List Hr) (w : Str), vs = [.ref p, .str w] ∧ PactsAt C H p pl hl as ps ∧ CrewAt H hl has hs ∧ crewOf w hs = none ∧ w.length ≤ 40000 ∧ OutN CN w H E
theorem ok_Pacts_pactX (T : Txt K mg a) : FnOk P w K mg base (L2.CX P w) 3 a.f_Pacts_pact a.d_Pacts_pact ["self", "name"] (sp_pactX a.c_NoHelper a.c_Pacts) := by
  refine T.F_Pacts_pact.okX sc_Pacts_pact (fun vs H Q E h => ?_) (fun cdv A outer s H vs Q E hr h => ?_)
  · obtain ⟨p, pl, hl, as, has, ps, hs, w, rfl, _⟩ := h
    rfl
  · obtain ⟨p, pl, hl, as, has, ps, hs, w, rfl, pa, cr, hq, hw, kk⟩ := h
    refine ⟨_, (pss_cons (ps_for (passes_of rfl) rfl (pi_list (pe_fld (pv 0) rfl)) (pg_name (i := 2) sc_Pacts_pact.nd rfl (Or.inl rfl)) (pss_one (ps_if (pt_cmpR op_eq (pe_ix ix_tup (pv 2) pe_int (fun _ _ => rfl)) (pv 1) (nomark _)) (pss_one (ps_ret (pv 2))) pss_nil)))
      (pss_one (ps_raise rfl (W := fun cls d _ H => E cls d H) (takes_of rfl rfl rfl rfl) (pmk_oex T.x_NoHelper T.xi_NoHelper T.xt_NoHelper (ok_NoHelper_init T) (hr.mono (by decide)) T.B_NoHelper_init .nil pass0 (by rfl) T.g_NoHelper (pa_cons (pv 1) pa_nil))))), ?_⟩
    obtain ⟨dx, e0⟩ := pa.ob
    refine ⟨_, rfl, _, _, _, _, _, rfl, e0, T.cl_Pacts, T.n_Pacts__helpers, pfs_h, hl, rfl, ⟨_, SqL.of cr.lh⟩, ?_⟩
    refine for_list (K := K) (a := hl) (xs := has.map V.ref) (fun k σ H2 => Blk (∃ v2, σ = [some (.ref p), some (.str w), v2] ∧ H2 = H)) ?_ ?_ ?_ ?_
    · exact Blk.of ⟨_, rfl, rfl⟩
    · intro k σ H2 _ hB
      obtain ⟨v2, _, rfl⟩ := hB.out
      exact SqL.of cr.lh
    · intro k y σ H2 hy hB
      obtain ⟨v2, rfl, rfl⟩ := hB.out
      obtain ⟨h, hh, rfl⟩ := refs_get hy
      obtain ⟨z, hz, tk2, th2, ez, _⟩ := AllAt.get cr.hs hh
      refine ⟨_, rfl, _, _, _, _, rfl, rfl, SqT.of ez, rfl, ?_⟩
      refine ⟨_, rfl, rfl, _, rfl, ?_⟩
      refine iteD (fun c => ?_) (fun c => ?_)
      · exfalso
        have := List.find?_eq_none.mp hq z (List.mem_of_getElem? hz)
        exact this (decide_eq_true (V.str.inj c))
      · exact Blk.of ⟨_, rfl, rfl⟩
    · intro σ H2 hB
      obtain ⟨v2, rfl, rfl⟩ := hB.out
      exact mk_who (Same.refl H2) hw rfl kk
def sp_errorsX (CN C : Addr) : Sp := fun vs H _ E => ∃ (p pl hl : Addr) (as has : List Addr) (ps : List My.Pr) (hs : List Hr) (w : Str) (i : Int), vs = [.ref p, .str w, .int i] ∧ PactsAt C H p pl hl as ps ∧ CrewAt H hl has hs ∧ crewOf w hs = none ∧ w.length ≤ 40000 ∧ OutN CN w H E
theorem ok_Pacts_errorsX (T : Txt K mg a) : FnOk P w K mg base (L2.CX P w) 5 a.f_Pacts_errors a.d_Pacts_errors ["self", "name", "side"] (sp_errorsX a.c_NoHelper a.c_Pacts) := by
  refine T.F_Pacts_errors.okX sc_Pacts_errors (fun vs H Q E h => ?_) (fun cdv A outer s H vs Q E hr h => ?_)
  · obtain ⟨p, pl, hl, as, has, ps, hs, w, i, rfl, _⟩ := h
    rfl
  · obtain ⟨p, pl, hl, as, has, ps, hs, w, i, rfl, pa, cr, hq, hw, kk⟩ := h
    refine ⟨_, (pss_cons (ps_asg (pe_meth (pv 0) T.cl_Pacts T.m_Pacts_pact (ok_Pacts_pactX T) (hr.mono (by decide)) T.B_Pacts_pact .nil (passes_call (W := fun cls d _ H => E cls d H) (takes_of rfl rfl rfl rfl) (fun _ _ _ _ z => z)) (pa_cons (pv 1) pa_nil)) (pg_tup (by rfl) (pgs_cons (pg_name (i := 3) sc_Pacts_errors.nd rfl (Or.inl rfl)) (pgs_cons (pg_name (i := 4) sc_Pacts_errors.nd rfl (Or.inr rfl)) (pgs_cons (pg_name (i := 3) sc_Pacts_errors.nd rfl (Or.inl rfl)) (pgs_cons (pg_name (i := 3) sc_Pacts_errors.nd rfl (Or.inl rfl)) (pgs_cons (pg_name (i := 5) sc_Pacts_errors.nd rfl (Or.inl rfl)) pgs_nil)))))))
      (pss_cons (ps_if (pt_cmpR op_eq (pv 4) (pv 2) (nomark _)) (pss_one (ps_ret (pe_callTy call_list_of (by rfl) T.z_list (by decide +kernel) (pa_cons (pv 5) pa_nil)))) pss_nil)
      (pss_one (ps_ret (pe_lc (own := [("word", 6)]) (g := gName 6) (tt := tYes) rfl sc_Pacts_errors.nd (pi_tup (pv 5)) (blkOk_by (own := [("word", 6)]) (N := ["self", "name", "side", "_", "own", "throws", "word"]) (sc := defScope s_Pacts_errors) (by decide +kernel)) (fun _ _ _ _ _ => pg_name (i := 6) sc_Pacts_errors.nd rfl (Or.inl rfl)) (fun _ _ _ _ _ => pts_nil) (fun _ _ _ _ _ => by exact (pe_methN (ks := ["side"]) (pv 0) T.cl_Pacts T.m_Pacts_over (ok_Pacts_over T) (hr.mono (by decide)) T.KN_Pacts_over_2 (pass0) (pa_cons (pv 6) pa_nil) (pk_cons (pv 4) pk_nil)))))))), ?_⟩
    obtain ⟨dx, e0⟩ := pa.ob
    exact ⟨_, rfl, p, dx, _, rfl, e0, pfs_no4, _, rfl, p, pl, hl, as, has, ps, hs, w, rfl, pa, cr, hq, hw, kk⟩

open My (Hr)
def tIsE (K : PySem.W.Frag) (z : Addr) (cls : Value) (d : Option Addr) (c : V) : TE := tCB (rIsD K z cls d) (tCons (tVar 3) (tCons (tC c) tNil))
def tb_who0 (CN C : Addr) (W : WX) : TS := tDrop (tMethAt C "pact" (sp_pactX CN C) (WE W) (tVar 0) (tCons (tVar 1) tNil))
def tb_who1 (CN C : Addr) (W : WX) : TS := tDrop (tMethNAt C "errors" 2 (sp_errorsX CN C) (WE W) (tVar 0) (tCons (tVar 1) tNil) (tCons (tC (.int 0)) tNil))
def tApp (K : PySem.W.Frag) (te : TE) : TS := tDrop (tBM K "list" rAppend (tVar 2) (tCons te tNil))
def tNameIs (z : Addr) (cls : Value) (d : Option Addr) (CN : Addr) : TE := tOp rEq (tXf z cls d CN "name" (tVar 3)) (tVar 1)
def ts_who0 (K : PySem.W.Frag) (CN CW : Addr) : Addr → Value → Option Addr → TS := fun z cls d => tApp K (tAndV (tIsE K z cls d (.ref CN)) (tAndV (tNotV (tIsE K z cls d (.ref CW))) (tNameIs z cls d CN)))
def ts_who1 (K : PySem.W.Frag) (CN : Addr) : Addr → Value → Option Addr → TS := fun z cls d => tApp K (tAndV (tIsE K z cls d (.ref CN)) (tAndV (tIsE K z cls d (.ty "ValueError")) (tNameIs z cls d CN)))
theorem excC_NoHelper (T : Txt K mg a) : ExcC K a.c_NoHelper := ⟨T.xf_NoHelper.ga, T.xf_NoHelper.gg, T.xf_NoHelper.exC, T.xf_NoHelper.hdC, T.fa_NoHelper, T.fg, T.ft, T.fm_NoHelper⟩
def sp_refused (C : Addr) : Sp := fun vs H Q _ => ∃ (p pl hl : Addr) (as has : List Addr) (ps : List My.Pr) (hs : List Hr) (w : Str), vs = [.ref p, .str w] ∧ PactsAt C H p pl hl as ps ∧ CrewAt H hl has hs ∧ crewOf w hs = none ∧ w.length ≤ 40000 ∧ ∀ H', Same H H' → Q (.bl true) H'
theorem ok_refused (T : Txt K mg a) : FnOk P w K mg base CX0 6 a.f_refused a.d_refused ["_law_pacts", "_law_who"] (sp_refused a.c_Pacts) := by
  refine T.F_refused.ok sc_refused (fun vs H Q E h => ?_) (fun cdv A outer s H vs Q E hr h => ?_)
  · obtain ⟨p, pl, hl, as, has, ps, hs, w, rfl, _⟩ := h
    rfl
  · obtain ⟨p, pl, hl, as, has, ps, hs, w, rfl, pa, cr, hq, hw, kk⟩ := h
    refine ⟨_, (pss_cons (ps_set (i := 2) sc_refused.nd rfl (Or.inl rfl) (pe_lst pa_nil))
      (pss_cons (ps_try_named (tb := tb_who0 a.c_NoHelper a.c_Pacts) (l := [(.ref a.c_PactError, 3, ts_who0 K a.c_NoHelper a.c_NoWord)]) (Wout := fun _ _ _ _ => False) rfl rfl sc_refused.nd takes0 (fun W pn xe tk _ => (pss_one (ps_expr (pe_methAt (pv 0) T.cl_Pacts T.m_Pacts_pact (ok_Pacts_pactX T) (hr.mono (by decide)) T.B_Pacts_pact (fun σ => passAt tk σ) (pa_cons (pv 1) pa_nil))))) (HdN.cons ⟨rfl, by decide, Or.inl T.g_PactError⟩ rfl rfl (fun z oz cls d pn hz hf => (pss_one (ps_expr (pe_bm PySem.F.plainAttrs_list PySem.F.slot_list_append PySem.F.type_list_append mt_append (pv 2) (pa_cons (pe_and (pe_callB (call_isD hz hf) (by rfl) T.z_isinstance (by decide +kernel) (pa_cons (pv 3) (pa_cons (pe_glob (v := .ref a.c_NoHelper) rfl T.g_NoHelper rfl) pa_nil))) (pe_and (pe_not (pe_callB (call_isD hz hf) (by rfl) T.z_isinstance (by decide +kernel) (pa_cons (pv 3) (pa_cons (pe_glob (v := .ref a.c_NoWord) rfl T.g_NoWord rfl) pa_nil)))) (pe_one (pe_cmpR op_eq (pe_xf T.xf_NoHelper T.n_NoHelper_name hz hf (pv 3)) (pv 1) (nomark _))))) pa_nil))))) HdN.nil))
      (pss_cons (ps_try_named (tb := tb_who1 a.c_NoHelper a.c_Pacts) (l := [(.ref a.c_PactError, 3, ts_who1 K a.c_NoHelper)]) (Wout := fun _ _ _ _ => False) rfl rfl sc_refused.nd takes0 (fun W pn xe tk _ => (pss_one (ps_expr (pe_methNAt (ks := ["side"]) (pv 0) T.cl_Pacts T.m_Pacts_errors (ok_Pacts_errorsX T) (hr.mono (by decide)) T.KN_Pacts_errors_2 (fun σ => passAt tk σ) (pa_cons (pv 1) pa_nil) (pk_cons pe_int pk_nil))))) (HdN.cons ⟨rfl, by decide, Or.inl T.g_PactError⟩ rfl rfl (fun z oz cls d pn hz hf => (pss_one (ps_expr (pe_bm PySem.F.plainAttrs_list PySem.F.slot_list_append PySem.F.type_list_append mt_append (pv 2) (pa_cons (pe_and (pe_callB (call_isD hz hf) (by rfl) T.z_isinstance (by decide +kernel) (pa_cons (pv 3) (pa_cons (pe_glob (v := .ref a.c_NoHelper) rfl T.g_NoHelper rfl) pa_nil))) (pe_and (pe_callB (call_isD hz hf) (by rfl) T.z_isinstance (by decide +kernel) (pa_cons (pv 3) (pa_cons (pe_bltn (v := .ty "ValueError") (by rfl) T.z_ValueError (by decide +kernel) rfl) pa_nil))) (pe_one (pe_cmpR op_eq (pe_xf T.xf_NoHelper T.n_NoHelper_name hz hf (pv 3)) (pv 1) (nomark _))))) pa_nil))))) HdN.nil))
      (pss_one (ps_ret (pe_cmpR (op_eqD hr.units) (pv 2) (pe_lst (pa_cons pe_bl (pa_cons pe_bl pa_nil))) (nomark _))))))), ?_⟩
    refine ⟨by show 0 ≤ sizeLine; decide, fun L hL => ?_⟩
    have s0 : Same H (upd H L (.lst [])) := (Same.refl H).upd hL
    have pa0 := pa.same s0
    obtain ⟨dx, e0⟩ := pa0.ob
    refine ⟨_, rfl, p, dx, _, rfl, e0, pfs_no4, _, rfl, p, pl, hl, as, has, ps, hs, w, rfl, pa0, cr.same s0, hq, hw, fun d H1 s1 hd h1 => ?_⟩
    have hL1 := s1 _ _ (upd_same (H := H) (a := L))
    refine ⟨true, T.fe_NoHelper, fun _ z hz => ?_, fun q => Bool.noConfusion q⟩
    have et : decide (V.str w = V.str w) = true := decide_eq_true rfl
    refine ⟨_, rfl, .inl ⟨rfl, _, SqL.of hL1⟩, ?_⟩
    refine ⟨_, rfl, a.c_NoHelper, d, _, .ref a.c_NoHelper, .ref a.c_NoHelper, true, rfl, rfl, h1, excC_NoHelper T, rfl, fun u hu => hu, T.fs_NoHelper, _, rfl, ?_⟩
    refine iteT ?_
    refine ⟨_, rfl, a.c_NoHelper, d, _, .ref a.c_NoWord, .ref a.c_NoWord, false, rfl, rfl, h1, excC_NoHelper T, rfl, fun u hu => hu, T.fx_NoHelper, _, rfl, _, rfl, ?_⟩
    refine iteT ?_
    refine ⟨_, rfl, rfl, rfl, d, _, _, rfl, h1, rfl, _, rfl, rfl, ?_⟩
    refine ⟨L, _, _, rfl, rfl, hL1, by show 0 < sizeLine; decide, ?_⟩
    rw [et]
    have s2 : Same H (upd H1 L (.lst ([] ++ [.bl true]))) := (s0.trans s1).upd hL
    have pa2 := pa.same s2
    have cr2 := cr.same s2
    have hL2 : (upd H1 L (.lst ([] ++ [.bl true]))) L = some (.lst [.bl true]) := upd_same
    show _
    generalize (upd H1 L (.lst ([] ++ [.bl true]))) = H2 at s2 pa2 cr2 hL2
    obtain ⟨dx2, e2⟩ := pa2.ob
    refine ⟨_, rfl, p, dx2, _, rfl, e2, pfs_er, _, rfl, rfl, p, pl, hl, as, has, ps, hs, w, 0, rfl, pa2, cr2, hq, hw, fun d3 H3 s3 hd3 h3 => ?_⟩
    have hL3 := s3 _ _ hL2
    refine ⟨true, T.fe_NoHelper, fun _ z3 hz3 => ?_, fun q => Bool.noConfusion q⟩
    refine ⟨_, rfl, .inl ⟨rfl, _, SqL.of hL3⟩, ?_⟩
    refine ⟨_, rfl, a.c_NoHelper, d3, _, .ref a.c_NoHelper, .ref a.c_NoHelper, true, rfl, rfl, h3, excC_NoHelper T, rfl, fun u hu => hu, T.fs_NoHelper, _, rfl, ?_⟩
    refine iteT ?_
    refine ⟨_, rfl, a.c_NoHelper, d3, _, .ty "ValueError", .type "ValueError", true, rfl, rfl, h3, excC_NoHelper T, rfl, fun u hu => hu, T.fv_NoHelper, _, rfl, ?_⟩
    refine iteT ?_
    refine ⟨_, rfl, rfl, rfl, d3, _, _, rfl, h3, rfl, _, rfl, rfl, ?_⟩
    refine ⟨L, _, _, rfl, rfl, hL3, by show 1 < sizeLine; decide, ?_⟩
    rw [et]
    have s4 : Same H (upd H3 L (.lst ([.bl true] ++ [.bl true]))) := (s2.trans s3).upd hL
    have hL4 : (upd H3 L (.lst ([.bl true] ++ [.bl true]))) L = some (.lst [.bl true, .bl true]) := upd_same
    generalize (upd H3 L (.lst ([.bl true] ++ [.bl true]))) = H4 at s4 hL4
    refine ⟨_, rfl, by show 2 ≤ sizeLine; decide, fun M hM => ?_⟩
    have nLM : L ≠ M := ne_of_none hL4 hM
    refine ⟨.list [.bool true, .bool true], .list [.bool true, .bool true], .lst (SqL.of ((upd_ne nLM).trans hL4)) (.cons (.bl _) (.cons (.bl _) .nil)), .lst (SqL.of upd_same) (.cons (.bl _) (.cons (.bl _) .nil)), by decide +kernel, by decide +kernel, ?_⟩
    have eq : PyData.eqv (.list [.bool true, .bool true]) (.list [.bool true, .bool true]) = true := by decide +kernel
    rw [eq]
    exact kk _ (s4.trans ((Same.refl H4).upd hM))

open My (Hr)
/-! ### when data of pairs and helpers are equal -/
theorem beq_dec {α : Type} [BEq α] [LawfulBEq α] [DecidableEq α] (a b : α) : (a == b) = decide (a = b) := by
  by_cases h : a = b
  · rw [decide_eq_true h, h]
    exact beq_self_eq_true b
  · rw [decide_eq_false h]
    exact beq_eq_false_iff_ne.mpr h
theorem prD_eqv (p q : My.Pr) : PyData.eqv (prD p) (prD q) = decide (p = q) := by
  obtain ⟨p1, p2, p3⟩ := p
  obtain ⟨q1, q2, q3⟩ := q
  simp [prD, PyData.eqv, PyData.eqvAll, beq_dec]
theorem all_eqv {α : Type} [DecidableEq α] {f : α → PyData} (h : ∀ a b, PyData.eqv (f a) (f b) = decide (a = b)) : ∀ xs ys : List α, PyData.eqvAll (xs.map f) (ys.map f) = decide (xs = ys)
  | [], [] => by simp [PyData.eqvAll]
  | [], _ :: _ => by simp [PyData.eqvAll]
  | _ :: _, [] => by simp [PyData.eqvAll]
  | x :: xs, y :: ys => by
    simp [PyData.eqvAll, h, all_eqv h xs ys]
theorem str_eqv (s t : Str) : PyData.eqv (PyData.str s) (PyData.str t) = decide (s = t) := by simp [PyData.eqv, beq_dec]
theorem hrD_eqv (x y : Hr) : PyData.eqv (hrD x) (hrD y) = decide (x = y) := by
  obtain ⟨x1, x2, x3, x4, x5⟩ := x
  obtain ⟨y1, y2, y3, y4, y5⟩ := y
  have h3 := all_eqv str_eqv x3 y3
  have h5 := all_eqv str_eqv x5 y5
  simp [hrD, PyData.eqv, PyData.eqvAll, beq_dec, h3, h5]
theorem prs_eqv (ps qs : List My.Pr) : PyData.eqv (.list (ps.map prD)) (.list (qs.map prD)) = decide (ps = qs) := by
  rw [PyData.eqv]
  exact all_eqv prD_eqv ps qs
theorem hrs_eqv (hs ks : List Hr) : PyData.eqv (.list (hs.map hrD)) (.list (ks.map hrD)) = decide (hs = ks) := by
  rw [PyData.eqv]
  exact all_eqv hrD_eqv hs ks
/-! ### == of Pacts -/
theorem prs_data {ps : List My.Pr} (ok : My.PairsOk ps) : SeqAt.shaped (.list (ps.map prD)) = true := by
  have lay1 : (PyData.list (ps.map prD)).canLay0 = true := by rw [PyData.canLay0]; exact all_lay prD ps fun z hz => prD_lay ⟨name_wok (ok.nm z hz).1, name_wok (ok.nm z hz).2⟩
  have dp1 := all_deep prD 1 (fun z => by rw [prD_deep]; omega) ps
  exact shaped_of lay1 (by simp only [PyData.depth]; omega)
theorem hrs_data {hs : List Hr} (ok : ∀ x, x ∈ hs → HrOk x) : SeqAt.shaped (.list (hs.map hrD)) = true := by
  have lay1 : (PyData.list (hs.map hrD)).canLay0 = true := by rw [PyData.canLay0]; exact all_lay hrD hs fun z hz => hrD_lay (ok z hz)
  have dp1 := all_deep hrD 3 hrD_deep hs
  exact shaped_of lay1 (by simp only [PyData.depth]; omega)
theorem cls_Pacts (T : Txt K mg a) : CmpC K a.c_Pacts a.f_Pacts_eq := ⟨T.m_Pacts_eq.at_, T.pn_1, T.m_Pacts_eq.fn, T.pn_2⟩
theorem dec_Pacts (T : Txt K mg a) : DecC K a.c_Pacts := ⟨T.pn_3, T.pn_4, T.pn_5, T.pn_6⟩
def sp_Peq (C : Addr) : Sp := fun vs H Q _ => ∃ (p pl hl q ql kl : Addr) (as has bs kas : List Addr) (ps qs : List My.Pr) (hs ks : List Hr), vs = [.ref p, .ref q] ∧ PactsAt C H p pl hl as ps ∧ CrewAt H hl has hs ∧ PactsAt C H q ql kl bs qs ∧ CrewAt H kl kas ks ∧
  My.PairsOk ps ∧ My.PairsOk qs ∧ (∀ x, x ∈ hs → HrOk x) ∧ (∀ x, x ∈ ks → HrOk x) ∧ Q (.bl (decide (ps = qs) && decide (hs = ks))) H
theorem ok_Pacts_eq (T : Txt K mg a) : FnOk P w K mg base CX0 1 a.f_Pacts_eq a.d_Pacts_eq ["self", "other"] (sp_Peq a.c_Pacts) := by
  refine T.F_Pacts_eq.ok sc_Pacts_eq (fun vs H Q E h => ?_) (fun cdv A outer s H vs Q E hr h => ?_)
  · obtain ⟨p, pl, hl, q, ql, kl, as, has, bs, kas, ps, qs, hs, ks, rfl, _⟩ := h
    rfl
  · obtain ⟨p, pl, hl, q, ql, kl, as, has, bs, kas, ps, qs, hs, ks, rfl, pa, cr, qa, dr, pok, qok, hok, kok, kk⟩ := h
    refine ⟨_, (pss_one (ps_ret (pe_and (pe_callB call_isi (by rfl) T.z_isinstance (by decide +kernel) (pa_cons (pv 1) (pa_cons (pe_glob (v := .ref a.c_Pacts) rfl T.g_Pacts rfl) pa_nil))) (pe_and (pe_cmpR (op_eqD hr.units) (pe_fld (pv 0) rfl) (pe_fld (pv 1) rfl) (nomark _)) (pe_one (pe_cmpR (op_eqD hr.units) (pe_fld (pv 0) rfl) (pe_fld (pv 1) rfl) (nomark _))))))), ?_⟩
    obtain ⟨dx, e0⟩ := pa.ob
    obtain ⟨dy, f0⟩ := qa.ob
    refine ⟨_, rfl, _, _, _, _, true, rfl, .own _, .base (.ins f0 T.cl_Pacts T.pn_7 T.fg T.ft T.pn_2), T.pn_8, true, rfl, ?_⟩
    refine iteT ?_
    refine ⟨_, rfl, _, _, _, _, _, rfl, e0, T.cl_Pacts, T.n_Pacts__pairs, pfs_p, _, rfl, _, _, _, _, _, rfl, f0, T.cl_Pacts, T.n_Pacts__pairs, pfs_p, ?_⟩
    refine ⟨.list (ps.map prD), .list (qs.map prD), .lst (SqL.of pa.lp) (dp_prs pa.ps), .lst (SqL.of qa.lp) (dp_prs qa.ps), prs_data pok, prs_data qok, ?_⟩
    rw [prs_eqv]
    refine ⟨_, rfl, ?_⟩
    refine iteD (fun c1 => ?_) (fun c1 => ?_)
    · refine ⟨_, rfl, _, _, _, _, _, rfl, e0, T.cl_Pacts, T.n_Pacts__helpers, pfs_h, _, rfl, _, _, _, _, _, rfl, f0, T.cl_Pacts, T.n_Pacts__helpers, pfs_h, ?_⟩
      refine ⟨.list (hs.map hrD), .list (ks.map hrD), .lst (SqL.of cr.lh) (dp_hrs cr.hs), .lst (SqL.of dr.lh) (dp_hrs dr.hs), hrs_data hok, hrs_data kok, ?_⟩
      rw [hrs_eqv]
      rw [decide_eq_true c1, Bool.true_and] at kk
      exact kk
    · rw [decide_eq_false c1, Bool.false_and] at kk
      exact kk
def sp_Pno (C : Addr) : Sp := fun vs H Q _ => ∃ (p pl hl : Addr) (as : List Addr) (ps : List My.Pr) (z : V), vs = [.ref p, z] ∧ PactsAt C H p pl hl as ps ∧ DecV H z ∧ Q (.bl false) H
theorem ok_Pacts_eqNo (T : Txt K mg a) : FnOk P w K mg base CX0 1 a.f_Pacts_eq a.d_Pacts_eq ["self", "other"] (sp_Pno a.c_Pacts) := by
  refine T.F_Pacts_eq.ok sc_Pacts_eq (fun vs H Q E h => ?_) (fun cdv A outer s H vs Q E hr h => ?_)
  · obtain ⟨p, pl, hl, as, ps, z, rfl, _⟩ := h
    rfl
  · obtain ⟨p, pl, hl, as, ps, z, rfl, pa, dec, kk⟩ := h
    refine ⟨_, (pss_one (ps_ret (pe_and (pe_callB call_isi (by rfl) T.z_isinstance (by decide +kernel) (pa_cons (pv 1) (pa_cons (pe_glob (v := .ref a.c_Pacts) rfl T.g_Pacts rfl) pa_nil))) (pe_and (pe_cmpR (op_eqD hr.units) (pe_fld (pv 0) rfl) (pe_fld (pv 1) rfl) (nomark _)) (pe_one (pe_cmpR (op_eqD hr.units) (pe_fld (pv 0) rfl) (pe_fld (pv 1) rfl) (nomark _))))))), ?_⟩
    have ty : ∃ t : Value, TyX K H z t ∧ PySem.W.kitOne K t (.ref a.c_Pacts) = some false := by
      rcases dec with rfl | ⟨i, rfl⟩ | ⟨t, rfl⟩ | ⟨l, xs, rfl, hl⟩
      · exact ⟨_, .base .non, T.pn_9⟩
      · exact ⟨_, .base (.int i), T.pn_10⟩
      · exact ⟨_, .base (.str t), T.pn_11⟩
      · exact ⟨_, .base (.lst hl), T.pn_12⟩
    obtain ⟨t, ty, e⟩ := ty
    refine ⟨_, rfl, _, _, _, _, false, rfl, .own _, ty, e, false, rfl, ?_⟩
    refine iteF ?_
    exact kk

open My (Hr)
/-! ### one helper otherwise -/
theorem cutV_some (xs : List V) (n : Nat) (h : n ≤ xs.length) : cutV xs none (some (n : Int)) = xs.take n := by
  unfold cutV
  have e0 : HT.sIx xs.length 0 none = 0 := rfl
  have e1 : HT.sIx xs.length xs.length (some (n : Int)) = min n xs.length := HT.sIx_nat _ _ n
  rw [e0, e1, List.drop_zero, Nat.sub_zero, Nat.min_eq_left h]
theorem cutV_from (xs : List V) (n : Nat) : cutV xs (some (n : Int)) none = xs.drop n := by
  unfold cutV
  have e0 : HT.sIx xs.length 0 (some (n : Int)) = min n xs.length := HT.sIx_nat _ _ n
  have e1 : HT.sIx xs.length xs.length none = xs.length := rfl
  rw [e0, e1]
  by_cases h : n ≤ xs.length
  · rw [Nat.min_eq_left h]
    exact List.take_of_length_le (by rw [List.length_drop]; omega)
  · rw [Nat.min_eq_right (by omega), List.drop_of_length_le (Nat.le_refl _), List.drop_of_length_le (by omega)]
    simp
theorem cutV_last (xs : List V) : cutV xs none (some (-1)) = xs.dropLast := by
  unfold cutV
  have e0 : HT.sIx xs.length 0 none = 0 := rfl
  have e1 : HT.sIx xs.length xs.length (some (-1)) = xs.length - 1 := by
    show (if (-1 : Int) < 0 then ((-1 : Int) + (xs.length : Int)).toNat else min (-1 : Int).toNat xs.length) = xs.length - 1
    rw [if_pos (by decide)]
    omega
  rw [e0, e1, List.drop_zero, Nat.sub_zero, List.dropLast_eq_take]
theorem flip_at (t : Str) : atI [V.str "lent", V.str "given"] (if decide (V.str t = V.str "lent") = true then 1 else 0) = some (.str (My.flipT t)) := by
  unfold My.flipT
  by_cases c : t = "lent"
  · subst c
    rw [if_pos rfl, if_pos (by decide)]
    rfl
  · rw [if_neg c, if_neg (by simpa using c)]
    rfl
theorem pactB_in {x : Hr} (h1 : My.nameB x.name = true) (h2 : x.side = 0 ∨ x.side = 1) (h3 : My.takesB x.takes = true) (h4 : My.throwsB x.throws = true) : My.pactB x = true := by
  unfold My.pactB My.sideB
  rw [h1, h3, h4, decide_eq_true h2]
  rfl
def sp_row (K : PySem.W.Frag) : Sp := fun vs H Q _ => ∃ (b g l h : Addr) (n : Int) (ps : List My.Pr) (hs : List Hr) (x : Hr), vs = [.ref b, .ref h] ∧ BoxAt H b g l n ∧ 0 ≤ n ∧ n < 8000000 ∧ HrAt H h x ∧ HrOk x ∧ My.pactB x = true ∧
  ∀ (h' : Addr) (x' : Hr) (n' : Int) (H' : Hp), HrAt H' h' x' → HrOk x' → My.pactB x' = true → x' ≠ x → x'.name = x.name → x'.side = x.side → (∀ t, t ∈ x'.throws → t ∈ x.throws) → n ≤ n' → n' ≤ n + 2 → BoxAt H' b g l n' → Keeps [b, g] H H' → Q (.ref h') H'
theorem ok_row_otherwise (T : Txt K mg a) : FnOk P w K mg base CX0 3 a.f_row_otherwise a.d_row_otherwise ["_law_box_here", "_law_helper"] (sp_row K) := by
  refine T.F_row_otherwise.ok sc_row_otherwise (fun vs H Q E h => ?_) (fun cdv A outer s H vs Q E hr h => ?_)
  · obtain ⟨b, g, l, h, n, ps, hs, x, rfl, _⟩ := h
    rfl
  · obtain ⟨b, g, l, h, n, ps, hs, x, rfl, bx, n0, n1, hx, xok, pb, kk⟩ := h
    refine ⟨_, (pss_cons (ps_asg (pv 1) (pg_tup (by rfl) (pgs_cons (pg_name (i := 2) sc_row_otherwise.nd rfl (Or.inl rfl)) (pgs_cons (pg_name (i := 3) sc_row_otherwise.nd rfl (Or.inl rfl)) (pgs_cons (pg_name (i := 4) sc_row_otherwise.nd rfl (Or.inl rfl)) (pgs_cons (pg_name (i := 5) sc_row_otherwise.nd rfl (Or.inl rfl)) (pgs_cons (pg_name (i := 6) sc_row_otherwise.nd rfl (Or.inl rfl)) pgs_nil)))))))
      (pss_cons (ps_set (i := 7) sc_row_otherwise.nd rfl (Or.inl rfl) (pe_call (ok_take T) (hr.mono (by decide)) rfl T.g_take T.k_take T.B_take .nil pass0 (pa_cons (pv 0) (pa_cons pe_int pa_nil))))
      (C8.pss_cut (ps_if (PW.pt (pw_and (pt_cmpR op_lt (pv 7) pe_int (nomark _)) (pw_and1 (pt_cmpR op_gt (pe_callB call_len_seq (by rfl) T.z_len (by decide +kernel) (pa_cons (pv 4) pa_nil)) pe_int (nomark _))))) (pss_cons (ps_set (i := 8) sc_row_otherwise.nd rfl (Or.inl rfl) (pe_call (ok_take T) (hr.mono (by decide)) rfl T.g_take T.k_take T.B_take .nil pass0 (pa_cons (pv 0) (pa_cons (pe_callB call_len_seq (by rfl) T.z_len (by decide +kernel) (pa_cons (pv 4) pa_nil)) pa_nil))))
      (pss_cons (ps_set (i := 9) sc_row_otherwise.nd rfl (Or.inl rfl) (pe_ix ix_list (pe_lst (pa_cons pe_str (pa_cons pe_str pa_nil))) (pe_callTy call_int1 (by rfl) T.z_int (by decide +kernel) (pa_cons (pe_cmpR op_eq (pe_ix ix_tup (pv 4) (pv 8) (fun _ _ => rfl)) pe_str (nomark _)) pa_nil)) (fun _ _ => rfl)))
      (pss_one (ps_ret (pe_tup (pa_cons (pv 2) (pa_cons (pv 3) (pa_cons (pe_op op_catF (pe_op op_catF (pe_slice sl_tupF (pv 4) po_none (po_some (pv 8))) (pe_ix ix_list (pe_lst (pa_cons (pe_tupF pa_nil) (pa_cons (pe_tupF (pa_cons (pv 9) pa_nil)) pa_nil))) (pv 7) (fun _ _ => rfl))) (pe_slice sl_tupF (pv 4) (po_some (pe_op op_add (pv 8) pe_int)) po_none)) (pa_cons (pv 5) (pa_cons (pv 6) pa_nil)))))))))) pss_nil)
      (C8.pss_cut (ps_if (PW.pt (pw_and (pt_cmpR op_eq (pv 7) pe_int (nomark _)) (pw_and1 (pt_cmpR op_gt (pe_callB call_len_seq (by rfl) T.z_len (by decide +kernel) (pa_cons (pv 6) pa_nil)) pe_int (nomark _))))) (pss_one (ps_ret (pe_tup (pa_cons (pv 2) (pa_cons (pv 3) (pa_cons (pv 4) (pa_cons (pv 5) (pa_cons (pe_revTF (pv 6)) pa_nil)))))))) pss_nil)
      (C8.pss_cut (ps_if (PW.pt (pw_and (pt_cmpR op_eq (pv 7) pe_int (nomark _)) (pw_and1 (pt_cmpR op_gt (pe_callB call_len_seq (by rfl) T.z_len (by decide +kernel) (pa_cons (pv 6) pa_nil)) pe_int (nomark _))))) (pss_one (ps_ret (pe_tup (pa_cons (pv 2) (pa_cons (pv 3) (pa_cons (pv 4) (pa_cons (pv 5) (pa_cons (pe_slice sl_tupF (pv 6) po_none (po_some (pe_un un_neg pe_int))) pa_nil)))))))) pss_nil)
      (pss_one (ps_ret (pe_tup (pa_cons (pv 2) (pa_cons (pv 3) (pa_cons (pv 4) (pa_cons (pe_not (pv 5)) (pa_cons (pv 6) pa_nil))))))))))))), ?_⟩
    obtain ⟨tk, th, e, ⟨otk, dtk, etk⟩, oth, dth, eth⟩ := id hx
    refine ⟨_, rfl, h, _, rfl, SqT.of e, rfl, ?_⟩
    refine ⟨_, _, rfl, _, _, rfl, _, _, rfl, _, _, rfl, _, _, rfl, rfl, ?_⟩
    refine ⟨_, rfl, b, g, l, n, 4, rfl, bx, n0, by omega, by decide, by decide, fun way H1 w0 w1 bx1 kp1 => ?_⟩
    have t1 := tupF_keep (xs := x.takes.map V.str) ⟨otk, dtk, etk⟩ kp1 (box_notup bx)
    have u1 := tupF_keep (xs := x.throws.map V.str) ⟨oth, dth, eth⟩ kp1 (box_notup bx)
    refine ⟨fun σ H2 => Blk (σ = [some (.ref b), some (.ref h), some (.str x.name), some (.int x.side), some (.ref tk), some (.bl x.gives), some (.ref th), some (.int way), none, none] ∧ H2 = H1), ?_, ?_⟩
    · walk_at "rd"
      refine iteD (fun c1 => ?_) (fun c1 => ?_)
      rotate_left
      · refine iteF ?_
        exact Blk.of ⟨rfl, rfl⟩
      · have el : (((x.takes.map V.str).length : Nat) : Int) = (x.takes.length : Int) := by rw [List.length_map]
        refine ⟨_, rfl, tk, _, rfl, .inr t1.seq, ?_⟩
        walk_at "rd"
        rw [el]
        refine iteD (fun c2 => ?_) (fun c2 => ?_)
        rotate_left
        · exact Blk.of ⟨rfl, rfl⟩
        · refine ⟨_, rfl, _, rfl, tk, _, rfl, .inr t1.seq, ?_⟩
          rw [el]
          have tl := xok.tl
          refine ⟨b, g, l, n + 1, _, rfl, bx1, by omega, by omega, by omega, log_le (by omega), fun at_ H2 a0 a1 bx2 kp2 => ?_⟩
          have t2 := tupF_keep t1 kp2 (box_notup bx1)
          have u2 := tupF_keep u1 kp2 (box_notup bx1)
          obtain ⟨an, rfl⟩ : ∃ m : Nat, at_ = m := ⟨at_.toNat, by omega⟩
          have hal : an < x.takes.length := by omega
          obtain ⟨tt, htt⟩ : ∃ tt, x.takes[an]? = some tt := ⟨_, List.getElem?_eq_getElem hal⟩
          have htm := List.mem_of_getElem? htt
          have tkB := (pactB_out pb).2.2.1
          have ht2 := (My.takesB_iff.mp tkB).2 tt htm
          refine ⟨by show 2 ≤ sizeLine; decide, fun G hG => ?_⟩
          refine ⟨_, rfl, _, rfl, ?_⟩
          have s23 : Same H2 (upd H2 G (.lst [.str "lent", .str "given"])) := (Same.refl H2).upd hG
          have t3 := t2.same s23
          have u3 := u2.same s23
          have bx3 := bx2.upd (o := .lst [.str "lent", .str "given"]) hG
          have hG3 : (upd H2 G (.lst [.str "lent", .str "given"])) G = some (.lst [.str "lent", .str "given"]) := upd_same
          have k03 : Keeps [b, g] H (upd H2 G (.lst [.str "lent", .str "given"])) := (kp1.trans kp2).trans (Same.keeps s23)
          generalize (upd H2 G (.lst [.str "lent", .str "given"])) = H3 at s23 t3 u3 bx3 hG3 k03
          refine ⟨_, _, _, _, rfl, rfl, t3.seq, at_of (j := an) rfl (by rw [List.getElem?_map, htt]; rfl), ?_⟩
          refine ⟨rfl, .inr ⟨_, rfl, ?_⟩⟩
          refine ⟨_, _, _, _, rfl, rfl, SqL.of hG3, flip_at tt, ?_⟩
          -- the tuple
          refine ⟨_, rfl, _, rfl, ?_⟩
          refine ⟨_, rfl, _, rfl, ?_⟩
          refine ⟨_, rfl, tk, _, rfl, t3, fun p1 H4 s34 tp1 => ?_⟩
          have lx : an ≤ (x.takes.map V.str).length := by rw [List.length_map]; omega
          rw [cutV_some _ _ lx, ← List.map_take] at tp1
          refine ⟨by show 0 ≤ sizeLine; decide, fun e0 ob0 he0 d0 => ?_⟩
          have s45 : Same H4 (upd H4 e0 (.frz ob0 (.tup []))) := (Same.refl H4).upd he0
          have te0 : TupF (upd H4 e0 (.frz ob0 (.tup []))) e0 [] := ⟨ob0, d0, upd_same⟩
          generalize (upd H4 e0 (.frz ob0 (.tup []))) = H5 at s45 te0
          refine ⟨_, rfl, by show 1 ≤ sizeLine; decide, fun e1 ob1 he1 d1 => ?_⟩
          have s56 : Same H5 (upd H5 e1 (.frz ob1 (.tup [.str (My.flipT tt)]))) := (Same.refl H5).upd he1
          have te1 : TupF (upd H5 e1 (.frz ob1 (.tup [.str (My.flipT tt)]))) e1 [.str (My.flipT tt)] := ⟨ob1, d1, upd_same⟩
          generalize (upd H5 e1 (.frz ob1 (.tup [.str (My.flipT tt)]))) = H6 at s56 te1
          refine ⟨by show 2 ≤ sizeLine; decide, fun G2 hG2 => ?_⟩
          have s67 : Same H6 (upd H6 G2 (.lst [.ref e0, .ref e1])) := (Same.refl H6).upd hG2
          have hG27 : (upd H6 G2 (.lst [.ref e0, .ref e1])) G2 = some (.lst [.ref e0, .ref e1]) := upd_same
          have te0 := (te0.same s56).same s67
          have te1 := te1.same s67
          generalize (upd H6 G2 (.lst [.ref e0, .ref e1])) = H7 at s67 hG27 te0 te1
          have s37 := ((s34.trans s45).trans s56).trans s67
          obtain ⟨m, ms, hm, tm, gm⟩ : ∃ (m : Addr) (ms : List Str), atI [V.ref e0, .ref e1] way = some (.ref m) ∧ TupF H7 m (ms.map V.str) ∧ ((way = 0 ∧ ms = []) ∨ (way = 1 ∧ ms = [My.flipT tt])) := by
            have : way = 0 ∨ way = 1 := by omega
            rcases this with rfl | rfl
            · exact ⟨e0, [], rfl, te0, .inl ⟨rfl, rfl⟩⟩
            · exact ⟨e1, [My.flipT tt], rfl, te1, .inr ⟨rfl, rfl⟩⟩
          have msl : ms.length ≤ 1 := by rcases gm with ⟨_, rfl⟩ | ⟨_, rfl⟩ <;> simp
          refine ⟨_, rfl, _, _, _, _, rfl, rfl, SqL.of hG27, hm, ?_⟩
          refine ⟨_, _, _, _, rfl, rfl, ((tp1.same s45).same s56).same s67, tm, by rw [List.length_map, List.length_map, List.length_take]; exact Nat.le_of_lt (small (by omega)), fun p2 H8 s78 tp2 => ?_⟩
          have s38 := s37.trans s78
          refine ⟨_, rfl, _, rfl, _, _, rfl, rfl, _, rfl, tk, _, rfl, t3.same s38, fun p3 H9 s89 tp3 => ?_⟩
          have e3 : cutV (x.takes.map V.str) (some ((an : Int) + 1)) none = (x.takes.drop (an + 1)).map V.str := by
            have := cutV_from (x.takes.map V.str) (an + 1)
            rw [List.map_drop, ← this]
            rfl
          rw [e3] at tp3
          rw [← List.map_append] at tp2
          refine ⟨_, _, _, _, rfl, rfl, tp2.same s89, tp3, by rw [List.length_map, List.length_map, List.length_append, List.length_take, List.length_drop]; exact Nat.le_of_lt (small (by omega)), fun p4 H10 s910 tp4 => ?_⟩
          rw [← List.map_append] at tp4
          refine ⟨_, rfl, _, rfl, by show 5 ≤ sizeLine; decide, fun h' hh' => ?_⟩
          have s310 := (s38.trans s89).trans s910
          have sF : Same H3 (upd H10 h' (.tup [.str x.name, .int x.side, .ref p4, .bl x.gives, .ref th])) := s310.trans ((Same.refl H10).upd hh')
          have tkN : My.takesB (x.takes.take an ++ ms ++ x.takes.drop (an + 1)) = true ∧ x.takes.take an ++ ms ++ x.takes.drop (an + 1) ≠ x.takes := by
            rcases gm with ⟨_, rfl⟩ | ⟨_, rfl⟩
            · rw [List.append_nil]
              exact ⟨My.takes_less tkB, My.less_ne hal⟩
            · exact ⟨My.takes_rep tkB hal (My.flipT_in tt), My.rep_ne htt (My.flipT_ne ht2)⟩
          obtain ⟨nB, sB, _, hB⟩ := pactB_out pb
          have thO := takesB_len tkN.1
          refine kk h' { x with takes := x.takes.take an ++ ms ++ x.takes.drop (an + 1) } (n + 1 + 1) _ ⟨p4, th, upd_same, tp4.same ((Same.refl H10).upd hh'), u3.same sF⟩ ⟨xok.nm, Nat.le_trans thO (by decide), fun t ht => lent_wok t ((My.takesB_iff.mp tkN.1).2 t ht), xok.hl, xok.th⟩ (pactB_in nB sB tkN.1 hB) (fun c => tkN.2 (congrArg Hr.takes c)) rfl rfl (fun t ht => ht) (by omega) (by omega) (bx3.same sF) (k03.trans (Same.keeps sF))
    · rintro σ H2 hB
      obtain ⟨rfl, rfl⟩ := hB.out
      refine ⟨fun σ H3 => Blk (σ = [some (.ref b), some (.ref h), some (.str x.name), some (.int x.side), some (.ref tk), some (.bl x.gives), some (.ref th), some (.int way), none, none] ∧ H3 = H2), ?_, ?_⟩
      · have el : (((x.throws.map V.str).length : Nat) : Int) = (x.throws.length : Int) := by rw [List.length_map]
        obtain ⟨nB, sB, tB, hB⟩ := pactB_out pb
        walk_at "rd"
        refine iteD (fun c1 => ?_) (fun c1 => ?_)
        rotate_left
        · refine iteF ?_
          exact Blk.of ⟨rfl, rfl⟩
        · refine ⟨_, rfl, th, _, rfl, .inr u1.seq, ?_⟩
          walk_at "rd"
          rw [el]
          refine iteD (fun c2 => ?_) (fun c2 => ?_)
          rotate_left
          · exact Blk.of ⟨rfl, rfl⟩
          · refine ⟨_, rfl, _, rfl, _, rfl, _, rfl, _, rfl, th, _, rfl, u1, fun p3 H3 s23 tp3 => ?_⟩
            rw [← List.map_reverse] at tp3
            refine ⟨by show 5 ≤ sizeLine; decide, fun h' hh' => ?_⟩
            have sF : Same H2 (upd H3 h' (.tup [.str x.name, .int x.side, .ref tk, .bl x.gives, .ref p3])) := s23.trans ((Same.refl H3).upd hh')
            have nd := (My.throwsB_nodup hB).2
            exact kk h' { x with throws := x.throws.reverse } (n + 1) _ ⟨tk, p3, upd_same, t1.same sF, tp3.same ((Same.refl H3).upd hh')⟩ ⟨xok.nm, xok.tl, xok.tk, by show x.throws.reverse.length ≤ 8; rw [List.length_reverse]; exact xok.hl, fun t ht => xok.th t (List.mem_reverse.mp ht)⟩ (pactB_in nB sB tB (My.throws_rev hB))
              (fun c => My.rev_ne nd (by omega) (congrArg Hr.throws c)) rfl rfl (fun t ht => List.mem_reverse.mp ht) (by omega) (by omega) (bx1.same sF) (kp1.trans (Same.keeps sF))
      · rintro σ H3 hB
        obtain ⟨rfl, rfl⟩ := hB.out
        refine ⟨fun σ H3' => Blk (σ = [some (.ref b), some (.ref h), some (.str x.name), some (.int x.side), some (.ref tk), some (.bl x.gives), some (.ref th), some (.int way), none, none] ∧ H3' = H3), ?_, ?_⟩
        · have el : (((x.throws.map V.str).length : Nat) : Int) = (x.throws.length : Int) := by rw [List.length_map]
          obtain ⟨nB, sB, tB, hB⟩ := pactB_out pb
          walk_at "rd"
          refine iteD (fun c1 => ?_) (fun c1 => ?_)
          rotate_left
          · refine iteF ?_
            exact Blk.of ⟨rfl, rfl⟩
          · refine ⟨_, rfl, th, _, rfl, .inr u1.seq, ?_⟩
            walk_at "rd"
            rw [el]
            refine iteD (fun c2 => ?_) (fun c2 => ?_)
            rotate_left
            · exact Blk.of ⟨rfl, rfl⟩
            · refine ⟨_, rfl, _, rfl, _, rfl, _, rfl, _, rfl, 1, rfl, _, rfl, th, _, rfl, u1, fun p3 H4 s34 tp3 => ?_⟩
              have e3 : cutV (x.throws.map V.str) none (some (-1)) = (x.throws.take (x.throws.length - 1)).map V.str := by
                rw [cutV_last, ← List.map_dropLast, List.dropLast_eq_take]
              have tp3' : TupF H4 p3 (cutV (x.throws.map V.str) none (some (-1))) := tp3
              rw [e3] at tp3'
              refine ⟨by show 5 ≤ sizeLine; decide, fun h' hh' => ?_⟩
              have sF : Same H3 (upd H4 h' (.tup [.str x.name, .int x.side, .ref tk, .bl x.gives, .ref p3])) := s34.trans ((Same.refl H4).upd hh')
              refine kk h' { x with throws := x.throws.take (x.throws.length - 1) } (n + 1) _ ⟨tk, p3, upd_same, t1.same sF, tp3'.same ((Same.refl H4).upd hh')⟩ ⟨xok.nm, xok.tl, xok.tk, by show (x.throws.take _).length ≤ 8; rw [List.length_take]; have := xok.hl; omega, fun t ht => xok.th t (List.mem_of_mem_take ht)⟩ (pactB_in nB sB tB (My.throws_less hB _))
                (fun c => ?_) rfl rfl (fun t ht => List.mem_of_mem_take ht) (by omega) (by omega) (bx1.same sF) (kp1.trans (Same.keeps sF))
              have := congrArg List.length (congrArg Hr.throws c)
              simp at this
              omega
        · rintro σ H4 hB
          obtain ⟨rfl, rfl⟩ := hB.out
          obtain ⟨nB, sB, tB, hB⟩ := pactB_out pb
          refine ⟨_, rfl, _, rfl, _, rfl, _, rfl, x.gives, rfl, _, rfl, by show 5 ≤ sizeLine; decide, fun h' hh' => ?_⟩
          have sF : Same H4 (upd H4 h' (.tup [.str x.name, .int x.side, .ref tk, .bl (!x.gives), .ref th])) := (Same.refl H4).upd hh'
          refine kk h' { x with gives := !x.gives } (n + 1) _ ⟨tk, th, upd_same, t1.same sF, u1.same sF⟩ ⟨xok.nm, xok.tl, xok.tk, xok.hl, xok.th⟩ (pactB_in nB sB tB hB) (fun c => ?_) rfl rfl (fun t ht => ht) (by omega) (by omega) (bx1.same sF) (kp1.trans (Same.keeps sF))
          have := congrArg Hr.gives c
          simp at this

open My (Hr)
/-! ### one pair otherwise -/
theorem Objs.all {α : Type} {H : Hp} {as : List Addr} {f : α → HO} {xs : List α} (o : Objs H as f xs) : AllAt (fun h x => H h = some (f x)) as xs := ⟨o.len, o.at_⟩
theorem AllAt.objs {α : Type} {H : Hp} {as : List Addr} {f : α → HO} {xs : List α} (o : AllAt (fun h x => H h = some (f x)) as xs) : Objs H as f xs := ⟨AllAt.len o, AllAt.at_ o⟩
theorem AllAt.rep {α : Type} {R : Addr → α → Prop} {as : List Addr} {xs : List α} (o : AllAt R as xs) (n : Nat) {h : Addr} {x : α} (e : R h x) : AllAt R (as.take n ++ [h] ++ as.drop (n + 1)) (My.rep xs n x) :=
  ((AllAt.take o n).append (AllAt.one e)).append (AllAt.drop o (n + 1))
theorem AllAt.two {α : Type} {R : Addr → α → Prop} {as : List Addr} {xs : List α} (o : AllAt R as xs) (n : Nat) {h k : Addr} {x y : α} (e : R h x) (f : R k y) : AllAt R (as.take n ++ [h, k] ++ as.drop (n + 2)) (My.swp2 xs n x y) :=
  ((AllAt.take o n).append ((AllAt.one e).append (AllAt.one f))).append (AllAt.drop o (n + 2))
theorem cutV_to (xs : List V) (n : Nat) : cutV xs none (some (n : Int)) = xs.take n := by
  by_cases h : n ≤ xs.length
  · exact cutV_some xs n h
  · unfold cutV
    have e0 : HT.sIx xs.length 0 none = 0 := rfl
    have e1 : HT.sIx xs.length xs.length (some (n : Int)) = min n xs.length := HT.sIx_nat _ _ n
    rw [e0, e1, List.drop_zero, Nat.sub_zero, Nat.min_eq_right (by omega), List.take_length, List.take_of_length_le (by omega)]
/-- what otherwise tells -/
structure Oth (ps : List My.Pr) (hs : List Hr) (H : Hp) (t L Lh : Addr) (as has : List Addr) (qs : List My.Pr) (ks : List Hr) : Prop where
  tup : H t = some (.tup [.ref L, .ref Lh])
  hL : H L = some (.lst (as.map V.ref))
  ob : Objs H as prO qs
  hLh : H Lh = some (.lst (has.map V.ref))
  cr : Crew H has ks
  pok : My.PairsOk qs
  cok : My.CrewOk qs ks
  hok : ∀ x, x ∈ ks → HrOk x
  ne : ¬ (qs = ps ∧ ks = hs)
theorem or2 {p : Bool} {X Z W : Prop} (hX : X) (hW : p = false → X → W) : if p = true then (if true = true then X else Z) else W := by
  cases p with
  | true => rw [if_pos rfl, if_pos rfl]; exact hX
  | false => rw [if_neg Bool.false_ne_true]; exact hW rfl hX
theorem put_at {K : PySem.W.Frag} {σ : L2.St} {i j : Nat} {L p1 p2 u : Addr} {as : List Addr} {an : Nat} {H : Hp} {R : VK} (hL : H L = some (.lst (as.map V.ref))) (h1 : H p1 = some (.lst ((as.take an).map V.ref))) (h2 : H p2 = some (.lst [.ref u])) (hz : as.length ≤ 1000)
    (σ1 : σ[i]? = some (some (.ref L))) (σ3 : σ[j]? = some (some (.int an))) (hR : ∀ (p : Addr) (H' : Hp), Same H H' → H' p = some (.lst ((as.take an ++ [u] ++ as.drop (an + 1)).map V.ref)) → R (.ref p) H') :
    rCat (V.ref p1) (V.ref p2) H fun x H1 => tSl (rSlL K) (tVar i) (tPart (tOp (rI0 fun i j => .int (i + j)) (tVar j) (tC (.int 1)))) tNoPart σ H1 fun y H2 => rCat x y H2 R := by
  refine ⟨p1, p2, _, _, rfl, rfl, h1, h2, by rw [List.length_map, List.length_take]; exact Nat.le_of_lt (small (by show _ + 1 ≤ _; omega)), fun p3 hp3 => ?_⟩
  have s5 : Same H (upd H p3 (.lst ((as.take an).map V.ref ++ [.ref u]))) := (Same.refl H).upd hp3
  have h3 : (upd H p3 (.lst ((as.take an).map V.ref ++ [.ref u]))) p3 = some (.lst ((as.take an).map V.ref ++ [.ref u])) := upd_same
  generalize (upd H p3 (.lst ((as.take an).map V.ref ++ [.ref u]))) = H5 at s5 h3
  refine ⟨_, σ1, _, σ3, _, _, rfl, rfl, _, rfl, L, _, rfl, SqL.of (s5 _ _ hL), fun p4 hp4 => ?_⟩
  have s6 : Same H5 (upd H5 p4 (.lst (cutV (as.map V.ref) (some ((an : Int) + 1)) none))) := (Same.refl H5).upd hp4
  have h4 : (upd H5 p4 (.lst (cutV (as.map V.ref) (some ((an : Int) + 1)) none))) p4 = some (.lst ((as.drop (an + 1)).map V.ref)) := by
    have e : ((an : Int) + 1) = ((an + 1 : Nat) : Int) := by omega
    rw [upd_same, e, cutV_from, List.map_drop]
  generalize (upd H5 p4 (.lst (cutV (as.map V.ref) (some ((an : Int) + 1)) none))) = H6 at s6 h4
  refine ⟨p3, p4, _, _, rfl, rfl, s6 _ _ h3, h4, by rw [List.length_append, List.length_map, List.length_take, List.length_map, List.length_drop]; exact Nat.le_of_lt (small (by show _ + 1 + _ ≤ _; omega)), fun p5 hp5 => ?_⟩
  refine hR p5 _ ((s5.trans s6).trans ((Same.refl H6).upd hp5)) ?_
  rw [upd_same, List.map_append, List.map_append]
  rfl
def sp_pairO (K : PySem.W.Frag) : Sp := fun vs H Q _ => ∃ (b g l L Lh : Addr) (n : Int) (as has : List Addr) (ps : List My.Pr) (hs : List Hr), vs = [.ref b, .ref L, .ref Lh] ∧ BoxAt H b g l n ∧ 0 ≤ n ∧ n < 8000000 ∧ H L = some (.lst (as.map V.ref)) ∧ L ∉ [b, g] ∧ Objs H as prO ps ∧ H Lh = some (.lst (has.map V.ref)) ∧ Lh ∉ [b, g] ∧ Crew H has hs ∧
  My.PairsOk ps ∧ My.CrewOk ps hs ∧ (∀ x, x ∈ hs → HrOk x) ∧ 0 < ps.length ∧ ∀ (t L' Lh' : Addr) (as' has' : List Addr) (qs : List My.Pr) (ks : List Hr) (n' : Int) (H' : Hp), Oth ps hs H' t L' Lh' as' has' qs ks → n ≤ n' → n' ≤ n + 2 → BoxAt H' b g l n' → Keeps [b, g] H H' → Q (.ref t) H'
theorem ok_pair_otherwise (T : Txt K mg a) : FnOk P w K mg base CX0 3 a.f_pair_otherwise a.d_pair_otherwise ["_law_box_here", "_law_pairs_here", "_law_crew"] (sp_pairO K) := by
  refine T.F_pair_otherwise.ok sc_pair_otherwise (fun vs H Q E h => ?_) (fun cdv A outer s H vs Q E hr h => ?_)
  · obtain ⟨b, g, l, L, Lh, n, as, has, ps, hs, rfl, _⟩ := h
    rfl
  · obtain ⟨b, g, l, L, Lh, n, as, has, ps, hs, rfl, bx, n0, n1, hL, oL, ob, hLh, oLh, cr, pok, cok, hok, pos, kk⟩ := h
    refine ⟨_, (pss_cons (ps_set (i := 3) sc_pair_otherwise.nd rfl (Or.inl rfl) (pe_call (ok_take T) (hr.mono (by decide)) rfl T.g_take T.k_take T.B_take .nil pass0 (pa_cons (pv 0) (pa_cons (pe_callB call_len_seq (by rfl) T.z_len (by decide +kernel) (pa_cons (pv 1) pa_nil)) pa_nil))))
      (pss_cons (ps_set (i := 4) sc_pair_otherwise.nd rfl (Or.inr rfl) (pe_call (ok_take T) (hr.mono (by decide)) rfl T.g_take T.k_take T.B_take .nil pass0 (pa_cons (pv 0) (pa_cons pe_int pa_nil))))
      (pss_cons (ps_asg (pe_ix ix_list (pv 1) (pv 3) (fun _ _ => rfl)) (pg_tup (by rfl) (pgs_cons (pg_name (i := 5) sc_pair_otherwise.nd rfl (Or.inr rfl)) (pgs_cons (pg_name (i := 6) sc_pair_otherwise.nd rfl (Or.inr rfl)) (pgs_cons (pg_name (i := 7) sc_pair_otherwise.nd rfl (Or.inl rfl)) pgs_nil)))))
      (C8.pss_cut (ps_if (PW.pt (pw_and (pt_cmpR op_eq (pv 4) pe_int (nomark _)) (pw_and1 (pt_cmpR op_gt (pv 3) pe_int (nomark _))))) (pss_one (ps_ret (pe_tup (pa_cons (pe_op op_cat (pe_op op_cat (pe_slice sl_list (pv 1) po_none (po_some (pe_op op_sub (pv 3) pe_int))) (pe_lst (pa_cons (pe_ix ix_list (pv 1) (pv 3) (fun _ _ => rfl)) (pa_cons (pe_ix ix_list (pv 1) (pe_op op_sub (pv 3) pe_int) (fun _ _ => rfl)) pa_nil)))) (pe_slice sl_list (pv 1) (po_some (pe_op op_add (pv 3) pe_int)) po_none)) (pa_cons (pv 2) pa_nil))))) pss_nil)
      (C8.pss_cut (ps_if (PW.pt (pw_or (pt_cmpR op_eq (pv 4) pe_int (nomark _)) (pw_or1 (pt_cmpR op_eq (pv 4) pe_int (nomark _))))) (pss_one (ps_ret (pe_tup (pa_cons (pe_op op_cat (pe_op op_cat (pe_slice sl_list (pv 1) po_none (po_some (pv 3))) (pe_lst (pa_cons (pe_tup (pa_cons (pv 5) (pa_cons (pv 6) (pa_cons (pe_not (pv 7)) pa_nil)))) pa_nil))) (pe_slice sl_list (pv 1) (po_some (pe_op op_add (pv 3) pe_int)) po_none)) (pa_cons (pv 2) pa_nil))))) pss_nil)
      (pss_cons (ps_set (i := 8) sc_pair_otherwise.nd rfl (Or.inr rfl) (pe_lc (own := [("_law_pair", 16)]) (g := gName 16) (te := tOp (rIxT K) (tVar 16) (tOp (rI0 fun i j => .int (i - j)) (tVar 4) (tC (.int 1)))) (tt := tYes) rfl sc_pair_otherwise.nd (pi_list (pv 1)) (blkOk_by (own := [("_law_pair", 16)]) (N := ["_law_box_here", "_law_pairs_here", "_law_crew", "_law_at", "_law_way", "_law_near", "_law_far", "_law_laden", "_law_known", "_law_fresh", "_law_found", "_law_who", "_law_team", "_law_takes", "_law_gives", "_law_throws", "_law_pair", "_law_one"]) (sc := defScope s_pair_otherwise) (by decide +kernel)) (fun _ _ _ _ _ => pg_name (i := 16) sc_pair_otherwise.nd rfl (Or.inl rfl)) (fun _ _ _ _ _ => pts_nil) (fun _ _ _ _ _ => by exact (pe_ix ix_tup (pv 16) (pe_op op_sub (pv 4) pe_int) (fun _ _ => rfl)))))
      (pss_cons (ps_set (i := 9) sc_pair_otherwise.nd rfl (Or.inr rfl) (pe_ix ix_list (pe_lc (own := [("_law_one", 17)]) (g := gName 17) (te := tVar 17) (tt := tTest (tOp (rIn K true) (tVar 17) (tVar 8))) rfl sc_pair_otherwise.nd (pi_list (pe_lst (pa_cons pe_str (pa_cons pe_str (pa_cons pe_str (pa_cons pe_str (pa_cons pe_str (pa_cons pe_str (pa_cons pe_str pa_nil))))))))) (blkOk_by (own := [("_law_one", 17)]) (N := ["_law_box_here", "_law_pairs_here", "_law_crew", "_law_at", "_law_way", "_law_near", "_law_far", "_law_laden", "_law_known", "_law_fresh", "_law_found", "_law_who", "_law_team", "_law_takes", "_law_gives", "_law_throws", "_law_pair", "_law_one"]) (sc := defScope s_pair_otherwise) (by decide +kernel)) (fun _ _ _ _ _ => pg_name (i := 17) sc_pair_otherwise.nd rfl (Or.inl rfl)) (fun _ _ _ _ _ => pts_one (pt_cmpR op_notIn_seq (pv 17) (pv 8) (by rfl))) (fun _ _ _ _ _ => by exact (pv 17))) pe_int (fun _ _ => rfl)))
      (pss_cons (ps_set (i := 10) sc_pair_otherwise.nd rfl (Or.inl rfl) (pe_lst pa_nil))
      (pss_cons (ps_for PassesOwn.never rfl (pi_list (pv 2)) (pg_tup rfl (pgs_cons (pg_name (i := 11) sc_pair_otherwise.nd rfl (Or.inl rfl)) (pgs_cons (pg_name (i := 12) sc_pair_otherwise.nd rfl (Or.inr rfl)) (pgs_cons (pg_name (i := 13) sc_pair_otherwise.nd rfl (Or.inl rfl)) (pgs_cons (pg_name (i := 14) sc_pair_otherwise.nd rfl (Or.inl rfl)) (pgs_cons (pg_name (i := 15) sc_pair_otherwise.nd rfl (Or.inl rfl)) pgs_nil)))))) (C8.pss_cut (ps_if (pt_cmpR op_eq (pv 12) (pe_op op_sub (pv 4) pe_int) (nomark _)) (pss_one (ps_set (i := 15) sc_pair_otherwise.nd rfl (Or.inl rfl) (pe_callTy call_tupleF (by rfl) T.z_tuple (by decide +kernel) (pa_cons (pe_lc (own := [("_law_one", 17)]) (g := gName 17) (te := tIf (tTest (tOp rEq (tVar 17) (tOp (rIxL K) (tLst (tCons (tVar 5) (tCons (tVar 6) tNil))) (tVar 12)))) (tVar 9) (tVar 17)) (tt := tYes) rfl sc_pair_otherwise.nd (pi_tup (pv 15)) (blkOk_by (own := [("_law_one", 17)]) (N := ["_law_box_here", "_law_pairs_here", "_law_crew", "_law_at", "_law_way", "_law_near", "_law_far", "_law_laden", "_law_known", "_law_fresh", "_law_found", "_law_who", "_law_team", "_law_takes", "_law_gives", "_law_throws", "_law_pair", "_law_one"]) (sc := defScope s_pair_otherwise) (by decide +kernel)) (fun _ _ _ _ _ => pg_name (i := 17) sc_pair_otherwise.nd rfl (Or.inl rfl)) (fun _ _ _ _ _ => pts_nil) (fun _ _ _ _ _ => by exact (pe_ifExp (pt_cmpR op_eq (pv 17) (pe_ix ix_list (pe_lst (pa_cons (pv 5) (pa_cons (pv 6) pa_nil))) (pv 12) (fun _ _ => rfl)) (nomark _)) (pv 9) (pv 17)))) pa_nil)))) pss_nil)
      (pss_one (ps_expr (pe_bm PySem.F.plainAttrs_list PySem.F.slot_list_append PySem.F.type_list_append mt_append (pv 10) (pa_cons (pe_tup (pa_cons (pv 11) (pa_cons (pv 12) (pa_cons (pv 13) (pa_cons (pv 14) (pa_cons (pv 15) pa_nil)))))) pa_nil))))))
      (pss_one (ps_ret (pe_tup (pa_cons (pe_op op_cat (pe_op op_cat (pe_slice sl_list (pv 1) po_none (po_some (pv 3))) (pe_lst (pa_cons (pe_ix ix_list (pe_lst (pa_cons (pe_tup (pa_cons (pv 9) (pa_cons (pv 6) (pa_cons (pv 7) pa_nil)))) (pa_cons (pe_tup (pa_cons (pv 5) (pa_cons (pv 9) (pa_cons (pv 7) pa_nil)))) pa_nil))) (pe_op op_sub (pv 4) pe_int) (fun _ _ => rfl)) pa_nil))) (pe_slice sl_list (pv 1) (po_some (pe_op op_add (pv 3) pe_int)) po_none)) (pa_cons (pv 10) pa_nil)))))))))))))), ?_⟩
    have many := pok.many
    have el : (((as.map V.ref).length : Nat) : Int) = (ps.length : Int) := by rw [List.length_map, ob.len]
    refine ⟨_, rfl, _, rfl, L, _, rfl, .inl (SqL.of hL), ?_⟩
    rw [el]
    refine ⟨b, g, l, n, _, rfl, bx, n0, by omega, by omega, log_le (by omega), fun at_ H1 a0 a1 bx1 kp1 => ?_⟩
    obtain ⟨an, rfl⟩ : ∃ m : Nat, at_ = m := ⟨at_.toNat, by omega⟩
    have hal : an < ps.length := by omega
    refine ⟨_, rfl, b, g, l, n + 1, 4, rfl, bx1, by omega, by omega, by decide, by decide, fun way H2 w0 w1 bx2 kp2 => ?_⟩
    have k02 := kp1.trans kp2
    have hL2 := k02 _ _ hL oL
    have hLh2 := k02 _ _ hLh oLh
    have ob2 := ob.keepN k02 (box_notup bx)
    have cr2 := Crew.keep cr k02 (box_notup bx)
    obtain ⟨q, hq⟩ : ∃ q, ps[an]? = some q := ⟨_, List.getElem?_eq_getElem hal⟩
    obtain ⟨ha, hha⟩ : ∃ h, as[an]? = some h := ⟨_, List.getElem?_eq_getElem (by rw [ob.len]; exact hal)⟩
    have hq2 := ob2.at_ an ha q hha hq
    obtain ⟨q1, q2, q3⟩ := q
    have hq2' : H2 ha = some (.tup [.str q1, .str q2, .bl q3]) := hq2
    refine ⟨_, rfl, _, rfl, _, _, _, _, rfl, rfl, SqL.of hL2, at_of (j := an) rfl (by rw [List.getElem?_map, hha]; rfl), ?_⟩
    refine ⟨ha, _, rfl, SqT.of hq2', rfl, ?_⟩
    refine ⟨_, _, rfl, _, _, rfl, _, _, rfl, rfl, ?_⟩
    refine ⟨fun σ H3 => Blk (σ = [some (.ref b), some (.ref L), some (.ref Lh), some (.int (an : Int)), some (.int way), some (.str q1), some (.str q2), some (.bl q3), none, none, none, none, none, none, none, none, none, none] ∧ H3 = H2 ∧ ¬ (way = 0 ∧ 0 < an)), ?_, ?_⟩
    · walk_at "rd"
      refine iteD (fun c1 => ?_) (fun c1 => ?_)
      rotate_left
      · refine iteF ?_
        exact Blk.of ⟨rfl, rfl, fun z => c1 (congrArg V.int z.1)⟩
      · walk_at "rd"
        refine iteD (fun c2 => ?_) (fun c2 => ?_)
        rotate_left
        · exact Blk.of ⟨rfl, rfl, fun z => c2 (by omega)⟩
        · obtain ⟨am, rfl⟩ : ∃ m, an = m + 1 := ⟨an - 1, by omega⟩
          obtain ⟨q', hq'⟩ : ∃ q, ps[am]? = some q := ⟨_, List.getElem?_eq_getElem (by omega)⟩
          obtain ⟨hb, hhb⟩ : ∃ h, as[am]? = some h := ⟨_, List.getElem?_eq_getElem (by rw [ob.len]; omega)⟩
          have hqb := ob2.at_ am hb q' hhb hq'
          have ix1 : atI (as.map V.ref) (((am + 1 : Nat) : Int)) = some (.ref ha) := at_of (j := am + 1) rfl (by rw [List.getElem?_map, hha]; rfl)
          have ix2 : atI (as.map V.ref) (((am + 1 : Nat) : Int) - 1) = some (.ref hb) := at_of (j := am) (by omega) (by rw [List.getElem?_map, hhb]; rfl)
          refine ⟨_, rfl, _, rfl, _, _, rfl, rfl, _, rfl, L, _, rfl, SqL.of hL2, fun p1 hp1 => ?_⟩
          have s3 : Same H2 (upd H2 p1 (.lst (cutV (as.map V.ref) none (some (((am + 1 : Nat) : Int) - 1))))) := (Same.refl H2).upd hp1
          have h1 : (upd H2 p1 (.lst (cutV (as.map V.ref) none (some (((am + 1 : Nat) : Int) - 1))))) p1 = some (.lst ((as.take am).map V.ref)) := by
            have e : (((am + 1 : Nat) : Int) - 1) = (am : Int) := by omega
            rw [upd_same, e, cutV_to, List.map_take]
          generalize (upd H2 p1 (.lst (cutV (as.map V.ref) none (some (((am + 1 : Nat) : Int) - 1))))) = H3 at s3 h1
          refine ⟨_, rfl, _, rfl, _, _, _, _, rfl, rfl, SqL.of (s3 _ _ hL2), ix1, _, rfl, _, rfl, _, _, rfl, rfl, _, _, _, _, rfl, rfl, SqL.of (s3 _ _ hL2), ix2, by show 2 ≤ sizeLine; decide, fun p2 hp2 => ?_⟩
          have s4 : Same H3 (upd H3 p2 (.lst [.ref ha, .ref hb])) := (Same.refl H3).upd hp2
          have h2 : (upd H3 p2 (.lst [.ref ha, .ref hb])) p2 = some (.lst [.ref ha, .ref hb]) := upd_same
          generalize (upd H3 p2 (.lst [.ref ha, .ref hb])) = H4 at s4 h2
          refine ⟨p1, p2, _, _, rfl, rfl, s4 _ _ h1, h2, by rw [List.length_map, List.length_take]; exact Nat.le_of_lt (small (by show _ + 2 ≤ _; omega)), fun p3 hp3 => ?_⟩
          have s5 : Same H4 (upd H4 p3 (.lst ((as.take am).map V.ref ++ [.ref ha, .ref hb]))) := (Same.refl H4).upd hp3
          have h3 : (upd H4 p3 (.lst ((as.take am).map V.ref ++ [.ref ha, .ref hb]))) p3 = some (.lst ((as.take am).map V.ref ++ [.ref ha, .ref hb])) := upd_same
          generalize (upd H4 p3 (.lst ((as.take am).map V.ref ++ [.ref ha, .ref hb]))) = H5 at s5 h3
          have s25 := (s3.trans s4).trans s5
          refine ⟨_, rfl, _, rfl, _, _, rfl, rfl, _, rfl, L, _, rfl, SqL.of (s25 _ _ hL2), fun p4 hp4 => ?_⟩
          have s6 : Same H5 (upd H5 p4 (.lst (cutV (as.map V.ref) (some (((am + 1 : Nat) : Int) + 1)) none))) := (Same.refl H5).upd hp4
          have h4 : (upd H5 p4 (.lst (cutV (as.map V.ref) (some (((am + 1 : Nat) : Int) + 1)) none))) p4 = some (.lst ((as.drop (am + 2)).map V.ref)) := by
            have e : (((am + 1 : Nat) : Int) + 1) = ((am + 2 : Nat) : Int) := by omega
            rw [upd_same, e, cutV_from, List.map_drop]
          generalize (upd H5 p4 (.lst (cutV (as.map V.ref) (some (((am + 1 : Nat) : Int) + 1)) none))) = H6 at s6 h4
          refine ⟨p3, p4, _, _, rfl, rfl, s6 _ _ h3, h4, by rw [List.length_append, List.length_map, List.length_take, List.length_map, List.length_drop]; exact Nat.le_of_lt (small (by show _ + 2 + _ ≤ _; rw [ob.len]; omega)), fun p5 hp5 => ?_⟩
          have s7 : Same H6 (upd H6 p5 (.lst ((as.take am).map V.ref ++ [.ref ha, .ref hb] ++ (as.drop (am + 2)).map V.ref))) := (Same.refl H6).upd hp5
          have h5 : (upd H6 p5 (.lst ((as.take am).map V.ref ++ [.ref ha, .ref hb] ++ (as.drop (am + 2)).map V.ref))) p5 = some (.lst ((as.take am ++ [ha, hb] ++ as.drop (am + 2)).map V.ref)) := by
            rw [upd_same, List.map_append, List.map_append]
            rfl
          generalize (upd H6 p5 (.lst ((as.take am).map V.ref ++ [.ref ha, .ref hb] ++ (as.drop (am + 2)).map V.ref))) = H7 at s7 h5
          have s27 := (s25.trans s6).trans s7
          refine ⟨_, rfl, by show 2 ≤ sizeLine; decide, fun t ht => ?_⟩
          have s8 : Same H7 (upd H7 t (.tup [.ref p5, .ref Lh])) := (Same.refl H7).upd ht
          have s28 := s27.trans s8
          have pm := My.swp2_perm hq' hq
          have obN := (AllAt.two (Objs.all (ob2.same s28)) am (s28 _ _ hq2) (s28 _ _ hqb)).objs
          refine kk t p5 Lh _ has (My.swp2 ps am (q1, q2, q3) q') hs (n + 1 + 1) _ ⟨upd_same, s8 _ _ h5, obN, s28 _ _ hLh2, Crew.same cr2 s28, pok.perm pm, cok.words (fun x hx t ht hw => ?_), hok, fun z => ?_⟩ (by omega) (by omega) (bx2.same s28) (k02.trans (Same.keeps s28))
          · obtain ⟨z, hz, rfl⟩ := List.mem_map.mp hw
            exact List.mem_map.mpr ⟨z, pm.mem_iff.mpr hz, rfl⟩
          · refine My.swp2_ne hq' hq (fun e => ?_) z.1
            have := (List.getElem?_inj (i := am) (j := am + 1) (by rw [List.length_map]; omega) pok.nears).mp (by rw [List.getElem?_map, List.getElem?_map, hq', hq, e])
            omega
    · rintro σ H3 hB
      obtain ⟨rfl, rfl, nw0⟩ := hB.out
      refine ⟨fun σ H3' => Blk (σ = [some (.ref b), some (.ref L), some (.ref Lh), some (.int (an : Int)), some (.int way), some (.str q1), some (.str q2), some (.bl q3), none, none, none, none, none, none, none, none, none, none] ∧ H3' = H3 ∧ (way = 1 ∨ way = 2)), ?_, ?_⟩
      · walk_at "rd"
        refine or2 ?_ fun c1 hX => ?_
        rotate_left
        · walk_at "rd"
          refine iteD (fun _ => hX) (fun c2 => ?_)
          have w3 : ¬ way = 3 := fun e => c2 (congrArg V.int e)
          have w0 : ¬ way = 0 := fun e => by rw [e] at c1; exact absurd c1 (by decide)
          exact Blk.of ⟨rfl, rfl, by omega⟩
        · have hok3 : (My.nameB q1 = true ∧ My.nameB q2 = true) := pok.nm _ (List.mem_of_getElem? hq)
          refine ⟨_, rfl, _, rfl, _, rfl, L, _, rfl, SqL.of hL2, fun p1 hp1 => ?_⟩
          have s3 : Same H3 (upd H3 p1 (.lst (cutV (as.map V.ref) none (some (an : Int))))) := (Same.refl H3).upd hp1
          have h1 : (upd H3 p1 (.lst (cutV (as.map V.ref) none (some (an : Int))))) p1 = some (.lst ((as.take an).map V.ref)) := by
            rw [upd_same, cutV_to, List.map_take]
          generalize (upd H3 p1 (.lst (cutV (as.map V.ref) none (some (an : Int))))) = H4 at s3 h1
          refine ⟨_, rfl, _, rfl, _, rfl, q3, rfl, by show 3 ≤ sizeLine; decide, fun u hu => ?_⟩
          have s4 : Same H4 (upd H4 u (.tup [.str q1, .str q2, .bl (!q3)])) := (Same.refl H4).upd hu
          have hu4 : (upd H4 u (.tup [.str q1, .str q2, .bl (!q3)])) u = some (prO (q1, q2, !q3)) := upd_same
          generalize (upd H4 u (.tup [.str q1, .str q2, .bl (!q3)])) = H5 at s4 hu4
          refine ⟨by show 1 ≤ sizeLine; decide, fun p2 hp2 => ?_⟩
          have s5 : Same H5 (upd H5 p2 (.lst [.ref u])) := (Same.refl H5).upd hp2
          have h2 : (upd H5 p2 (.lst [.ref u])) p2 = some (.lst [.ref u]) := upd_same
          generalize (upd H5 p2 (.lst [.ref u])) = H6 at s5 h2
          refine put_at (an := an) (s5 _ _ (s4 _ _ (s3 _ _ hL2))) (s5 _ _ (s4 _ _ h1)) h2 (by rw [ob.len]; omega) rfl rfl fun p5 H7 s6 h5 => ?_
          have s27 := ((s3.trans s4).trans s5).trans s6
          refine ⟨_, rfl, by show 2 ≤ sizeLine; decide, fun t ht => ?_⟩
          have s8 : Same H7 (upd H7 t (.tup [.ref p5, .ref Lh])) := (Same.refl H7).upd ht
          have s28 := s27.trans s8
          have obN := (AllAt.rep (Objs.all (ob2.same s28)) an (((s5.trans s6).trans s8) _ _ hu4)).objs
          have wN : ∀ i : Int, (My.rep ps an (q1, q2, !q3)).map (My.wd i) = ps.map (My.wd i) := fun i => by
            rw [My.rep_map]
            refine My.rep_self ?_
            rw [List.getElem?_map, hq]
            rfl
          refine kk t p5 Lh _ has (My.rep ps an (q1, q2, !q3)) hs (n + 1 + 1) _ ⟨upd_same, s8 _ _ h5, obN, s28 _ _ hLh2, Crew.same cr2 s28, pok.put hq hok3 (.inl rfl) (.inl rfl), cok.words (fun x hx t ht hw => by rw [wN]; exact hw), hok, fun z => ?_⟩ (by omega) (by omega) (bx2.same s28) (k02.trans (Same.keeps s28))
          refine My.rep_ne hq (fun e => ?_) z.1
          have := congrArg (fun z : My.Pr => z.2.2) e
          simp at this
      · rintro σ H4 hB
        obtain ⟨rfl, rfl, hway⟩ := hB.out
        have hi : way - 1 = 0 ∨ way - 1 = 1 := by omega
        refine ⟨_, rfl, L, rfl, ⟨_, SqL.of hL2⟩, fun D hD => ?_⟩
        refine words_comp (i := way - 1) (sl := 16) ob2 hL2 hD (by omega) (fun _ => rfl) (fun h q H5 R hq5 hR => ⟨_, rfl, _, rfl, _, _, rfl, rfl, _, _, _, _, rfl, rfl, SqT.of hq5, wd_at2 hi q, hR⟩) fun H5 s5 hD5 => ?_
        -- a fresh word
        refine ⟨by show 7 ≤ sizeLine; decide, fun G hG => ?_⟩
        have s6 : Same H5 (upd H5 G (.lst (My.fresh7.map V.str))) := (Same.refl H5).upd hG
        have hG6 : (upd H5 G (.lst (My.fresh7.map V.str))) G = some (.lst (My.fresh7.map V.str)) := upd_same
        have ef : upd H5 G (.lst [V.str "qt", .str "qu", .str "qv", .str "qw", .str "qx", .str "qy", .str "qz"]) = upd H5 G (.lst (My.fresh7.map V.str)) := rfl
        rw [ef]
        generalize (upd H5 G (.lst (My.fresh7.map V.str))) = H6 at s6 hG6
        refine ⟨G, rfl, ⟨_, SqL.of hG6⟩, fun D2 hD2 => ?_⟩
        have nG2 : G ≠ D2 := ne_of_none hG6 hD2
        have hD6 := s6 _ _ hD5
        have nD2 : D ≠ D2 := ne_of_none hD6 hD2
        refine lc_list (K := K) (a := G) (xs := My.fresh7.map V.str) (fun k H7 => Blk (H7 = upd H6 D2 (.lst (((My.fresh7.take k).filter fun t => !decide (t ∈ ps.map (My.wd (way - 1)))).map V.str)))) (Blk.of rfl) (fun k H7 _ hB => ?_) ?_ ?_
        · obtain rfl := hB.out
          exact SqL.of ((upd_ne nG2).trans hG6)
        · intro k y H7 hy hB
          obtain rfl := hB.out
          obtain ⟨t, ht, rfl⟩ := strs_get hy
          have hk := get_lt ht
          refine ⟨rfl, ?_⟩
          refine ⟨_, rfl, _, rfl, D, _, rfl, .inl (SqL.of ((upd_ne nD2).trans hD6)), rfl, flat_str _, _, rfl, ?_⟩
          rw [if_pos rfl, inV_str]
          have lf : (((My.fresh7.take k).filter fun t => !decide (t ∈ ps.map (My.wd (way - 1)))).map V.str).length < sizeLine := by
            rw [List.length_map]
            refine small (Nat.le_trans (List.length_filter_le _ _) ?_)
            rw [List.length_take]
            have : My.fresh7.length = 7 := by decide +kernel
            omega
          refine iteB (fun c => ?_) (fun c => ?_)
          · refine ⟨_, rfl, _, upd_same, lf, Blk.of ?_⟩
            rw [upd_upd, take_snoc ht, List.filter_append, List.map_append, List.filter_cons, if_pos c]
            rfl
          · refine Blk.of ?_
            rw [take_snoc ht, List.filter_append, List.filter_cons, if_neg (by rw [c]; exact Bool.false_ne_true), List.filter_nil, List.append_nil]
        · intro H7 hB
          obtain rfl := hB.out
          have e7 : My.fresh7.take (My.fresh7.map V.str).length = My.fresh7 := by rw [List.length_map, List.take_length]
          rw [e7]
          have kl : (ps.map (My.wd (way - 1))).length ≤ 6 := by rw [List.length_map]; exact many
          obtain ⟨f, fr, efl, f7, fk⟩ := My.fresh_some kl
          rw [efl]
          have s7 : Same H6 (upd H6 D2 (.lst ((f :: fr).map V.str))) := (Same.refl H6).upd hD2
          have h7 : (upd H6 D2 (.lst ((f :: fr).map V.str))) D2 = some (.lst ((f :: fr).map V.str)) := upd_same
          generalize (upd H6 D2 (.lst ((f :: fr).map V.str))) = H7 at s7 h7
          refine ⟨_, _, _, _, rfl, rfl, SqL.of h7, at_of (j := 0) rfl rfl, ?_⟩
          refine ⟨by show 0 ≤ sizeLine; decide, fun F hF => ?_⟩
          have s8 : Same H7 (upd H7 F (.lst [])) := (Same.refl H7).upd hF
          have h8 : (upd H7 F (.lst [])) F = some (.lst []) := upd_same
          generalize (upd H7 F (.lst [])) = H8 at s8 h8
          have s48 := ((s5.trans s6).trans s7).trans s8
          have hLh8 := s48 _ _ hLh2
          have cr8 := Crew.same cr2 s48
          have nLF : Lh ≠ F := ne_of_none (((s5.trans s6).trans s7) _ _ hLh2) hF
          have noF : NoTup H8 [F] := NoTup.lst h8
          generalize hold : My.wd (way - 1) (q1, q2, q3) = old
          have dold : atI [V.str q1, V.str q2] (way - 1) = some (.str old) := by
            subst hold
            rcases hi with e | e <;> rw [e] <;> rfl
          refine ⟨_, rfl, Lh, rfl, ⟨_, SqL.of hLh8⟩, ?_⟩
          refine for_list (K := K) (a := Lh) (xs := has.map V.ref) (fun k σ H9 => Blk (∃ v11 v12 v13 v14 v15 fas, σ = [some (.ref b), some (.ref L), some (.ref Lh), some (.int (an : Int)), some (.int way), some (.str q1), some (.str q2), some (.bl q3), some (.ref D), some (.str f), some (.ref F), v11, v12, v13, v14, v15, none, none] ∧ H9 F = some (.lst (fas.map V.ref)) ∧
            Crew H9 fas ((hs.take k).map (My.renH (way - 1) old f)) ∧ Keeps [F] H8 H9)) ?_ ?_ ?_ ?_
          · exact Blk.of ⟨_, _, _, _, _, [], rfl, h8, AllAt.nil, Keeps.refl _ _⟩
          · intro k σ H9 _ hB
            obtain ⟨_, _, _, _, _, _, _, _, _, k9⟩ := hB.out
            exact SqL.of (k9 _ _ hLh8 (by simp [nLF]))
          · intro k y σ H9 hy hB
            obtain ⟨v11, v12, v13, v14, v15, fas, rfl, hF9, cF9, k9⟩ := hB.out
            obtain ⟨h, hh, rfl⟩ := refs_get hy
            obtain ⟨x, hx, hx2⟩ := AllAt.get (Crew.keep cr8 k9 noF) hh
            have hxm := List.mem_of_getElem? hx
            obtain ⟨tk, th, ex, tkF, thF⟩ := id hx2
            have xok := hok x hxm
            refine ⟨h, _, rfl, SqT.of ex, rfl, ?_⟩
            refine ⟨_, _, rfl, _, _, rfl, _, _, rfl, _, _, rfl, _, _, rfl, rfl, ?_⟩
            refine ⟨fun σ H10 => Blk (∃ th', σ = [some (.ref b), some (.ref L), some (.ref Lh), some (.int (an : Int)), some (.int way), some (.str q1), some (.str q2), some (.bl q3), some (.ref D), some (.str f), some (.ref F), some (.str x.name), some (.int x.side), some (.ref tk), some (.bl x.gives), some (.ref th'), none, none] ∧ Same H9 H10 ∧
              TupF H10 th' ((My.renH (way - 1) old f x).throws.map V.str)), ?_, ?_⟩
            · walk_at "rd"
              rw [dec_int_eq]
              refine iteD (fun c => ?_) (fun c => ?_)
              rotate_left
              · refine Blk.of ⟨th, rfl, Same.refl _, ?_⟩
                have e : My.renH (way - 1) old f x = x := if_neg c
                rw [e]
                exact thF
              · have sdw : x.side = way - 1 := c
                have e : (My.renH (way - 1) old f x).throws = x.throws.map (My.ren old f) := congrArg Hr.throws (show My.renH (way - 1) old f x = _ from if_pos c)
                rw [e]
                have hl8 := xok.hl
                refine ⟨_, rfl, th, rfl, ⟨_, thF.seq⟩, fun D3 hD3 => ?_⟩
                refine lc_tup (K := K) (a := th) (xs := x.throws.map V.str) (fun j H10 => Blk (Same H9 H10 ∧ H10 D3 = some (.lst (((x.throws.take j).map (My.ren old f)).map V.str)))) (Blk.of ⟨(Same.refl H9).upd hD3, upd_same⟩) (fun j H10 _ hB => ?_) ?_ ?_
                · obtain ⟨s10, _⟩ := hB.out
                  exact (thF.same s10).seq
                · intro j y H10 hy hB
                  obtain ⟨s10, hD10⟩ := hB.out
                  obtain ⟨t, ht, rfl⟩ := strs_get hy
                  refine ⟨rfl, ?_⟩
                  dsimp only [tYes]
                  refine iteT ?_
                  refine ⟨_, rfl, _, rfl, _, rfl, by show 2 ≤ sizeLine; decide, fun e2 he2 => ?_⟩
                  have s11 : Same H10 (upd H10 e2 (.lst [.str q1, .str q2])) := (Same.refl H10).upd he2
                  have h11 : (upd H10 e2 (.lst [.str q1, .str q2])) e2 = some (.lst [.str q1, .str q2]) := upd_same
                  generalize (upd H10 e2 (.lst [.str q1, .str q2])) = H11 at s11 h11
                  refine ⟨_, rfl, _, _, _, _, rfl, rfl, SqL.of h11, by rw [sdw]; exact dold, ?_⟩
                  refine ⟨rfl, _, rfl, ?_⟩
                  have sm : ((((x.throws.take j).map (My.ren old f)).map V.str)).length < sizeLine := by
                    rw [List.length_map, List.length_map, List.length_take]
                    exact small (by omega)
                  refine iteD (fun c1 => ?_) (fun c1 => ?_)
                  · refine ⟨_, rfl, _, s11 _ _ hD10, sm, Blk.of ⟨(s10.trans s11).upd hD3, ?_⟩⟩
                    have e1 : My.ren old f t = f := if_pos (V.str.inj c1)
                    rw [upd_same, take_snoc ht, List.map_append, List.map_append, List.map_singleton, e1]
                    rfl
                  · refine ⟨_, rfl, _, s11 _ _ hD10, sm, Blk.of ⟨(s10.trans s11).upd hD3, ?_⟩⟩
                    have e1 : My.ren old f t = t := if_neg fun e => c1 (congrArg V.str e)
                    rw [upd_same, take_snoc ht, List.map_append, List.map_append, List.map_singleton, e1]
                    rfl
                · intro H10 hB
                  obtain ⟨s10, hD10⟩ := hB.out
                  rw [List.length_map, List.take_length] at hD10
                  refine ⟨D3, _, rfl, SqL.of hD10, fun th' ob' hth' hob' => ?_⟩
                  exact Blk.of ⟨th', rfl, s10.upd (s10.free hth'), ⟨ob', hob', upd_same⟩⟩
            · rintro σ H10 hB
              obtain ⟨th', rfl, s10, thF'⟩ := hB.out
              refine ⟨_, rfl, .inl ⟨rfl, _, SqL.of (s10 _ _ hF9)⟩, ?_⟩
              refine ⟨_, rfl, _, rfl, _, rfl, _, rfl, _, rfl, by show 5 ≤ sizeLine; decide, fun t ht => ?_⟩
              have hk := get_lt hx
              have nFt : F ≠ t := ne_of_none (s10 _ _ hF9) ht
              have s11 : Same H10 (upd H10 t (.tup [.str x.name, .int x.side, .ref tk, .bl x.gives, .ref th'])) := (Same.refl H10).upd ht
              have ht11 : HrAt (upd H10 t (.tup [.str x.name, .int x.side, .ref tk, .bl x.gives, .ref th'])) t (My.renH (way - 1) old f x) := by
                refine ⟨tk, th', ?_, ?_, thF'.same s11⟩
                · rw [upd_same]
                  unfold My.renH
                  split <;> rfl
                · have e : (My.renH (way - 1) old f x).takes = x.takes := by unfold My.renH; split <;> rfl
                  rw [e]
                  exact (tkF.same s10).same s11
              generalize (upd H10 t (.tup [.str x.name, .int x.side, .ref tk, .bl x.gives, .ref th'])) = H11 at s11 ht11
              have hF11 := s11 _ _ (s10 _ _ hF9)
              have n11 : NoTup H11 [F] := NoTup.lst hF11
              have kF : ∀ o, Keeps [F] H11 (upd H11 F o) := fun o => (Keeps.refl _ H11).upd (.inl (by simp))
              have hmany := crew_many cok
              refine ⟨F, _, _, rfl, rfl, hF11, by rw [List.length_map, AllAt.len cF9, List.length_map, List.length_take]; exact small (by omega), Blk.of ⟨_, _, _, _, _, fas ++ [t], rfl, ?_, ?_, ?_⟩⟩
              · rw [upd_same, List.map_append]
                rfl
              · rw [take_snoc hx, List.map_append]
                exact AllAt.snoc (Crew.keep (Crew.same (Crew.same cF9 s10) s11) (kF _) n11) (ht11.keep (kF _) n11)
              · exact ((k9.trans (Same.keeps s10)).trans (Same.keeps s11)).trans (kF _)
          · intro σ H9 hB
            obtain ⟨v11, v12, v13, v14, v15, fas, rfl, hF9, cF9, k9⟩ := hB.out
            rw [List.length_map, AllAt.len cr, List.take_length] at cF9
            have hL9 := k9 _ _ (s48 _ _ hL2) (by
              have : L ≠ F := ne_of_none (((s5.trans s6).trans s7) _ _ hL2) hF
              simp [this])
            have ob9 := (ob2.same s48).keepN k9 noF
            have bx9 : BoxAt H9 b g l (n + 1 + 1) := (bx2.same s48).keep k9 (fun q => ?_) (fun q => ?_) (fun q => ?_)
            rotate_left
            · exact offbox3 (bx2.same ((s5.trans s6).trans s7)) hF (by simp at q; simp [q])
            · exact offbox3 (bx2.same ((s5.trans s6).trans s7)) hF (by simp at q; simp [q])
            · exact offbox3 (bx2.same ((s5.trans s6).trans s7)) hF (by simp at q; simp [q])
            have k09 : Keeps [b, g] H H9 := fun c o e nc => k9 c o (s48 c o (k02 c o e nc)) (by
              have e4 := ((s5.trans s6).trans s7) c o (k02 c o e nc)
              have : c ≠ F := ne_of_none e4 hF
              simp [this])
            refine ⟨_, rfl, _, rfl, _, rfl, L, _, rfl, SqL.of hL9, fun p1 hp1 => ?_⟩
            have s10 : Same H9 (upd H9 p1 (.lst (cutV (as.map V.ref) none (some (an : Int))))) := (Same.refl H9).upd hp1
            have h1 : (upd H9 p1 (.lst (cutV (as.map V.ref) none (some (an : Int))))) p1 = some (.lst ((as.take an).map V.ref)) := by
              rw [upd_same, cutV_to, List.map_take]
            generalize (upd H9 p1 (.lst (cutV (as.map V.ref) none (some (an : Int))))) = H10 at s10 h1
            refine ⟨_, rfl, _, rfl, _, rfl, by show 3 ≤ sizeLine; decide, fun u1 hu1 => ?_⟩
            have s11 : Same H10 (upd H10 u1 (.tup [.str f, .str q2, .bl q3])) := (Same.refl H10).upd hu1
            have g1 : (upd H10 u1 (.tup [.str f, .str q2, .bl q3])) u1 = some (prO (f, q2, q3)) := upd_same
            generalize (upd H10 u1 (.tup [.str f, .str q2, .bl q3])) = H11 at s11 g1
            refine ⟨_, rfl, _, rfl, _, rfl, by show 3 ≤ sizeLine; decide, fun u2 hu2 => ?_⟩
            have s12 : Same H11 (upd H11 u2 (.tup [.str q1, .str f, .bl q3])) := (Same.refl H11).upd hu2
            have g2 : (upd H11 u2 (.tup [.str q1, .str f, .bl q3])) u2 = some (prO (q1, f, q3)) := upd_same
            generalize (upd H11 u2 (.tup [.str q1, .str f, .bl q3])) = H12 at s12 g2
            refine ⟨by show 2 ≤ sizeLine; decide, fun G3 hG3 => ?_⟩
            have s13 : Same H12 (upd H12 G3 (.lst [.ref u1, .ref u2])) := (Same.refl H12).upd hG3
            have g3 : (upd H12 G3 (.lst [.ref u1, .ref u2])) G3 = some (.lst [.ref u1, .ref u2]) := upd_same
            generalize (upd H12 G3 (.lst [.ref u1, .ref u2])) = H13 at s13 g3
            have g1 := s13 _ _ (s12 _ _ g1)
            have g2 := s13 _ _ g2
            have f7n := My.fresh7_name f f7
            have hnm : (My.nameB q1 = true ∧ My.nameB q2 = true) := pok.nm _ (List.mem_of_getElem? hq)
            have hold2 : ∀ i, ps.map (My.wd i) = ps.map (My.wd i) := fun _ => rfl
            have gw : ∀ i : Int, (ps.map (My.wd i))[an]? = some (My.wd i (q1, q2, q3)) := fun i => by rw [List.getElem?_map, hq]; rfl
            have fo : f ≠ old := fun e => fk (by
              rw [e, ← hold]
              exact List.mem_of_getElem? (gw (way - 1)))
            obtain ⟨u, qN, hu, huq, w1, w2, pkN⟩ : ∃ (u : Addr) (qN : My.Pr), atI [V.ref u1, .ref u2] (way - 1) = some (.ref u) ∧ H13 u = some (prO qN) ∧ My.wd (way - 1) qN = f ∧ (∀ i : Int, (i = 0 ∨ i = 1) → i ≠ way - 1 → My.wd i qN = My.wd i (q1, q2, q3)) ∧ My.PairsOk (My.rep ps an qN) := by
              rcases hi with e | e
              · rw [e] at fk
                rw [e]
                exact ⟨u1, (f, q2, q3), rfl, g1, rfl, fun i h1 h2 => by
                  obtain rfl : i = 1 := by omega
                  rfl, pok.put hq ⟨f7n, hnm.2⟩ (.inr fk) (.inl rfl)⟩
              · rw [e] at fk
                rw [e]
                exact ⟨u2, (q1, f, q3), rfl, g2, rfl, fun i h1 h2 => by
                  obtain rfl : i = 0 := by omega
                  rfl, pok.put hq ⟨hnm.1, f7n⟩ (.inl rfl) (.inr fk)⟩
            refine ⟨_, rfl, _, _, rfl, rfl, _, _, _, _, rfl, rfl, SqL.of g3, hu, by show 1 ≤ sizeLine; decide, fun p2 hp2 => ?_⟩
            have s14 : Same H13 (upd H13 p2 (.lst [.ref u])) := (Same.refl H13).upd hp2
            have h2 : (upd H13 p2 (.lst [.ref u])) p2 = some (.lst [.ref u]) := upd_same
            generalize (upd H13 p2 (.lst [.ref u])) = H14 at s14 h2
            have sA := (((s10.trans s11).trans s12).trans s13).trans s14
            refine put_at (an := an) (sA _ _ hL9) (s14 _ _ (s13 _ _ (s12 _ _ (s11 _ _ h1)))) h2 (by rw [ob.len]; omega) rfl rfl fun p5 H15 s15 h5 => ?_
            refine ⟨_, rfl, by show 2 ≤ sizeLine; decide, fun t ht => ?_⟩
            have s16 : Same H15 (upd H15 t (.tup [.ref p5, .ref F])) := (Same.refl H15).upd ht
            have sZ := (sA.trans s15).trans s16
            have obN := (AllAt.rep (Objs.all (ob9.same sZ)) an (((s14.trans s15).trans s16) _ _ huq)).objs
            have wS : (My.rep ps an qN).map (My.wd (way - 1)) = My.rep (ps.map (My.wd (way - 1))) an f := by rw [My.rep_map, w1]
            refine kk t p5 F _ fas (My.rep ps an qN) (hs.map (My.renH (way - 1) old f)) (n + 1 + 1) _ ⟨upd_same, s16 _ _ h5, obN, sZ _ _ hF9, Crew.same cF9 sZ, pkN, cok.ren fk (fun t ht => ?_) (fun i h1 h2 t ht => ?_), fun z hz => ?_, fun z => ?_⟩ (by omega) (by omega) (bx9.same sZ) (k09.trans (Same.keeps sZ))
            · rw [wS]
              unfold My.ren
              by_cases c : t = old
              · rw [if_pos c]
                exact My.rep_in _ _ _
              · rw [if_neg c]
                exact My.rep_mem (gw (way - 1)) ht (by rw [hold]; exact c)
            · rw [My.rep_map, w2 i h1 h2, My.rep_self (gw i)]
              exact ht
            · obtain ⟨x, hx, rfl⟩ := List.mem_map.mp hz
              have o := hok x hx
              unfold My.renH
              split
              · refine ⟨o.nm, o.tl, o.tk, by show (x.throws.map _).length ≤ 8; rw [List.length_map]; exact o.hl, fun t ht => ?_⟩
                obtain ⟨v, hv, rfl⟩ := List.mem_map.mp ht
                unfold My.ren
                split
                · exact name_wok f7n
                · exact o.th v hv
              · exact o
            · refine My.rep_ne hq (fun e => ?_) z.1
              rw [e] at w1
              exact fo (w1.symm.trans hold)

open My (Hr)
/-! ### otherwise -/
def sp_oth (K : PySem.W.Frag) : Sp := fun vs H Q _ => ∃ (b g l L Lh : Addr) (n : Int) (as has : List Addr) (ps : List My.Pr) (hs : List Hr), vs = [.ref b, .ref L, .ref Lh] ∧ BoxAt H b g l n ∧ 0 ≤ n ∧ n < 7000000 ∧ H L = some (.lst (as.map V.ref)) ∧ L ∉ [b, g] ∧ Objs H as prO ps ∧ H Lh = some (.lst (has.map V.ref)) ∧ Lh ∉ [b, g] ∧ Crew H has hs ∧
  My.PairsOk ps ∧ My.CrewOk ps hs ∧ (∀ x, x ∈ hs → HrOk x) ∧ ∀ (t L' Lh' : Addr) (as' has' : List Addr) (qs : List My.Pr) (ks : List Hr) (n' : Int) (H' : Hp), Oth ps hs H' t L' Lh' as' has' qs ks → n ≤ n' → n' ≤ n + 5 → BoxAt H' b g l n' → Keeps [b, g] H H' → Q (.ref t) H'
theorem ok_otherwise (T : Txt K mg a) : FnOk P w K mg base CX0 4 a.f_otherwise a.d_otherwise ["_law_box_here", "_law_pairs_here", "_law_crew"] (sp_oth K) := by
  refine T.F_otherwise.ok sc_otherwise (fun vs H Q E h => ?_) (fun cdv A outer s H vs Q E hr h => ?_)
  · obtain ⟨b, g, l, L, Lh, n, as, has, ps, hs, rfl, _⟩ := h
    rfl
  · obtain ⟨b, g, l, L, Lh, n, as, has, ps, hs, rfl, bx, n0, n1, hL, oL, ob, hLh, oLh, cr, pok, cok, hok, kk⟩ := h
    refine ⟨_, (pss_cons (ps_set (i := 3) sc_otherwise.nd rfl (Or.inl rfl) (pe_call (ok_take T) (hr.mono (by decide)) rfl T.g_take T.k_take T.B_take .nil pass0 (pa_cons (pv 0) (pa_cons pe_int pa_nil))))
      (C8.pss_cut (ps_if (PW.pt (pw_and (pt_cmpR op_eq (pv 3) pe_int (nomark _)) (pw_and1 (pt_cmpR op_gt (pe_callB call_len_seq (by rfl) T.z_len (by decide +kernel) (pa_cons (pv 2) pa_nil)) pe_int (nomark _))))) (pss_cons (ps_set (i := 4) sc_otherwise.nd rfl (Or.inl rfl) (pe_call (ok_take T) (hr.mono (by decide)) rfl T.g_take T.k_take T.B_take .nil pass0 (pa_cons (pv 0) (pa_cons (pe_op op_sub (pe_callB call_len_seq (by rfl) T.z_len (by decide +kernel) (pa_cons (pv 2) pa_nil)) pe_int) pa_nil))))
      (pss_one (ps_ret (pe_tup (pa_cons (pv 1) (pa_cons (pe_op op_cat (pe_op op_cat (pe_slice sl_list (pv 2) po_none (po_some (pv 4))) (pe_lst (pa_cons (pe_ix ix_list (pv 2) (pe_op op_add (pv 4) pe_int) (fun _ _ => rfl)) (pa_cons (pe_ix ix_list (pv 2) (pv 4) (fun _ _ => rfl)) pa_nil)))) (pe_slice sl_list (pv 2) (po_some (pe_op op_add (pv 4) pe_int)) po_none)) pa_nil)))))) pss_nil)
      (C8.pss_cut (ps_if (PW.pt (pw_and (pt_cmpR op_eq (pv 3) pe_int (nomark _)) (pw_and1 (pt_cmpR op_gt (pe_callB call_len_seq (by rfl) T.z_len (by decide +kernel) (pa_cons (pv 2) pa_nil)) pe_int (nomark _))))) (pss_cons (ps_set (i := 4) sc_otherwise.nd rfl (Or.inl rfl) (pe_call (ok_take T) (hr.mono (by decide)) rfl T.g_take T.k_take T.B_take .nil pass0 (pa_cons (pv 0) (pa_cons (pe_callB call_len_seq (by rfl) T.z_len (by decide +kernel) (pa_cons (pv 2) pa_nil)) pa_nil))))
      (pss_one (ps_ret (pe_tup (pa_cons (pv 1) (pa_cons (pe_op op_cat (pe_op op_cat (pe_slice sl_list (pv 2) po_none (po_some (pv 4))) (pe_lst (pa_cons (pe_call (ok_row_otherwise T) (hr.mono (by decide)) rfl T.g_row_otherwise T.k_row_otherwise T.B_row_otherwise .nil pass0 (pa_cons (pv 0) (pa_cons (pe_ix ix_list (pv 2) (pv 4) (fun _ _ => rfl)) pa_nil))) pa_nil))) (pe_slice sl_list (pv 2) (po_some (pe_op op_add (pv 4) pe_int)) po_none)) pa_nil)))))) pss_nil)
      (C8.pss_cut (ps_if (PW.pt (pw_and (pt_cmpR op_eq (pv 3) pe_int (nomark _)) (pw_and1 (pt_cmpR op_gt (pe_callB call_len_seq (by rfl) T.z_len (by decide +kernel) (pa_cons (pv 1) pa_nil)) pe_int (nomark _))))) (pss_one (ps_ret (pe_call (ok_pair_otherwise T) (hr.mono (by decide)) rfl T.g_pair_otherwise T.k_pair_otherwise T.B_pair_otherwise .nil pass0 (pa_cons (pv 0) (pa_cons (pv 1) (pa_cons (pv 2) pa_nil)))))) pss_nil)
      (pss_cons (ps_if (pt_cmpR op_gt (pe_callB call_len_seq (by rfl) T.z_len (by decide +kernel) (pa_cons (pv 2) pa_nil)) pe_int (nomark _)) (pss_one (ps_ret (pe_tup (pa_cons (pv 1) (pa_cons (pe_slice sl_list (pv 2) po_none (po_some (pe_un un_neg pe_int))) pa_nil))))) pss_nil)
      (pss_one (ps_ret (pe_tup (pa_cons (pv 1) (pa_cons (pe_lst (pa_cons (pe_tup (pa_cons pe_str (pa_cons pe_int (pa_cons (pe_tupF pa_nil) (pa_cons pe_bl (pa_cons (pe_tupF pa_nil) pa_nil)))))) pa_nil)) pa_nil)))))))))), ?_⟩
    have many := pok.many
    have hmany := crew_many cok
    have crl := AllAt.len cr
    refine ⟨_, rfl, b, g, l, n, 4, rfl, bx, n0, by omega, by decide, by decide, fun way H1 w0 w1 bx1 kp1 => ?_⟩
    have hL1 := kp1 _ _ hL oL
    have hLh1 := kp1 _ _ hLh oLh
    have ob1 := ob.keepN kp1 (box_notup bx)
    have cr1 := Crew.keep cr kp1 (box_notup bx)
    have el : (((has.map V.ref).length : Nat) : Int) = (hs.length : Int) := by rw [List.length_map, crl]
    have elp : (((as.map V.ref).length : Nat) : Int) = (ps.length : Int) := by rw [List.length_map, ob.len]
    refine ⟨fun σ H2 => Blk (σ = [some (.ref b), some (.ref L), some (.ref Lh), some (.int way), none] ∧ H2 = H1), ?_, ?_⟩
    · walk_at "rd"
      refine iteD (fun c1 => ?_) (fun c1 => ?_)
      rotate_left
      · refine iteF ?_
        exact Blk.of ⟨rfl, rfl⟩
      · refine ⟨_, rfl, Lh, _, rfl, .inl (SqL.of hLh1), ?_⟩
        walk_at "rd"
        rw [el]
        refine iteD (fun c2 => ?_) (fun c2 => ?_)
        rotate_left
        · exact Blk.of ⟨rfl, rfl⟩
        · refine ⟨_, rfl, _, rfl, Lh, _, rfl, .inl (SqL.of hLh1), _, _, rfl, rfl, ?_⟩
          rw [el]
          have lg : ((hs.length : Int) - 1).natAbs.log2 < 9000 := by
            have e : ((hs.length : Int) - 1) = ((hs.length - 1 : Nat) : Int) := by omega
            rw [e]
            exact log_le (by omega)
          refine ⟨b, g, l, n + 1, _, rfl, bx1, by omega, by omega, by omega, lg, fun at_ H2 a0 a1 bx2 kp2 => ?_⟩
          obtain ⟨am, rfl⟩ : ∃ m : Nat, at_ = m := ⟨at_.toNat, by omega⟩
          have k02 := kp1.trans kp2
          have hL2 := k02 _ _ hL oL
          have hLh2 := k02 _ _ hLh oLh
          have ob2 := ob.keepN k02 (box_notup bx)
          have cr2 := Crew.keep cr k02 (box_notup bx)
          obtain ⟨x, hx⟩ : ∃ q, hs[am]? = some q := ⟨_, List.getElem?_eq_getElem (by omega)⟩
          obtain ⟨x', hx'⟩ : ∃ q, hs[am + 1]? = some q := ⟨_, List.getElem?_eq_getElem (by omega)⟩
          obtain ⟨ha, hha⟩ : ∃ h, has[am]? = some h := ⟨_, List.getElem?_eq_getElem (by omega)⟩
          obtain ⟨hb, hhb⟩ : ∃ h, has[am + 1]? = some h := ⟨_, List.getElem?_eq_getElem (by omega)⟩
          have xa := AllAt.at_ cr2 am ha x hha hx
          have xb := AllAt.at_ cr2 (am + 1) hb x' hhb hx'
          have ix1 : atI (has.map V.ref) ((am : Int) + 1) = some (.ref hb) := at_of (j := am + 1) (by omega) (by rw [List.getElem?_map, hhb]; rfl)
          have ix2 : atI (has.map V.ref) (am : Int) = some (.ref ha) := at_of (j := am) rfl (by rw [List.getElem?_map, hha]; rfl)
          refine ⟨_, rfl, _, rfl, _, rfl, _, rfl, Lh, _, rfl, SqL.of hLh2, fun p1 hp1 => ?_⟩
          have s3 : Same H2 (upd H2 p1 (.lst (cutV (has.map V.ref) none (some (am : Int))))) := (Same.refl H2).upd hp1
          have h1 : (upd H2 p1 (.lst (cutV (has.map V.ref) none (some (am : Int))))) p1 = some (.lst ((has.take am).map V.ref)) := by
            rw [upd_same, cutV_to, List.map_take]
          generalize (upd H2 p1 (.lst (cutV (has.map V.ref) none (some (am : Int))))) = H3 at s3 h1
          refine ⟨_, rfl, _, rfl, _, _, rfl, rfl, _, _, _, _, rfl, rfl, SqL.of (s3 _ _ hLh2), ix1, _, rfl, _, rfl, _, _, _, _, rfl, rfl, SqL.of (s3 _ _ hLh2), ix2, by show 2 ≤ sizeLine; decide, fun p2 hp2 => ?_⟩
          have s4 : Same H3 (upd H3 p2 (.lst [.ref hb, .ref ha])) := (Same.refl H3).upd hp2
          have h2 : (upd H3 p2 (.lst [.ref hb, .ref ha])) p2 = some (.lst [.ref hb, .ref ha]) := upd_same
          generalize (upd H3 p2 (.lst [.ref hb, .ref ha])) = H4 at s4 h2
          refine ⟨p1, p2, _, _, rfl, rfl, s4 _ _ h1, h2, by rw [List.length_map, List.length_take]; exact Nat.le_of_lt (small (by show _ + 2 ≤ _; omega)), fun p3 hp3 => ?_⟩
          have s5 : Same H4 (upd H4 p3 (.lst ((has.take am).map V.ref ++ [.ref hb, .ref ha]))) := (Same.refl H4).upd hp3
          have h3 : (upd H4 p3 (.lst ((has.take am).map V.ref ++ [.ref hb, .ref ha]))) p3 = some (.lst ((has.take am).map V.ref ++ [.ref hb, .ref ha])) := upd_same
          generalize (upd H4 p3 (.lst ((has.take am).map V.ref ++ [.ref hb, .ref ha]))) = H5 at s5 h3
          have s25 := (s3.trans s4).trans s5
          refine ⟨_, rfl, _, rfl, _, _, rfl, rfl, _, rfl, Lh, _, rfl, SqL.of (s25 _ _ hLh2), fun p4 hp4 => ?_⟩
          have s6 : Same H5 (upd H5 p4 (.lst (cutV (has.map V.ref) (some ((am : Int) + 2)) none))) := (Same.refl H5).upd hp4
          have h4 : (upd H5 p4 (.lst (cutV (has.map V.ref) (some ((am : Int) + 2)) none))) p4 = some (.lst ((has.drop (am + 2)).map V.ref)) := by
            have e : ((am : Int) + 2) = ((am + 2 : Nat) : Int) := by omega
            rw [upd_same, e, cutV_from, List.map_drop]
          generalize (upd H5 p4 (.lst (cutV (has.map V.ref) (some ((am : Int) + 2)) none))) = H6 at s6 h4
          refine ⟨p3, p4, _, _, rfl, rfl, s6 _ _ h3, h4, by rw [List.length_append, List.length_map, List.length_take, List.length_map, List.length_drop]; exact Nat.le_of_lt (small (by show _ + 2 + _ ≤ _; omega)), fun p5 hp5 => ?_⟩
          have s7 : Same H6 (upd H6 p5 (.lst ((has.take am).map V.ref ++ [.ref hb, .ref ha] ++ (has.drop (am + 2)).map V.ref))) := (Same.refl H6).upd hp5
          have h5 : (upd H6 p5 (.lst ((has.take am).map V.ref ++ [.ref hb, .ref ha] ++ (has.drop (am + 2)).map V.ref))) p5 = some (.lst ((has.take am ++ [hb, ha] ++ has.drop (am + 2)).map V.ref)) := by
            rw [upd_same, List.map_append, List.map_append]
            rfl
          generalize (upd H6 p5 (.lst ((has.take am).map V.ref ++ [.ref hb, .ref ha] ++ (has.drop (am + 2)).map V.ref))) = H7 at s7 h5
          refine ⟨by show 2 ≤ sizeLine; decide, fun t ht => ?_⟩
          have s8 : Same H7 (upd H7 t (.tup [.ref L, .ref p5])) := (Same.refl H7).upd ht
          have s28 := ((s25.trans s6).trans s7).trans s8
          have pm := My.swp2_perm hx hx'
          refine kk t L p5 as _ ps (My.swp2 hs am x' x) (n + 1 + 1) _ ⟨upd_same, s28 _ _ hL2, ob2.same s28, s8 _ _ h5, AllAt.two (Crew.same cr2 s28) am (xb.same s28) (xa.same s28), pok, cok.perm pm, fun z hz => hok z (pm.mem_iff.mp hz), fun z => ?_⟩ (by omega) (by omega) (bx2.same s28) (k02.trans (Same.keeps s28))
          refine My.swp2_ne hx hx' (fun e => ?_) z.2
          have := (List.getElem?_inj (i := am) (j := am + 1) (by rw [List.length_map]; omega) cok.names).mp (by rw [List.getElem?_map, List.getElem?_map, hx, hx', e])
          omega
    · rintro σ H2 hB
      obtain ⟨rfl, rfl⟩ := hB.out
      refine ⟨fun σ H3 => Blk (σ = [some (.ref b), some (.ref L), some (.ref Lh), some (.int way), none] ∧ H3 = H2), ?_, ?_⟩
      · walk_at "rd"
        refine iteD (fun c1 => ?_) (fun c1 => ?_)
        rotate_left
        · refine iteF ?_
          exact Blk.of ⟨rfl, rfl⟩
        · refine ⟨_, rfl, Lh, _, rfl, .inl (SqL.of hLh1), ?_⟩
          walk_at "rd"
          rw [el]
          refine iteD (fun c2 => ?_) (fun c2 => ?_)
          rotate_left
          · exact Blk.of ⟨rfl, rfl⟩
          · refine ⟨_, rfl, _, rfl, Lh, _, rfl, .inl (SqL.of hLh1), ?_⟩
            rw [el]
            refine ⟨b, g, l, n + 1, _, rfl, bx1, by omega, by omega, by omega, log_le (by omega), fun at_ H3 a0 a1 bx3 kp3 => ?_⟩
            obtain ⟨am, rfl⟩ : ∃ m : Nat, at_ = m := ⟨at_.toNat, by omega⟩
            have k03 := kp1.trans kp3
            have hL3 := k03 _ _ hL oL
            have hLh3 := k03 _ _ hLh oLh
            have ob3 := ob.keepN k03 (box_notup bx)
            have cr3 := Crew.keep cr k03 (box_notup bx)
            obtain ⟨x, hx⟩ : ∃ q, hs[am]? = some q := ⟨_, List.getElem?_eq_getElem (by omega)⟩
            obtain ⟨ha, hha⟩ : ∃ h, has[am]? = some h := ⟨_, List.getElem?_eq_getElem (by omega)⟩
            have xa := AllAt.at_ cr3 am ha x hha hx
            have xm := List.mem_of_getElem? hx
            have ix2 : atI (has.map V.ref) (am : Int) = some (.ref ha) := at_of (j := am) rfl (by rw [List.getElem?_map, hha]; rfl)
            refine ⟨_, rfl, _, rfl, _, rfl, _, rfl, Lh, _, rfl, SqL.of hLh3, fun p1 hp1 => ?_⟩
            have s4 : Same H3 (upd H3 p1 (.lst (cutV (has.map V.ref) none (some (am : Int))))) := (Same.refl H3).upd hp1
            have h1 : (upd H3 p1 (.lst (cutV (has.map V.ref) none (some (am : Int))))) p1 = some (.lst ((has.take am).map V.ref)) := by
              rw [upd_same, cutV_to, List.map_take]
            have o1 : p1 ∉ [b, g] := offbox bx3 hp1
            generalize (upd H3 p1 (.lst (cutV (has.map V.ref) none (some (am : Int))))) = H4 at s4 h1
            have bx4 := bx3.same s4
            refine ⟨_, rfl, _, rfl, _, rfl, _, _, _, _, rfl, rfl, SqL.of (s4 _ _ hLh3), ix2, ?_⟩
            refine ⟨b, g, l, ha, n + 1 + 1, ps, hs, x, rfl, bx4, by omega, by omega, xa.same s4, hok x xm, (cok.one x xm).1, fun h' x' n' H5 hx' xok' pb' ne' nm' sd' th' a' b' bx5 kp5 => ?_⟩
            have kp45 : Keeps [b, g] H3 H5 := (Same.keeps s4).trans kp5
            have h15 := kp5 _ _ h1 o1
            refine ⟨by show 1 ≤ sizeLine; decide, fun p2 hp2 => ?_⟩
            have s6 : Same H5 (upd H5 p2 (.lst [.ref h'])) := (Same.refl H5).upd hp2
            have h2 : (upd H5 p2 (.lst [.ref h'])) p2 = some (.lst [.ref h']) := upd_same
            generalize (upd H5 p2 (.lst [.ref h'])) = H6 at s6 h2
            refine put_at (an := am) (s6 _ _ (kp45 _ _ hLh3 oLh)) (s6 _ _ h15) h2 (by omega) rfl rfl fun p5 H7 s7 h5 => ?_
            refine ⟨by show 2 ≤ sizeLine; decide, fun t ht => ?_⟩
            have s8 : Same H7 (upd H7 t (.tup [.ref L, .ref p5])) := (Same.refl H7).upd ht
            have s58 := (s6.trans s7).trans s8
            have cr5 := Crew.keep cr3 kp45 (box_notup bx3)
            have ob5 := ob3.keepN kp45 (box_notup bx3)
            refine kk t L p5 as _ ps (My.rep hs am x') n' _ ⟨upd_same, s58 _ _ (kp45 _ _ hL3 oL), ob5.same s58, s8 _ _ h5, AllAt.rep (Crew.same cr5 s58) am (hx'.same s58), pok, cok.put hx nm' sd' pb' th', fun z hz => ?_, fun z => My.rep_ne hx ne' z.2⟩ (by omega) (by omega) (bx5.same s58) ((k03.trans kp45).trans (Same.keeps s58))
            rcases My.mem_rep hz with rfl | e
            · exact xok'
            · exact hok z e
      · rintro σ H3 hB
        obtain ⟨rfl, rfl⟩ := hB.out
        refine ⟨fun σ H4 => Blk (σ = [some (.ref b), some (.ref L), some (.ref Lh), some (.int way), none] ∧ H4 = H3), ?_, ?_⟩
        · walk_at "rd"
          refine iteD (fun c1 => ?_) (fun c1 => ?_)
          rotate_left
          · refine iteF ?_
            exact Blk.of ⟨rfl, rfl⟩
          · refine ⟨_, rfl, L, _, rfl, .inl (SqL.of hL1), ?_⟩
            walk_at "rd"
            rw [elp]
            refine iteD (fun c2 => ?_) (fun c2 => ?_)
            rotate_left
            · exact Blk.of ⟨rfl, rfl⟩
            · refine ⟨_, rfl, _, rfl, _, rfl, b, g, l, L, Lh, n + 1, as, has, ps, hs, rfl, bx1, by omega, by omega, hL1, oL, ob1, hLh1, oLh, cr1, pok, cok, hok, by omega, fun t L' Lh' as' has' qs ks n' H' ot a' b' bx' k' => ?_⟩
              exact kk t L' Lh' as' has' qs ks n' H' ot (by omega) (by omega) bx' (kp1.trans k')
        · rintro σ H4 hB
          obtain ⟨rfl, rfl⟩ := hB.out
          refine ⟨_, rfl, Lh, _, rfl, .inl (SqL.of hLh1), ?_⟩
          walk_at "rd"
          rw [el]
          refine iteD (fun c1 => ?_) (fun c1 => ?_)
          · refine ⟨_, rfl, _, rfl, 1, rfl, _, rfl, Lh, _, rfl, SqL.of hLh1, fun p1 hp1 => ?_⟩
            have s5 : Same H4 (upd H4 p1 (.lst (cutV (has.map V.ref) none (some (-1))))) := (Same.refl H4).upd hp1
            have h1 : (upd H4 p1 (.lst (cutV (has.map V.ref) none (some (-1))))) p1 = some (.lst ((has.take (hs.length - 1)).map V.ref)) := by
              rw [upd_same, cutV_last, ← List.map_dropLast, List.dropLast_eq_take, crl]
            generalize (upd H4 p1 (.lst (cutV (has.map V.ref) none (some (-1))))) = H5 at s5 h1
            refine ⟨by show 2 ≤ sizeLine; decide, fun t ht => ?_⟩
            have s6 : Same H5 (upd H5 t (.tup [.ref L, .ref p1])) := (Same.refl H5).upd ht
            have s46 := s5.trans s6
            refine kk t L p1 as _ ps (hs.take (hs.length - 1)) (n + 1) _ ⟨upd_same, s46 _ _ hL1, ob1.same s46, s6 _ _ h1, AllAt.take (Crew.same cr1 s46) _, pok, cok.take _, fun z hz => hok z (List.mem_of_mem_take hz), fun z => ?_⟩ (by omega) (by omega) (bx1.same s46) (kp1.trans (Same.keeps s46))
            have := congrArg List.length z.2
            rw [List.length_take] at this
            omega
          · have h0 : hs = [] := List.length_eq_zero_iff.mp (by omega)
            refine ⟨_, rfl, by show 0 ≤ sizeLine; decide, fun e0 ob0 he0 d0 => ?_⟩
            have s5 : Same H4 (upd H4 e0 (.frz ob0 (.tup []))) := (Same.refl H4).upd he0
            have t0 : TupF (upd H4 e0 (.frz ob0 (.tup []))) e0 [] := ⟨ob0, d0, upd_same⟩
            generalize (upd H4 e0 (.frz ob0 (.tup []))) = H5 at s5 t0
            refine ⟨by show 0 ≤ sizeLine; decide, fun e1 ob1' he1 d1 => ?_⟩
            have s6 : Same H5 (upd H5 e1 (.frz ob1' (.tup []))) := (Same.refl H5).upd he1
            have t1 : TupF (upd H5 e1 (.frz ob1' (.tup []))) e1 [] := ⟨ob1', d1, upd_same⟩
            have t0 := t0.same s6
            generalize (upd H5 e1 (.frz ob1' (.tup []))) = H6 at s6 t1 t0
            refine ⟨by show 5 ≤ sizeLine; decide, fun h' hh' => ?_⟩
            have s7 : Same H6 (upd H6 h' (.tup [.str "q", .int 0, .ref e0, .bl true, .ref e1])) := (Same.refl H6).upd hh'
            have hr : HrAt (upd H6 h' (.tup [.str "q", .int 0, .ref e0, .bl true, .ref e1])) h' ⟨"q", 0, [], true, []⟩ := ⟨e0, e1, upd_same, t0.same s7, t1.same s7⟩
            generalize (upd H6 h' (.tup [.str "q", .int 0, .ref e0, .bl true, .ref e1])) = H7 at s7 hr
            refine ⟨by show 1 ≤ sizeLine; decide, fun p hp => ?_⟩
            have s8 : Same H7 (upd H7 p (.lst [.ref h'])) := (Same.refl H7).upd hp
            have h8 : (upd H7 p (.lst [.ref h'])) p = some (.lst ([h'].map V.ref)) := upd_same
            have hr := hr.same s8
            generalize (upd H7 p (.lst [.ref h'])) = H8 at s8 h8 hr
            refine ⟨by show 2 ≤ sizeLine; decide, fun t ht => ?_⟩
            have s9 : Same H8 (upd H8 t (.tup [.ref L, .ref p])) := (Same.refl H8).upd ht
            have s49 := (((s5.trans s6).trans s7).trans s8).trans s9
            have wq : WOk "q" := ⟨by decide +kernel, by decide +kernel⟩
            refine kk t L p as [h'] ps [⟨"q", 0, [], true, []⟩] (n + 1) _ ⟨upd_same, s49 _ _ hL1, ob1.same s49, s9 _ _ h8, AllAt.one (hr.same s9), pok, ⟨fun x hx => ?_, by simp, fun s => ?_⟩, fun x hx => ?_, fun z => ?_⟩ (by omega) (by omega) (bx1.same s49) (kp1.trans (Same.keeps s49))
            · simp at hx
              subst hx
              exact ⟨by decide +kernel, fun t ht => by simp at ht⟩
            · refine Nat.le_trans (List.length_filter_le _ _) ?_
              show 1 ≤ 4
              decide
            · simp at hx
              subst hx
              exact ⟨wq, by decide, fun t ht => by simp at ht, by decide, fun t ht => by simp at ht⟩
            · rw [h0] at z
              cases z.2

open My (Hr)
/-! ### the text -/
def pairLine (q : My.Pr) : Str := if q.2.2 = true then Str.empty ++ "word " ++ q.1 ++ " " ++ q.2.1 ++ " laden" else Str.empty ++ "word " ++ q.1 ++ " " ++ q.2.1
def strB (s : Int) : Str := toString s
def helperWords (x : Hr) : List Str := "helper" :: x.name :: strB x.side :: (x.takes ++ ((if x.gives = true then [("gives" : Str)] else []) ++ ((if x.throws = [] then [] else ("throws" : Str) :: x.throws) ++ [])))
def helperLine (x : Hr) : Str := Txt.join " " (helperWords x)
def textOf (ps : List My.Pr) (hs : List Hr) : Str := Txt.join "\n" (ps.map pairLine ++ hs.map helperLine)
theorem lit_len : (Str.empty : Str).length = 0 ∧ ("word " : Str).length = 5 ∧ (" " : Str).length = 1 ∧ (" laden" : Str).length = 6 := by decide +kernel
def sp_pline : Sp := fun vs H Q _ => ∃ (h : Addr) (q : My.Pr), vs = [.ref h] ∧ H h = some (prO q) ∧ q.1.length ≤ 1000 ∧ q.2.1.length ≤ 1000 ∧ Q (.str (pairLine q)) H
theorem ok_p_pair_line (T : Txt K mg a) : FnOk P w K mg base CX0 1 a.f_p_pair_line a.d_p_pair_line ["pair"] sp_pline := by
  refine T.F_p_pair_line.ok sc_p_pair_line (fun vs H Q E h => ?_) (fun cdv A outer s H vs Q E hr h => ?_)
  · obtain ⟨h, q, rfl, _⟩ := h
    rfl
  · obtain ⟨h, ⟨q1, q2, q3⟩, rfl, e, l1, l2, kk⟩ := h
    refine ⟨_, (pss_cons (ps_asg (pv 0) (pg_tup (by rfl) (pgs_cons (pg_name (i := 1) sc_p_pair_line.nd rfl (Or.inl rfl)) (pgs_cons (pg_name (i := 2) sc_p_pair_line.nd rfl (Or.inl rfl)) (pgs_cons (pg_name (i := 3) sc_p_pair_line.nd rfl (Or.inl rfl)) pgs_nil)))))
      (pss_one (ps_ret (pe_ifExp (pt_val (pv 3)) (pe_joined (.cons pe_str (.cons (pe_fmt (pv 1)) (.cons pe_str (.cons (pe_fmt (pv 2)) (.cons pe_str .nil)))))) (pe_joined (.cons pe_str (.cons (pe_fmt (pv 1)) (.cons pe_str (.cons (pe_fmt (pv 2)) .nil))))))))), ?_⟩
    have e' : H h = some (.tup [.str q1, .str q2, .bl q3]) := e
    refine ⟨_, rfl, h, _, rfl, SqT.of e', rfl, ?_⟩
    refine ⟨_, _, rfl, _, _, rfl, _, _, rfl, rfl, ?_⟩
    refine ⟨_, rfl, q3, rfl, ?_⟩
    refine iteB (fun c => ?_) (fun c => ?_)
    · have lt := lit_len
      have l1 : q1.length ≤ 1000 := l1
      have l2 : q2.length ≤ 1000 := l2
      have kk : Q (.str (Str.empty ++ "word " ++ q1 ++ " " ++ q2 ++ " laden")) H := by
        have e : pairLine (q1, q2, q3) = Str.empty ++ "word " ++ q1 ++ " " ++ q2 ++ " laden" := if_pos c
        rw [← e]
        exact kk
      refine ⟨_, rfl, by simp only [strLen_append]; rw [sizeLine_eq]; omega, ?_⟩
      refine ⟨_, rfl, .inl ⟨q1, rfl, by rw [sizeLine_eq]; omega, _, rfl, by simp only [strLen_append]; rw [sizeLine_eq]; omega, ?_⟩⟩
      refine ⟨_, rfl, by simp only [strLen_append]; rw [sizeLine_eq]; omega, ?_⟩
      refine ⟨_, rfl, .inl ⟨q2, rfl, by rw [sizeLine_eq]; omega, _, rfl, by simp only [strLen_append]; rw [sizeLine_eq]; omega, ?_⟩⟩
      refine ⟨_, rfl, by simp only [strLen_append]; rw [sizeLine_eq]; omega, ?_⟩
      exact kk
    · have lt := lit_len
      have l1 : q1.length ≤ 1000 := l1
      have l2 : q2.length ≤ 1000 := l2
      have kk : Q (.str (Str.empty ++ "word " ++ q1 ++ " " ++ q2)) H := by
        have e : pairLine (q1, q2, q3) = Str.empty ++ "word " ++ q1 ++ " " ++ q2 := if_neg (by rw [c]; exact Bool.false_ne_true)
        rw [← e]
        exact kk
      refine ⟨_, rfl, by simp only [strLen_append]; rw [sizeLine_eq]; omega, ?_⟩
      refine ⟨_, rfl, .inl ⟨q1, rfl, by rw [sizeLine_eq]; omega, _, rfl, by simp only [strLen_append]; rw [sizeLine_eq]; omega, ?_⟩⟩
      refine ⟨_, rfl, by simp only [strLen_append]; rw [sizeLine_eq]; omega, ?_⟩
      refine ⟨_, rfl, .inl ⟨q2, rfl, by rw [sizeLine_eq]; omega, _, rfl, by simp only [strLen_append]; rw [sizeLine_eq]; omega, ?_⟩⟩
      exact kk
theorem sum_le : ∀ {ys : List Str} {n : Nat}, (∀ y, y ∈ ys → y.length ≤ n) → (ys.map (·.length)).sum ≤ n * ys.length
  | [], n, _ => by simp
  | y :: ys, n, h => by
    have h1 := sum_le fun z hz => h z (List.mem_cons_of_mem _ hz)
    have h2 := h y List.mem_cons_self
    rw [List.map_cons, List.sum_cons, List.length_cons, Nat.mul_succ]
    omega
theorem words_len {x : Hr} (ok : HrOk x) (sd : x.side = 0 ∨ x.side = 1) : (helperWords x).length ≤ 30 ∧ ∀ y, y ∈ helperWords x → y.length ≤ 20 := by
  have h1 := ok.tl
  have h2 := ok.hl
  have e1 : (strB 0).length ≤ 20 ∧ (strB 1).length ≤ 20 ∧ ("helper" : Str).length ≤ 20 ∧ ("gives" : Str).length ≤ 20 ∧ ("throws" : Str).length ≤ 20 := by decide +kernel
  unfold helperWords
  refine ⟨?_, fun y hy => ?_⟩
  · simp only [List.length_cons, List.length_append]
    split <;> split <;> simp <;> omega
  · rcases List.mem_cons.mp hy with rfl | hy
    · exact e1.2.2.1
    rcases List.mem_cons.mp hy with rfl | hy
    · exact ok.nm.1
    rcases List.mem_cons.mp hy with rfl | hy
    · rcases sd with e | e <;> rw [e]
      · exact e1.1
      · exact e1.2.1
    rcases List.mem_append.mp hy with hy | hy
    · exact (ok.tk y hy).1
    rcases List.mem_append.mp hy with hy | hy
    · split at hy
      · simp at hy
        subst hy
        exact e1.2.2.2.1
      · simp at hy
    rw [List.append_nil] at hy
    split at hy
    · simp at hy
    · rcases List.mem_cons.mp hy with rfl | hy
      · exact e1.2.2.2.2
      · exact (ok.th y hy).1
def sp_hline : Sp := fun vs H Q _ => ∃ (h : Addr) (x : Hr), vs = [.ref h] ∧ HrAt H h x ∧ HrOk x ∧ (x.side = 0 ∨ x.side = 1) ∧ ∀ H', Same H H' → Q (.str (helperLine x)) H'
theorem ok_p_helper_line (T : Txt K mg a) : FnOk P w K mg base CX0 1 a.f_p_helper_line a.d_p_helper_line ["pact"] sp_hline := by
  refine T.F_p_helper_line.ok sc_p_helper_line (fun vs H Q E h => ?_) (fun cdv A outer s H vs Q E hr h => ?_)
  · obtain ⟨h, x, rfl, _⟩ := h
    rfl
  · obtain ⟨h, x, rfl, hx, xok, sd, kk⟩ := h
    refine ⟨_, (pss_cons (ps_asg (pv 0) (pg_tup (by rfl) (pgs_cons (pg_name (i := 1) sc_p_helper_line.nd rfl (Or.inl rfl)) (pgs_cons (pg_name (i := 2) sc_p_helper_line.nd rfl (Or.inl rfl)) (pgs_cons (pg_name (i := 3) sc_p_helper_line.nd rfl (Or.inl rfl)) (pgs_cons (pg_name (i := 4) sc_p_helper_line.nd rfl (Or.inl rfl)) (pgs_cons (pg_name (i := 5) sc_p_helper_line.nd rfl (Or.inl rfl)) pgs_nil)))))))
      (C8.pss_cut (ps_set (i := 6) sc_p_helper_line.nd rfl (Or.inl rfl) (pe_ifExp (pt_val (pv 4)) (pe_lst (pa_cons pe_str pa_nil)) (pe_lst pa_nil)))
      (C8.pss_cut (ps_set (i := 7) sc_p_helper_line.nd rfl (Or.inl rfl) (pe_ifExp (pt_truth (pv 5) (by intro _; rfl)) (pe_lst (pa_cons pe_str (StX.pa_star (pv 5) pa_nil))) (pe_lst pa_nil)))
      (pss_one (ps_ret (pe_join pe_str (pe_lst (pa_cons pe_str (pa_cons (pv 1) (pa_cons (pe_callTy call_str_int (by rfl) T.z_str (by decide +kernel) (pa_cons (pv 2) pa_nil)) (StX.pa_star (pv 3) (StX.pa_star (pv 6) (StX.pa_star (pv 7) pa_nil))))))))))))), ?_⟩
    obtain ⟨tk, th, e, tkF, thF⟩ := id hx
    refine ⟨_, rfl, h, _, rfl, SqT.of e, rfl, ?_⟩
    refine ⟨_, _, rfl, _, _, rfl, _, _, rfl, _, _, rfl, _, _, rfl, rfl, ?_⟩
    refine ⟨fun σ H1 => Blk (∃ B : Addr, σ = [some (.ref h), some (.str x.name), some (.int x.side), some (.ref tk), some (.bl x.gives), some (.ref th), some (.ref B), none] ∧ Same H H1 ∧ H1 B = some (.lst ((if x.gives = true then [("gives" : Str)] else []).map V.str))), ?_, ?_⟩
    · refine ⟨_, rfl, x.gives, rfl, ?_⟩
      refine iteB (fun c => ?_) (fun c => ?_)
      · refine ⟨by show 1 ≤ sizeLine; decide, fun B hB => ?_⟩
        refine Blk.of ⟨B, rfl, (Same.refl H).upd hB, ?_⟩
        rw [c, upd_same]
        rfl
      · refine ⟨by show 0 ≤ sizeLine; decide, fun B hB => ?_⟩
        refine Blk.of ⟨B, rfl, (Same.refl H).upd hB, ?_⟩
        rw [c, upd_same]
        rfl
    · rintro σ H1 hB
      obtain ⟨B, rfl, s1, hB1⟩ := hB.out
      refine ⟨fun σ H2 => Blk (∃ D : Addr, σ = [some (.ref h), some (.str x.name), some (.int x.side), some (.ref tk), some (.bl x.gives), some (.ref th), some (.ref B), some (.ref D)] ∧ Same H1 H2 ∧ H2 D = some (.lst ((if x.throws = [] then [] else ("throws" : Str) :: x.throws).map V.str))), ?_, ?_⟩
      · have th1 := thF.same s1
        have hl := xok.hl
        refine ⟨_, rfl, _, .inr (.inl ⟨_, th1.seq, rfl⟩), ?_⟩
        refine iteB (fun c => ?_) (fun c => ?_)
        · have ne : ¬ x.throws = [] := fun e => by rw [e] at c; exact absurd c (by decide)
          refine ⟨_, rfl, th, _, rfl, .inl th1.seq, ?_⟩
          refine ⟨by show (x.throws.map V.str ++ []).length + 1 ≤ sizeLine; rw [List.length_append, List.length_map]; exact Nat.le_of_lt (small (by show _ + 0 + 1 ≤ _; omega)), fun D hD => ?_⟩
          refine Blk.of ⟨D, rfl, (Same.refl H1).upd hD, ?_⟩
          rw [if_neg ne, upd_same, List.append_nil]
          rfl
        · have ne : x.throws = [] := by
            cases hh : x.throws with
            | nil => rfl
            | cons a b => rw [hh] at c; exact nomatch (show true = false from c)
          refine ⟨by show 0 ≤ sizeLine; decide, fun D hD => ?_⟩
          refine Blk.of ⟨D, rfl, (Same.refl H1).upd hD, ?_⟩
          rw [if_pos ne, upd_same]
          rfl
      · rintro σ H2 hB
        obtain ⟨D, rfl, s2, hD2⟩ := hB.out
        have sA := s1.trans s2
        have ew : (V.str "helper" :: V.str x.name :: V.str (strB x.side) :: (x.takes.map V.str ++ ((if x.gives = true then [("gives" : Str)] else []).map V.str ++ ((if x.throws = [] then [] else ("throws" : Str) :: x.throws).map V.str ++ [])))) = (helperWords x).map V.str := by
          unfold helperWords
          simp [List.map_append]
        have hwl := words_len xok sd
        refine ⟨⟨_, rfl⟩, ?_⟩
        refine ⟨_, rfl, _, rfl, x.side, rfl, by rcases sd with e | e <;> rw [e] <;> decide, ?_⟩
        refine ⟨_, rfl, tk, _, rfl, .inl ((tkF.same sA).seq), ?_⟩
        refine ⟨_, rfl, B, _, rfl, .inr (SqL.of (s2 _ _ hB1)), ?_⟩
        refine ⟨_, rfl, D, _, rfl, .inr (SqL.of hD2), ?_⟩
        have el := congrArg List.length ew
        rw [List.length_map] at el
        refine ⟨Nat.le_trans (Nat.le_of_eq el) (Nat.le_of_lt (small (by omega))), fun W hW => ?_⟩
        have sm := sum_le hwl.2
        refine ⟨_, W, helperWords x, rfl, rfl, .inl (SqL.of (upd_same.trans (congrArg (fun z => some (HO.lst z)) ew))), ?_, ?_⟩
        · rw [lit_len.2.2.1]
          omega
        · exact kk _ (sA.upd (sA.free hW))
theorem joinL_len (S : List Nat) : ∀ ls : List (List Nat), (TL.joinL S ls).length ≤ (ls.map (·.length)).sum + ls.length * S.length
  | [] => by simp [TL.joinL]
  | [x] => by simp [TL.joinL]
  | x :: y :: r => by
    have ih := joinL_len S (y :: r)
    have e : TL.joinL S (x :: y :: r) = x ++ S ++ TL.joinL S (y :: r) := by simp [TL.joinL]
    rw [e, List.length_append, List.length_append, List.map_cons, List.sum_cons, List.length_cons, Nat.succ_mul]
    omega
theorem S_cps (t : Str) : SX.S t.cps.toList = t := by
  cases t
  simp [SX.S]
theorem join_le (sep : Str) (ys : List Str) : (Txt.join sep ys).length ≤ (ys.map (·.length)).sum + ys.length * sep.length := by
  have e1 : ys = (ys.map fun y => y.cps.toList).map SX.S := by
    rw [List.map_map]
    have : SX.S ∘ (fun y : Str => y.cps.toList) = id := funext fun y => S_cps y
    rw [this, List.map_id]
  have e2 : sep = SX.S sep.cps.toList := (S_cps sep).symm
  have e3 : Txt.join sep ys = SX.S (TL.joinL sep.cps.toList (ys.map fun y => y.cps.toList)) := by
    conv => lhs; rw [e1, e2]
    exact SX.join_S _ _
  have ln : ∀ l : List Nat, (SX.S l).length = l.length := fun l => by simp [SX.S, Str.length]
  have h := joinL_len sep.cps.toList (ys.map fun y => y.cps.toList)
  rw [e3, ln]
  rw [List.map_map, List.length_map] at h
  have e4 : (fun x : List Nat => x.length) ∘ (fun y : Str => y.cps.toList) = fun y : Str => y.length := funext fun y => by show y.cps.toList.length = y.cps.size; simp
  rw [e4] at h
  have e5 : sep.cps.toList.length = sep.length := by show sep.cps.toList.length = sep.cps.size; simp
  rw [e5] at h
  exact h
theorem pairLine_len {q : My.Pr} (h1 : q.1.length ≤ 8) (h2 : q.2.1.length ≤ 8) : (pairLine q).length ≤ 1000 := by
  have lt := lit_len
  unfold pairLine
  split <;> simp only [strLen_append] <;> omega
theorem helperLine_len {x : Hr} (ok : HrOk x) (sd : x.side = 0 ∨ x.side = 1) : (helperLine x).length ≤ 1000 := by
  have h := words_len ok sd
  have sm := sum_le h.2
  have jl := join_le " " (helperWords x)
  rw [lit_len.2.2.1] at jl
  unfold helperLine
  omega
def sp_Pstr (C : Addr) : Sp := fun vs H Q _ => ∃ (p pl hl : Addr) (as has : List Addr) (ps : List My.Pr) (hs : List Hr), vs = [.ref p] ∧ PactsAt C H p pl hl as ps ∧ CrewAt H hl has hs ∧ My.PairsOk ps ∧ My.CrewOk ps hs ∧ (∀ x, x ∈ hs → HrOk x) ∧ ∀ H', Same H H' → Q (.str (textOf ps hs)) H'
theorem ok_Pacts_str (T : Txt K mg a) : FnOk P w K mg base CX0 2 a.f_Pacts_str a.d_Pacts_str ["self"] (sp_Pstr a.c_Pacts) := by
  refine T.F_Pacts_str.ok sc_Pacts_str (fun vs H Q E h => ?_) (fun cdv A outer s H vs Q E hr h => ?_)
  · obtain ⟨p, pl, hl, as, has, ps, hs, rfl, _⟩ := h
    rfl
  · obtain ⟨p, pl, hl, as, has, ps, hs, rfl, pa, cr, pok, cok, hok, kk⟩ := h
    refine ⟨_, (pss_cons (ps_setLc (i := 1) (own := [("pair", 3)]) (g := gName 3) (tt := tYes) rfl sc_Pacts_str.nd rfl rfl (sw_true rfl rfl rfl (by decide +kernel)) (pi_list (pe_fld (pv 0) rfl)) (blkOk_by (own := [("pair", 3)]) (N := ["self", "words", "helpers", "pair", "pact"]) (sc := defScope s_Pacts_str) (by decide +kernel)) (fun _ _ _ _ _ => pg_name (i := 3) sc_Pacts_str.nd rfl (Or.inl rfl)) (fun _ _ _ _ _ => pts_nil) (fun _ _ _ _ _ => by exact (pe_call (ok_p_pair_line T) (hr.mono (by decide)) rfl T.g_p_pair_line T.k_p_pair_line T.B_p_pair_line .nil pass0 (pa_cons (pv 3) pa_nil))))
      (pss_cons (ps_setLc (i := 2) (own := [("pact", 4)]) (g := gName 4) (tt := tYes) rfl sc_Pacts_str.nd rfl rfl (sw_true rfl rfl rfl (by decide +kernel)) (pi_list (pe_fld (pv 0) rfl)) (blkOk_by (own := [("pact", 4)]) (N := ["self", "words", "helpers", "pair", "pact"]) (sc := defScope s_Pacts_str) (by decide +kernel)) (fun _ _ _ _ _ => pg_name (i := 4) sc_Pacts_str.nd rfl (Or.inl rfl)) (fun _ _ _ _ _ => pts_nil) (fun _ _ _ _ _ => by exact (pe_call (ok_p_helper_line T) (hr.mono (by decide)) rfl T.g_p_helper_line T.k_p_helper_line T.B_p_helper_line .nil pass0 (pa_cons (pv 4) pa_nil))))
      (pss_one (ps_ret (pe_join pe_str (pe_op op_cat (pv 1) (pv 2))))))), ?_⟩
    obtain ⟨dx, e0⟩ := pa.ob
    have many := pok.many
    have hmany := crew_many cok
    have crl := AllAt.len cr.hs
    have pol := pa.ps.len
    refine ⟨_, rfl, _, _, _, _, _, rfl, e0, T.cl_Pacts, T.n_Pacts__pairs, pfs_p, pl, rfl, ⟨_, SqL.of pa.lp⟩, fun D hD => ?_⟩
    have nlD : pl ≠ D := ne_of_none pa.lp hD
    refine lc_list (K := K) (a := pl) (xs := as.map V.ref) (fun k H1 => Blk (H1 = upd H D (.lst (((ps.take k).map pairLine).map V.str)))) (Blk.of rfl) (fun k H1 _ hB => ?_) ?_ ?_
    · obtain rfl := hB.out
      exact SqL.of ((upd_ne nlD).trans pa.lp)
    · intro k y H1 hy hB
      obtain rfl := hB.out
      obtain ⟨h, hh, rfl⟩ := refs_get hy
      obtain ⟨q, hq, hq2⟩ := pa.ps.get hh
      have hk := get_lt hq
      have nm := pok.nm q (List.mem_of_getElem? hq)
      have n1 := name_len nm.1
      have n2 := name_len nm.2
      refine ⟨rfl, ?_⟩
      dsimp only [tYes]
      refine iteT ?_
      refine ⟨_, rfl, h, q, rfl, (upd_ne (ne_of_none hq2 hD)).trans hq2, by omega, by omega, ?_⟩
      refine ⟨_, upd_same, by rw [List.length_map, List.length_map, List.length_take]; exact small (by omega), Blk.of ?_⟩
      rw [upd_upd, take_snoc hq, List.map_append, List.map_append]
      rfl
    · intro H1 hB
      obtain rfl := hB.out
      have e1 : ps.take (as.map V.ref).length = ps := by rw [List.length_map, pol, List.take_length]
      rw [e1]
      have s1 : Same H (upd H D (.lst ((ps.map pairLine).map V.str))) := (Same.refl H).upd hD
      have h1 : (upd H D (.lst ((ps.map pairLine).map V.str))) D = some (.lst ((ps.map pairLine).map V.str)) := upd_same
      generalize (upd H D (.lst ((ps.map pairLine).map V.str))) = H2 at s1 h1
      have cr2 := cr.same s1
      refine ⟨_, rfl, _, _, _, _, _, rfl, s1 _ _ e0, T.cl_Pacts, T.n_Pacts__helpers, pfs_h, hl, rfl, ⟨_, SqL.of cr2.lh⟩, fun G hG => ?_⟩
      have nDG : D ≠ G := ne_of_none h1 hG
      refine lc_list (K := K) (a := hl) (xs := has.map V.ref) (fun k H3 => Blk (Same H2 H3 ∧ H3 G = some (.lst (((hs.take k).map helperLine).map V.str)))) (Blk.of ⟨(Same.refl H2).upd hG, upd_same⟩) (fun k H3 _ hB => ?_) ?_ ?_
      · obtain ⟨s3, _⟩ := hB.out
        exact SqL.of (s3 _ _ cr2.lh)
      · intro k y H3 hy hB
        obtain ⟨s3, h3⟩ := hB.out
        obtain ⟨h, hh, rfl⟩ := refs_get hy
        obtain ⟨x, hx, hx2⟩ := AllAt.get (Crew.same cr2.hs s3) hh
        have hk := get_lt hx
        have xm := List.mem_of_getElem? hx
        refine ⟨rfl, ?_⟩
        dsimp only [tYes]
        refine iteT ?_
        refine ⟨_, rfl, h, x, rfl, hx2, hok x xm, (pactB_out (cok.one x xm).1).2.1, fun H4 s4 => ?_⟩
        refine ⟨_, s4 _ _ h3, by rw [List.length_map, List.length_map, List.length_take]; exact small (by omega), Blk.of ⟨(s3.trans s4).upd hG, ?_⟩⟩
        rw [upd_same, take_snoc hx, List.map_append, List.map_append]
        rfl
      · intro H3 hB
        obtain ⟨s3, h3⟩ := hB.out
        have e2 : hs.take (has.map V.ref).length = hs := by rw [List.length_map, crl, List.take_length]
        rw [e2] at h3
        have ew : (ps.map pairLine).map V.str ++ (hs.map helperLine).map V.str = (ps.map pairLine ++ hs.map helperLine).map V.str := (List.map_append ..).symm
        have lw : (ps.map pairLine ++ hs.map helperLine).length ≤ 14 := by
          rw [List.length_append, List.length_map, List.length_map]
          omega
        have sm := sum_le (ys := ps.map pairLine ++ hs.map helperLine) (n := 1000) fun y hy => by
          rcases List.mem_append.mp hy with hy | hy
          · obtain ⟨q, hq, rfl⟩ := List.mem_map.mp hy
            have nm := pok.nm q hq
            exact pairLine_len (name_len nm.1) (name_len nm.2)
          · obtain ⟨x, hx, rfl⟩ := List.mem_map.mp hy
            exact helperLine_len (hok x hx) (pactB_out (cok.one x hx).1).2.1
        refine ⟨⟨_, rfl⟩, ?_⟩
        refine ⟨_, rfl, _, rfl, D, G, _, _, rfl, rfl, s3 _ _ h1, h3, by rw [List.length_map, List.length_map, List.length_map, List.length_map]; exact Nat.le_of_lt (small (by omega)), fun W hW => ?_⟩
        refine ⟨_, W, ps.map pairLine ++ hs.map helperLine, rfl, rfl, .inl (SqL.of (upd_same.trans (congrArg (fun z => some (HO.lst z)) ew))), ?_, ?_⟩
        · have : ("\n" : Str).length = 1 := by decide +kernel
          rw [this]
          omega
        · exact kk _ ((s1.trans s3).upd ((s1.trans s3).free hW))

open My (Hr)
/-! ### the law -/
theorem made_same {H H' : Hp} {x dx : Addr} {o1 o2 : HO} (hx : H x = none) (hd : H dx = none) (k : Keeps [x] (upd (upd H dx o1) x o2) H') : Same H H' := fun c o e => by
  have n1 : c ≠ x := ne_of_none e hx
  have n2 : c ≠ dx := ne_of_none e hd
  exact k c o (by rw [upd_ne n1, upd_ne n2]; exact e) (by simp [n1])
/-- a Pacts, and the box stands apart -/
structure PX (C : Addr) (H : Hp) (b g p pl hl : Addr) (as has : List Addr) (ps : List My.Pr) (hs : List Hr) : Prop where
  pa : PactsAt C H p pl hl as ps
  cr : CrewAt H hl has hs
  off : ∀ x, x ∈ [p, pl, hl] → x ∉ [b, g]
theorem PX.same {C : Addr} {H H' : Hp} {b g p pl hl : Addr} {as has : List Addr} {ps : List My.Pr} {hs : List Hr} (h : PX C H b g p pl hl as has ps hs) (s : Same H H') : PX C H' b g p pl hl as has ps hs := ⟨h.pa.same s, h.cr.same s, h.off⟩
theorem PX.keepR {C : Addr} {H H' : Hp} {R : List Addr} {b g p pl hl : Addr} {as has : List Addr} {ps : List My.Pr} {hs : List Hr} (h : PX C H b g p pl hl as has ps hs) (k : Keeps R H H') (n : NoTup H R) (o : ∀ x, x ∈ [p, pl, hl] → x ∉ R) : PX C H' b g p pl hl as has ps hs := by
  obtain ⟨⟨⟨dx, e⟩, e1, e2⟩, ⟨e3, e4⟩, f⟩ := h
  exact ⟨⟨⟨dx, k _ _ e (o p (by simp))⟩, k _ _ e1 (o pl (by simp)), e2.keepN k n⟩, ⟨k _ _ e3 (o hl (by simp)), Crew.keep e4 k n⟩, f⟩
theorem PX.put {C : Addr} {H : Hp} {b g p pl hl x : Addr} {xs : List V} {o : HO} {as has : List Addr} {ps : List My.Pr} {hs : List Hr} (h : PX C H b g p pl hl as has ps hs) (e : H x = some (.lst xs)) (n : x ∉ [p, pl, hl]) : PX C (upd H x o) b g p pl hl as has ps hs :=
  h.keepR ((Keeps.refl [x] H).upd (.inl (by simp))) (NoTup.lst e) fun z hz q => by
    simp at q
    subst q
    exact n hz
theorem PX.fresh {C : Addr} {H : Hp} {b g p pl hl x : Addr} {as has : List Addr} {ps : List My.Pr} {hs : List Hr} (h : PX C H b g p pl hl as has ps hs) (e : H x = none) : x ∉ [p, pl, hl] := by
  obtain ⟨⟨⟨dx, e0⟩, e1, _⟩, ⟨e3, _⟩, _⟩ := h
  intro q
  simp at q
  rcases q with rfl | rfl | rfl
  · rw [e0] at e; cases e
  · rw [e1] at e; cases e
  · rw [e3] at e; cases e
/-- what was drawn -/
structure DX (H : Hp) (b g l L Lh : Addr) (n : Int) (as has : List Addr) (ps : List My.Pr) (hs : List Hr) : Prop where
  bx : BoxAt H b g l n
  hL : H L = some (.lst (as.map V.ref))
  ob : Objs H as prO ps
  hLh : H Lh = some (.lst (has.map V.ref))
  cr : Crew H has hs
  oL : L ∉ [b, g]
  oLh : Lh ∉ [b, g]
theorem DX.same {H H' : Hp} {b g l L Lh : Addr} {n : Int} {as has : List Addr} {ps : List My.Pr} {hs : List Hr} (h : DX H b g l L Lh n as has ps hs) (s : Same H H') : DX H' b g l L Lh n as has ps hs :=
  ⟨h.bx.same s, s _ _ h.hL, h.ob.same s, s _ _ h.hLh, Crew.same h.cr s, h.oL, h.oLh⟩
theorem DX.put {H : Hp} {b g l L Lh x : Addr} {n : Int} {xs : List V} {o : HO} {as has : List Addr} {ps : List My.Pr} {hs : List Hr} (h : DX H b g l L Lh n as has ps hs) (e : H x = some (.lst xs)) (nx : x ∉ [b, g, l, L, Lh]) : DX (upd H x o) b g l L Lh n as has ps hs := by
  have k : Keeps [x] H (upd H x o) := (Keeps.refl [x] H).upd (.inl (by simp))
  have nt := NoTup.lst e
  simp only [List.mem_cons, List.not_mem_nil, or_false, not_or] at nx
  obtain ⟨n1, n2, n3, n4, n5⟩ := nx
  exact ⟨h.bx.keep k (by simp [Ne.symm n1]) (by simp [Ne.symm n2]) (by simp [Ne.symm n3]), k _ _ h.hL (by simp [Ne.symm n4]), h.ob.keepN k nt, k _ _ h.hLh (by simp [Ne.symm n5]), Crew.keep h.cr k nt, h.oL, h.oLh⟩
theorem DX.fresh {H : Hp} {b g l L Lh x : Addr} {n : Int} {as has : List Addr} {ps : List My.Pr} {hs : List Hr} (h : DX H b g l L Lh n as has ps hs) (e : H x = none) : x ∉ [b, g, l, L, Lh] := by
  have h1 := offbox3 h.bx e
  have n4 : L ≠ x := ne_of_none h.hL e
  have n5 : Lh ≠ x := ne_of_none h.hLh e
  intro q
  simp only [List.mem_cons, List.not_mem_nil, or_false] at q h1
  rcases q with q | q | q | q | q
  · exact h1 (.inl q)
  · exact h1 (.inr (.inl q))
  · exact h1 (.inr (.inr q))
  · exact n4 q.symm
  · exact n5 q.symm
def who3 : List Str := ["", "A", "zzzzzzzz"]
def spLaw (K : PySem.W.Frag) : Sp := fun vs H Q _ => ∃ (s : Addr) (ns : List Int), vs = [.ref s] ∧ SqL K H s (ns.map V.int) ∧ ns.length ≤ 63 ∧ ∀ H', Q (.bl true) H'
theorem ok_law (T : Txt K mg a) : FnOk P w K mg base CX0 7 a.f_law a.d_law ["_law_script"] (spLaw K) := by
  refine T.F_law.ok sc_law (fun vs H Q E h => ?_) (fun cdv A outer s H vs Q E hr h => ?_)
  · obtain ⟨s, ns, rfl, _⟩ := h
    rfl
  · obtain ⟨sc, ns, rfl, hS, hl, kk⟩ := h
    refine ⟨_, (pss_cons (ps_set (i := 1) sc_law.nd rfl (Or.inl rfl) (pe_call (ok_box T) (hr.mono (by decide)) rfl T.g_box T.k_box T.B_box .nil pass0 (pa_cons (pv 0) pa_nil)))
      (pss_cons (ps_set (i := 2) sc_law.nd rfl (Or.inl rfl) (pe_call (ok_pairs T) (hr.mono (by decide)) rfl T.g_pairs T.k_pairs T.B_pairs .nil pass0 (pa_cons (pv 1) (pa_cons pe_int pa_nil))))
      (pss_cons (ps_set (i := 3) sc_law.nd rfl (Or.inl rfl) (pe_call (ok_helpers T) (hr.mono (by decide)) rfl T.g_helpers T.k_helpers T.B_helpers .nil pass0 (pa_cons (pv 1) (pa_cons (pv 2) pa_nil))))
      (pss_cons (ps_set (i := 4) sc_law.nd rfl (Or.inl rfl) (pe_lst (pa_cons (pe_callTy call_list_of (by rfl) T.z_list (by decide +kernel) (pa_cons (pv 2) pa_nil)) (pa_cons (pe_callTy call_list_of (by rfl) T.z_list (by decide +kernel) (pa_cons (pv 3) pa_nil)) pa_nil))))
      (pss_cons (ps_set (i := 5) sc_law.nd rfl (Or.inl rfl) (pe_makeN (n := 1) (ks := ["helpers"]) T.mk_Pacts (ok_Pacts_init T) (hr.mono (by decide)) rfl T.g_Pacts T.KN_Pacts_init_2.kbn pass0 (pa_cons (pe_ix ix_list (pv 4) pe_int (fun _ _ => rfl)) pa_nil) (pk_cons (pe_ix ix_list (pv 4) pe_int (fun _ _ => rfl)) pk_nil)))
      (pss_cons (ps_expr (pe_bm0 PySem.F.plainAttrs_list PySem.F.slot_list_clear PySem.F.type_list_clear mt_clear (pe_ix ix_list (pv 4) pe_int (fun _ _ => rfl))))
      (pss_cons (ps_expr (pe_bm0 PySem.F.plainAttrs_list PySem.F.slot_list_clear PySem.F.type_list_clear mt_clear (pe_ix ix_list (pv 4) pe_int (fun _ _ => rfl))))
      (pss_cons (ps_if (pt_not (pt_val (pe_call (ok_told T) (hr.mono (by decide)) rfl T.g_told T.k_told T.B_told .nil pass0 (pa_cons (pv 5) (pa_cons (pv 2) (pa_cons (pv 3) pa_nil)))))) (pss_one (ps_ret pe_bl)) pss_nil)
      (pss_cons (ps_expr (pe_bm PySem.F.plainAttrs_list PySem.F.slot_list_append PySem.F.type_list_append mt_append (pe_meth (pv 5) T.cl_Pacts T.m_Pacts_names (ok_Pacts_names T) (hr.mono (by decide)) T.B_Pacts_names .nil pass0 (pa_cons pe_int pa_nil)) (pa_cons pe_str pa_nil)))
      (pss_cons (ps_expr (pe_bm0 PySem.F.plainAttrs_list PySem.F.slot_list_clear PySem.F.type_list_clear mt_clear (pe_meth0 (pv 5) T.cl_Pacts T.m_Pacts_pairs (ok_Pacts_pairs T) (hr.mono (by decide)) T.B_Pacts_pairs .nil pass0)))
      (pss_cons (ps_for PassesOwn.never rfl (pi_list (pe_op op_cat (pe_lst (pa_cons pe_str (pa_cons pe_str (pa_cons pe_str pa_nil)))) (pe_lc (own := [("_law_pair", 11)]) (g := gName 11) (te := tOp (rIxT K) (tVar 11) (tC (.int 0))) (tt := tYes) rfl sc_law.nd (pi_list (pv 2)) (blkOk_by (own := [("_law_pair", 11)]) (N := ["_law_script", "_law_box_here", "_law_pairs_here", "_law_crew", "_law_mine", "_law_pacts", "_law_who", "_law_helper", "_law_same", "_law_lists", "_law_other", "_law_pair"]) (sc := defScope s_law) (by decide +kernel)) (fun _ _ _ _ _ => pg_name (i := 11) sc_law.nd rfl (Or.inl rfl)) (fun _ _ _ _ _ => pts_nil) (fun _ _ _ _ _ => by exact (pe_ix ix_tup (pv 11) pe_int (fun _ _ => rfl)))))) (pg_name (i := 6) sc_law.nd rfl (Or.inl rfl)) (pss_one (ps_if (PW.pt (pw_and (pt_cmpR op_notIn_seq (pv 6) (pe_lc (own := [("_law_helper", 7)]) (g := gName 7) (te := tOp (rIxT K) (tVar 7) (tC (.int 0))) (tt := tYes) rfl sc_law.nd (pi_list (pv 3)) (blkOk_by (own := [("_law_helper", 7)]) (N := ["_law_script", "_law_box_here", "_law_pairs_here", "_law_crew", "_law_mine", "_law_pacts", "_law_who", "_law_helper", "_law_same", "_law_lists", "_law_other", "_law_pair"]) (sc := defScope s_law) (by decide +kernel)) (fun _ _ _ _ _ => pg_name (i := 7) sc_law.nd rfl (Or.inl rfl)) (fun _ _ _ _ _ => pts_nil) (fun _ _ _ _ _ => by exact (pe_ix ix_tup (pv 7) pe_int (fun _ _ => rfl)))) (by rfl)) (pw_and1 (pt_not (pt_val (pe_call (ok_refused T) (hr.mono (by decide)) rfl T.g_refused T.k_refused T.B_refused .nil pass0 (pa_cons (pv 5) (pa_cons (pv 6) pa_nil)))))))) (pss_one (ps_ret pe_bl)) pss_nil)))
      (pss_cons (ps_for PassesOwn.never rfl (pi_list (pv 3)) (pg_name (i := 7) sc_law.nd rfl (Or.inl rfl)) (pss_one (ps_expr (pe_bm PySem.F.plainAttrs_list PySem.F.slot_list_append PySem.F.type_list_append mt_append (pe_methN (ks := ["side"]) (pv 5) T.cl_Pacts T.m_Pacts_errors (ok_Pacts_errors T) (hr.mono (by decide)) T.KN_Pacts_errors_2 (pass0) (pa_cons (pe_ix ix_tup (pv 7) pe_int (fun _ _ => rfl)) pa_nil) (pk_cons pe_int pk_nil)) (pa_cons pe_str pa_nil)))))
      (pss_cons (ps_set (i := 8) sc_law.nd rfl (Or.inl rfl) (pe_make T.mk_Pacts (ok_Pacts_init T) (hr.mono (by decide)) rfl T.g_Pacts T.B_Pacts_init .nil pass0 (pa_cons (pe_callTy call_list_of (by rfl) T.z_list (by decide +kernel) (pa_cons (pv 2) pa_nil)) (pa_cons (pe_callTy call_list_of (by rfl) T.z_list (by decide +kernel) (pa_cons (pv 3) pa_nil)) pa_nil))))
      (pss_cons (ps_set (i := 9) sc_law.nd rfl (Or.inl rfl) (pe_call (ok_otherwise T) (hr.mono (by decide)) rfl T.g_otherwise T.k_otherwise T.B_otherwise .nil pass0 (pa_cons (pv 1) (pa_cons (pv 2) (pa_cons (pv 3) pa_nil)))))
      (pss_cons (ps_set (i := 10) sc_law.nd rfl (Or.inl rfl) (pe_make T.mk_Pacts (ok_Pacts_init T) (hr.mono (by decide)) rfl T.g_Pacts T.B_Pacts_init .nil pass0 (pa_cons (pe_ix ix_tup (pv 9) pe_int (fun _ _ => rfl)) (pa_cons (pe_ix ix_tup (pv 9) pe_int (fun _ _ => rfl)) pa_nil))))
      (pss_cons (ps_if (PW.pt (pw_or (pt_not (pt_cmpR (op_eqOwn (cls_Pacts T) (ok_Pacts_eq T) (hr.mono (by decide)) T.B_Pacts_eq pass0) (pv 5) (pv 8) (nomark _))) (pw_or (pt_cmpR (op_neOwn (cls_Pacts T) (ok_Pacts_eq T) (hr.mono (by decide)) T.B_Pacts_eq pass0) (pv 5) (pv 8) (nomark _)) (pw_or (pt_cmpR (op_eqOwn (cls_Pacts T) (ok_Pacts_eq T) (hr.mono (by decide)) T.B_Pacts_eq pass0) (pv 5) (pv 10) (nomark _)) (pw_or (pt_cmpR (op_eqOwn (cls_Pacts T) (ok_Pacts_eq T) (hr.mono (by decide)) T.B_Pacts_eq pass0) (pv 10) (pv 5) (nomark _)) (pw_or1 (pt_not (pt_cmpR (op_neOwn (cls_Pacts T) (ok_Pacts_eq T) (hr.mono (by decide)) T.B_Pacts_eq pass0) (pv 5) (pv 10) (nomark _))))))))) (pss_one (ps_ret pe_bl)) pss_nil)
      (pss_cons (ps_if (PW.pt (pw_or (pt_cmpR (op_inOwn (cls_Pacts T) (dec_Pacts T) (ok_Pacts_eqNo T) (hr.mono (by decide)) T.B_Pacts_eq pass0) (pv 5) (pe_lst (pa_cons (pe_callTy (call_strOwn T.m_Pacts_str (ok_Pacts_str T) (hr.mono (by decide)) T.B_Pacts_str pass0) (by rfl) T.z_str (by decide +kernel) (pa_cons (pv 5) pa_nil)) (pa_cons (pv 2) (pa_cons (pv 3) (pa_cons (pe_callB call_len_seq (by rfl) T.z_len (by decide +kernel) (pa_cons (pv 3) pa_nil)) (pa_cons pe_non pa_nil)))))) (by rfl)) (pw_or1 (pt_not (pt_val (pe_call (ok_told T) (hr.mono (by decide)) rfl T.g_told T.k_told T.B_told .nil pass0 (pa_cons (pv 8) (pa_cons (pv 2) (pa_cons (pv 3) pa_nil))))))))) (pss_one (ps_ret pe_bl)) pss_nil)
      (pss_one (ps_ret (pe_call (ok_told T) (hr.mono (by decide)) rfl T.g_told T.k_told T.B_told .nil pass0 (pa_cons (pv 5) (pa_cons (pv 2) (pa_cons (pv 3) pa_nil))))))))))))))))))))))), ?_⟩
    refine ⟨_, rfl, sc, ns, rfl, hS, hl, fun b g l H1 hb hg hl bx s1 => ?_⟩
    refine ⟨_, rfl, b, g, l, _, 6, rfl, bx, by omega, by omega, by omega, by omega, fun L as ps n2 H2 hL hL2 ob2 fr2 pok a2 b2 bx2 kp2 => ?_⟩
    have oL := offbox bx hL
    refine ⟨_, rfl, _, rfl, b, g, l, L, n2, as, ps, rfl, bx2, by omega, by omega, hL2, oL, ob2, pok, fun Lh has hs n3 H3 hLh hLh3 cr3 hl3 hok cok a3 b3 bx3 kp3 => ?_⟩
    have oLh := offbox bx2 hLh
    have dx3 : DX H3 b g l L Lh n3 as has ps hs := ⟨bx3, kp3 _ _ hL2 oL, ob2.keepN kp3 (box_notup bx2), hLh3, cr3, oL, oLh⟩
    refine ⟨_, rfl, L, _, rfl, .inl (SqL.of dx3.hL), fun M1 hM1 => ?_⟩
    have s4 : Same H3 (upd H3 M1 (.lst (as.map V.ref))) := (Same.refl H3).upd hM1
    have m1 : (upd H3 M1 (.lst (as.map V.ref))) M1 = some (.lst (as.map V.ref)) := upd_same
    have fM1 := dx3.fresh hM1
    generalize (upd H3 M1 (.lst (as.map V.ref))) = H4 at s4 m1
    refine ⟨_, rfl, Lh, _, rfl, .inl (SqL.of (s4 _ _ dx3.hLh)), fun M2 hM2 => ?_⟩
    have s5 : Same H4 (upd H4 M2 (.lst (has.map V.ref))) := (Same.refl H4).upd hM2
    have m2 : (upd H4 M2 (.lst (has.map V.ref))) M2 = some (.lst (has.map V.ref)) := upd_same
    have fM2 := (dx3.same s4).fresh hM2
    have n12 : M1 ≠ M2 := ne_of_none m1 hM2
    generalize (upd H4 M2 (.lst (has.map V.ref))) = H5 at s5 m2
    refine ⟨by show 2 ≤ sizeLine; decide, fun M hM => ?_⟩
    have s6 : Same H5 (upd H5 M (.lst [.ref M1, .ref M2])) := (Same.refl H5).upd hM
    have m6 : (upd H5 M (.lst [.ref M1, .ref M2])) M = some (.lst [.ref M1, .ref M2]) := upd_same
    have n1M : M1 ≠ M := ne_of_none (s5 _ _ m1) hM
    generalize (upd H5 M (.lst [.ref M1, .ref M2])) = H6 at s6 m6
    have dx6 := ((dx3.same s4).same s5).same s6
    have m1 := s6 _ _ (s5 _ _ m1)
    have m2 := s6 _ _ m2
    refine ⟨_, rfl, _, _, _, _, rfl, rfl, SqL.of m6, at_of (j := 0) rfl rfl, ?_⟩
    refine ⟨_, rfl, _, _, _, _, rfl, rfl, SqL.of m6, at_of (j := 1) rfl rfl, rfl, rfl, fun p dx hp hdx ndx => ?_⟩
    have nw : ∀ {c : Addr} {o : HO}, H6 c = some o → upd (upd H6 dx (.own p)) p (.ins a.c_Pacts dx []) c = some o := fun e => by
      rw [upd_ne (ne_of_none e hp), upd_ne (ne_of_none e hdx)]
      exact e
    have snw : Same H6 (upd (upd H6 dx (.own p)) p (.ins a.c_Pacts dx [])) := fun c o e => nw e
    refine ⟨p, dx, M1, M2, as, has, ps, hs, rfl, upd_same, nw m1, nw m2, dx6.ob.same snw, Crew.same dx6.cr snw, pok, cok, fun pl hl' H7 hpl hhl pa7 cr7 kp7 => ⟨rfl, ?_⟩⟩
    have s7 : Same H6 H7 := made_same hp hdx kp7
    have dx7 := dx6.same s7
    have fr7 : ∀ {x : Addr}, (upd (upd H6 dx (.own p)) p (.ins a.c_Pacts dx [])) x = none → H6 x = none := fun {x} e => by
      cases h : H6 x with
      | none => rfl
      | some o => rw [nw h] at e; cases e
    have px7 : PX a.c_Pacts H7 b g p pl hl' as has ps hs := ⟨pa7, cr7, fun x hx => by
      simp at hx
      rcases hx with rfl | rfl | rfl
      · exact offbox dx6.bx hp
      · exact offbox dx6.bx (fr7 hpl)
      · exact offbox dx6.bx (fr7 hhl)⟩
    have npM : ∀ x o, H6 x = some o → x ∉ [p, pl, hl'] := fun x o e q => by
      simp at q
      rcases q with rfl | rfl | rfl
      · rw [hp] at e; cases e
      · rw [fr7 hpl] at e; cases e
      · rw [fr7 hhl] at e; cases e
    have m1' := s7 _ _ m1
    have m2' := s7 _ _ m2
    have m6' := s7 _ _ m6
    -- what was handed in is emptied
    refine ⟨_, rfl, _, _, _, _, rfl, rfl, SqL.of m6', at_of (j := 0) rfl rfl, ?_⟩
    refine ⟨.inl ⟨rfl, _, SqL.of m1'⟩, M1, _, rfl, rfl, m1', ?_⟩
    have dx8 : DX (upd H7 M1 (.lst [])) b g l L Lh n3 as has ps hs := dx7.put m1' fM1
    have px8 : PX a.c_Pacts (upd H7 M1 (.lst [])) b g p pl hl' as has ps hs := px7.put m1' (npM _ _ m1)
    have m28 : (upd H7 M1 (.lst [])) M2 = some (.lst (has.map V.ref)) := (upd_ne n12.symm).trans m2'
    have m68 : (upd H7 M1 (.lst [])) M = some (.lst [.ref M1, .ref M2]) := (upd_ne n1M.symm).trans m6'
    generalize (upd H7 M1 (.lst [])) = H8 at dx8 px8 m28 m68
    refine ⟨_, rfl, _, _, _, _, rfl, rfl, SqL.of m68, at_of (j := 1) rfl rfl, ?_⟩
    refine ⟨.inl ⟨rfl, _, SqL.of m28⟩, M2, _, rfl, rfl, m28, ?_⟩
    have dx9 : DX (upd H8 M2 (.lst [])) b g l L Lh n3 as has ps hs := dx8.put m28 fM2
    have px9 : PX a.c_Pacts (upd H8 M2 (.lst [])) b g p pl hl' as has ps hs := px8.put m28 (npM _ _ m2)
    generalize (upd H8 M2 (.lst [])) = H9 at dx9 px9
    -- all is told
    refine ⟨_, rfl, _, rfl, _, rfl, p, pl, hl', L, Lh, as, has, as, has, ps, hs, rfl, px9.pa, px9.cr, pok, cok, hok, dx9.hL, dx9.ob, dx9.hLh, dx9.cr, fun H10 s10 => ⟨_, rfl, ?_⟩⟩
    refine iteF ?_
    have dx10 := dx9.same s10
    have px10 := px9.same s10
    have many := pok.many
    have hmany := crew_many cok
    obtain ⟨dxa, e10⟩ := px10.pa.ob
    refine ⟨_, rfl, p, dxa, _, rfl, e10, pfs_nm, p, pl, hl', as, has, ps, hs, 0, rfl, px10.pa, px10.cr, by omega, fun r H11 hr hr11 s11 => ?_⟩
    refine ⟨.inl ⟨rfl, _, SqL.of hr11⟩, r, _, _, rfl, rfl, hr11, ?_, ?_⟩
    · have := ofSide_le 0 hs
      rw [List.length_map, List.length_map]
      exact small (by omega)
    have dx12 : DX (upd H11 r (.lst ((((ofSide 0 hs).map (·.name)).map V.str) ++ [.str "x"]))) b g l L Lh n3 as has ps hs := (dx10.same s11).put hr11 (dx10.fresh hr)
    have px12 : PX a.c_Pacts (upd H11 r (.lst ((((ofSide 0 hs).map (·.name)).map V.str) ++ [.str "x"]))) b g p pl hl' as has ps hs := (px10.same s11).put hr11 (px10.fresh hr)
    generalize (upd H11 r (.lst ((((ofSide 0 hs).map (·.name)).map V.str) ++ [.str "x"]))) = H12 at dx12 px12
    obtain ⟨dxb, e12⟩ := px12.pa.ob
    refine ⟨_, rfl, p, dxb, _, rfl, e12, pfs_pr, p, pl, hl', as, ps, rfl, px12.pa, fun r2 H13 hr2 hr13 s13 => ?_⟩
    refine ⟨.inl ⟨rfl, _, SqL.of hr13⟩, r2, _, rfl, rfl, hr13, ?_⟩
    have dx14 : DX (upd H13 r2 (.lst [])) b g l L Lh n3 as has ps hs := (dx12.same s13).put hr13 (dx12.fresh hr2)
    have px14 : PX a.c_Pacts (upd H13 r2 (.lst [])) b g p pl hl' as has ps hs := (px12.same s13).put hr13 (px12.fresh hr2)
    generalize (upd H13 r2 (.lst [])) = H14 at dx14 px14
    -- names that are none
    refine ⟨by show 3 ≤ sizeLine; decide, fun W1 hW1 => ?_⟩
    have s15 : Same H14 (upd H14 W1 (.lst (who3.map V.str))) := (Same.refl H14).upd hW1
    have w1 : (upd H14 W1 (.lst (who3.map V.str))) W1 = some (.lst (who3.map V.str)) := upd_same
    have ef : upd H14 W1 (.lst [V.str "", .str "A", .str "zzzzzzzz"]) = upd H14 W1 (.lst (who3.map V.str)) := rfl
    rw [ef]
    generalize (upd H14 W1 (.lst (who3.map V.str))) = H15 at s15 w1
    have dx15 := dx14.same s15
    refine ⟨_, rfl, L, rfl, ⟨_, SqL.of dx15.hL⟩, fun D hD => ?_⟩
    refine words_comp (i := 0) (sl := 11) dx15.ob dx15.hL hD (by omega) (fun _ => rfl) (fun h q H16 R hq hR => ⟨_, rfl, _, _, _, _, rfl, rfl, SqT.of hq, rfl, hR⟩) fun H16 s16 hD16 => ?_
    refine ⟨W1, D, _, _, rfl, rfl, s16 _ _ w1, hD16, by rw [List.length_map, List.length_map, List.length_map]; exact Nat.le_of_lt (small (by show 3 + _ ≤ _; omega)), fun W hW => ?_⟩
    rw [← List.map_append]
    have s17 : Same H16 (upd H16 W (.lst ((who3 ++ ps.map (My.wd 0)).map V.str))) := (Same.refl H16).upd hW
    have w17 : (upd H16 W (.lst ((who3 ++ ps.map (My.wd 0)).map V.str))) W = some (.lst ((who3 ++ ps.map (My.wd 0)).map V.str)) := upd_same
    generalize (upd H16 W (.lst ((who3 ++ ps.map (My.wd 0)).map V.str))) = H17 at s17 w17
    have dx17 := (dx15.same s16).same s17
    have px17 := ((px14.same s15).same s16).same s17
    have wlen : ∀ w, w ∈ who3 ++ ps.map (My.wd 0) → w.length ≤ 40000 := fun w hw => by
      rcases List.mem_append.mp hw with e | e
      · have e' : w = "" ∨ w = "A" ∨ w = "zzzzzzzz" := by simpa [who3] using e
        rcases e' with rfl | rfl | rfl <;> decide +kernel
      · obtain ⟨q, hq, rfl⟩ := List.mem_map.mp e
        have := name_len (pok.nm q hq).1
        show q.1.length ≤ 40000
        omega
    refine ⟨W, rfl, ⟨_, SqL.of w17⟩, ?_⟩
    refine for_list (K := K) (a := W) (xs := (who3 ++ ps.map (My.wd 0)).map V.str) (fun k σ H18 => Blk (∃ v6, σ = [some (.ref sc), some (.ref b), some (.ref L), some (.ref Lh), some (.ref M), some (.ref p), v6, none, none, none, none, none] ∧ Same H17 H18)) ?_ ?_ ?_ ?_
    · exact Blk.of ⟨_, rfl, Same.refl _⟩
    · intro k σ H18 _ hB
      obtain ⟨_, _, s18⟩ := hB.out
      exact SqL.of (s18 _ _ w17)
    · intro k y σ H18 hy hB
      obtain ⟨v6, rfl, s18⟩ := hB.out
      obtain ⟨w, hw, rfl⟩ := strs_get hy
      have hwm := wlen w (List.mem_of_getElem? hw)
      have dx18 := dx17.same s18
      have px18 := px17.same s18
      refine ⟨_, rfl, _, rfl, Lh, rfl, ⟨_, SqL.of dx18.hLh⟩, fun D2 hD2 => ?_⟩
      have nLD2 : Lh ≠ D2 := ne_of_none dx18.hLh hD2
      refine lc_list (K := K) (a := Lh) (xs := has.map V.ref) (fun j H19 => Blk (H19 = upd H18 D2 (.lst (((hs.take j).map (·.name)).map V.str)))) (Blk.of rfl) (fun j H19 _ hB => ?_) ?_ ?_
      · obtain rfl := hB.out
        exact SqL.of ((upd_ne nLD2).trans dx18.hLh)
      · intro j y H19 hy hB
        obtain rfl := hB.out
        obtain ⟨h, hh, rfl⟩ := refs_get hy
        obtain ⟨x, hx, tk2, th2, ex, _⟩ := AllAt.get dx18.cr hh
        have hj := get_lt hx
        refine ⟨rfl, ?_⟩
        dsimp only [tYes]
        refine iteT ?_
        refine ⟨_, rfl, _, _, _, _, rfl, rfl, SqT.of ((upd_ne (ne_of_none ex hD2)).trans ex), rfl, ?_⟩
        refine ⟨_, upd_same, by rw [List.length_map, List.length_map, List.length_take]; exact small (by omega), Blk.of ?_⟩
        rw [upd_upd, take_snoc hx, List.map_append, List.map_append]
        rfl
      · intro H19 hB
        obtain rfl := hB.out
        have e1 : hs.take (has.map V.ref).length = hs := by rw [List.length_map, AllAt.len dx18.cr, List.take_length]
        rw [e1]
        have s19 : Same H18 (upd H18 D2 (.lst ((hs.map (·.name)).map V.str))) := (Same.refl H18).upd hD2
        have h19 : (upd H18 D2 (.lst ((hs.map (·.name)).map V.str))) D2 = some (.lst ((hs.map (·.name)).map V.str)) := upd_same
        generalize (upd H18 D2 (.lst ((hs.map (·.name)).map V.str))) = H19 at s19 h19
        have px19 := px18.same s19
        refine ⟨D2, _, rfl, .inl (SqL.of h19), rfl, flat_str _, _, rfl, ?_⟩
        rw [if_pos rfl, inV_str]
        refine iteB (fun c => ?_) (fun c => ?_)
        rotate_left
        · refine iteF ?_
          exact Blk.of ⟨_, rfl, s18.trans s19⟩
        · have hno : crewOf w hs = none := by
            refine List.find?_eq_none.mpr fun z hz e => ?_
            have e' : z.name = w := of_decide_eq_true e
            have : w ∈ hs.map (·.name) := List.mem_map.mpr ⟨z, hz, e'⟩
            rw [decide_eq_true this] at c
            cases c
          refine ⟨_, rfl, _, rfl, p, pl, hl', as, has, ps, hs, w, rfl, px19.pa, px19.cr, hno, hwm, fun H20 s20 => ⟨true, rfl, ?_⟩⟩
          refine iteF ?_
          exact Blk.of ⟨_, rfl, (s18.trans s19).trans s20⟩
    · intro σ H18 hB
      obtain ⟨v6, rfl, s18⟩ := hB.out
      have dx18 := dx17.same s18
      have px18 := px17.same s18
      refine ⟨_, rfl, Lh, rfl, ⟨_, SqL.of dx18.hLh⟩, ?_⟩
      refine for_list (K := K) (a := Lh) (xs := has.map V.ref) (fun k σ H19 => Blk (∃ v7, σ = [some (.ref sc), some (.ref b), some (.ref L), some (.ref Lh), some (.ref M), some (.ref p), v6, v7, none, none, none, none] ∧ DX H19 b g l L Lh n3 as has ps hs ∧ PX a.c_Pacts H19 b g p pl hl' as has ps hs)) ?_ ?_ ?_ ?_
      · exact Blk.of ⟨_, rfl, dx18, px18⟩
      · intro k σ H19 _ hB
        obtain ⟨_, _, dx19, _⟩ := hB.out
        exact SqL.of dx19.hLh
      · intro k y σ H19 hy hB
        obtain ⟨v7, rfl, dx19, px19⟩ := hB.out
        obtain ⟨h, hh, rfl⟩ := refs_get hy
        obtain ⟨x, hx, tk2, th2, ex, _⟩ := AllAt.get dx19.cr hh
        have hxm := List.mem_of_getElem? hx
        obtain ⟨pb, hth⟩ := cok.one x hxm
        have thl := (My.throwsB_nodup (pactB_out pb).2.2.2).1
        obtain ⟨dxc, e19⟩ := px19.pa.ob
        refine ⟨_, rfl, p, dxc, _, rfl, e19, pfs_er, _, rfl, _, _, _, _, rfl, rfl, SqT.of ex, rfl, rfl, p, pl, hl', as, has, ps, hs, x.name, 0, x, rfl, px19.pa, px19.cr, crew_find cok hx, (pactB_out pb).2.1, hth, by omega, fun r3 H20 hr3 hr20 s20 => ?_⟩
        refine ⟨.inl ⟨rfl, _, SqL.of hr20⟩, r3, _, _, rfl, rfl, hr20, ?_, Blk.of ⟨_, rfl, (dx19.same s20).put hr20 (dx19.fresh hr3), (px19.same s20).put hr20 (px19.fresh hr3)⟩⟩
        rw [List.length_map]
        unfold errs
        split
        · exact small (by omega)
        · rw [List.length_map]
          exact small (by omega)
      · clear px18 dx18
        intro σ H19 hB
        obtain ⟨v7, rfl, dx19, px19⟩ := hB.out
        refine ⟨_, rfl, L, _, rfl, .inl (SqL.of dx19.hL), fun N1 hN1 => ?_⟩
        have s20 : Same H19 (upd H19 N1 (.lst (as.map V.ref))) := (Same.refl H19).upd hN1
        have g1 : (upd H19 N1 (.lst (as.map V.ref))) N1 = some (.lst (as.map V.ref)) := upd_same
        generalize (upd H19 N1 (.lst (as.map V.ref))) = H20 at s20 g1
        refine ⟨_, rfl, Lh, _, rfl, .inl (SqL.of (s20 _ _ dx19.hLh)), fun N2 hN2 => ?_⟩
        have s21 : Same H20 (upd H20 N2 (.lst (has.map V.ref))) := (Same.refl H20).upd hN2
        have g2 : (upd H20 N2 (.lst (has.map V.ref))) N2 = some (.lst (has.map V.ref)) := upd_same
        generalize (upd H20 N2 (.lst (has.map V.ref))) = H21 at s21 g2
        have dx21 := (dx19.same s20).same s21
        have px21 := (px19.same s20).same s21
        have g1 := s21 _ _ g1
        refine fun q dq hq hdq ndq => ?_
        have snw : Same H21 (upd (upd H21 dq (.own q)) q (.ins a.c_Pacts dq [])) := fun c o e => by
          rw [upd_ne (ne_of_none e hq), upd_ne (ne_of_none e hdq)]
          exact e
        refine ⟨q, dq, N1, N2, as, has, ps, hs, rfl, upd_same, snw _ _ g1, snw _ _ g2, dx21.ob.same snw, Crew.same dx21.cr snw, pok, cok, fun ql kl H22 hql hkl qa22 dr22 kq22 => ⟨rfl, ?_⟩⟩
        have s22 : Same H21 H22 := made_same hq hdq kq22
        have dx22 := dx21.same s22
        have px22 := px21.same s22
        have py22 : PX a.c_Pacts H22 b g q ql kl as has ps hs := ⟨qa22, dr22, fun x hx => by
          simp at hx
          rcases hx with rfl | rfl | rfl
          · exact offbox dx21.bx hq
          · exact offbox (dx21.bx.same snw) hql
          · exact offbox (dx21.bx.same snw) hkl⟩
        -- other lists
        refine ⟨_, rfl, _, rfl, _, rfl, b, g, l, L, Lh, n3, as, has, ps, hs, rfl, dx22.bx, by omega, by omega, dx22.hL, dx22.oL, dx22.ob, dx22.hLh, dx22.oLh, dx22.cr, pok, cok, hok, fun t L' Lh' as' has' qs ks n' H23 ot a' b' bx' k' => ?_⟩
        have nb := box_notup dx22.bx
        have px23 := px22.keepR k' nb px22.off
        have py23 := py22.keepR k' nb py22.off
        have dx23 : DX H23 b g l L Lh n' as has ps hs := ⟨bx', k' _ _ dx22.hL dx22.oL, dx22.ob.keepN k' nb, k' _ _ dx22.hLh dx22.oLh, Crew.keep dx22.cr k' nb, dx22.oL, dx22.oLh⟩
        refine ⟨_, rfl, _, _, _, _, rfl, rfl, SqT.of ot.tup, rfl, _, rfl, _, _, _, _, rfl, rfl, SqT.of ot.tup, rfl, ?_⟩
        refine fun u du hu hdu ndu => ?_
        have snw : Same H23 (upd (upd H23 du (.own u)) u (.ins a.c_Pacts du [])) := fun c o e => by
          rw [upd_ne (ne_of_none e hu), upd_ne (ne_of_none e hdu)]
          exact e
        refine ⟨u, du, L', Lh', as', has', qs, ks, rfl, upd_same, snw _ _ ot.hL, snw _ _ ot.hLh, ot.ob.same snw, Crew.same ot.cr snw, ot.pok, ot.cok, fun ul vl H24 hul hvl ua24 vr24 ku24 => ⟨rfl, ?_⟩⟩
        have s24 : Same H23 H24 := made_same hu hdu ku24
        have dx24 := dx23.same s24
        have px24 := px23.same s24
        have py24 := py23.same s24
        have ne1 : (decide (ps = qs) && decide (hs = ks)) = false := by
          by_cases c : ps = qs
          · by_cases d : hs = ks
            · exact absurd ⟨c.symm, d.symm⟩ ot.ne
            · rw [decide_eq_false d, Bool.and_false]
          · rw [decide_eq_false c, Bool.false_and]
        have ne2 : (decide (qs = ps) && decide (ks = hs)) = false := by
          by_cases c : qs = ps
          · by_cases d : ks = hs
            · exact absurd ⟨c, d⟩ ot.ne
            · rw [decide_eq_false d, Bool.and_false]
          · rw [decide_eq_false c, Bool.false_and]
        have eq1 : (decide (ps = ps) && decide (hs = hs)) = true := by rw [decide_eq_true rfl, decide_eq_true rfl]; rfl
        obtain ⟨d1, f1⟩ := px24.pa.ob
        obtain ⟨d2, f2⟩ := py24.pa.ob
        obtain ⟨d3, f3⟩ := ua24.ob
        refine ⟨_, rfl, _, rfl, p, q, _, _, _, _, rfl, rfl, f1, f2, p, pl, hl', q, ql, kl, as, has, as, has, ps, ps, hs, hs, rfl, px24.pa, px24.cr, py24.pa, py24.cr, pok, pok, hok, hok, _, rfl, ?_⟩
        rw [eq1]
        refine ⟨_, rfl, ?_⟩
        refine iteF ?_
        refine ⟨_, rfl, _, rfl, p, q, _, _, _, _, rfl, rfl, f1, f2, p, pl, hl', q, ql, kl, as, has, as, has, ps, ps, hs, hs, rfl, px24.pa, px24.cr, py24.pa, py24.cr, pok, pok, hok, hok, _, rfl, ?_⟩
        rw [eq1]
        refine ⟨_, rfl, ?_⟩
        refine iteF ?_
        refine ⟨_, rfl, _, rfl, p, u, _, _, _, _, rfl, rfl, f1, f3, p, pl, hl', u, ul, vl, as, has, as', has', ps, qs, hs, ks, rfl, px24.pa, px24.cr, ua24, vr24, pok, ot.pok, hok, ot.hok, _, rfl, ?_⟩
        rw [ne1]
        refine ⟨_, rfl, ?_⟩
        refine iteF ?_
        refine ⟨_, rfl, _, rfl, u, p, _, _, _, _, rfl, rfl, f3, f1, u, ul, vl, p, pl, hl', as', has', as, has, qs, ps, ks, hs, rfl, ua24, vr24, px24.pa, px24.cr, ot.pok, pok, ot.hok, hok, _, rfl, ?_⟩
        rw [ne2]
        refine ⟨_, rfl, ?_⟩
        refine iteF ?_
        refine ⟨_, rfl, _, rfl, p, u, _, _, _, _, rfl, rfl, f1, f3, p, pl, hl', u, ul, vl, as, has, as', has', ps, qs, hs, ks, rfl, px24.pa, px24.cr, ua24, vr24, pok, ot.pok, hok, ot.hok, _, rfl, ?_⟩
        rw [ne1]
        refine ⟨_, rfl, ?_⟩
        refine iteF ?_
        -- of another kind
        refine ⟨_, rfl, _, rfl, p, d1, _, rfl, f1, p, pl, hl', as, has, ps, hs, rfl, px24.pa, px24.cr, pok, cok, hok, fun H25 s25 => ?_⟩
        have dx25 := dx24.same s25
        have px25 := px24.same s25
        refine ⟨_, rfl, _, rfl, _, rfl, _, rfl, Lh, _, rfl, .inl (SqL.of dx25.hLh), ?_⟩
        refine ⟨by show 5 ≤ sizeLine; decide, fun V1 hV1 => ?_⟩
        have s26 : Same H25 (upd H25 V1 (.lst [.str (textOf ps hs), .ref L, .ref Lh, .int (((has.map V.ref).length : Nat) : Int), .non])) := (Same.refl H25).upd hV1
        have h26 : (upd H25 V1 (.lst [.str (textOf ps hs), .ref L, .ref Lh, .int (((has.map V.ref).length : Nat) : Int), .non])) V1 = some (.lst [.str (textOf ps hs), .ref L, .ref Lh, .int (((has.map V.ref).length : Nat) : Int), .non]) := upd_same
        generalize (upd H25 V1 (.lst [.str (textOf ps hs), .ref L, .ref Lh, .int (((has.map V.ref).length : Nat) : Int), .non])) = H26 at s26 h26
        have dx26 := dx25.same s26
        have px26 := px25.same s26
        obtain ⟨d26, f26⟩ := px26.pa.ob
        refine ⟨p, d26, _, V1, _, rfl, rfl, f26, h26, fun z hz => ⟨?_, fun Q' hq' => ⟨p, pl, hl', as, ps, z, rfl, px26.pa, ?_, hq'⟩⟩, ?_⟩
        · simp only [List.mem_cons, List.not_mem_nil, or_false] at hz
          rcases hz with rfl | rfl | rfl | rfl | rfl
          · exact .inr (.inr (.inl ⟨_, rfl⟩))
          · exact .inr (.inr (.inr ⟨_, _, rfl, dx26.hL⟩))
          · exact .inr (.inr (.inr ⟨_, _, rfl, dx26.hLh⟩))
          · exact .inr (.inl ⟨_, rfl⟩)
          · exact .inl rfl
        · simp only [List.mem_cons, List.not_mem_nil, or_false] at hz
          rcases hz with rfl | rfl | rfl | rfl | rfl
          · exact .inr (.inr (.inl ⟨_, rfl⟩))
          · exact .inr (.inr (.inr ⟨_, _, rfl, dx26.hL⟩))
          · exact .inr (.inr (.inr ⟨_, _, rfl, dx26.hLh⟩))
          · exact .inr (.inl ⟨_, rfl⟩)
          · exact .inl rfl
        · have py26 := (py24.same s25).same s26
          refine ⟨_, rfl, ?_⟩
          refine iteF ?_
          refine ⟨_, rfl, _, rfl, _, rfl, q, ql, kl, L, Lh, as, has, as, has, ps, hs, rfl, py26.pa, py26.cr, pok, cok, hok, dx26.hL, dx26.ob, dx26.hLh, dx26.cr, fun H27 s27 => ⟨_, rfl, ?_⟩⟩
          refine iteF ?_
          have dx27 := dx26.same s27
          have px27 := px26.same s27
          exact ⟨_, rfl, _, rfl, _, rfl, p, pl, hl', L, Lh, as, has, as, has, ps, hs, rfl, px27.pa, px27.cr, pok, cok, hok, dx27.hL, dx27.ob, dx27.hLh, dx27.cr, fun H28 s28 => kk H28⟩
end
theorem all_mk {l : PySem.W.OpenLaw} {w : World} {K : PySem.W.Frag} {h : Heap} {mg : Str → Option Value} {fa c_Pacts c_NoHelper c_PactError c_NoWord f_NoHelper_init f_is_whole f_is_side f_is_name f_Pacts_init f_Pacts_pairs f_Pacts_names f_Pacts_pact f_Pacts_laden f_Pacts_over f_Pacts_p_pair f_Pacts_errors f_Pacts_len f_p_is_pair f_p_fits_pairs f_p_is_pact f_p_are_takes f_p_are_throws f_p_fits_helpers f_box f_mixed f_take f_name f_names f_pairs f_some f_helpers f_crossed f_told f_refused f_Pacts_eq f_Pacts_str f_p_pair_line f_p_helper_line f_row_otherwise f_pair_otherwise f_otherwise f_law : Addr} (X : K.In h) (G : h.Ns mainGlobals mg) (hfa : mg "law" = some (.ref fa))
    {od_NoHelper_init an_NoHelper_init od_is_whole an_is_whole od_is_side an_is_side od_is_name an_is_name od_Pacts_init an_Pacts_init od_Pacts_pairs an_Pacts_pairs od_Pacts_names an_Pacts_names od_Pacts_pact an_Pacts_pact od_Pacts_laden an_Pacts_laden od_Pacts_over an_Pacts_over od_Pacts_p_pair an_Pacts_p_pair od_Pacts_errors an_Pacts_errors od_Pacts_len an_Pacts_len od_p_is_pair an_p_is_pair od_p_fits_pairs an_p_fits_pairs od_p_is_pact an_p_is_pact od_p_are_takes an_p_are_takes od_p_are_throws an_p_are_throws od_p_fits_helpers an_p_fits_helpers od_box an_box od_mixed an_mixed od_take an_take od_name an_name od_names an_names od_pairs an_pairs od_some an_some od_helpers an_helpers od_crossed an_crossed od_told an_told od_refused an_refused od_Pacts_eq an_Pacts_eq od_Pacts_str an_Pacts_str od_p_pair_line an_p_pair_line od_p_helper_line an_p_helper_line od_row_otherwise an_row_otherwise od_pair_otherwise an_pair_otherwise od_otherwise an_otherwise od_law an_law : Option Addr} {sl_NoHelper_init sl_is_whole sl_is_side sl_is_name sl_Pacts_init sl_Pacts_pairs sl_Pacts_names sl_Pacts_pact sl_Pacts_laden sl_Pacts_over sl_Pacts_p_pair sl_Pacts_errors sl_Pacts_len sl_p_is_pair sl_p_fits_pairs sl_p_is_pact sl_p_are_takes sl_p_are_throws sl_p_fits_helpers sl_box sl_mixed sl_take sl_name sl_names sl_pairs sl_some sl_helpers sl_crossed sl_told sl_refused sl_Pacts_eq sl_Pacts_str sl_p_pair_line sl_p_helper_line sl_row_otherwise sl_pair_otherwise sl_otherwise sl_law : Array (Option Value)}
    {oc_NoHelper_init kV_NoHelper_init dc_NoHelper_init pm_NoHelper_init cd_NoHelper_init ct_NoHelper_init oc_is_whole kV_is_whole dc_is_whole pm_is_whole cd_is_whole ct_is_whole oc_is_side kV_is_side dc_is_side pm_is_side cd_is_side ct_is_side oc_is_name kV_is_name dc_is_name pm_is_name cd_is_name ct_is_name oc_Pacts_init kV_Pacts_init dc_Pacts_init pm_Pacts_init cd_Pacts_init ct_Pacts_init oc_Pacts_pairs kV_Pacts_pairs dc_Pacts_pairs pm_Pacts_pairs cd_Pacts_pairs ct_Pacts_pairs oc_Pacts_names kV_Pacts_names dc_Pacts_names pm_Pacts_names cd_Pacts_names ct_Pacts_names oc_Pacts_pact kV_Pacts_pact dc_Pacts_pact pm_Pacts_pact cd_Pacts_pact ct_Pacts_pact oc_Pacts_laden kV_Pacts_laden dc_Pacts_laden pm_Pacts_laden cd_Pacts_laden ct_Pacts_laden oc_Pacts_over kV_Pacts_over dc_Pacts_over pm_Pacts_over cd_Pacts_over ct_Pacts_over oc_Pacts_p_pair kV_Pacts_p_pair dc_Pacts_p_pair pm_Pacts_p_pair cd_Pacts_p_pair ct_Pacts_p_pair oc_Pacts_errors kV_Pacts_errors dc_Pacts_errors pm_Pacts_errors cd_Pacts_errors ct_Pacts_errors oc_Pacts_len kV_Pacts_len dc_Pacts_len pm_Pacts_len cd_Pacts_len ct_Pacts_len oc_p_is_pair kV_p_is_pair dc_p_is_pair pm_p_is_pair cd_p_is_pair ct_p_is_pair oc_p_fits_pairs kV_p_fits_pairs dc_p_fits_pairs pm_p_fits_pairs cd_p_fits_pairs ct_p_fits_pairs oc_p_is_pact kV_p_is_pact dc_p_is_pact pm_p_is_pact cd_p_is_pact ct_p_is_pact oc_p_are_takes kV_p_are_takes dc_p_are_takes pm_p_are_takes cd_p_are_takes ct_p_are_takes oc_p_are_throws kV_p_are_throws dc_p_are_throws pm_p_are_throws cd_p_are_throws ct_p_are_throws oc_p_fits_helpers kV_p_fits_helpers dc_p_fits_helpers pm_p_fits_helpers cd_p_fits_helpers ct_p_fits_helpers oc_box kV_box dc_box pm_box cd_box ct_box oc_mixed kV_mixed dc_mixed pm_mixed cd_mixed ct_mixed oc_take kV_take dc_take pm_take cd_take ct_take oc_name kV_name dc_name pm_name cd_name ct_name oc_names kV_names dc_names pm_names cd_names ct_names oc_pairs kV_pairs dc_pairs pm_pairs cd_pairs ct_pairs oc_some kV_some dc_some pm_some cd_some ct_some oc_helpers kV_helpers dc_helpers pm_helpers cd_helpers ct_helpers oc_crossed kV_crossed dc_crossed pm_crossed cd_crossed ct_crossed oc_told kV_told dc_told pm_told cd_told ct_told oc_refused kV_refused dc_refused pm_refused cd_refused ct_refused oc_Pacts_eq kV_Pacts_eq dc_Pacts_eq pm_Pacts_eq cd_Pacts_eq ct_Pacts_eq oc_Pacts_str kV_Pacts_str dc_Pacts_str pm_Pacts_str cd_Pacts_str ct_Pacts_str oc_p_pair_line kV_p_pair_line dc_p_pair_line pm_p_pair_line cd_p_pair_line ct_p_pair_line oc_p_helper_line kV_p_helper_line dc_p_helper_line pm_p_helper_line cd_p_helper_line ct_p_helper_line oc_row_otherwise kV_row_otherwise dc_row_otherwise pm_row_otherwise cd_row_otherwise ct_row_otherwise oc_pair_otherwise kV_pair_otherwise dc_pair_otherwise pm_pair_otherwise cd_pair_otherwise ct_pair_otherwise oc_otherwise kV_otherwise dc_otherwise pm_otherwise cd_otherwise ct_otherwise oc_law kV_law dc_law pm_law cd_law ct_law : Value}
    {nm_NoHelper qn_NoHelper : Str} {N_NoHelper : Addr} {bs_NoHelper bm_NoHelper sub_NoHelper : List Value} {sn_NoHelper : List Str} {ab_NoHelper : Bool} {col_NoHelper : Option Bool} {dd_NoHelper : Option Addr} {e0_NoHelper e1_NoHelper e2_NoHelper e3_NoHelper e5_NoHelper : Option Value}
    {t_LONGEST_NAME : Tok}
    {t_MOST_PAIRS : Tok}
    {t_MOST_HELPERS : Tok}
    {t_MOST_TAKES : Tok}
    {t_MOST_THROWS : Tok}
    {t_TAKES : Addr} {dd_TAKES : Option Addr} {n_TAKES : Nat} {sl_TAKES : Array (Option Value)} {tk0_TAKES tk1_TAKES : Tok}
    (a_Pacts : PySem.W.nsIn K mainGlobals "Pacts" = some (some (.ref c_Pacts)))
    (pg_Pacts : PySem.W.plainGet K c_Pacts Str.empty = true)
    (hd_Pacts : PySem.W.hasDictIn K c_Pacts = true)
    (po_Pacts : PySem.W.plainOver K c_Pacts = true)
    (sa_Pacts : PySem.W.findIn K (.ref c_Pacts) "__setattr__" = some (some (.builtin "object.__setattr__")))
    (mk_Pacts : PySem.W.makesIn K c_Pacts = true)
    (kc_Pacts : PySem.W.keepIn K (.ref c_Pacts) = true)
    (n_Pacts__pairs : PySem.W.findIn K (.ref c_Pacts) "_pairs" = some none)
    (n_Pacts__helpers : PySem.W.findIn K (.ref c_Pacts) "_helpers" = some none)
    (a_NoHelper : PySem.W.nsIn K mainGlobals "NoHelper" = some (some (.ref c_NoHelper)))
    (xl_NoHelper : K.lookup c_NoHelper = some (excClassObj nm_NoHelper qn_NoHelper c_NoHelper N_NoHelper bs_NoHelper bm_NoHelper true sn_NoHelper sub_NoHelper ab_NoHelper col_NoHelper dd_NoHelper e0_NoHelper e1_NoHelper e2_NoHelper e3_NoHelper e5_NoHelper "ValueError.__new__"))
    (xm_NoHelper : PySem.HandSPX.refsVE bm_NoHelper = true)
    (xs_NoHelper : PySem.W.findIn K (.ref c_NoHelper) "__setattr__" = some (some (.builtin "object.__setattr__")))
    (xe_NoHelper : PySem.W.subIn K (.ref c_NoHelper) (.type "BaseException") = some true)
    (xy_NoHelper : PySem.W.typeIn K (.ref c_NoHelper) = some (.type "type"))
    (xk_NoHelper : PySem.W.keepIn K (.ref c_NoHelper) = true)
    (xg_NoHelper : PySem.W.findIn K (.ref c_NoHelper) "__getattribute__" = some (some (.builtin "BaseException.__getattribute__")))
    (xo_NoHelper : PySem.W.findIn K (.ref c_NoHelper) "__getattr__" = some none)
    (xd_NoHelper : PySem.W.hasDictIn K c_NoHelper = true)
    (n_NoHelper_name : PySem.W.findIn K (.ref c_NoHelper) "name" = some none)
    (a_PactError : PySem.W.nsIn K mainGlobals "PactError" = some (some (.ref c_PactError)))
    (da_PactError : PySem.W.specialIn K (.ref c_PactError) "__getattribute__" = some (some (.builtin "type.__getattribute__")))
    (dr_PactError : PySem.W.readsIn K c_PactError (.type "type") = true)
    (df_PactError : PySem.W.findCls K (.ref c_PactError) (.type "type") "__init__" = some (.val (.builtin "ValueError.__init__")))
    (a_NoWord : PySem.W.nsIn K mainGlobals "NoWord" = some (some (.ref c_NoWord)))
    (v_LONGEST_NAME : PySem.W.nsIn K mainGlobals "LONGEST_NAME" = some (some (.int 8 t_LONGEST_NAME)))
    (v_MOST_PAIRS : PySem.W.nsIn K mainGlobals "MOST_PAIRS" = some (some (.int 6 t_MOST_PAIRS)))
    (v_MOST_HELPERS : PySem.W.nsIn K mainGlobals "MOST_HELPERS" = some (some (.int 4 t_MOST_HELPERS)))
    (v_MOST_TAKES : PySem.W.nsIn K mainGlobals "MOST_TAKES" = some (some (.int 3 t_MOST_TAKES)))
    (v_MOST_THROWS : PySem.W.nsIn K mainGlobals "MOST_THROWS" = some (some (.int 4 t_MOST_THROWS)))
    (v_TAKES : PySem.W.nsIn K mainGlobals "TAKES" = some (some (.ref t_TAKES)))
    (lk_TAKES : K.lookup t_TAKES = some ⟨.type "tuple", dd_TAKES, .seq #[.str "lent" tk0_TAKES, .str "given" tk1_TAKES] n_TAKES, sl_TAKES⟩)
    (fa_NoHelper : PySem.W.findIn K (.ref c_NoHelper) "__class__" = some (some (.builtin "object.__class__")))
    (fm_NoHelper : PySem.W.mroIn K c_NoHelper (.type "object") = some true)
    (fs_NoHelper : PySem.W.kitOne K (.ref c_NoHelper) (.ref c_NoHelper) = some true)
    (fv_NoHelper : PySem.W.kitOne K (.ref c_NoHelper) (.type "ValueError") = some true)
    (fx_NoHelper : PySem.W.kitOne K (.ref c_NoHelper) (.ref c_NoWord) = some false)
    (fe_NoHelper : PySem.W.exmOne K (.ref c_NoHelper) (.ref c_PactError) = some true)
    (fg : PySem.W.specialIn K (.builtin "object.__class__") "__get__" = some (some (.builtin "getset_descriptor.__get__")))
    (ft : PySem.W.takesIn K (.builtin "object.__class__") = some true)
    (pn_1 : PySem.W.findIn K (.ref c_Pacts) "__ne__" = some (some (.builtin "object.__ne__")))
    (pn_2 : PySem.W.mroIn K c_Pacts (.type "object") = some true)
    (pn_3 : PySem.W.subIn K (.ref c_Pacts) (.type "NoneType") = some false)
    (pn_4 : PySem.W.subIn K (.ref c_Pacts) (.type "int") = some false)
    (pn_5 : PySem.W.subIn K (.ref c_Pacts) (.type "str") = some false)
    (pn_6 : PySem.W.subIn K (.ref c_Pacts) (.type "list") = some false)
    (pn_7 : PySem.W.findIn K (.ref c_Pacts) "__class__" = some (some (.builtin "object.__class__")))
    (pn_8 : PySem.W.kitOne K (.ref c_Pacts) (.ref c_Pacts) = some true)
    (pn_9 : PySem.W.kitOne K (.type "NoneType") (.ref c_Pacts) = some false)
    (pn_10 : PySem.W.kitOne K (.type "int") (.ref c_Pacts) = some false)
    (pn_11 : PySem.W.kitOne K (.type "str") (.ref c_Pacts) = some false)
    (pn_12 : PySem.W.kitOne K (.type "list") (.ref c_Pacts) = some false)
    (a_NoHelper_init : PySem.W.findIn K (.ref c_NoHelper) "__init__" = some (some (.ref f_NoHelper_init)))
    (i_NoHelper_init : PySem.W.isFn K (.ref f_NoHelper_init) = true)
    (l_NoHelper_init : K.lookup f_NoHelper_init = some ⟨oc_NoHelper_init, od_NoHelper_init, .func (PySem.W.fnOf "__init__" "NoHelper.__init__" (defArgs s_NoHelper_init) (defBody s_NoHelper_init) (defScope s_NoHelper_init) .none kV_NoHelper_init dc_NoHelper_init pm_NoHelper_init an_NoHelper_init cd_NoHelper_init ct_NoHelper_init), sl_NoHelper_init⟩)
    (q_NoHelper_init : PySem.W.codeIn K cd_NoHelper_init "NoHelper.__init__" = true)
    (k_NoHelper_init : PySem.W.keepIn K (.ref f_NoHelper_init) = true)
    (a_is_whole : PySem.W.nsIn K mainGlobals "is_whole" = some (some (.ref f_is_whole)))
    (l_is_whole : K.lookup f_is_whole = some ⟨oc_is_whole, od_is_whole, .func (PySem.W.fnOf "is_whole" "is_whole" (defArgs s_is_whole) (defBody s_is_whole) (defScope s_is_whole) .none kV_is_whole dc_is_whole pm_is_whole an_is_whole cd_is_whole ct_is_whole), sl_is_whole⟩)
    (q_is_whole : PySem.W.codeIn K cd_is_whole "is_whole" = true)
    (k_is_whole : PySem.W.keepIn K (.ref f_is_whole) = true)
    (a_is_side : PySem.W.nsIn K mainGlobals "is_side" = some (some (.ref f_is_side)))
    (l_is_side : K.lookup f_is_side = some ⟨oc_is_side, od_is_side, .func (PySem.W.fnOf "is_side" "is_side" (defArgs s_is_side) (defBody s_is_side) (defScope s_is_side) .none kV_is_side dc_is_side pm_is_side an_is_side cd_is_side ct_is_side), sl_is_side⟩)
    (q_is_side : PySem.W.codeIn K cd_is_side "is_side" = true)
    (k_is_side : PySem.W.keepIn K (.ref f_is_side) = true)
    (a_is_name : PySem.W.nsIn K mainGlobals "is_name" = some (some (.ref f_is_name)))
    (l_is_name : K.lookup f_is_name = some ⟨oc_is_name, od_is_name, .func (PySem.W.fnOf "is_name" "is_name" (defArgs s_is_name) (defBody s_is_name) (defScope s_is_name) .none kV_is_name dc_is_name pm_is_name an_is_name cd_is_name ct_is_name), sl_is_name⟩)
    (q_is_name : PySem.W.codeIn K cd_is_name "is_name" = true)
    (k_is_name : PySem.W.keepIn K (.ref f_is_name) = true)
    (a_Pacts_init : PySem.W.findIn K (.ref c_Pacts) "__init__" = some (some (.ref f_Pacts_init)))
    (i_Pacts_init : PySem.W.isFn K (.ref f_Pacts_init) = true)
    (l_Pacts_init : K.lookup f_Pacts_init = some ⟨oc_Pacts_init, od_Pacts_init, .func (PySem.W.fnOf "__init__" "Pacts.__init__" (defArgs s_Pacts_init) (defBody s_Pacts_init) (defScope s_Pacts_init) .none kV_Pacts_init dc_Pacts_init pm_Pacts_init an_Pacts_init cd_Pacts_init ct_Pacts_init), sl_Pacts_init⟩)
    (q_Pacts_init : PySem.W.codeIn K cd_Pacts_init "Pacts.__init__" = true)
    (k_Pacts_init : PySem.W.keepIn K (.ref f_Pacts_init) = true)
    (a_Pacts_pairs : PySem.W.findIn K (.ref c_Pacts) "pairs" = some (some (.ref f_Pacts_pairs)))
    (i_Pacts_pairs : PySem.W.isFn K (.ref f_Pacts_pairs) = true)
    (l_Pacts_pairs : K.lookup f_Pacts_pairs = some ⟨oc_Pacts_pairs, od_Pacts_pairs, .func (PySem.W.fnOf "pairs" "Pacts.pairs" (defArgs s_Pacts_pairs) (defBody s_Pacts_pairs) (defScope s_Pacts_pairs) .none kV_Pacts_pairs dc_Pacts_pairs pm_Pacts_pairs an_Pacts_pairs cd_Pacts_pairs ct_Pacts_pairs), sl_Pacts_pairs⟩)
    (q_Pacts_pairs : PySem.W.codeIn K cd_Pacts_pairs "Pacts.pairs" = true)
    (k_Pacts_pairs : PySem.W.keepIn K (.ref f_Pacts_pairs) = true)
    (a_Pacts_names : PySem.W.findIn K (.ref c_Pacts) "names" = some (some (.ref f_Pacts_names)))
    (i_Pacts_names : PySem.W.isFn K (.ref f_Pacts_names) = true)
    (l_Pacts_names : K.lookup f_Pacts_names = some ⟨oc_Pacts_names, od_Pacts_names, .func (PySem.W.fnOf "names" "Pacts.names" (defArgs s_Pacts_names) (defBody s_Pacts_names) (defScope s_Pacts_names) .none kV_Pacts_names dc_Pacts_names pm_Pacts_names an_Pacts_names cd_Pacts_names ct_Pacts_names), sl_Pacts_names⟩)
    (q_Pacts_names : PySem.W.codeIn K cd_Pacts_names "Pacts.names" = true)
    (k_Pacts_names : PySem.W.keepIn K (.ref f_Pacts_names) = true)
    (a_Pacts_pact : PySem.W.findIn K (.ref c_Pacts) "pact" = some (some (.ref f_Pacts_pact)))
    (i_Pacts_pact : PySem.W.isFn K (.ref f_Pacts_pact) = true)
    (l_Pacts_pact : K.lookup f_Pacts_pact = some ⟨oc_Pacts_pact, od_Pacts_pact, .func (PySem.W.fnOf "pact" "Pacts.pact" (defArgs s_Pacts_pact) (defBody s_Pacts_pact) (defScope s_Pacts_pact) .none kV_Pacts_pact dc_Pacts_pact pm_Pacts_pact an_Pacts_pact cd_Pacts_pact ct_Pacts_pact), sl_Pacts_pact⟩)
    (q_Pacts_pact : PySem.W.codeIn K cd_Pacts_pact "Pacts.pact" = true)
    (k_Pacts_pact : PySem.W.keepIn K (.ref f_Pacts_pact) = true)
    (a_Pacts_laden : PySem.W.findIn K (.ref c_Pacts) "laden" = some (some (.ref f_Pacts_laden)))
    (i_Pacts_laden : PySem.W.isFn K (.ref f_Pacts_laden) = true)
    (l_Pacts_laden : K.lookup f_Pacts_laden = some ⟨oc_Pacts_laden, od_Pacts_laden, .func (PySem.W.fnOf "laden" "Pacts.laden" (defArgs s_Pacts_laden) (defBody s_Pacts_laden) (defScope s_Pacts_laden) .none kV_Pacts_laden dc_Pacts_laden pm_Pacts_laden an_Pacts_laden cd_Pacts_laden ct_Pacts_laden), sl_Pacts_laden⟩)
    (q_Pacts_laden : PySem.W.codeIn K cd_Pacts_laden "Pacts.laden" = true)
    (k_Pacts_laden : PySem.W.keepIn K (.ref f_Pacts_laden) = true)
    (a_Pacts_over : PySem.W.findIn K (.ref c_Pacts) "over" = some (some (.ref f_Pacts_over)))
    (i_Pacts_over : PySem.W.isFn K (.ref f_Pacts_over) = true)
    (l_Pacts_over : K.lookup f_Pacts_over = some ⟨oc_Pacts_over, od_Pacts_over, .func (PySem.W.fnOf "over" "Pacts.over" (defArgs s_Pacts_over) (defBody s_Pacts_over) (defScope s_Pacts_over) .none kV_Pacts_over dc_Pacts_over pm_Pacts_over an_Pacts_over cd_Pacts_over ct_Pacts_over), sl_Pacts_over⟩)
    (q_Pacts_over : PySem.W.codeIn K cd_Pacts_over "Pacts.over" = true)
    (k_Pacts_over : PySem.W.keepIn K (.ref f_Pacts_over) = true)
    (a_Pacts_p_pair : PySem.W.findIn K (.ref c_Pacts) "_pair" = some (some (.ref f_Pacts_p_pair)))
    (i_Pacts_p_pair : PySem.W.isFn K (.ref f_Pacts_p_pair) = true)
    (l_Pacts_p_pair : K.lookup f_Pacts_p_pair = some ⟨oc_Pacts_p_pair, od_Pacts_p_pair, .func (PySem.W.fnOf "_pair" "Pacts._pair" (defArgs s_Pacts_p_pair) (defBody s_Pacts_p_pair) (defScope s_Pacts_p_pair) .none kV_Pacts_p_pair dc_Pacts_p_pair pm_Pacts_p_pair an_Pacts_p_pair cd_Pacts_p_pair ct_Pacts_p_pair), sl_Pacts_p_pair⟩)
    (q_Pacts_p_pair : PySem.W.codeIn K cd_Pacts_p_pair "Pacts._pair" = true)
    (k_Pacts_p_pair : PySem.W.keepIn K (.ref f_Pacts_p_pair) = true)
    (a_Pacts_errors : PySem.W.findIn K (.ref c_Pacts) "errors" = some (some (.ref f_Pacts_errors)))
    (i_Pacts_errors : PySem.W.isFn K (.ref f_Pacts_errors) = true)
    (l_Pacts_errors : K.lookup f_Pacts_errors = some ⟨oc_Pacts_errors, od_Pacts_errors, .func (PySem.W.fnOf "errors" "Pacts.errors" (defArgs s_Pacts_errors) (defBody s_Pacts_errors) (defScope s_Pacts_errors) .none kV_Pacts_errors dc_Pacts_errors pm_Pacts_errors an_Pacts_errors cd_Pacts_errors ct_Pacts_errors), sl_Pacts_errors⟩)
    (q_Pacts_errors : PySem.W.codeIn K cd_Pacts_errors "Pacts.errors" = true)
    (k_Pacts_errors : PySem.W.keepIn K (.ref f_Pacts_errors) = true)
    (a_Pacts_len : PySem.W.findIn K (.ref c_Pacts) "__len__" = some (some (.ref f_Pacts_len)))
    (i_Pacts_len : PySem.W.isFn K (.ref f_Pacts_len) = true)
    (l_Pacts_len : K.lookup f_Pacts_len = some ⟨oc_Pacts_len, od_Pacts_len, .func (PySem.W.fnOf "__len__" "Pacts.__len__" (defArgs s_Pacts_len) (defBody s_Pacts_len) (defScope s_Pacts_len) .none kV_Pacts_len dc_Pacts_len pm_Pacts_len an_Pacts_len cd_Pacts_len ct_Pacts_len), sl_Pacts_len⟩)
    (q_Pacts_len : PySem.W.codeIn K cd_Pacts_len "Pacts.__len__" = true)
    (k_Pacts_len : PySem.W.keepIn K (.ref f_Pacts_len) = true)
    (a_p_is_pair : PySem.W.nsIn K mainGlobals "_is_pair" = some (some (.ref f_p_is_pair)))
    (l_p_is_pair : K.lookup f_p_is_pair = some ⟨oc_p_is_pair, od_p_is_pair, .func (PySem.W.fnOf "_is_pair" "_is_pair" (defArgs s_p_is_pair) (defBody s_p_is_pair) (defScope s_p_is_pair) .none kV_p_is_pair dc_p_is_pair pm_p_is_pair an_p_is_pair cd_p_is_pair ct_p_is_pair), sl_p_is_pair⟩)
    (q_p_is_pair : PySem.W.codeIn K cd_p_is_pair "_is_pair" = true)
    (k_p_is_pair : PySem.W.keepIn K (.ref f_p_is_pair) = true)
    (a_p_fits_pairs : PySem.W.nsIn K mainGlobals "_fits_pairs" = some (some (.ref f_p_fits_pairs)))
    (l_p_fits_pairs : K.lookup f_p_fits_pairs = some ⟨oc_p_fits_pairs, od_p_fits_pairs, .func (PySem.W.fnOf "_fits_pairs" "_fits_pairs" (defArgs s_p_fits_pairs) (defBody s_p_fits_pairs) (defScope s_p_fits_pairs) .none kV_p_fits_pairs dc_p_fits_pairs pm_p_fits_pairs an_p_fits_pairs cd_p_fits_pairs ct_p_fits_pairs), sl_p_fits_pairs⟩)
    (q_p_fits_pairs : PySem.W.codeIn K cd_p_fits_pairs "_fits_pairs" = true)
    (k_p_fits_pairs : PySem.W.keepIn K (.ref f_p_fits_pairs) = true)
    (a_p_is_pact : PySem.W.nsIn K mainGlobals "_is_pact" = some (some (.ref f_p_is_pact)))
    (l_p_is_pact : K.lookup f_p_is_pact = some ⟨oc_p_is_pact, od_p_is_pact, .func (PySem.W.fnOf "_is_pact" "_is_pact" (defArgs s_p_is_pact) (defBody s_p_is_pact) (defScope s_p_is_pact) .none kV_p_is_pact dc_p_is_pact pm_p_is_pact an_p_is_pact cd_p_is_pact ct_p_is_pact), sl_p_is_pact⟩)
    (q_p_is_pact : PySem.W.codeIn K cd_p_is_pact "_is_pact" = true)
    (k_p_is_pact : PySem.W.keepIn K (.ref f_p_is_pact) = true)
    (a_p_are_takes : PySem.W.nsIn K mainGlobals "_are_takes" = some (some (.ref f_p_are_takes)))
    (l_p_are_takes : K.lookup f_p_are_takes = some ⟨oc_p_are_takes, od_p_are_takes, .func (PySem.W.fnOf "_are_takes" "_are_takes" (defArgs s_p_are_takes) (defBody s_p_are_takes) (defScope s_p_are_takes) .none kV_p_are_takes dc_p_are_takes pm_p_are_takes an_p_are_takes cd_p_are_takes ct_p_are_takes), sl_p_are_takes⟩)
    (q_p_are_takes : PySem.W.codeIn K cd_p_are_takes "_are_takes" = true)
    (k_p_are_takes : PySem.W.keepIn K (.ref f_p_are_takes) = true)
    (a_p_are_throws : PySem.W.nsIn K mainGlobals "_are_throws" = some (some (.ref f_p_are_throws)))
    (l_p_are_throws : K.lookup f_p_are_throws = some ⟨oc_p_are_throws, od_p_are_throws, .func (PySem.W.fnOf "_are_throws" "_are_throws" (defArgs s_p_are_throws) (defBody s_p_are_throws) (defScope s_p_are_throws) .none kV_p_are_throws dc_p_are_throws pm_p_are_throws an_p_are_throws cd_p_are_throws ct_p_are_throws), sl_p_are_throws⟩)
    (q_p_are_throws : PySem.W.codeIn K cd_p_are_throws "_are_throws" = true)
    (k_p_are_throws : PySem.W.keepIn K (.ref f_p_are_throws) = true)
    (a_p_fits_helpers : PySem.W.nsIn K mainGlobals "_fits_helpers" = some (some (.ref f_p_fits_helpers)))
    (l_p_fits_helpers : K.lookup f_p_fits_helpers = some ⟨oc_p_fits_helpers, od_p_fits_helpers, .func (PySem.W.fnOf "_fits_helpers" "_fits_helpers" (defArgs s_p_fits_helpers) (defBody s_p_fits_helpers) (defScope s_p_fits_helpers) .none kV_p_fits_helpers dc_p_fits_helpers pm_p_fits_helpers an_p_fits_helpers cd_p_fits_helpers ct_p_fits_helpers), sl_p_fits_helpers⟩)
    (q_p_fits_helpers : PySem.W.codeIn K cd_p_fits_helpers "_fits_helpers" = true)
    (k_p_fits_helpers : PySem.W.keepIn K (.ref f_p_fits_helpers) = true)
    (a_box : PySem.W.nsIn K mainGlobals "_law_box" = some (some (.ref f_box)))
    (l_box : K.lookup f_box = some ⟨oc_box, od_box, .func (PySem.W.fnOf "_law_box" "_law_box" (defArgs s_box) (defBody s_box) (defScope s_box) .none kV_box dc_box pm_box an_box cd_box ct_box), sl_box⟩)
    (q_box : PySem.W.codeIn K cd_box "_law_box" = true)
    (k_box : PySem.W.keepIn K (.ref f_box) = true)
    (a_mixed : PySem.W.nsIn K mainGlobals "_law_mixed" = some (some (.ref f_mixed)))
    (l_mixed : K.lookup f_mixed = some ⟨oc_mixed, od_mixed, .func (PySem.W.fnOf "_law_mixed" "_law_mixed" (defArgs s_mixed) (defBody s_mixed) (defScope s_mixed) .none kV_mixed dc_mixed pm_mixed an_mixed cd_mixed ct_mixed), sl_mixed⟩)
    (q_mixed : PySem.W.codeIn K cd_mixed "_law_mixed" = true)
    (k_mixed : PySem.W.keepIn K (.ref f_mixed) = true)
    (a_take : PySem.W.nsIn K mainGlobals "_law_take" = some (some (.ref f_take)))
    (l_take : K.lookup f_take = some ⟨oc_take, od_take, .func (PySem.W.fnOf "_law_take" "_law_take" (defArgs s_take) (defBody s_take) (defScope s_take) .none kV_take dc_take pm_take an_take cd_take ct_take), sl_take⟩)
    (q_take : PySem.W.codeIn K cd_take "_law_take" = true)
    (k_take : PySem.W.keepIn K (.ref f_take) = true)
    (a_name : PySem.W.nsIn K mainGlobals "_law_name" = some (some (.ref f_name)))
    (l_name : K.lookup f_name = some ⟨oc_name, od_name, .func (PySem.W.fnOf "_law_name" "_law_name" (defArgs s_name) (defBody s_name) (defScope s_name) .none kV_name dc_name pm_name an_name cd_name ct_name), sl_name⟩)
    (q_name : PySem.W.codeIn K cd_name "_law_name" = true)
    (k_name : PySem.W.keepIn K (.ref f_name) = true)
    (a_names : PySem.W.nsIn K mainGlobals "_law_names" = some (some (.ref f_names)))
    (l_names : K.lookup f_names = some ⟨oc_names, od_names, .func (PySem.W.fnOf "_law_names" "_law_names" (defArgs s_names) (defBody s_names) (defScope s_names) .none kV_names dc_names pm_names an_names cd_names ct_names), sl_names⟩)
    (q_names : PySem.W.codeIn K cd_names "_law_names" = true)
    (k_names : PySem.W.keepIn K (.ref f_names) = true)
    (a_pairs : PySem.W.nsIn K mainGlobals "_law_pairs" = some (some (.ref f_pairs)))
    (l_pairs : K.lookup f_pairs = some ⟨oc_pairs, od_pairs, .func (PySem.W.fnOf "_law_pairs" "_law_pairs" (defArgs s_pairs) (defBody s_pairs) (defScope s_pairs) .none kV_pairs dc_pairs pm_pairs an_pairs cd_pairs ct_pairs), sl_pairs⟩)
    (q_pairs : PySem.W.codeIn K cd_pairs "_law_pairs" = true)
    (k_pairs : PySem.W.keepIn K (.ref f_pairs) = true)
    (a_some : PySem.W.nsIn K mainGlobals "_law_some" = some (some (.ref f_some)))
    (l_some : K.lookup f_some = some ⟨oc_some, od_some, .func (PySem.W.fnOf "_law_some" "_law_some" (defArgs s_some) (defBody s_some) (defScope s_some) .none kV_some dc_some pm_some an_some cd_some ct_some), sl_some⟩)
    (q_some : PySem.W.codeIn K cd_some "_law_some" = true)
    (k_some : PySem.W.keepIn K (.ref f_some) = true)
    (a_helpers : PySem.W.nsIn K mainGlobals "_law_helpers" = some (some (.ref f_helpers)))
    (l_helpers : K.lookup f_helpers = some ⟨oc_helpers, od_helpers, .func (PySem.W.fnOf "_law_helpers" "_law_helpers" (defArgs s_helpers) (defBody s_helpers) (defScope s_helpers) .none kV_helpers dc_helpers pm_helpers an_helpers cd_helpers ct_helpers), sl_helpers⟩)
    (q_helpers : PySem.W.codeIn K cd_helpers "_law_helpers" = true)
    (k_helpers : PySem.W.keepIn K (.ref f_helpers) = true)
    (a_crossed : PySem.W.nsIn K mainGlobals "_law_crossed" = some (some (.ref f_crossed)))
    (l_crossed : K.lookup f_crossed = some ⟨oc_crossed, od_crossed, .func (PySem.W.fnOf "_law_crossed" "_law_crossed" (defArgs s_crossed) (defBody s_crossed) (defScope s_crossed) .none kV_crossed dc_crossed pm_crossed an_crossed cd_crossed ct_crossed), sl_crossed⟩)
    (q_crossed : PySem.W.codeIn K cd_crossed "_law_crossed" = true)
    (k_crossed : PySem.W.keepIn K (.ref f_crossed) = true)
    (a_told : PySem.W.nsIn K mainGlobals "_law_told" = some (some (.ref f_told)))
    (l_told : K.lookup f_told = some ⟨oc_told, od_told, .func (PySem.W.fnOf "_law_told" "_law_told" (defArgs s_told) (defBody s_told) (defScope s_told) .none kV_told dc_told pm_told an_told cd_told ct_told), sl_told⟩)
    (q_told : PySem.W.codeIn K cd_told "_law_told" = true)
    (k_told : PySem.W.keepIn K (.ref f_told) = true)
    (a_refused : PySem.W.nsIn K mainGlobals "_law_refused" = some (some (.ref f_refused)))
    (l_refused : K.lookup f_refused = some ⟨oc_refused, od_refused, .func (PySem.W.fnOf "_law_refused" "_law_refused" (defArgs s_refused) (defBody s_refused) (defScope s_refused) .none kV_refused dc_refused pm_refused an_refused cd_refused ct_refused), sl_refused⟩)
    (q_refused : PySem.W.codeIn K cd_refused "_law_refused" = true)
    (k_refused : PySem.W.keepIn K (.ref f_refused) = true)
    (a_Pacts_eq : PySem.W.findIn K (.ref c_Pacts) "__eq__" = some (some (.ref f_Pacts_eq)))
    (i_Pacts_eq : PySem.W.isFn K (.ref f_Pacts_eq) = true)
    (l_Pacts_eq : K.lookup f_Pacts_eq = some ⟨oc_Pacts_eq, od_Pacts_eq, .func (PySem.W.fnOf "__eq__" "Pacts.__eq__" (defArgs s_Pacts_eq) (defBody s_Pacts_eq) (defScope s_Pacts_eq) .none kV_Pacts_eq dc_Pacts_eq pm_Pacts_eq an_Pacts_eq cd_Pacts_eq ct_Pacts_eq), sl_Pacts_eq⟩)
    (q_Pacts_eq : PySem.W.codeIn K cd_Pacts_eq "Pacts.__eq__" = true)
    (k_Pacts_eq : PySem.W.keepIn K (.ref f_Pacts_eq) = true)
    (a_Pacts_str : PySem.W.findIn K (.ref c_Pacts) "__str__" = some (some (.ref f_Pacts_str)))
    (i_Pacts_str : PySem.W.isFn K (.ref f_Pacts_str) = true)
    (l_Pacts_str : K.lookup f_Pacts_str = some ⟨oc_Pacts_str, od_Pacts_str, .func (PySem.W.fnOf "__str__" "Pacts.__str__" (defArgs s_Pacts_str) (defBody s_Pacts_str) (defScope s_Pacts_str) .none kV_Pacts_str dc_Pacts_str pm_Pacts_str an_Pacts_str cd_Pacts_str ct_Pacts_str), sl_Pacts_str⟩)
    (q_Pacts_str : PySem.W.codeIn K cd_Pacts_str "Pacts.__str__" = true)
    (k_Pacts_str : PySem.W.keepIn K (.ref f_Pacts_str) = true)
    (a_p_pair_line : PySem.W.nsIn K mainGlobals "_pair_line" = some (some (.ref f_p_pair_line)))
    (l_p_pair_line : K.lookup f_p_pair_line = some ⟨oc_p_pair_line, od_p_pair_line, .func (PySem.W.fnOf "_pair_line" "_pair_line" (defArgs s_p_pair_line) (defBody s_p_pair_line) (defScope s_p_pair_line) .none kV_p_pair_line dc_p_pair_line pm_p_pair_line an_p_pair_line cd_p_pair_line ct_p_pair_line), sl_p_pair_line⟩)
    (q_p_pair_line : PySem.W.codeIn K cd_p_pair_line "_pair_line" = true)
    (k_p_pair_line : PySem.W.keepIn K (.ref f_p_pair_line) = true)
    (a_p_helper_line : PySem.W.nsIn K mainGlobals "_helper_line" = some (some (.ref f_p_helper_line)))
    (l_p_helper_line : K.lookup f_p_helper_line = some ⟨oc_p_helper_line, od_p_helper_line, .func (PySem.W.fnOf "_helper_line" "_helper_line" (defArgs s_p_helper_line) (defBody s_p_helper_line) (defScope s_p_helper_line) .none kV_p_helper_line dc_p_helper_line pm_p_helper_line an_p_helper_line cd_p_helper_line ct_p_helper_line), sl_p_helper_line⟩)
    (q_p_helper_line : PySem.W.codeIn K cd_p_helper_line "_helper_line" = true)
    (k_p_helper_line : PySem.W.keepIn K (.ref f_p_helper_line) = true)
    (a_row_otherwise : PySem.W.nsIn K mainGlobals "_law_row_otherwise" = some (some (.ref f_row_otherwise)))
    (l_row_otherwise : K.lookup f_row_otherwise = some ⟨oc_row_otherwise, od_row_otherwise, .func (PySem.W.fnOf "_law_row_otherwise" "_law_row_otherwise" (defArgs s_row_otherwise) (defBody s_row_otherwise) (defScope s_row_otherwise) .none kV_row_otherwise dc_row_otherwise pm_row_otherwise an_row_otherwise cd_row_otherwise ct_row_otherwise), sl_row_otherwise⟩)
    (q_row_otherwise : PySem.W.codeIn K cd_row_otherwise "_law_row_otherwise" = true)
    (k_row_otherwise : PySem.W.keepIn K (.ref f_row_otherwise) = true)
    (a_pair_otherwise : PySem.W.nsIn K mainGlobals "_law_pair_otherwise" = some (some (.ref f_pair_otherwise)))
    (l_pair_otherwise : K.lookup f_pair_otherwise = some ⟨oc_pair_otherwise, od_pair_otherwise, .func (PySem.W.fnOf "_law_pair_otherwise" "_law_pair_otherwise" (defArgs s_pair_otherwise) (defBody s_pair_otherwise) (defScope s_pair_otherwise) .none kV_pair_otherwise dc_pair_otherwise pm_pair_otherwise an_pair_otherwise cd_pair_otherwise ct_pair_otherwise), sl_pair_otherwise⟩)
    (q_pair_otherwise : PySem.W.codeIn K cd_pair_otherwise "_law_pair_otherwise" = true)
    (k_pair_otherwise : PySem.W.keepIn K (.ref f_pair_otherwise) = true)
    (a_otherwise : PySem.W.nsIn K mainGlobals "_law_otherwise" = some (some (.ref f_otherwise)))
    (l_otherwise : K.lookup f_otherwise = some ⟨oc_otherwise, od_otherwise, .func (PySem.W.fnOf "_law_otherwise" "_law_otherwise" (defArgs s_otherwise) (defBody s_otherwise) (defScope s_otherwise) .none kV_otherwise dc_otherwise pm_otherwise an_otherwise cd_otherwise ct_otherwise), sl_otherwise⟩)
    (q_otherwise : PySem.W.codeIn K cd_otherwise "_law_otherwise" = true)
    (k_otherwise : PySem.W.keepIn K (.ref f_otherwise) = true)
    (a_law : PySem.W.nsIn K mainGlobals "law" = some (some (.ref f_law)))
    (l_law : K.lookup f_law = some ⟨oc_law, od_law, .func (PySem.W.fnOf "law" "law" (defArgs s_law) (defBody s_law) (defScope s_law) .none kV_law dc_law pm_law an_law cd_law ct_law), sl_law⟩)
    (q_law : PySem.W.codeIn K cd_law "law" = true)
    (k_law : PySem.W.keepIn K (.ref f_law) = true)
    (z_ValueError : PySem.W.nsIn K mainGlobals "ValueError" = some none)
    (z_isinstance : PySem.W.nsIn K mainGlobals "isinstance" = some none)
    (z_int : PySem.W.nsIn K mainGlobals "int" = some none)
    (z_bool : PySem.W.nsIn K mainGlobals "bool" = some none)
    (z_tuple : PySem.W.nsIn K mainGlobals "tuple" = some none)
    (z_list : PySem.W.nsIn K mainGlobals "list" = some none)
    (z_str : PySem.W.nsIn K mainGlobals "str" = some none)
    (z_len : PySem.W.nsIn K mainGlobals "len" = some none)
    (z_all : PySem.W.nsIn K mainGlobals "all" = some none)
    (z_range : PySem.W.nsIn K mainGlobals "range" = some none)
    (z_zip : PySem.W.nsIn K mainGlobals "zip" = some none)
    (z_min : PySem.W.nsIn K mainGlobals "min" = some none)
    : ∃ fd : FuncData, (∀ (s : Shared) (v : Value), BindsTo s fd ⟨[v], []⟩ [("_law_script", v)]) ∧ ∀ base : Heap, K.In base → base.Ns mainGlobals mg → FnOk l.prog w K mg base CX0 20 fa fd ["_law_script"] (spLaw K) := by
  have e : f_law = fa := (Value.ref.inj (Option.some.inj (hfa.symm.trans (PySem.W.mg_of X G a_law)))).symm
  subst e
  have F_NoHelper_init := fun_mk (st := s_NoHelper_init) l_NoHelper_init q_NoHelper_init k_NoHelper_init
  have B_NoHelper_init := F_NoHelper_init.binds (ps := ["self", "name"]) fun _ _ _ _ _ _ us hl => match us, hl with | [_, _], _ => rfl
  have F_is_whole := fun_mk (st := s_is_whole) l_is_whole q_is_whole k_is_whole
  have B_is_whole := F_is_whole.binds (ps := ["thing"]) fun _ _ _ _ _ _ us hl => match us, hl with | [_], _ => rfl
  have F_is_side := fun_mk (st := s_is_side) l_is_side q_is_side k_is_side
  have B_is_side := F_is_side.binds (ps := ["thing"]) fun _ _ _ _ _ _ us hl => match us, hl with | [_], _ => rfl
  have F_is_name := fun_mk (st := s_is_name) l_is_name q_is_name k_is_name
  have B_is_name := F_is_name.binds (ps := ["thing"]) fun _ _ _ _ _ _ us hl => match us, hl with | [_], _ => rfl
  have F_Pacts_init := fun_mk (st := s_Pacts_init) l_Pacts_init q_Pacts_init k_Pacts_init
  have B_Pacts_init := F_Pacts_init.binds (ps := ["self", "pairs", "helpers"]) fun _ _ _ _ _ _ us hl => match us, hl with | [_, _, _], _ => rfl
  have F_Pacts_pairs := fun_mk (st := s_Pacts_pairs) l_Pacts_pairs q_Pacts_pairs k_Pacts_pairs
  have B_Pacts_pairs := F_Pacts_pairs.binds (ps := ["self"]) fun _ _ _ _ _ _ us hl => match us, hl with | [_], _ => rfl
  have F_Pacts_names := fun_mk (st := s_Pacts_names) l_Pacts_names q_Pacts_names k_Pacts_names
  have B_Pacts_names := F_Pacts_names.binds (ps := ["self", "side"]) fun _ _ _ _ _ _ us hl => match us, hl with | [_, _], _ => rfl
  have F_Pacts_pact := fun_mk (st := s_Pacts_pact) l_Pacts_pact q_Pacts_pact k_Pacts_pact
  have B_Pacts_pact := F_Pacts_pact.binds (ps := ["self", "name"]) fun _ _ _ _ _ _ us hl => match us, hl with | [_, _], _ => rfl
  have F_Pacts_laden := fun_mk (st := s_Pacts_laden) l_Pacts_laden q_Pacts_laden k_Pacts_laden
  have F_Pacts_over := fun_mk (st := s_Pacts_over) l_Pacts_over q_Pacts_over k_Pacts_over
  have F_Pacts_p_pair := fun_mk (st := s_Pacts_p_pair) l_Pacts_p_pair q_Pacts_p_pair k_Pacts_p_pair
  have B_Pacts_p_pair := F_Pacts_p_pair.binds (ps := ["self", "word", "side"]) fun _ _ _ _ _ _ us hl => match us, hl with | [_, _, _], _ => rfl
  have F_Pacts_errors := fun_mk (st := s_Pacts_errors) l_Pacts_errors q_Pacts_errors k_Pacts_errors
  have F_Pacts_len := fun_mk (st := s_Pacts_len) l_Pacts_len q_Pacts_len k_Pacts_len
  have B_Pacts_len := F_Pacts_len.binds (ps := ["self"]) fun _ _ _ _ _ _ us hl => match us, hl with | [_], _ => rfl
  have F_p_is_pair := fun_mk (st := s_p_is_pair) l_p_is_pair q_p_is_pair k_p_is_pair
  have B_p_is_pair := F_p_is_pair.binds (ps := ["pair"]) fun _ _ _ _ _ _ us hl => match us, hl with | [_], _ => rfl
  have F_p_fits_pairs := fun_mk (st := s_p_fits_pairs) l_p_fits_pairs q_p_fits_pairs k_p_fits_pairs
  have B_p_fits_pairs := F_p_fits_pairs.binds (ps := ["pair", "ahead"]) fun _ _ _ _ _ _ us hl => match us, hl with | [_, _], _ => rfl
  have F_p_is_pact := fun_mk (st := s_p_is_pact) l_p_is_pact q_p_is_pact k_p_is_pact
  have B_p_is_pact := F_p_is_pact.binds (ps := ["pact"]) fun _ _ _ _ _ _ us hl => match us, hl with | [_], _ => rfl
  have F_p_are_takes := fun_mk (st := s_p_are_takes) l_p_are_takes q_p_are_takes k_p_are_takes
  have B_p_are_takes := F_p_are_takes.binds (ps := ["takes"]) fun _ _ _ _ _ _ us hl => match us, hl with | [_], _ => rfl
  have F_p_are_throws := fun_mk (st := s_p_are_throws) l_p_are_throws q_p_are_throws k_p_are_throws
  have B_p_are_throws := F_p_are_throws.binds (ps := ["throws"]) fun _ _ _ _ _ _ us hl => match us, hl with | [_], _ => rfl
  have F_p_fits_helpers := fun_mk (st := s_p_fits_helpers) l_p_fits_helpers q_p_fits_helpers k_p_fits_helpers
  have B_p_fits_helpers := F_p_fits_helpers.binds (ps := ["pact", "pairs", "ahead"]) fun _ _ _ _ _ _ us hl => match us, hl with | [_, _, _], _ => rfl
  have F_box := fun_mk (st := s_box) l_box q_box k_box
  have B_box := F_box.binds (ps := ["_law_script"]) fun _ _ _ _ _ _ us hl => match us, hl with | [_], _ => rfl
  have F_mixed := fun_mk (st := s_mixed) l_mixed q_mixed k_mixed
  have B_mixed := F_mixed.binds (ps := ["_law_cell", "_law_k"]) fun _ _ _ _ _ _ us hl => match us, hl with | [_, _], _ => rfl
  have F_take := fun_mk (st := s_take) l_take q_take k_take
  have B_take := F_take.binds (ps := ["_law_box_here", "_law_size"]) fun _ _ _ _ _ _ us hl => match us, hl with | [_, _], _ => rfl
  have F_name := fun_mk (st := s_name) l_name q_name k_name
  have B_name := F_name.binds (ps := ["_law_box_here"]) fun _ _ _ _ _ _ us hl => match us, hl with | [_], _ => rfl
  have F_names := fun_mk (st := s_names) l_names q_names k_names
  have B_names := F_names.binds (ps := ["_law_box_here", "_law_many"]) fun _ _ _ _ _ _ us hl => match us, hl with | [_, _], _ => rfl
  have F_pairs := fun_mk (st := s_pairs) l_pairs q_pairs k_pairs
  have B_pairs := F_pairs.binds (ps := ["_law_box_here", "_law_most"]) fun _ _ _ _ _ _ us hl => match us, hl with | [_, _], _ => rfl
  have F_some := fun_mk (st := s_some) l_some q_some k_some
  have B_some := F_some.binds (ps := ["_law_box_here", "_law_things", "_law_most"]) fun _ _ _ _ _ _ us hl => match us, hl with | [_, _, _], _ => rfl
  have F_helpers := fun_mk (st := s_helpers) l_helpers q_helpers k_helpers
  have B_helpers := F_helpers.binds (ps := ["_law_box_here", "_law_pairs_here"]) fun _ _ _ _ _ _ us hl => match us, hl with | [_, _], _ => rfl
  have F_crossed := fun_mk (st := s_crossed) l_crossed q_crossed k_crossed
  have B_crossed := F_crossed.binds (ps := ["_law_pairs_here", "_law_helper", "_law_team"]) fun _ _ _ _ _ _ us hl => match us, hl with | [_, _, _], _ => rfl
  have F_told := fun_mk (st := s_told) l_told q_told k_told
  have B_told := F_told.binds (ps := ["_law_pacts", "_law_pairs_here", "_law_crew"]) fun _ _ _ _ _ _ us hl => match us, hl with | [_, _, _], _ => rfl
  have F_refused := fun_mk (st := s_refused) l_refused q_refused k_refused
  have B_refused := F_refused.binds (ps := ["_law_pacts", "_law_who"]) fun _ _ _ _ _ _ us hl => match us, hl with | [_, _], _ => rfl
  have F_Pacts_eq := fun_mk (st := s_Pacts_eq) l_Pacts_eq q_Pacts_eq k_Pacts_eq
  have B_Pacts_eq := F_Pacts_eq.binds (ps := ["self", "other"]) fun _ _ _ _ _ _ us hl => match us, hl with | [_, _], _ => rfl
  have F_Pacts_str := fun_mk (st := s_Pacts_str) l_Pacts_str q_Pacts_str k_Pacts_str
  have B_Pacts_str := F_Pacts_str.binds (ps := ["self"]) fun _ _ _ _ _ _ us hl => match us, hl with | [_], _ => rfl
  have F_p_pair_line := fun_mk (st := s_p_pair_line) l_p_pair_line q_p_pair_line k_p_pair_line
  have B_p_pair_line := F_p_pair_line.binds (ps := ["pair"]) fun _ _ _ _ _ _ us hl => match us, hl with | [_], _ => rfl
  have F_p_helper_line := fun_mk (st := s_p_helper_line) l_p_helper_line q_p_helper_line k_p_helper_line
  have B_p_helper_line := F_p_helper_line.binds (ps := ["pact"]) fun _ _ _ _ _ _ us hl => match us, hl with | [_], _ => rfl
  have F_row_otherwise := fun_mk (st := s_row_otherwise) l_row_otherwise q_row_otherwise k_row_otherwise
  have B_row_otherwise := F_row_otherwise.binds (ps := ["_law_box_here", "_law_helper"]) fun _ _ _ _ _ _ us hl => match us, hl with | [_, _], _ => rfl
  have F_pair_otherwise := fun_mk (st := s_pair_otherwise) l_pair_otherwise q_pair_otherwise k_pair_otherwise
  have B_pair_otherwise := F_pair_otherwise.binds (ps := ["_law_box_here", "_law_pairs_here", "_law_crew"]) fun _ _ _ _ _ _ us hl => match us, hl with | [_, _, _], _ => rfl
  have F_otherwise := fun_mk (st := s_otherwise) l_otherwise q_otherwise k_otherwise
  have B_otherwise := F_otherwise.binds (ps := ["_law_box_here", "_law_pairs_here", "_law_crew"]) fun _ _ _ _ _ _ us hl => match us, hl with | [_, _, _], _ => rfl
  have F_law := fun_mk (st := s_law) l_law q_law k_law
  have B_law := F_law.binds (ps := ["_law_script"]) fun _ _ _ _ _ _ us hl => match us, hl with | [_], _ => rfl
  have KB_Pacts_pact := kwb_mk F_Pacts_pact (ps := ["self", "name"]) (ks := ["name"]) rfl (fun _ _ _ _ _ _ u ws hl => match ws, hl with | [_], _ => rfl)
  have KN_Pacts_over_2 := kwn_mk F_Pacts_over (ps := ["self", "word", "side"]) (n := 2) (ks := ["side"]) rfl (fun _ _ _ _ _ _ us ws hu hw => match us, ws, hu, hw with | [_, _], [_], _, _ => rfl)
  have KN_Pacts_errors_2 := kwn_mk F_Pacts_errors (ps := ["self", "name", "side"]) (n := 2) (ks := ["side"]) rfl (fun _ _ _ _ _ _ us ws hu hw => match us, ws, hu, hw with | [_, _], [_], _, _ => rfl)
  have KN_Pacts_init_2 := kwn_mk F_Pacts_init (ps := ["self", "pairs", "helpers"]) (n := 2) (ks := ["helpers"]) rfl (fun _ _ _ _ _ _ us ws hu hw => match us, ws, hu, hw with | [_, _], [_], _, _ => rfl)
  have T : Txt K mg { c_Pacts := c_Pacts, c_NoHelper := c_NoHelper, c_PactError := c_PactError, c_NoWord := c_NoWord, t_LONGEST_NAME := t_LONGEST_NAME, t_MOST_PAIRS := t_MOST_PAIRS, t_MOST_HELPERS := t_MOST_HELPERS, t_MOST_TAKES := t_MOST_TAKES, t_MOST_THROWS := t_MOST_THROWS, t_TAKES := t_TAKES, f_NoHelper_init := f_NoHelper_init, d_NoHelper_init := PySem.W.fnOf "__init__" "NoHelper.__init__" (defArgs s_NoHelper_init) (defBody s_NoHelper_init) (defScope s_NoHelper_init) .none kV_NoHelper_init dc_NoHelper_init pm_NoHelper_init an_NoHelper_init cd_NoHelper_init ct_NoHelper_init, f_is_whole := f_is_whole, d_is_whole := PySem.W.fnOf "is_whole" "is_whole" (defArgs s_is_whole) (defBody s_is_whole) (defScope s_is_whole) .none kV_is_whole dc_is_whole pm_is_whole an_is_whole cd_is_whole ct_is_whole, f_is_side := f_is_side, d_is_side := PySem.W.fnOf "is_side" "is_side" (defArgs s_is_side) (defBody s_is_side) (defScope s_is_side) .none kV_is_side dc_is_side pm_is_side an_is_side cd_is_side ct_is_side, f_is_name := f_is_name, d_is_name := PySem.W.fnOf "is_name" "is_name" (defArgs s_is_name) (defBody s_is_name) (defScope s_is_name) .none kV_is_name dc_is_name pm_is_name an_is_name cd_is_name ct_is_name, f_Pacts_init := f_Pacts_init, d_Pacts_init := PySem.W.fnOf "__init__" "Pacts.__init__" (defArgs s_Pacts_init) (defBody s_Pacts_init) (defScope s_Pacts_init) .none kV_Pacts_init dc_Pacts_init pm_Pacts_init an_Pacts_init cd_Pacts_init ct_Pacts_init, f_Pacts_pairs := f_Pacts_pairs, d_Pacts_pairs := PySem.W.fnOf "pairs" "Pacts.pairs" (defArgs s_Pacts_pairs) (defBody s_Pacts_pairs) (defScope s_Pacts_pairs) .none kV_Pacts_pairs dc_Pacts_pairs pm_Pacts_pairs an_Pacts_pairs cd_Pacts_pairs ct_Pacts_pairs, f_Pacts_names := f_Pacts_names, d_Pacts_names := PySem.W.fnOf "names" "Pacts.names" (defArgs s_Pacts_names) (defBody s_Pacts_names) (defScope s_Pacts_names) .none kV_Pacts_names dc_Pacts_names pm_Pacts_names an_Pacts_names cd_Pacts_names ct_Pacts_names, f_Pacts_pact := f_Pacts_pact, d_Pacts_pact := PySem.W.fnOf "pact" "Pacts.pact" (defArgs s_Pacts_pact) (defBody s_Pacts_pact) (defScope s_Pacts_pact) .none kV_Pacts_pact dc_Pacts_pact pm_Pacts_pact an_Pacts_pact cd_Pacts_pact ct_Pacts_pact, f_Pacts_laden := f_Pacts_laden, d_Pacts_laden := PySem.W.fnOf "laden" "Pacts.laden" (defArgs s_Pacts_laden) (defBody s_Pacts_laden) (defScope s_Pacts_laden) .none kV_Pacts_laden dc_Pacts_laden pm_Pacts_laden an_Pacts_laden cd_Pacts_laden ct_Pacts_laden, f_Pacts_over := f_Pacts_over, d_Pacts_over := PySem.W.fnOf "over" "Pacts.over" (defArgs s_Pacts_over) (defBody s_Pacts_over) (defScope s_Pacts_over) .none kV_Pacts_over dc_Pacts_over pm_Pacts_over an_Pacts_over cd_Pacts_over ct_Pacts_over, f_Pacts_p_pair := f_Pacts_p_pair, d_Pacts_p_pair := PySem.W.fnOf "_pair" "Pacts._pair" (defArgs s_Pacts_p_pair) (defBody s_Pacts_p_pair) (defScope s_Pacts_p_pair) .none kV_Pacts_p_pair dc_Pacts_p_pair pm_Pacts_p_pair an_Pacts_p_pair cd_Pacts_p_pair ct_Pacts_p_pair, f_Pacts_errors := f_Pacts_errors, d_Pacts_errors := PySem.W.fnOf "errors" "Pacts.errors" (defArgs s_Pacts_errors) (defBody s_Pacts_errors) (defScope s_Pacts_errors) .none kV_Pacts_errors dc_Pacts_errors pm_Pacts_errors an_Pacts_errors cd_Pacts_errors ct_Pacts_errors, f_Pacts_len := f_Pacts_len, d_Pacts_len := PySem.W.fnOf "__len__" "Pacts.__len__" (defArgs s_Pacts_len) (defBody s_Pacts_len) (defScope s_Pacts_len) .none kV_Pacts_len dc_Pacts_len pm_Pacts_len an_Pacts_len cd_Pacts_len ct_Pacts_len, f_p_is_pair := f_p_is_pair, d_p_is_pair := PySem.W.fnOf "_is_pair" "_is_pair" (defArgs s_p_is_pair) (defBody s_p_is_pair) (defScope s_p_is_pair) .none kV_p_is_pair dc_p_is_pair pm_p_is_pair an_p_is_pair cd_p_is_pair ct_p_is_pair, f_p_fits_pairs := f_p_fits_pairs, d_p_fits_pairs := PySem.W.fnOf "_fits_pairs" "_fits_pairs" (defArgs s_p_fits_pairs) (defBody s_p_fits_pairs) (defScope s_p_fits_pairs) .none kV_p_fits_pairs dc_p_fits_pairs pm_p_fits_pairs an_p_fits_pairs cd_p_fits_pairs ct_p_fits_pairs, f_p_is_pact := f_p_is_pact, d_p_is_pact := PySem.W.fnOf "_is_pact" "_is_pact" (defArgs s_p_is_pact) (defBody s_p_is_pact) (defScope s_p_is_pact) .none kV_p_is_pact dc_p_is_pact pm_p_is_pact an_p_is_pact cd_p_is_pact ct_p_is_pact, f_p_are_takes := f_p_are_takes, d_p_are_takes := PySem.W.fnOf "_are_takes" "_are_takes" (defArgs s_p_are_takes) (defBody s_p_are_takes) (defScope s_p_are_takes) .none kV_p_are_takes dc_p_are_takes pm_p_are_takes an_p_are_takes cd_p_are_takes ct_p_are_takes, f_p_are_throws := f_p_are_throws, d_p_are_throws := PySem.W.fnOf "_are_throws" "_are_throws" (defArgs s_p_are_throws) (defBody s_p_are_throws) (defScope s_p_are_throws) .none kV_p_are_throws dc_p_are_throws pm_p_are_throws an_p_are_throws cd_p_are_throws ct_p_are_throws, f_p_fits_helpers := f_p_fits_helpers, d_p_fits_helpers := PySem.W.fnOf "_fits_helpers" "_fits_helpers" (defArgs s_p_fits_helpers) (defBody s_p_fits_helpers) (defScope s_p_fits_helpers) .none kV_p_fits_helpers dc_p_fits_helpers pm_p_fits_helpers an_p_fits_helpers cd_p_fits_helpers ct_p_fits_helpers, f_box := f_box, d_box := PySem.W.fnOf "_law_box" "_law_box" (defArgs s_box) (defBody s_box) (defScope s_box) .none kV_box dc_box pm_box an_box cd_box ct_box, f_mixed := f_mixed, d_mixed := PySem.W.fnOf "_law_mixed" "_law_mixed" (defArgs s_mixed) (defBody s_mixed) (defScope s_mixed) .none kV_mixed dc_mixed pm_mixed an_mixed cd_mixed ct_mixed, f_take := f_take, d_take := PySem.W.fnOf "_law_take" "_law_take" (defArgs s_take) (defBody s_take) (defScope s_take) .none kV_take dc_take pm_take an_take cd_take ct_take, f_name := f_name, d_name := PySem.W.fnOf "_law_name" "_law_name" (defArgs s_name) (defBody s_name) (defScope s_name) .none kV_name dc_name pm_name an_name cd_name ct_name, f_names := f_names, d_names := PySem.W.fnOf "_law_names" "_law_names" (defArgs s_names) (defBody s_names) (defScope s_names) .none kV_names dc_names pm_names an_names cd_names ct_names, f_pairs := f_pairs, d_pairs := PySem.W.fnOf "_law_pairs" "_law_pairs" (defArgs s_pairs) (defBody s_pairs) (defScope s_pairs) .none kV_pairs dc_pairs pm_pairs an_pairs cd_pairs ct_pairs, f_some := f_some, d_some := PySem.W.fnOf "_law_some" "_law_some" (defArgs s_some) (defBody s_some) (defScope s_some) .none kV_some dc_some pm_some an_some cd_some ct_some, f_helpers := f_helpers, d_helpers := PySem.W.fnOf "_law_helpers" "_law_helpers" (defArgs s_helpers) (defBody s_helpers) (defScope s_helpers) .none kV_helpers dc_helpers pm_helpers an_helpers cd_helpers ct_helpers, f_crossed := f_crossed, d_crossed := PySem.W.fnOf "_law_crossed" "_law_crossed" (defArgs s_crossed) (defBody s_crossed) (defScope s_crossed) .none kV_crossed dc_crossed pm_crossed an_crossed cd_crossed ct_crossed, f_told := f_told, d_told := PySem.W.fnOf "_law_told" "_law_told" (defArgs s_told) (defBody s_told) (defScope s_told) .none kV_told dc_told pm_told an_told cd_told ct_told, f_refused := f_refused, d_refused := PySem.W.fnOf "_law_refused" "_law_refused" (defArgs s_refused) (defBody s_refused) (defScope s_refused) .none kV_refused dc_refused pm_refused an_refused cd_refused ct_refused, f_Pacts_eq := f_Pacts_eq, d_Pacts_eq := PySem.W.fnOf "__eq__" "Pacts.__eq__" (defArgs s_Pacts_eq) (defBody s_Pacts_eq) (defScope s_Pacts_eq) .none kV_Pacts_eq dc_Pacts_eq pm_Pacts_eq an_Pacts_eq cd_Pacts_eq ct_Pacts_eq, f_Pacts_str := f_Pacts_str, d_Pacts_str := PySem.W.fnOf "__str__" "Pacts.__str__" (defArgs s_Pacts_str) (defBody s_Pacts_str) (defScope s_Pacts_str) .none kV_Pacts_str dc_Pacts_str pm_Pacts_str an_Pacts_str cd_Pacts_str ct_Pacts_str, f_p_pair_line := f_p_pair_line, d_p_pair_line := PySem.W.fnOf "_pair_line" "_pair_line" (defArgs s_p_pair_line) (defBody s_p_pair_line) (defScope s_p_pair_line) .none kV_p_pair_line dc_p_pair_line pm_p_pair_line an_p_pair_line cd_p_pair_line ct_p_pair_line, f_p_helper_line := f_p_helper_line, d_p_helper_line := PySem.W.fnOf "_helper_line" "_helper_line" (defArgs s_p_helper_line) (defBody s_p_helper_line) (defScope s_p_helper_line) .none kV_p_helper_line dc_p_helper_line pm_p_helper_line an_p_helper_line cd_p_helper_line ct_p_helper_line, f_row_otherwise := f_row_otherwise, d_row_otherwise := PySem.W.fnOf "_law_row_otherwise" "_law_row_otherwise" (defArgs s_row_otherwise) (defBody s_row_otherwise) (defScope s_row_otherwise) .none kV_row_otherwise dc_row_otherwise pm_row_otherwise an_row_otherwise cd_row_otherwise ct_row_otherwise, f_pair_otherwise := f_pair_otherwise, d_pair_otherwise := PySem.W.fnOf "_law_pair_otherwise" "_law_pair_otherwise" (defArgs s_pair_otherwise) (defBody s_pair_otherwise) (defScope s_pair_otherwise) .none kV_pair_otherwise dc_pair_otherwise pm_pair_otherwise an_pair_otherwise cd_pair_otherwise ct_pair_otherwise, f_otherwise := f_otherwise, d_otherwise := PySem.W.fnOf "_law_otherwise" "_law_otherwise" (defArgs s_otherwise) (defBody s_otherwise) (defScope s_otherwise) .none kV_otherwise dc_otherwise pm_otherwise an_otherwise cd_otherwise ct_otherwise, f_law := f_law, d_law := PySem.W.fnOf "law" "law" (defArgs s_law) (defBody s_law) (defScope s_law) .none kV_law dc_law pm_law an_law cd_law ct_law } := { cl_Pacts := ⟨pg_Pacts, hd_Pacts, po_Pacts, sa_Pacts⟩, mk_Pacts := ⟨mk_Pacts, a_Pacts_init, i_Pacts_init, kc_Pacts⟩, g_Pacts := PySem.W.mg_of X G a_Pacts, n_Pacts__pairs := n_Pacts__pairs, n_Pacts__helpers := n_Pacts__helpers, x_NoHelper := ⟨⟨_, _, _, _, _, _, _, _, _, _, _, _, _, _, _, xl_NoHelper, xm_NoHelper⟩, xs_NoHelper, xe_NoHelper, xy_NoHelper, xk_NoHelper⟩, xi_NoHelper := a_NoHelper_init, xt_NoHelper := beq_iff_eq.mp i_NoHelper_init, xf_NoHelper := ⟨xg_NoHelper, xo_NoHelper, xe_NoHelper, xd_NoHelper⟩, g_NoHelper := PySem.W.mg_of X G a_NoHelper, n_NoHelper_name := n_NoHelper_name, md_PactError := ⟨da_PactError, dr_PactError, df_PactError⟩, g_PactError := PySem.W.mg_of X G a_PactError, fa_NoHelper := fa_NoHelper, fm_NoHelper := fm_NoHelper, fs_NoHelper := fs_NoHelper, fv_NoHelper := fv_NoHelper, fx_NoHelper := fx_NoHelper, fe_NoHelper := fe_NoHelper, fg := fg, ft := ft, pn_1 := pn_1, pn_2 := pn_2, pn_3 := pn_3, pn_4 := pn_4, pn_5 := pn_5, pn_6 := pn_6, pn_7 := pn_7, pn_8 := pn_8, pn_9 := pn_9, pn_10 := pn_10, pn_11 := pn_11, pn_12 := pn_12, F_NoHelper_init := F_NoHelper_init, B_NoHelper_init := B_NoHelper_init, F_is_whole := F_is_whole, B_is_whole := B_is_whole, g_is_whole := PySem.W.mg_of X G a_is_whole, k_is_whole := k_is_whole, F_is_side := F_is_side, B_is_side := B_is_side, g_is_side := PySem.W.mg_of X G a_is_side, k_is_side := k_is_side, F_is_name := F_is_name, B_is_name := B_is_name, g_is_name := PySem.W.mg_of X G a_is_name, k_is_name := k_is_name, F_Pacts_init := F_Pacts_init, B_Pacts_init := B_Pacts_init, F_Pacts_pairs := F_Pacts_pairs, B_Pacts_pairs := B_Pacts_pairs, m_Pacts_pairs := ⟨a_Pacts_pairs, i_Pacts_pairs, k_Pacts_pairs⟩, F_Pacts_names := F_Pacts_names, B_Pacts_names := B_Pacts_names, m_Pacts_names := ⟨a_Pacts_names, i_Pacts_names, k_Pacts_names⟩, F_Pacts_pact := F_Pacts_pact, B_Pacts_pact := B_Pacts_pact, m_Pacts_pact := ⟨a_Pacts_pact, i_Pacts_pact, k_Pacts_pact⟩, F_Pacts_laden := F_Pacts_laden, m_Pacts_laden := ⟨a_Pacts_laden, i_Pacts_laden, k_Pacts_laden⟩, F_Pacts_over := F_Pacts_over, m_Pacts_over := ⟨a_Pacts_over, i_Pacts_over, k_Pacts_over⟩, F_Pacts_p_pair := F_Pacts_p_pair, B_Pacts_p_pair := B_Pacts_p_pair, m_Pacts_p_pair := ⟨a_Pacts_p_pair, i_Pacts_p_pair, k_Pacts_p_pair⟩, F_Pacts_errors := F_Pacts_errors, m_Pacts_errors := ⟨a_Pacts_errors, i_Pacts_errors, k_Pacts_errors⟩, F_Pacts_len := F_Pacts_len, B_Pacts_len := B_Pacts_len, m_Pacts_len := ⟨a_Pacts_len, i_Pacts_len, k_Pacts_len⟩, F_p_is_pair := F_p_is_pair, B_p_is_pair := B_p_is_pair, g_p_is_pair := PySem.W.mg_of X G a_p_is_pair, k_p_is_pair := k_p_is_pair, F_p_fits_pairs := F_p_fits_pairs, B_p_fits_pairs := B_p_fits_pairs, g_p_fits_pairs := PySem.W.mg_of X G a_p_fits_pairs, k_p_fits_pairs := k_p_fits_pairs, F_p_is_pact := F_p_is_pact, B_p_is_pact := B_p_is_pact, g_p_is_pact := PySem.W.mg_of X G a_p_is_pact, k_p_is_pact := k_p_is_pact, F_p_are_takes := F_p_are_takes, B_p_are_takes := B_p_are_takes, g_p_are_takes := PySem.W.mg_of X G a_p_are_takes, k_p_are_takes := k_p_are_takes, F_p_are_throws := F_p_are_throws, B_p_are_throws := B_p_are_throws, g_p_are_throws := PySem.W.mg_of X G a_p_are_throws, k_p_are_throws := k_p_are_throws, F_p_fits_helpers := F_p_fits_helpers, B_p_fits_helpers := B_p_fits_helpers, g_p_fits_helpers := PySem.W.mg_of X G a_p_fits_helpers, k_p_fits_helpers := k_p_fits_helpers, F_box := F_box, B_box := B_box, g_box := PySem.W.mg_of X G a_box, k_box := k_box, F_mixed := F_mixed, B_mixed := B_mixed, g_mixed := PySem.W.mg_of X G a_mixed, k_mixed := k_mixed, F_take := F_take, B_take := B_take, g_take := PySem.W.mg_of X G a_take, k_take := k_take, F_name := F_name, B_name := B_name, g_name := PySem.W.mg_of X G a_name, k_name := k_name, F_names := F_names, B_names := B_names, g_names := PySem.W.mg_of X G a_names, k_names := k_names, F_pairs := F_pairs, B_pairs := B_pairs, g_pairs := PySem.W.mg_of X G a_pairs, k_pairs := k_pairs, F_some := F_some, B_some := B_some, g_some := PySem.W.mg_of X G a_some, k_some := k_some, F_helpers := F_helpers, B_helpers := B_helpers, g_helpers := PySem.W.mg_of X G a_helpers, k_helpers := k_helpers, F_crossed := F_crossed, B_crossed := B_crossed, g_crossed := PySem.W.mg_of X G a_crossed, k_crossed := k_crossed, F_told := F_told, B_told := B_told, g_told := PySem.W.mg_of X G a_told, k_told := k_told, F_refused := F_refused, B_refused := B_refused, g_refused := PySem.W.mg_of X G a_refused, k_refused := k_refused, F_Pacts_eq := F_Pacts_eq, B_Pacts_eq := B_Pacts_eq, m_Pacts_eq := ⟨a_Pacts_eq, i_Pacts_eq, k_Pacts_eq⟩, F_Pacts_str := F_Pacts_str, B_Pacts_str := B_Pacts_str, m_Pacts_str := ⟨a_Pacts_str, i_Pacts_str, k_Pacts_str⟩, F_p_pair_line := F_p_pair_line, B_p_pair_line := B_p_pair_line, g_p_pair_line := PySem.W.mg_of X G a_p_pair_line, k_p_pair_line := k_p_pair_line, F_p_helper_line := F_p_helper_line, B_p_helper_line := B_p_helper_line, g_p_helper_line := PySem.W.mg_of X G a_p_helper_line, k_p_helper_line := k_p_helper_line, F_row_otherwise := F_row_otherwise, B_row_otherwise := B_row_otherwise, g_row_otherwise := PySem.W.mg_of X G a_row_otherwise, k_row_otherwise := k_row_otherwise, F_pair_otherwise := F_pair_otherwise, B_pair_otherwise := B_pair_otherwise, g_pair_otherwise := PySem.W.mg_of X G a_pair_otherwise, k_pair_otherwise := k_pair_otherwise, F_otherwise := F_otherwise, B_otherwise := B_otherwise, g_otherwise := PySem.W.mg_of X G a_otherwise, k_otherwise := k_otherwise, F_law := F_law, B_law := B_law, g_law := PySem.W.mg_of X G a_law, k_law := k_law, KB_Pacts_pact := KB_Pacts_pact, g_NoWord := PySem.W.mg_of X G a_NoWord, KN_Pacts_over_2 := KN_Pacts_over_2, KN_Pacts_errors_2 := KN_Pacts_errors_2, KN_Pacts_init_2 := KN_Pacts_init_2, v_LONGEST_NAME := PySem.W.mg_of X G v_LONGEST_NAME, v_MOST_PAIRS := PySem.W.mg_of X G v_MOST_PAIRS, v_MOST_HELPERS := PySem.W.mg_of X G v_MOST_HELPERS, v_MOST_TAKES := PySem.W.mg_of X G v_MOST_TAKES, v_MOST_THROWS := PySem.W.mg_of X G v_MOST_THROWS, v_TAKES := PySem.W.mg_of X G v_TAKES, q_TAKES := fun H => .inr ⟨_, _, _, lk_TAKES, rfl, rfl, by show 2 ≤ sizeLine; decide, (.cons ⟨_, rfl⟩ (.cons ⟨_, rfl⟩ .nil))⟩, z_ValueError := PySem.W.mg_none_of X G z_ValueError, z_isinstance := PySem.W.mg_none_of X G z_isinstance, z_int := PySem.W.mg_none_of X G z_int, z_bool := PySem.W.mg_none_of X G z_bool, z_tuple := PySem.W.mg_none_of X G z_tuple, z_list := PySem.W.mg_none_of X G z_list, z_str := PySem.W.mg_none_of X G z_str, z_len := PySem.W.mg_none_of X G z_len, z_all := PySem.W.mg_none_of X G z_all, z_range := PySem.W.mg_none_of X G z_range, z_zip := PySem.W.mg_none_of X G z_zip, z_min := PySem.W.mg_none_of X G z_min }
  exact ⟨_, fun s v => .of_eq rfl, fun base _ _ => (ok_law T).mono (by decide)⟩
theorem walk {l : PySem.W.OpenLaw} {q : Program} {loose : List Str} {XP : (Str → Option Value) → Heap → Prop} {YP : World → Heap → Prop} {d : DefRec} {K : Params → PySem.W.Frag} (hn : l.most = some 63) (hdf : d.params.defaults = [])
    (hY : ∀ (w : World) (h : Heap), YP w h → (K w.params).In h)
    (F : ∀ (w : World) (mg : Str → Option Value) (fa : Addr) (h : Heap), (K w.params).In h → h.Ns mainGlobals mg → mg d.name = some (.ref fa) →
      ∃ fd : FuncData, (∀ (s : Shared) (u : Value), BindsTo s fd ⟨[u], []⟩ [("_law_script", u)]) ∧ ∀ base : Heap, (K w.params).In base → base.Ns mainGlobals mg → FnOk l.prog w (K w.params) mg base CX0 20 fa fd ["_law_script"] (spLaw (K w.params))) :
    PySem.W.WalkO q loose XP YP l.row.toRowW d [] (fun f vs => PySem.call f vs) := L2.walk_of (n := 63) (k := 20) (x := "_law_script") (CX := fun _ => CX0) (sp := fun w => spLaw (K w.params)) hn (by decide) hdf ⟨rfl, by decide, by decide⟩ hY F (fun _ _ a ns hl _ hS => ⟨a, ns, rfl, hS, hl, fun _ => rfl⟩) fun _ _ _ _ _ z => z
end Lw
open PySem PySem.W PyProof.Rows
set_option maxRecDepth 100000 in
set_option maxHeartbeats 0 in
theorem PySem.Challenge.cw_pactford_k02_pacts_told_holds : PySem.Challenge.rw_pactford_k02_pacts_told.Holds := by
  w_on; o_law; k_head; (case hw => w_witness2)
  k_fill
  refine Lw.walk (l := PySem.Challenge.rw_pactford_k02_pacts_told) rfl rfl (fun w h Y => PySem.W.kIn_of Y) ?F
  case F =>
    intro w mg fa h KX G hmg
    refine' Lw.all_mk KX G hmg ?a_Pacts ?pg_Pacts ?hd_Pacts ?po_Pacts ?sa_Pacts ?mk_Pacts ?kc_Pacts ?n_Pacts__pairs ?n_Pacts__helpers ?a_NoHelper ?xl_NoHelper ?xm_NoHelper ?xs_NoHelper ?xe_NoHelper ?xy_NoHelper ?xk_NoHelper ?xg_NoHelper ?xo_NoHelper ?xd_NoHelper ?n_NoHelper_name ?a_PactError ?da_PactError ?dr_PactError ?df_PactError ?a_NoWord ?v_LONGEST_NAME ?v_MOST_PAIRS ?v_MOST_HELPERS ?v_MOST_TAKES ?v_MOST_THROWS ?v_TAKES ?lk_TAKES ?fa_NoHelper ?fm_NoHelper ?fs_NoHelper ?fv_NoHelper ?fx_NoHelper ?fe_NoHelper ?fg ?ft ?pn_1 ?pn_2 ?pn_3 ?pn_4 ?pn_5 ?pn_6 ?pn_7 ?pn_8 ?pn_9 ?pn_10 ?pn_11 ?pn_12 ?a_NoHelper_init ?i_NoHelper_init ?l_NoHelper_init ?q_NoHelper_init ?k_NoHelper_init ?a_is_whole ?l_is_whole ?q_is_whole ?k_is_whole ?a_is_side ?l_is_side ?q_is_side ?k_is_side ?a_is_name ?l_is_name ?q_is_name ?k_is_name ?a_Pacts_init ?i_Pacts_init ?l_Pacts_init ?q_Pacts_init ?k_Pacts_init ?a_Pacts_pairs ?i_Pacts_pairs ?l_Pacts_pairs ?q_Pacts_pairs ?k_Pacts_pairs ?a_Pacts_names ?i_Pacts_names ?l_Pacts_names ?q_Pacts_names ?k_Pacts_names ?a_Pacts_pact ?i_Pacts_pact ?l_Pacts_pact ?q_Pacts_pact ?k_Pacts_pact ?a_Pacts_laden ?i_Pacts_laden ?l_Pacts_laden ?q_Pacts_laden ?k_Pacts_laden ?a_Pacts_over ?i_Pacts_over ?l_Pacts_over ?q_Pacts_over ?k_Pacts_over ?a_Pacts_p_pair ?i_Pacts_p_pair ?l_Pacts_p_pair ?q_Pacts_p_pair ?k_Pacts_p_pair ?a_Pacts_errors ?i_Pacts_errors ?l_Pacts_errors ?q_Pacts_errors ?k_Pacts_errors ?a_Pacts_len ?i_Pacts_len ?l_Pacts_len ?q_Pacts_len ?k_Pacts_len ?a_p_is_pair ?l_p_is_pair ?q_p_is_pair ?k_p_is_pair ?a_p_fits_pairs ?l_p_fits_pairs ?q_p_fits_pairs ?k_p_fits_pairs ?a_p_is_pact ?l_p_is_pact ?q_p_is_pact ?k_p_is_pact ?a_p_are_takes ?l_p_are_takes ?q_p_are_takes ?k_p_are_takes ?a_p_are_throws ?l_p_are_throws ?q_p_are_throws ?k_p_are_throws ?a_p_fits_helpers ?l_p_fits_helpers ?q_p_fits_helpers ?k_p_fits_helpers ?a_box ?l_box ?q_box ?k_box ?a_mixed ?l_mixed ?q_mixed ?k_mixed ?a_take ?l_take ?q_take ?k_take ?a_name ?l_name ?q_name ?k_name ?a_names ?l_names ?q_names ?k_names ?a_pairs ?l_pairs ?q_pairs ?k_pairs ?a_some ?l_some ?q_some ?k_some ?a_helpers ?l_helpers ?q_helpers ?k_helpers ?a_crossed ?l_crossed ?q_crossed ?k_crossed ?a_told ?l_told ?q_told ?k_told ?a_refused ?l_refused ?q_refused ?k_refused ?a_Pacts_eq ?i_Pacts_eq ?l_Pacts_eq ?q_Pacts_eq ?k_Pacts_eq ?a_Pacts_str ?i_Pacts_str ?l_Pacts_str ?q_Pacts_str ?k_Pacts_str ?a_p_pair_line ?l_p_pair_line ?q_p_pair_line ?k_p_pair_line ?a_p_helper_line ?l_p_helper_line ?q_p_helper_line ?k_p_helper_line ?a_row_otherwise ?l_row_otherwise ?q_row_otherwise ?k_row_otherwise ?a_pair_otherwise ?l_pair_otherwise ?q_pair_otherwise ?k_pair_otherwise ?a_otherwise ?l_otherwise ?q_otherwise ?k_otherwise ?a_law ?l_law ?q_law ?k_law ?z_ValueError ?z_isinstance ?z_int ?z_bool ?z_tuple ?z_list ?z_str ?z_len ?z_all ?z_range ?z_zip ?z_min
    (case a_Pacts => first | k_is | kit_is | rfl | decide +kernel)
    (case pg_Pacts => first | k_is | kit_is | rfl | decide +kernel)
    (case hd_Pacts => first | k_is | kit_is | rfl | decide +kernel)
    (case po_Pacts => first | k_is | kit_is | rfl | decide +kernel)
    (case sa_Pacts => first | k_is | kit_is | rfl | decide +kernel)
    (case mk_Pacts => first | k_is | kit_is | rfl | decide +kernel)
    (case kc_Pacts => first | k_is | kit_is | rfl | decide +kernel)
    (case n_Pacts__pairs => first | k_is | kit_is | rfl | decide +kernel)
    (case n_Pacts__helpers => first | k_is | kit_is | rfl | decide +kernel)
    (case a_NoHelper => first | k_is | kit_is | rfl | decide +kernel)
    (case xl_NoHelper => first | k_is | kit_is | rfl | decide +kernel)
    (case xm_NoHelper => first | k_is | kit_is | rfl | decide +kernel)
    (case xs_NoHelper => first | k_is | kit_is | rfl | decide +kernel)
    (case xe_NoHelper => first | k_is | kit_is | rfl | decide +kernel)
    (case xy_NoHelper => first | k_is | kit_is | rfl | decide +kernel)
    (case xk_NoHelper => first | k_is | kit_is | rfl | decide +kernel)
    (case xg_NoHelper => first | k_is | kit_is | rfl | decide +kernel)
    (case xo_NoHelper => first | k_is | kit_is | rfl | decide +kernel)
    (case xd_NoHelper => first | k_is | kit_is | rfl | decide +kernel)
    (case n_NoHelper_name => first | k_is | kit_is | rfl | decide +kernel)
    (case a_PactError => first | k_is | kit_is | rfl | decide +kernel)
    (case da_PactError => first | k_is | kit_is | rfl | decide +kernel)
    (case dr_PactError => first | k_is | kit_is | rfl | decide +kernel)
    (case df_PactError => first | k_is | kit_is | rfl | decide +kernel)
    (case a_NoWord => first | k_is | kit_is | rfl | decide +kernel)
    (case v_LONGEST_NAME => first | k_is | kit_is | rfl | decide +kernel)
    (case v_MOST_PAIRS => first | k_is | kit_is | rfl | decide +kernel)
    (case v_MOST_HELPERS => first | k_is | kit_is | rfl | decide +kernel)
    (case v_MOST_TAKES => first | k_is | kit_is | rfl | decide +kernel)
    (case v_MOST_THROWS => first | k_is | kit_is | rfl | decide +kernel)
    (case v_TAKES => first | k_is | kit_is | rfl | decide +kernel)
    (case lk_TAKES => first | k_is | kit_is | rfl | decide +kernel)
    (case fa_NoHelper => first | k_is | kit_is | rfl | decide +kernel)
    (case fm_NoHelper => first | k_is | kit_is | rfl | decide +kernel)
    (case fs_NoHelper => first | k_is | kit_is | rfl | decide +kernel)
    (case fv_NoHelper => first | k_is | kit_is | rfl | decide +kernel)
    (case fx_NoHelper => first | k_is | kit_is | rfl | decide +kernel)
    (case fe_NoHelper => first | k_is | kit_is | rfl | decide +kernel)
    (case fg => first | k_is | kit_is | rfl | decide +kernel)
    (case ft => first | k_is | kit_is | rfl | decide +kernel)
    (case pn_1 => first | k_is | kit_is | rfl | decide +kernel)
    (case pn_2 => first | k_is | kit_is | rfl | decide +kernel)
    (case pn_3 => first | k_is | kit_is | rfl | decide +kernel)
    (case pn_4 => first | k_is | kit_is | rfl | decide +kernel)
    (case pn_5 => first | k_is | kit_is | rfl | decide +kernel)
    (case pn_6 => first | k_is | kit_is | rfl | decide +kernel)
    (case pn_7 => first | k_is | kit_is | rfl | decide +kernel)
    (case pn_8 => first | k_is | kit_is | rfl | decide +kernel)
    (case pn_9 => first | k_is | kit_is | rfl | decide +kernel)
    (case pn_10 => first | k_is | kit_is | rfl | decide +kernel)
    (case pn_11 => first | k_is | kit_is | rfl | decide +kernel)
    (case pn_12 => first | k_is | kit_is | rfl | decide +kernel)
    (case a_NoHelper_init => first | k_is | kit_is | rfl | decide +kernel)
    (case i_NoHelper_init => first | k_is | kit_is | rfl | decide +kernel)
    (case l_NoHelper_init => first | k_is | kit_is | rfl | decide +kernel)
    (case q_NoHelper_init => first | k_is | kit_is | rfl | decide +kernel)
    (case k_NoHelper_init => first | k_is | kit_is | rfl | decide +kernel)
    (case a_is_whole => first | k_is | kit_is | rfl | decide +kernel)
    (case l_is_whole => first | k_is | kit_is | rfl | decide +kernel)
    (case q_is_whole => first | k_is | kit_is | rfl | decide +kernel)
    (case k_is_whole => first | k_is | kit_is | rfl | decide +kernel)
    (case a_is_side => first | k_is | kit_is | rfl | decide +kernel)
    (case l_is_side => first | k_is | kit_is | rfl | decide +kernel)
    (case q_is_side => first | k_is | kit_is | rfl | decide +kernel)
    (case k_is_side => first | k_is | kit_is | rfl | decide +kernel)
    (case a_is_name => first | k_is | kit_is | rfl | decide +kernel)
    (case l_is_name => first | k_is | kit_is | rfl | decide +kernel)
    (case q_is_name => first | k_is | kit_is | rfl | decide +kernel)
    (case k_is_name => first | k_is | kit_is | rfl | decide +kernel)
    (case a_Pacts_init => first | k_is | kit_is | rfl | decide +kernel)
    (case i_Pacts_init => first | k_is | kit_is | rfl | decide +kernel)
    (case l_Pacts_init => first | k_is | kit_is | rfl | decide +kernel)
    (case q_Pacts_init => first | k_is | kit_is | rfl | decide +kernel)
    (case k_Pacts_init => first | k_is | kit_is | rfl | decide +kernel)
    (case a_Pacts_pairs => first | k_is | kit_is | rfl | decide +kernel)
    (case i_Pacts_pairs => first | k_is | kit_is | rfl | decide +kernel)
    (case l_Pacts_pairs => first | k_is | kit_is | rfl | decide +kernel)
    (case q_Pacts_pairs => first | k_is | kit_is | rfl | decide +kernel)
    (case k_Pacts_pairs => first | k_is | kit_is | rfl | decide +kernel)
    (case a_Pacts_names => first | k_is | kit_is | rfl | decide +kernel)
    (case i_Pacts_names => first | k_is | kit_is | rfl | decide +kernel)
    (case l_Pacts_names => first | k_is | kit_is | rfl | decide +kernel)
    (case q_Pacts_names => first | k_is | kit_is | rfl | decide +kernel)
    (case k_Pacts_names => first | k_is | kit_is | rfl | decide +kernel)
    (case a_Pacts_pact => first | k_is | kit_is | rfl | decide +kernel)
    (case i_Pacts_pact => first | k_is | kit_is | rfl | decide +kernel)
    (case l_Pacts_pact => first | k_is | kit_is | rfl | decide +kernel)
    (case q_Pacts_pact => first | k_is | kit_is | rfl | decide +kernel)
    (case k_Pacts_pact => first | k_is | kit_is | rfl | decide +kernel)
    (case a_Pacts_laden => first | k_is | kit_is | rfl | decide +kernel)
    (case i_Pacts_laden => first | k_is | kit_is | rfl | decide +kernel)
    (case l_Pacts_laden => first | k_is | kit_is | rfl | decide +kernel)
    (case q_Pacts_laden => first | k_is | kit_is | rfl | decide +kernel)
    (case k_Pacts_laden => first | k_is | kit_is | rfl | decide +kernel)
    (case a_Pacts_over => first | k_is | kit_is | rfl | decide +kernel)
    (case i_Pacts_over => first | k_is | kit_is | rfl | decide +kernel)
    (case l_Pacts_over => first | k_is | kit_is | rfl | decide +kernel)
    (case q_Pacts_over => first | k_is | kit_is | rfl | decide +kernel)
    (case k_Pacts_over => first | k_is | kit_is | rfl | decide +kernel)
    (case a_Pacts_p_pair => first | k_is | kit_is | rfl | decide +kernel)
    (case i_Pacts_p_pair => first | k_is | kit_is | rfl | decide +kernel)
    (case l_Pacts_p_pair => first | k_is | kit_is | rfl | decide +kernel)
    (case q_Pacts_p_pair => first | k_is | kit_is | rfl | decide +kernel)
    (case k_Pacts_p_pair => first | k_is | kit_is | rfl | decide +kernel)
    (case a_Pacts_errors => first | k_is | kit_is | rfl | decide +kernel)
    (case i_Pacts_errors => first | k_is | kit_is | rfl | decide +kernel)
    (case l_Pacts_errors => first | k_is | kit_is | rfl | decide +kernel)
    (case q_Pacts_errors => first | k_is | kit_is | rfl | decide +kernel)
    (case k_Pacts_errors => first | k_is | kit_is | rfl | decide +kernel)
    (case a_Pacts_len => first | k_is | kit_is | rfl | decide +kernel)
    (case i_Pacts_len => first | k_is | kit_is | rfl | decide +kernel)
    (case l_Pacts_len => first | k_is | kit_is | rfl | decide +kernel)
    (case q_Pacts_len => first | k_is | kit_is | rfl | decide +kernel)
    (case k_Pacts_len => first | k_is | kit_is | rfl | decide +kernel)
    (case a_p_is_pair => first | k_is | kit_is | rfl | decide +kernel)
    (case l_p_is_pair => first | k_is | kit_is | rfl | decide +kernel)
    (case q_p_is_pair => first | k_is | kit_is | rfl | decide +kernel)
    (case k_p_is_pair => first | k_is | kit_is | rfl | decide +kernel)
    (case a_p_fits_pairs => first | k_is | kit_is | rfl | decide +kernel)
    (case l_p_fits_pairs => first | k_is | kit_is | rfl | decide +kernel)
    (case q_p_fits_pairs => first | k_is | kit_is | rfl | decide +kernel)
    (case k_p_fits_pairs => first | k_is | kit_is | rfl | decide +kernel)
    (case a_p_is_pact => first | k_is | kit_is | rfl | decide +kernel)
    (case l_p_is_pact => first | k_is | kit_is | rfl | decide +kernel)
    (case q_p_is_pact => first | k_is | kit_is | rfl | decide +kernel)
    (case k_p_is_pact => first | k_is | kit_is | rfl | decide +kernel)
    (case a_p_are_takes => first | k_is | kit_is | rfl | decide +kernel)
    (case l_p_are_takes => first | k_is | kit_is | rfl | decide +kernel)
    (case q_p_are_takes => first | k_is | kit_is | rfl | decide +kernel)
    (case k_p_are_takes => first | k_is | kit_is | rfl | decide +kernel)
    (case a_p_are_throws => first | k_is | kit_is | rfl | decide +kernel)
    (case l_p_are_throws => first | k_is | kit_is | rfl | decide +kernel)
    (case q_p_are_throws => first | k_is | kit_is | rfl | decide +kernel)
    (case k_p_are_throws => first | k_is | kit_is | rfl | decide +kernel)
    (case a_p_fits_helpers => first | k_is | kit_is | rfl | decide +kernel)
    (case l_p_fits_helpers => first | k_is | kit_is | rfl | decide +kernel)
    (case q_p_fits_helpers => first | k_is | kit_is | rfl | decide +kernel)
    (case k_p_fits_helpers => first | k_is | kit_is | rfl | decide +kernel)
    (case a_box => first | k_is | kit_is | rfl | decide +kernel)
    (case l_box => first | k_is | kit_is | rfl | decide +kernel)
    (case q_box => first | k_is | kit_is | rfl | decide +kernel)
    (case k_box => first | k_is | kit_is | rfl | decide +kernel)
    (case a_mixed => first | k_is | kit_is | rfl | decide +kernel)
    (case l_mixed => first | k_is | kit_is | rfl | decide +kernel)
    (case q_mixed => first | k_is | kit_is | rfl | decide +kernel)
    (case k_mixed => first | k_is | kit_is | rfl | decide +kernel)
    (case a_take => first | k_is | kit_is | rfl | decide +kernel)
    (case l_take => first | k_is | kit_is | rfl | decide +kernel)
    (case q_take => first | k_is | kit_is | rfl | decide +kernel)
    (case k_take => first | k_is | kit_is | rfl | decide +kernel)
    (case a_name => first | k_is | kit_is | rfl | decide +kernel)
    (case l_name => first | k_is | kit_is | rfl | decide +kernel)
    (case q_name => first | k_is | kit_is | rfl | decide +kernel)
    (case k_name => first | k_is | kit_is | rfl | decide +kernel)
    (case a_names => first | k_is | kit_is | rfl | decide +kernel)
    (case l_names => first | k_is | kit_is | rfl | decide +kernel)
    (case q_names => first | k_is | kit_is | rfl | decide +kernel)
    (case k_names => first | k_is | kit_is | rfl | decide +kernel)
    (case a_pairs => first | k_is | kit_is | rfl | decide +kernel)
    (case l_pairs => first | k_is | kit_is | rfl | decide +kernel)
    (case q_pairs => first | k_is | kit_is | rfl | decide +kernel)
    (case k_pairs => first | k_is | kit_is | rfl | decide +kernel)
    (case a_some => first | k_is | kit_is | rfl | decide +kernel)
    (case l_some => first | k_is | kit_is | rfl | decide +kernel)
    (case q_some => first | k_is | kit_is | rfl | decide +kernel)
    (case k_some => first | k_is | kit_is | rfl | decide +kernel)
    (case a_helpers => first | k_is | kit_is | rfl | decide +kernel)
    (case l_helpers => first | k_is | kit_is | rfl | decide +kernel)
    (case q_helpers => first | k_is | kit_is | rfl | decide +kernel)
    (case k_helpers => first | k_is | kit_is | rfl | decide +kernel)
    (case a_crossed => first | k_is | kit_is | rfl | decide +kernel)
    (case l_crossed => first | k_is | kit_is | rfl | decide +kernel)
    (case q_crossed => first | k_is | kit_is | rfl | decide +kernel)
    (case k_crossed => first | k_is | kit_is | rfl | decide +kernel)
    (case a_told => first | k_is | kit_is | rfl | decide +kernel)
    (case l_told => first | k_is | kit_is | rfl | decide +kernel)
    (case q_told => first | k_is | kit_is | rfl | decide +kernel)
    (case k_told => first | k_is | kit_is | rfl | decide +kernel)
    (case a_refused => first | k_is | kit_is | rfl | decide +kernel)
    (case l_refused => first | k_is | kit_is | rfl | decide +kernel)
    (case q_refused => first | k_is | kit_is | rfl | decide +kernel)
    (case k_refused => first | k_is | kit_is | rfl | decide +kernel)
    (case a_Pacts_eq => first | k_is | kit_is | rfl | decide +kernel)
    (case i_Pacts_eq => first | k_is | kit_is | rfl | decide +kernel)
    (case l_Pacts_eq => first | k_is | kit_is | rfl | decide +kernel)
    (case q_Pacts_eq => first | k_is | kit_is | rfl | decide +kernel)
    (case k_Pacts_eq => first | k_is | kit_is | rfl | decide +kernel)
    (case a_Pacts_str => first | k_is | kit_is | rfl | decide +kernel)
    (case i_Pacts_str => first | k_is | kit_is | rfl | decide +kernel)
    (case l_Pacts_str => first | k_is | kit_is | rfl | decide +kernel)
    (case q_Pacts_str => first | k_is | kit_is | rfl | decide +kernel)
    (case k_Pacts_str => first | k_is | kit_is | rfl | decide +kernel)
    (case a_p_pair_line => first | k_is | kit_is | rfl | decide +kernel)
    (case l_p_pair_line => first | k_is | kit_is | rfl | decide +kernel)
    (case q_p_pair_line => first | k_is | kit_is | rfl | decide +kernel)
    (case k_p_pair_line => first | k_is | kit_is | rfl | decide +kernel)
    (case a_p_helper_line => first | k_is | kit_is | rfl | decide +kernel)
    (case l_p_helper_line => first | k_is | kit_is | rfl | decide +kernel)
    (case q_p_helper_line => first | k_is | kit_is | rfl | decide +kernel)
    (case k_p_helper_line => first | k_is | kit_is | rfl | decide +kernel)
    (case a_row_otherwise => first | k_is | kit_is | rfl | decide +kernel)
    (case l_row_otherwise => first | k_is | kit_is | rfl | decide +kernel)
    (case q_row_otherwise => first | k_is | kit_is | rfl | decide +kernel)
    (case k_row_otherwise => first | k_is | kit_is | rfl | decide +kernel)
    (case a_pair_otherwise => first | k_is | kit_is | rfl | decide +kernel)
    (case l_pair_otherwise => first | k_is | kit_is | rfl | decide +kernel)
    (case q_pair_otherwise => first | k_is | kit_is | rfl | decide +kernel)
    (case k_pair_otherwise => first | k_is | kit_is | rfl | decide +kernel)
    (case a_otherwise => first | k_is | kit_is | rfl | decide +kernel)
    (case l_otherwise => first | k_is | kit_is | rfl | decide +kernel)
    (case q_otherwise => first | k_is | kit_is | rfl | decide +kernel)
    (case k_otherwise => first | k_is | kit_is | rfl | decide +kernel)
    (case a_law => first | k_is | kit_is | rfl | decide +kernel)
    (case l_law => first | k_is | kit_is | rfl | decide +kernel)
    (case q_law => first | k_is | kit_is | rfl | decide +kernel)
    (case k_law => first | k_is | kit_is | rfl | decide +kernel)
    (case z_ValueError => first | k_is | kit_is | rfl | decide +kernel)
    (case z_isinstance => first | k_is | kit_is | rfl | decide +kernel)
    (case z_int => first | k_is | kit_is | rfl | decide +kernel)
    (case z_bool => first | k_is | kit_is | rfl | decide +kernel)
    (case z_tuple => first | k_is | kit_is | rfl | decide +kernel)
    (case z_list => first | k_is | kit_is | rfl | decide +kernel)
    (case z_str => first | k_is | kit_is | rfl | decide +kernel)
    (case z_len => first | k_is | kit_is | rfl | decide +kernel)
    (case z_all => first | k_is | kit_is | rfl | decide +kernel)
    (case z_range => first | k_is | kit_is | rfl | decide +kernel)
    (case z_zip => first | k_is | kit_is | rfl | decide +kernel)
    (case z_min => first | k_is | kit_is | rfl | decide +kernel)
