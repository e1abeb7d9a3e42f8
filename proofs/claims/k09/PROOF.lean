import PyProof.Rows.All
import Wide.All
import OpenK.AllK
import Wide.FinOn
import HandS.Text
import HandS.TryOnly
import HandS.SetFor
import HandS.Conv
import HandS.Walk
import HandS.Zip
import HandS.FStr
import HandS.Flow
import HandS.Finally
import HandS.DictComp
import HandS.ForMost
import HandS.Gcd
import HandS.Wide
import HandS.EndBits
import HandS.IsInst
import HandS.SortInts
import HandS.NoneIn
import HandS.More
import HandS.Codes
import HandS.ClsMeth
import HandS.ExcInit
import HandS.ExcIs
import HandS.ExcField
import HandS.ExcOwn
import HandS.WordsExc
import HandS.TryMany
import HandS.FStrTup
import KE.KExcIs
import KE.RegKIsAll
import PySem.Str
import HandS.Strs
import HandS.TupAny
import HandS.OwnEq
import KE.GoesEnum
import HandS.Star
import KE.KDictList
import HandS.Style
import KE.KSliceW
import HandS.Call
import HandS.List
import HandS.WordsDict
import PyProof.Rows.TmSorted
import PyProof.Rows.StrMeet
import PyProof.SeqRoads2
import PyProof.StrOps2
import PySem.Challenge.RW_pactford_k09_rows_read

namespace My
def g (ns : List Int) (i : Nat) : Int := ns.getD i 0
def swp (ns : List Int) (i j : Nat) : List Int := (ns.set i (g ns j)).set j (g ns i)
theorem swp_len (ns : List Int) (i j : Nat) : (swp ns i j).length = ns.length := by unfold swp; rw [List.length_set, List.length_set]
theorem g_lt {ns : List Int} {i : Nat} (h : i < ns.length) : ns[i]? = some (g ns i) := by
  unfold g
  rw [List.getD_eq_getElem?_getD, List.getElem?_eq_getElem h]
  rfl
theorem g_swp {ns : List Int} {i j : Nat} (hi : i < ns.length) (hj : j < ns.length) (k : Nat) : g (swp ns i j) k = if k = j then g ns i else if k = i then g ns j else g ns k := by
  show (swp ns i j).getD k 0 = _
  unfold swp
  rw [List.getD_eq_getElem?_getD, List.getElem?_set, List.length_set, List.getElem?_set]
  by_cases h1 : j = k
  · subst h1
    simp only [if_true, if_pos hj]
    rfl
  · have h1' : ¬ k = j := fun q => h1 q.symm
    simp only [if_neg h1, if_neg h1']
    by_cases h2 : i = k
    · subst h2
      simp only [if_true, if_pos hi]
      rfl
    · have h2' : ¬ k = i := fun q => h2 q.symm
      simp only [if_neg h2, if_neg h2']
      unfold g
      rw [List.getD_eq_getElem?_getD]
theorem swp_perm {ns : List Int} {i j : Nat} (hi : i < ns.length) (hj : j < ns.length) : (swp ns i j).Perm ns := by
  have e1 : g ns j = ns[j] := by
    have := g_lt hj
    rw [List.getElem?_eq_getElem hj] at this
    exact (Option.some.inj this).symm
  have e2 : g ns i = ns[i] := by
    have := g_lt hi
    rw [List.getElem?_eq_getElem hi] at this
    exact (Option.some.inj this).symm
  unfold swp
  rw [e1, e2]
  exact List.set_set_perm hi hj
def IsHeap (ns : List Int) : Prop := ∀ i, 0 < i → i < ns.length → g ns ((i - 1) / 2) ≤ g ns i
def UpI (ns : List Int) (pos : Nat) : Prop := (∀ i, 0 < i → i < ns.length → i ≠ pos → g ns ((i - 1) / 2) ≤ g ns i) ∧
  ∀ c, 0 < c → c < ns.length → (c - 1) / 2 = pos → 0 < pos → g ns ((pos - 1) / 2) ≤ g ns c
def DnI (ns : List Int) (pos : Nat) : Prop := (∀ i, 0 < i → i < ns.length → i ≠ pos → (i - 1) / 2 ≠ pos → g ns ((i - 1) / 2) ≤ g ns i) ∧
  ∀ c, 0 < c → c < ns.length → (c - 1) / 2 = pos → 0 < pos → g ns ((pos - 1) / 2) ≤ g ns c
theorem UpI.done {ns : List Int} {pos : Nat} (h : UpI ns pos) (hp : pos = 0 ∨ g ns ((pos - 1) / 2) ≤ g ns pos) : IsHeap ns := by
  intro i h0 hl
  by_cases e : i = pos
  · subst e
    rcases hp with e | e
    · omega
    · exact e
  · exact h.1 i h0 hl e
theorem UpI.step {ns : List Int} {pos : Nat} (h : UpI ns pos) (h0 : 0 < pos) (hl : pos < ns.length) (hlt : g ns pos < g ns ((pos - 1) / 2)) : UpI (swp ns ((pos - 1) / 2) pos) ((pos - 1) / 2) := by
  have hq : (pos - 1) / 2 < ns.length := by omega
  have G := g_swp hq hl
  refine ⟨fun i i0 il ne => ?_, fun c c0 cl e q0 => ?_⟩
  · rw [swp_len] at il
    rw [G, G]
    by_cases e1 : i = pos
    · subst e1
      rw [if_pos rfl, if_neg (by omega), if_pos rfl]
      omega
    · rw [if_neg e1, if_neg ne]
      by_cases e2 : (i - 1) / 2 = pos
      · rw [if_pos e2]
        exact h.2 i i0 il e2 h0
      · rw [if_neg e2]
        by_cases e3 : (i - 1) / 2 = (pos - 1) / 2
        · rw [if_pos e3]
          have := h.1 i i0 il e1
          rw [e3] at this
          omega
        · rw [if_neg e3]
          exact h.1 i i0 il e1
  · rw [swp_len] at cl
    rw [G, G]
    have k1 := h.1 ((pos - 1) / 2) q0 hq (by omega)
    rw [if_neg (by omega), if_neg (by omega)]
    by_cases e1 : c = pos
    · rw [if_pos e1]
      exact k1
    · rw [if_neg e1, if_neg (by omega)]
      have k2 := h.1 c c0 cl e1
      rw [e] at k2
      omega
theorem DnI.leaf {ns : List Int} {pos : Nat} (h : DnI ns pos) (hl : ¬ pos < ns.length / 2) : UpI ns pos :=
  ⟨fun i i0 il ne => h.1 i i0 il ne (by omega), h.2⟩
theorem DnI.step {ns : List Int} {pos m : Nat} (h : DnI ns pos) (hm : m < ns.length) (m0 : 0 < m) (e : (m - 1) / 2 = pos) (hmin : ∀ c, 0 < c → c < ns.length → (c - 1) / 2 = pos → g ns m ≤ g ns c) : DnI (swp ns m pos) m := by
  have hp : pos < ns.length := by omega
  have G := g_swp hm hp
  refine ⟨fun i i0 il n1 n2 => ?_, fun c c0 cl ec _ => ?_⟩
  · rw [swp_len] at il
    rw [G, G]
    by_cases e1 : i = pos
    · rw [if_pos e1, if_neg (by omega), if_neg n2]
      subst e1
      exact h.2 m m0 hm e i0
    · rw [if_neg e1, if_neg n1]
      by_cases e2 : (i - 1) / 2 = pos
      · rw [if_pos e2]
        exact hmin i i0 il e2
      · rw [if_neg e2, if_neg n2]
        exact h.1 i i0 il e1 e2
  · rw [swp_len] at cl
    rw [G, G]
    rw [e, if_pos rfl, if_neg (by omega), if_neg (by omega)]
    have := h.1 c c0 cl (by omega) (by omega)
    rw [ec] at this
    exact this
theorem IsHeap.least {ns : List Int} (h : IsHeap ns) : ∀ i, i < ns.length → g ns 0 ≤ g ns i := by
  intro i
  induction i using Nat.strongRecOn with
  | _ i ih =>
    intro hl
    by_cases h0 : i = 0
    · subst h0; exact Int.le_refl _
    · exact Int.le_trans (ih ((i - 1) / 2) (by omega) (by omega)) (h i (by omega) hl)
theorem IsHeap.least_mem {ns : List Int} (h : IsHeap ns) {x : Int} (hx : x ∈ ns) : g ns 0 ≤ x := by
  obtain ⟨i, hi, e⟩ := List.mem_iff_getElem.mp hx
  have := h.least i hi
  have q := g_lt hi
  rw [List.getElem?_eq_getElem hi, e] at q
  rw [← Option.some.inj q] at this
  exact this
/-- one more at the end -/
theorem IsHeap.push {ns : List Int} (h : IsHeap ns) (x : Int) : UpI (ns ++ [x]) ns.length := by
  have ga : ∀ i, i < ns.length → g (ns ++ [x]) i = g ns i := fun i hi => by
    unfold g
    rw [List.getD_eq_getElem?_getD, List.getElem?_append_left hi, List.getD_eq_getElem?_getD]
  refine ⟨fun i i0 il ne => ?_, fun c c0 cl e _ => ?_⟩
  · rw [List.length_append, List.length_singleton] at il
    rw [ga i (by omega), ga _ (by omega)]
    exact h i i0 (by omega)
  · rw [List.length_append, List.length_singleton] at cl
    omega
/-- the last one put in the first one's place -/
theorem IsHeap.pop {ns : List Int} (h : IsHeap ns) (x : Int) : DnI (ns.dropLast.set 0 x) 0 := by
  have hlen : (ns.dropLast.set 0 x).length = ns.length - 1 := by rw [List.length_set, List.length_dropLast]
  have ga : ∀ i, 0 < i → i < ns.length - 1 → g (ns.dropLast.set 0 x) i = g ns i := fun i i0 hi => by
    unfold g
    rw [List.getD_eq_getElem?_getD, List.getElem?_set, if_neg (by omega), List.getD_eq_getElem?_getD, List.getElem?_dropLast, if_pos hi]
  refine ⟨fun i i0 il n1 n2 => ?_, fun c c0 cl e q => absurd q (by omega)⟩
  rw [hlen] at il
  rw [ga i i0 il, ga _ (by omega) (by omega)]
  exact h i i0 (by omega)
theorem pop_perm {ns : List Int} (h2 : 2 ≤ ns.length) : (g ns 0 :: (ns.dropLast.set 0 (g ns (ns.length - 1)))).Perm ns := by
  match ns, h2 with
  | a :: b :: r, _ =>
    have e1 : g (a :: b :: r) 0 = a := rfl
    have e2 : g (a :: b :: r) ((a :: b :: r).length - 1) = (b :: r).getLast (by simp) := by
      unfold g
      rw [List.getD_eq_getElem?_getD, ← List.getLast?_eq_getElem?, List.getLast?_cons_cons, List.getLast?_eq_some_getLast (by simp)]
      rfl
    rw [e1, e2, List.dropLast_cons_cons, List.set_cons_zero]
    refine List.Perm.cons _ ?_
    have e3 : (b :: r).dropLast ++ [(b :: r).getLast (by simp)] = b :: r := List.dropLast_concat_getLast _
    exact (List.perm_append_comm (l₁ := [(b :: r).getLast (by simp)]) (l₂ := (b :: r).dropLast)).trans (by rw [e3])
end My

set_option Elab.async false
set_option linter.all false
set_option maxRecDepth 100000
set_option maxHeartbeats 4000000
namespace L2
open PySem PySem.Spec PyProof.Rows
theorem iteD {p A B : Prop} [Decidable p] (h1 : p → A) (h2 : ¬ p → B) : if decide p = true then A else B := by
  by_cases h : p
  · rw [decide_eq_true h, if_pos rfl]; exact h1 h
  · rw [decide_eq_false h, if_neg Bool.false_ne_true]; exact h2 h
theorem iteB {b : Bool} {A B : Prop} (h1 : b = true → A) (h2 : b = false → B) : if b = true then A else B := by
  cases b with
  | true => rw [if_pos rfl]; exact h1 rfl
  | false => rw [if_neg Bool.false_ne_true]; exact h2 rfl
/-- a word that no step opens -/
@[irreducible] def Blk (p : Prop) : Prop := p
theorem Blk.of {p : Prop} (h : p) : Blk p := by unfold Blk; exact h
theorem Blk.out {p : Prop} (h : Blk p) : p := by unfold Blk at h; exact h
/-- all but the addresses of S stays -/
def Keeps (S : List Addr) (H H' : Hp) : Prop := ∀ b o, H b = some o → b ∉ S → H' b = some o
theorem Keeps.refl (S : List Addr) (H : Hp) : Keeps S H H := fun _ _ h _ => h
theorem Keeps.trans {S : List Addr} {H H1 H2 : Hp} (a : Keeps S H H1) (b : Keeps S H1 H2) : Keeps S H H2 := fun c o h n => b c o (a c o h n) n
theorem Keeps.mono {S S' : List Addr} {H H1 : Hp} (a : Keeps S H H1) (h : ∀ x ∈ S, x ∈ S') : Keeps S' H H1 := fun c o e n => a c o e fun q => n (h c q)
theorem Keeps.upd {S : List Addr} {H H1 : Hp} {x : Addr} {o : HO} (a : Keeps S H H1) (hx : x ∈ S ∨ H x = none) : Keeps S H (upd H1 x o) := fun c u e n => by
  have ne : c ≠ x := fun q => by
    subst q
    rcases hx with h | h
    · exact n h
    · rw [h] at e; cases e
  rw [upd_ne ne]
  exact a c u e n
/-- fresh at H1, so fresh at H (or in S) -/
theorem Keeps.fresh {S : List Addr} {H H1 : Hp} {x : Addr} (a : Keeps S H H1) (h : H1 x = none) : x ∈ S ∨ H x = none := by
  cases e : H x with
  | none => exact .inr rfl
  | some o =>
    by_cases hm : x ∈ S
    · exact .inl hm
    · rw [a x o e hm] at h; cases h
section
variable {X : Cx}
/-- xs[i], by values -/
def rGetL (K : PySem.W.Frag) : V → V → Hp → VK → Prop := fun x y H Q => ∃ p xs i v, x = .ref p ∧ y = .int i ∧ SqL K H p xs ∧ 0 ≤ i ∧ xs[i.toNat]? = some v ∧ Q v H
theorem pget_list : PGet X (rGetL X.K) := by
  intro pins s σ H o i ov iv Q I ro ri h
  obtain ⟨p, xs, j, v, rfl, rfl, hq, h0, hv, q⟩ := h
  cases ro
  obtain ⟨t, rfl⟩ := ri
  obtain ⟨its, r, pl, hz⟩ := I.list hq
  obtain ⟨w, ew, rw'⟩ := r.get hv
  have hl := r.length
  have hlt : j.toNat < xs.length := (List.getElem?_eq_some_iff.mp hv).1
  have hn := line63
  exact wpAny_getItem_list pl.isList h0 (by omega) (by simpa using ew) ⟨v, H, I, rw', q⟩
/-- the keywords alone: each parameter but the first by its name, in their order -/
structure KwB (K : PySem.W.Frag) (fd : FuncData) (ps ks : List Str) : Prop where
  to : ∀ (s : Shared) (u : Value) (ws : List Value), K.In s.heap → ws.length = ks.length → BindsTo s fd ⟨[u], ks.zip ws⟩ (ps.zip (u :: ws))
  len : ps.length = ks.length + 1
def tMethKw (C : Addr) (m : Str) (sp : Sp) (E : XK) (ta : TE) (tk : TA) : TE := fun σ H Q => ta σ H fun x H1 => ∃ a dx fs, x = .ref a ∧ H1 a = some (.ins C dx fs) ∧ fs.lookup m = none ∧
  tk σ H1 fun vs H2 => sp (x :: vs) H2 Q E
variable {CX : CXT} {k : Nat} {f C : Addr} {fd : FuncData} {ps ks : List Str} {sp : Sp} {E : XK} {m : Str} {pos apos : Pos} {o : Expr} {kws : List Keyword} {ta : TE} {tk : TA}
theorem run_kwm {pins : List (Addr × Obj)} {σ : St} {H : Hp} {s : Shared} {Q : VK} {u : Value} {v : V} {ws : List Value} {zs : List V} (F : FnOk X.prog X.w X.K X.mg X.base CX k f fd ps sp) (hr : Room k X.A) (hb : KwB X.K fd ps ks) (hx : Passes CX X E)
    (I : Inv X pins σ H s) (r : RelV v u) (rz : Vals zs ws) (h : sp (v :: zs) H Q E) : wpAny (model X.prog X.w) X.A (call (.ref f) [u] (ks.zip ws)) (EP X pins σ Q) X.xe s := by
  have r2 : Vals (v :: zs) (u :: ws) := .cons r rz
  have hl : (u :: ws).length = ps.length := by rw [← r2.length]; exact F.len _ _ _ _ h
  have hl2 : ws.length = ks.length := by have := hb.len; rw [List.length_cons] at hl; omega
  refine wpAny_call (codeAny_mono (F.run X.A X.stack s H ⟨[u], ks.zip ws⟩ (u :: ws) (v :: zs) Q E hr I.env0 (hb.to s u ws I.kIn hl2) r2 h) fun r s' hq => ?_)
  cases r with
  | error e => exact hx pins σ H s e s' I hq
  | ok fl =>
    cases fl with
    | ret u => exact I.after hq
    | next => exact False.elim hq
    | brk => exact False.elim hq
    | cont => exact False.elim hq
/-- o.m(k = v, ..) -/
theorem pe_methKw {pl : Sem Bool} (he : PE X o ta) (c : Cls X.K C) (hm : Meth X.K C m f) (F : FnOk X.prog X.w X.K X.mg X.base CX k f fd ps sp) (hr : Room k X.A) (hb : KwB X.K fd ps ks) (hx : Passes CX X E) (hkw : PK X kws tk)
    (hall : (backToKw pos (keywordEach kws X.env)).all (·.1.isSome) = true := by rfl) (hks : (backToKw pos (keywordEach kws X.env)).filterMap (·.1) = ks := by rfl)
    (hpl : ((backTo pos (starEach [] X.env)).any (·.1) || (backToKw pos (keywordEach kws X.env)).any (·.1.isNone)) = false := by rfl)
    (ht : eval (.Call (.Attribute o m apos) [] kws pos) X.env = (do
      let v0 ← eval o X.env
      standAt apos.atName
      let (g, frst) ← holding [v0] (getMethod v0 m pl)
      callWith pos g frst (backTo pos (starEach [] X.env)) (backToKw pos (keywordEach kws X.env))) := by rfl) :
    PE X (.Call (.Attribute o m apos) [] kws pos) (tMethKw C m sp E ta tk) := by
  constructor
  intro pins s σ H Q I h
  refine PySem.W.methodCall_KW (pl := pl) (thn (he.run pins s σ H _ I h) fun w s1 ⟨y, H1, I1, ry, a, dx, fs, ey, ea, l, q⟩ => ?_) ht
  subst ey
  obtain rfl : w = Value.ref a := ry
  refine getmeth_ok I1 ea c hm l (PySem.W.callWith_KW0 (h₀ := X.base) I.ok.mod.kin hm.kp hall (thn (hkw.run pos pins s1 σ H1 _ I1 q) fun ws s2 ⟨zs, H2, I2, rz, q2⟩ => ⟨I2.kIn, ?_⟩) hpl)
  rw [hks]
  exact run_kwm (v := .ref a) F hr hb hx I2 rfl rz q2
end
theorem kwb_mk {K : PySem.W.Frag} {x qual : Str} {st : Stmt} {f : Addr} {fd : FuncData} {ps ks : List Str} (F : Fun K x qual st f fd) (hl : ps.length = ks.length + 1)
    (h : ∀ (kV doc pm : Value) (an : Option Addr) (cdv ct : Value) (u : Value) (ws : List Value), ws.length = ks.length → bindArgs (PySem.W.fnOf x qual (defArgs st) (defBody st) (defScope st) .none kV doc pm an cdv ct) ⟨[u], ks.zip ws⟩ = pure (ps.zip (u :: ws))) : KwB K fd ps ks := by
  obtain ⟨_, _, kV, doc, pm, an, cdv, ct, _, rfl, _, _⟩ := F.ex
  exact ⟨fun s u ws _ hw => .of_eq (h kV doc pm an cdv ct u ws hw), hl⟩
/-! ### the box of draws -/
/-- a box at b: its great cells at g, the rest of the one that is drawn from, the lesser cells at l, how many draws -/
def BoxAt (H : Hp) (b g l : Addr) (n : Int) : Prop := ∃ (gs ls : List Int) (cur : Int), H b = some (.lst [.ref g, .int cur, .ref l, .int n]) ∧ H g = some (.lst (gs.map V.int)) ∧ H l = some (.lst (ls.map V.int)) ∧ b ≠ g ∧ b ≠ l ∧ g ≠ l ∧ gs.length ≤ 63 ∧ ls.length ≤ 63
theorem ints_get {ns : List Int} {i : Nat} {y : V} (h : (ns.map V.int)[i]? = some y) : ∃ z, ns[i]? = some z ∧ y = V.int z := by
  rw [List.getElem?_map] at h
  cases e : ns[i]? with
  | none => rw [e] at h; cases h
  | some z => rw [e] at h; exact ⟨z, rfl, (Option.some.inj h).symm⟩
theorem get_lt {α : Type} {xs : List α} {i : Nat} {y : α} (h : xs[i]? = some y) : i < xs.length := (List.getElem?_eq_some_iff.mp h).1
theorem Same.upd {H H1 : Hp} {x : Addr} {o : HO} (a : Same H H1) (h : H x = none) : Same H (upd H1 x o) := fun c u e => by
  rw [upd_ne (ne_of_none e h)]
  exact a c u e
theorem small {n : Nat} (h : n ≤ 100000) : n < sizeLine := Nat.lt_of_le_of_lt h (by decide)
theorem ixN_at {n j : Nat} (h : j < n) : ixN n ((j : Nat) : Int) = some j := by
  have h2 : ((j : Nat) : Int) < ((n : Nat) : Int) := Int.ofNat_lt.mpr h
  simp [ixN, h2]
theorem BoxAt.upd {H : Hp} {b g l x : Addr} {n : Int} {o : HO} (h : BoxAt H b g l n) (hx : H x = none) : BoxAt (upd H x o) b g l n := by
  obtain ⟨gs, ls, cur, e1, e2, e3, r⟩ := h
  exact ⟨gs, ls, cur, by rw [upd_ne (ne_of_none e1 hx)]; exact e1, by rw [upd_ne (ne_of_none e2 hx)]; exact e2, by rw [upd_ne (ne_of_none e3 hx)]; exact e3, r⟩
theorem BoxAt.keep {H H' : Hp} {b g l : Addr} {n : Int} {S : List Addr} (h : BoxAt H b g l n) (k : Keeps S H H') (a : b ∉ S) (c : g ∉ S) (d : l ∉ S) : BoxAt H' b g l n := by
  obtain ⟨gs, ls, cur, e1, e2, e3, r⟩ := h
  exact ⟨gs, ls, cur, k _ _ e1 a, k _ _ e2 c, k _ _ e3 d, r⟩
theorem BoxAt.same {H H' : Hp} {b g l : Addr} {n : Int} (h : BoxAt H b g l n) (k : Same H H') : BoxAt H' b g l n := by
  obtain ⟨gs, ls, cur, e1, e2, e3, r⟩ := h
  exact ⟨gs, ls, cur, k _ _ e1, k _ _ e2, k _ _ e3, r⟩
theorem BoxAt.off {H : Hp} {b g l q : Addr} {n : Int} (h : BoxAt H b g l n) (hq : H q = none) : q ∉ [b, g] := by
  obtain ⟨gs, ls, cur, e1, e2, _⟩ := h
  intro c
  simp at c
  rcases c with rfl | rfl
  · rw [e1] at hq; cases hq
  · rw [e2] at hq; cases hq
end L2

set_option linter.all false
set_option maxRecDepth 100000
namespace L2
open PySem PySem.Spec PyProof.Rows
/-- pairs of ints as data -/
def pD (z : Int × Int) : PyData := .tuple [.int z.1, .int z.2]
theorem pD_lay (z : Int × Int) : (pD z).canLay0 = true := by simp [pD, PyData.canLay0, PyData.canLayAll0]
theorem pD_deep (z : Int × Int) : (pD z).depth = 1 := by simp [pD, PyData.depth, PyData.depthAll]
theorem pDs_lay : ∀ zs : List (Int × Int), PyData.canLayAll0 (zs.map pD) = true
  | [] => rfl
  | z :: r => by rw [List.map_cons, PyData.canLayAll0, pD_lay, pDs_lay r]; rfl
theorem pDs_deep : ∀ zs : List (Int × Int), PyData.depthAll (zs.map pD) ≤ 1
  | [] => by simp [PyData.depthAll]
  | z :: r => by
    rw [List.map_cons, PyData.depthAll, pD_deep]
    have := pDs_deep r
    omega
theorem pD_shaped (z : Int × Int) : SeqAt.shaped (pD z) = true := by
  unfold SeqAt.shaped
  rw [pD_lay, pD_deep]
  rfl
theorem lD_lay (zs : List (Int × Int)) : (PyData.list (zs.map pD)).canLay0 = true := by rw [PyData.canLay0]; exact pDs_lay zs
theorem lD_shaped (zs : List (Int × Int)) : SeqAt.shaped (.list (zs.map pD)) = true := by
  unfold SeqAt.shaped
  rw [lD_lay, PyData.depth]
  have := pDs_deep zs
  exact decide_eq_true (by omega)
theorem pD_same (z : Int × Int) : PyData.eqv (pD z) (pD z) = true := SeqAt.eqv_refl _ (pD_lay z)
theorem lD_same (zs : List (Int × Int)) : PyData.eqv (.list (zs.map pD)) (.list (zs.map pD)) = true := SeqAt.eqv_refl _ (lD_lay zs)
theorem dp_pair {K : PySem.W.Frag} {H : Hp} {h : Addr} {z : Int × Int} (e : H h = some (.tup [.int z.1, .int z.2])) : Dp K H (.ref h) (pD z) := .tup (SqT.of e) (.cons (.int _) (.cons (.int _) .nil))
theorem dp_pairs {K : PySem.W.Frag} {H : Hp} : ∀ {hs : List Addr} {zs : List (Int × Int)}, hs.length = zs.length → (∀ (i : Nat) (h : Addr) (z : Int × Int), hs[i]? = some h → zs[i]? = some z → H h = some (.tup [.int z.1, .int z.2])) → DpAll K H (hs.map V.ref) (zs.map pD)
  | [], [], _, _ => .nil
  | h :: hs, z :: zs, hl, e => .cons (dp_pair (e 0 h z rfl rfl)) (dp_pairs (by simpa using hl) fun i h' z' a b => e (i + 1) h' z' (by simpa using a) (by simpa using b))
  | [], _ :: _, hl, _ => by simp at hl
  | _ :: _, [], hl, _ => by simp at hl
theorem dp_list {K : PySem.W.Frag} {H : Hp} {l : Addr} {hs : List Addr} {zs : List (Int × Int)} (e0 : H l = some (.lst (hs.map V.ref))) (hl : hs.length = zs.length)
    (e : ∀ (i : Nat) (h : Addr) (z : Int × Int), hs[i]? = some h → zs[i]? = some z → H h = some (.tup [.int z.1, .int z.2])) : Dp K H (.ref l) (.list (zs.map pD)) := .lst (SqL.of e0) (dp_pairs hl e)
end L2

set_option linter.all false
set_option maxRecDepth 100000
set_option maxHeartbeats 4000000
namespace L2
open PySem PySem.Spec PyProof.Rows
section
variable {X : Cx} {CX : CXT} {k : Nat} {g C : Addr} {fd : FuncData} {sp : Sp} {E : XK}
/-- len(o), o an instance whose class has its own __len__ -/
def rLenOwn (C : Addr) (sp : Sp) (E : XK) : List V → Hp → VK → Prop := fun xs H Q => ∃ a dx fs, xs = [V.ref a] ∧ H a = some (.ins C dx fs) ∧ sp [.ref a] H (fun v H' => ∃ n : Int, v = .int n ∧ 0 ≤ n ∧ n < 2 ^ 63 ∧ Q (.int n) H') E
theorem call_lenOwn (hm : Meth X.K C "__len__" g) (F : FnOk X.prog X.w X.K X.mg X.base CX k g fd ["self"] sp) (hr : Room (k + 1) X.A) (hb : Binds X.K fd ["self"] []) (hx : Passes CX X E) : CallR X (.builtin "len") (rLenOwn C sp E) := by
  intro pins s σ H xs us Q I r h
  obtain ⟨a, dx, fs, rfl, ha, q⟩ := h
  obtain ⟨u, rfl, ru⟩ := r.one
  cases (show u = Value.ref a from ru)
  obtain ⟨_, _, _, e, mA, ⟨od, es, ep, e2, _⟩, _⟩ := I.hok a _ ha
  have J : PySem.W.InstAt s.heap a (PySem.W.instObj C dx) C (some od) := ⟨e, rfl, rfl, e2⟩
  obtain ⟨m, hF⟩ := I.fr
  have r2 : Vals [V.ref a] [Value.ref a] := .cons (show RelV (.ref a) (.ref a) from rfl) .nil
  have key : codeAny (model X.prog X.w) X.A.in1 (.call (.ref g) ⟨[.ref a], []⟩) (fun r s' => match r with
    | .ok (.ret v) => EP X pins σ (fun v H' => ∃ n : Int, v = .int n ∧ 0 ≤ n ∧ n < 2 ^ 63 ∧ Q (.int n) H') v s'
    | .ok _ => False
    | .error e => X.xe e s') s := by
    refine codeAny_mono (F.run X.A.in1 X.stack s H ⟨[.ref a], []⟩ [.ref a] [.ref a] _ E hr.in1 I.env0.in1 (hb s [.ref a] I.kIn rfl) r2 q) fun r s' hq => ?_
    cases r with
    | error e => exact hx pins σ H s e s' I hq
    | ok fl =>
      cases fl with
      | ret u => exact I.after hq
      | next => exact False.elim hq
      | brk => exact False.elim hq
      | cont => exact False.elim hq
  refine PySem.W.len_K hF I.ok.mod.kin J hm.at_ hm.fn (wpAny_mono (wpAny_call key) (fun v s' hv => ?_) fun _ _ x => x)
  obtain ⟨z, H', I', rz, n, rfl, n0, n1, qz⟩ := hv
  obtain ⟨t, rfl⟩ := (show ∃ t, v = Value.int n t from rz)
  exact ⟨⟨n0, n1⟩, .int n, H', I'.tok _, ⟨_, rfl⟩, qz⟩
end
/-- a loop over a locked dict's keys, by an invariant -/
theorem for_keys {d : Addr} {o : Obj} {kvs : List (Key × V)} {g : TG} {tb : TS} {D : Ends} {σ : St} {H : Hp} (Pv : Nat → St → Hp → Prop) (h0 : Pv 0 σ H) (hl : ∀ i σ H, Pv i σ H → H d = some (.frz o (.dK kvs)))
    (hs : ∀ i k v σ H, kvs[i]? = some (k, v) → Pv i σ H → g (kV k) σ H fun σ2 H2 => tb { D with nx := Pv (i + 1), ct := Pv (i + 1), bk := D.nx } σ2 H2) (hd : ∀ σ H, Pv kvs.length σ H → D.nx σ H) :
    ∃ W : Nat → Nat → St → Hp → Prop, (∃ m, W 0 m σ H) ∧ ∀ i m σ H, W i m σ H → ((Itk d o kvs).stop i H ∧ D.nx σ H) ∨
      ((Itk d o kvs).go i H ∧ ∃ N : St → Hp → Prop, (∀ σ' H', N σ' H' → ∃ m', m' < m ∧ W (i + 1) m' σ' H') ∧ ∀ x H', (Itk d o kvs).yld i H x H' → g x σ H' fun σ2 H2 => tb { D with nx := N, ct := N, bk := D.nx } σ2 H2) := by
  refine ⟨fun i m σ H => m + i = kvs.length ∧ Pv i σ H, ⟨kvs.length, rfl, h0⟩, fun i m σ H ⟨hm, p⟩ => ?_⟩
  have q := hl i σ H p
  by_cases hlt : i < kvs.length
  · refine .inr ⟨⟨q, hlt⟩, Pv (i + 1), fun σ' H' p' => ⟨m - 1, by omega, by omega, p'⟩, fun x H' y => ?_⟩
    obtain ⟨rfl, k, v, hk, rfl⟩ := y
    exact hs i k v σ _ hk p
  · obtain rfl : i = kvs.length := by omega
    exact .inl ⟨⟨q, Nat.le_refl _⟩, hd σ H p⟩
end L2

set_option linter.all false
set_option maxRecDepth 100000
set_option maxHeartbeats 4000000
namespace L2
open PySem PySem.Spec PyProof.Rows
/-- what the top says of a class over ValueError without an own __init__ -/
structure MidC (K : PySem.W.Frag) (D : Addr) : Prop where
  ga : PySem.W.specialIn K (.ref D) "__getattribute__" = some (some (.builtin "type.__getattribute__"))
  rd : PySem.W.readsIn K D (.type "type") = true
  fi : PySem.W.findCls K (.ref D) (.type "type") "__init__" = some (.val (.builtin "ValueError.__init__"))
section
variable {X : Cx} {e : Expr} {es : List Expr} {ta : TA} {n : Str} {D : Addr} {p1 p2 pos : Pos}
/-- D.__init__(self, ..), D an own class over ValueError that has no __init__ of its own -/
theorem pe_midInit {pl : Sem Bool} (T : MidC X.K D) (hg : Gl X n) (hm : X.mg n = some (.ref D)) (ha : PA X (e :: es) ta)
    (hc : eval (.Call (.Attribute (.Name n p1) "__init__" p2) (e :: es) [] pos) X.env = (do
      let ov ← eval (.Name n p1) X.env
      standAt p2.atName
      let (g, frst) ← holding [ov] (getMethod ov "__init__" pl)
      callWith pos g frst (backTo pos (starEach (e :: es) X.env)) (backToKw pos (keywordEach [] X.env))) := by rfl)
    (hdb : (n == ("__debug__" : Str)) = false := by decide)
    (st1 : starEach (e :: es) X.env = (false, eval e X.env) :: starEach es X.env := by rfl) (st2 : (backTo pos (starEach es X.env)).any (·.1) = false := by rfl) :
    PE X (.Call (.Attribute (.Name n p1) "__init__" p2) (e :: es) [] pos) (tVeI X.K ta) := by
  refine ⟨fun pins s σ H Q I h => ?_⟩
  refine PySem.W.methodCall_KW (ld_glob I hg hm ?_ hdb) hc
  refine PySem.W.method_cls I.kIn T.ga (PySem.W.cls_value I.kIn T.rd T.fi (by decide +kernel) ?_)
  refine PyProof.Rows.callWith_method1 (id := "ValueError.__init__") (thn (ha.run pos pins _ σ H _ (I.tok _) h) fun us s1 ⟨vs, H1, I1, r1, a, C, ws, ev, hl, T2, ea, q⟩ => ?_) st1 st2
  subst ev
  cases r1 with
  | @cons _ u0 _ ur ra rw' =>
    obtain rfl : u0 = Value.ref a := ra
    have hlen : ur.length ≤ sizeLine := by
      rw [← Paired.length rw', sizeLine_eq]
      omega
    exact oinit_ok T2 I1 ea hlen fun s' J => ⟨.non, H1, J, rfl, q⟩
end
/-- two promises of one def: one that lets nothing out, one that may -/
theorem FnOk.orX {P : Program} {w : World} {K : PySem.W.Frag} {mg : Str → Option Value} {base : Heap} {CX : CXT} {k : Nat} {f : Addr} {fd : FuncData} {ps : List Str} {sp1 sp2 : Sp} (F1 : FnOk P w K mg base CX0 k f fd ps sp1) (F2 : FnOk P w K mg base CX k f fd ps sp2) :
    FnOk P w K mg base CX k f fd ps (fun vs H Q E => sp1 vs H Q E ∨ sp2 vs H Q E) := by
  constructor
  · intro vs H Q E h
    rcases h with h | h
    · exact F1.len _ _ _ _ h
    · exact F2.len _ _ _ _ h
  · intro A outer s H args us vs Q E hr he hb hv h
    rcases h with h | h
    · refine codeAny_mono (F1.run A outer s H args us vs Q E hr he hb hv h) fun r s' z => ?_
      cases r with
      | error e => exact False.elim z
      | ok fl =>
        cases fl with
        | ret u => exact z
        | next => exact z
        | brk => exact z
        | cont => exact z
    · exact F2.run A outer s H args us vs Q E hr he hb hv h
/-! ### a method whose errors are taken by the body around -/
def tMethAt (C : Addr) (m : Str) (sp : Sp) (E : St → XK) (ta : TE) (t : TA) : TE := fun σ H Q => ta σ H fun x H1 => ∃ a dx fs, x = .ref a ∧ H1 a = some (.ins C dx fs) ∧ fs.lookup m = none ∧ t σ H1 fun vs H2 => sp (x :: vs) H2 Q (E σ)
section
variable {X : Cx} {CX : CXT} {k : Nat} {f C : Addr} {fd : FuncData} {ps : List Str} {sp : Sp} {E : St → XK} {m : Str} {pos apos : Pos} {e o : Expr} {es : List Expr} {ta : TE} {t : TA}
theorem pe_methAt {pl : Sem Bool} (ho : PE X o ta) (c : Cls X.K C) (hm : Meth X.K C m f) (F : FnOk X.prog X.w X.K X.mg X.base CX k f fd ps sp) (hr : Room k X.A) (hb : Binds X.K fd ps []) (hx : ∀ σ, PassesAt CX X σ (E σ)) (ha : PA X (e :: es) t)
    (h1 : starEach (e :: es) X.env = (false, eval e X.env) :: starEach es X.env := by rfl) (h2 : (backTo pos (starEach es X.env)).any (·.1) = false := by rfl)
    (h3 : eval (.Call (.Attribute o m apos) (e :: es) [] pos) X.env = (do
      let v0 ← eval o X.env
      standAt apos.atName
      let (g, first) ← holding [v0] (getMethod v0 m pl)
      callWith pos g first (backTo pos (starEach (e :: es) X.env)) (backToKw pos (keywordEach [] X.env))) := by rfl) :
    PE X (.Call (.Attribute o m apos) (e :: es) [] pos) (tMethAt C m sp E ta t) := by
  constructor
  intro pins s σ H Q I h
  refine PySem.W.methodCall_KW (pl := pl) (thn (ho.run pins s σ H _ I h) fun u s1 ⟨x, H1, I1, rx, a, dx, fs, ex, ea, l, q⟩ => ?_) h3
  subst ex
  obtain rfl : u = Value.ref a := rx
  refine getmeth_ok I1 ea c hm l (PySem.W.callWith_K (h₀ := X.base) (first := [.ref a]) I.ok.mod.kin hm.kp (thn (ha.run pos pins s1 σ H1 _ I1 q) fun us s2 ⟨vs, H2, I2, r, q2⟩ => ⟨I2.kIn, ?_⟩) h1 h2)
  exact run_fnS (vs := .ref a :: vs) (us := .ref a :: us) F hr hb (hx σ) I2 (.cons rfl r) q2
end
/-! ### a tuple of numbers in an f-string -/
theorem reprs_int {prog : Program} {w : World} : ∀ {l : List Int} {its : List Value}, Vals (l.map V.int) its → (∀ y ∈ l, y.natAbs.log2 < 1920) → ReprAll prog w its (l.map fun i => Str.ofString (toString i))
  | [], _, r, _ => by
    cases r
    exact .nil
  | y :: l, _, r, h => by
    cases r with
    | cons r1 r2 =>
      obtain ⟨t, rfl⟩ := r1
      exact .cons (ReprIs.int t (h y List.mem_cons_self)) (reprs_int r2 fun z hz => h z (List.mem_cons_of_mem _ hz))
theorem piled_int : ∀ l : List Int, (∀ y ∈ l, y.natAbs.log2 < 1920) → piled (l.map fun i => Str.ofString (toString i)) ≤ 1923 * l.length
  | [], _ => Nat.zero_le _
  | y :: l, h => by
    have h1 := int_text_len_1921 (h y List.mem_cons_self)
    have h2 := piled_int l fun z hz => h z (List.mem_cons_of_mem _ hz)
    rw [List.map_cons, piled_cons, List.length_cons]
    omega
/-- {t}, t a tuple of numbers: some text -/
def tFmtI (K : PySem.W.Frag) (te : TE) : TE := fun σ H Q => te σ H fun x H1 => ∃ (a : Addr) (l : List Int), x = .ref a ∧ SqT K H1 a (l.map V.int) ∧ (∀ y ∈ l, y.natAbs.log2 < 1920) ∧ l.length ≤ 20 ∧ ∀ m : Str, m.length ≤ 40000 → Q (.str m) H1
theorem pe_fmtI {X : Cx} {e : Expr} {te : TE} {pos : Pos} {k : Nat} (hr : Room k X.A) (he : PE X e te) : PE X (.FormattedValue e (-1) none pos) (tFmtI X.K te) := by
  refine ⟨fun pins s σ H Q I h => ?_⟩
  refine wpAny_FormattedValue_plain (thn (he.run pins s σ H _ I h) fun v s1 got => ?_)
  obtain ⟨x, H1, I1, r1, a, l, rfl, ht, hc, hz, q⟩ := got
  cases r1
  obtain ⟨its, rv, ⟨ox, ho, hcl, nx, hd⟩, _⟩ := I1.tuple ht
  have hp := piled_int l hc
  have htx := fmt_text (l.map fun i => Str.ofString (toString i))
  have hu := hr.units
  have hb : 40000 ≤ sizeLine := by rw [sizeLine_eq]; decide
  exact fmt_tuple (by omega) ho hcl hd (reprs_int rv hc) (by omega) fun m u tk hm => ⟨.str m, H1, I1.tok _, ⟨u, rfl⟩, q m (by omega)⟩
end L2

set_option linter.all false
set_option maxRecDepth 100000
set_option maxHeartbeats 4000000
/-! several clauses `except C as n` -/
namespace L2
open PySem PySem.Spec PyProof.Rows
/-- the ends of a suite whose name, in slot i, is let go of -/
def unb (i : Nat) (D : Ends) : Ends where
  nx := fun σ' H' => D.nx (σ'.set i none) H'
  rt := D.rt
  bk := fun σ' H' => D.bk (σ'.set i none) H'
  ct := fun σ' H' => D.ct (σ'.set i none) H'
abbrev Clause := Value × Nat × (Addr → Value → Option Addr → TS)
def wNamed (K : PySem.W.Frag) (Wout : WX) (D : Ends) : List Clause → WX
  | [] => Wout
  | c :: r => fun cls d σ H => ∃ b : Bool, PySem.W.exmOne K cls c.1 = some b ∧ (b = true → ∀ z, H z = none → c.2.2 z cls d (unb c.2.1 D) (σ.set c.2.1 (some (.ref z))) H) ∧ (b = false → wNamed K Wout D r cls d σ H)
inductive HdN (X : Cx) : List ExceptHandler → List Clause → Prop
  | nil : HdN X [] []
  | cons {x n : Str} {c : Value} {i : Nat} {ts : Addr → Value → Option Addr → TS} {q0 : Stmt} {qs : List Stmt} {p1 p2 : Pos} {hds : List ExceptHandler} {l : List Clause} (hc : Names X x c) (hi : X.N[i]? = some n) (hk : X.env.kindOf n = some .local)
      (hq : ∀ (z : Addr) (oz : Obj) (cls : Value) (d : Option Addr) (pn : List (Addr × Obj)), Zc cls d oz → (∃ fv, oz.data = .fields fv) → PSs (X.suite z ((z, oz) :: pn)) (q0 :: qs) (ts z cls d)) (rest : HdN X hds l) :
      HdN X (.ExceptHandler (some (.Name x p1)) (some n) (q0 :: qs) p2 :: hds) ((c, i, ts) :: l)
/-- an exception at a on its way through the body of X, the state around as told -/
structure Fly (X : Cx) (pins : List (Addr × Obj)) (a : Addr) (cls : Value) (d : Option Addr) (σ : St) (H : Hp) (B : Heap) (sI s3 : Shared) : Prop where
  inv : Inv X pins σ H sI
  nb : ∀ b o, sI.heap.get? b = some o → b ∉ frs X.stack → B.get? b = some o
  up : sI.heap.UpToSlots s3.heap
  fly : HandSPX.FlyingZ B (X.env :: X.outer) a (Zc cls d) s3.heap
  na : H a = none
  os : s3.os = sI.os
  ag : AllBare s3.gens
section
variable {X : Cx} {pins : List (Addr × Obj)} {a : Addr} {cls : Value} {d : Option Addr} {σ : St} {H : Hp} {B : Heap} {sI s3 : Shared}
theorem Fly.stands (F : Fly X pins a cls d σ H B sI s3) : Inv X pins σ H s3 := F.inv.landed F.nb F.fly.1 F.up F.os F.ag
theorem Fly.held (F : Fly X pins a cls d σ H B sI s3) (hf : X.env.frame = some X.env.locals) :
    ∃ (oz : Obj) (fv : Array Value), s3.heap.get? a = some oz ∧ Zc cls d oz ∧ oz.data = .fields fv ∧ Inv (X.suite a ((a, oz) :: (X.pn ++ pins))) [] σ H s3 := by
  obtain ⟨oz, fv, e, z, hd⟩ := F.fly.there
  have off : a ∉ frs (X.env :: X.outer) := by
    intro m
    obtain ⟨_, o2, e2, nf⟩ := F.fly.2.2.1.mem m
    obtain rfl := Option.some.inj (e.symm.trans e2)
    exact nf _ hd
  refine ⟨oz, fv, e, z, hd, F.stands.suite e hd F.na (fun q => off ?_) (fun q => off ?_)⟩
  · rw [q]
    exact List.mem_filterMap.mpr ⟨X.env, List.mem_cons_self, hf⟩
  · obtain ⟨v, hv, hv2⟩ := List.mem_filterMap.mp q
    exact List.mem_filterMap.mpr ⟨v, List.mem_cons_of_mem _ hv, hv2⟩
/-- the clauses, one after the other -/
theorem Fly.clauses {l : List Clause} {hds : List ExceptHandler} {Wout : WX} {D : Ends} (hs : X.stack = X.env :: X.outer) (hf : X.env.frame = some X.env.locals) (hN : X.N.Nodup) (tk : Takes X Wout) (h : HdN X hds l) (F : Fly X pins a cls d σ H B sI s3)
    (w : wNamed X.K Wout D l cls d σ H) : wpAny (model X.prog X.w) X.A (handleBy (.ref a) X.env hds) (SP X pins D) X.xe s3 := by
  induction h with
  | nil =>
    refine wpAny_handleBy_nil ?_
    obtain ⟨_, _, _, oz, fv, tb0, oT, tn, e, z, hd, h1, hr⟩ := id F.fly
    unfold PySem.passOn
    refine wpAny_bind (wpAny_field e hd h1 ?_)
    rw [if_neg (by simp : ¬ ((Value.ref tb0 == Value.none) = true))]
    have out : wpAny (model X.prog X.w) X.A (setFlight (.ref a) X.env.frame) (fun _ s4 => wpAny (model X.prog X.w) X.A (throw (.ref a) : Sem Flow) (SP X pins D) X.xe s4) X.xe s3 := by
      rw [hf]
      refine HandSPX.setFlight_upZ F.fly fun h4 held up4 => wpAny_throw (tk _ _ ?_)
      refine ⟨a, B, sI, pins, σ, H, cls, d, rfl, F.inv, F.nb, F.up.trans up4, ?_, F.na, F.os, F.ag, w⟩
      rw [hs]
      exact .inr (.inr held)
    first
      | exact wpAny_bind (wpAny_pure (wpAny_bind out))
      | exact wpAny_bind out
  | @cons x n c i ts q0 qs p1 p2 hds l hc hi hk hq rest ih =>
    obtain ⟨b, hb, yes, no⟩ := w
    obtain ⟨oz, fv, e, z, hd, S3⟩ := F.held hf
    refine wpAny_handleBy_cons (codeAny_handlers_test ?_) (fun w => by cases w)
    have LC : PySem.W.Looks (model X.prog X.w) s3.heap (typeOf (.ref a)) cls := fun _ _ _ _ k q => wpAny_typeOf_ref (k _ _ e) (by rw [z.1]; exact q)
    have LM := PySem.W.exm_one (M := model X.prog X.w) F.stands.kIn LC hb
    have named : ∀ {Q E : Value → Shared → Prop}, Q c s3 → wpAny (model X.prog X.w) (X.A.mark (some (.ref a))) (eval (.Name x p1) X.env) Q E s3 := by
      intro Q E q
      obtain ⟨hg, hdb, hm | ⟨hm, hv, hn⟩⟩ := hc
      · exact ld_glob S3 hg hm q hdb
      · exact ld_blt S3 hg hm hv q hn hdb
    refine named (LM.here ?_)
    cases b with
    | false => exact ih (no rfl)
    | true =>
      refine codeAny_handlers_suite_as (HandSPX.lands_againZ F.fly fun h4 fl4 up4 => ?_)
      have F4 : Fly X pins a cls d σ H B sI { s3 with heap := h4 } := ⟨F.inv, F.nb, F.up.trans up4, fl4, F.na, F.os, F.ag⟩
      obtain ⟨oy, fy, ey, zy, dy, S4⟩ := F4.held hf
      refine store_ok (X := X.suite a ((a, oy) :: (X.pn ++ pins))) (v := .ref a) S4 hN hi (.inl hk) rfl (fun s5 S5 => ?_) (.inr hk)
      refine wpAny_mono ((hq a oy cls d (X.pn ++ pins) zy ⟨_, dy⟩).run [] s5 _ H _ S5 (yes rfl a F.na)) (fun f s6 hsp => ?_) (fun _ _ q => q.elim)
      have ok := F.inv.ok
      have fin : ∀ {τ : St} {H6 : Hp} {P : Shared → Prop}, Inv (X.suite a ((a, oy) :: (X.pn ++ pins))) [] τ H6 s6 → (∀ s7, Inv X pins (τ.set i none) H6 s7 → P s7) →
          wpAny (model X.prog X.w) X.A (do bindName X.env n .none; unbindBehindTheSuite X.env n p2) (fun _ s7 => P s7) X.xe s6 := fun I6 q => gone_ok (I6.unsuite ok) hN hi hk q
      cases f with
      | next =>
        obtain ⟨τ, H6, I6, q6⟩ := hsp
        exact fin I6 fun _ I7 => ⟨_, _, I7, q6⟩
      | brk =>
        obtain ⟨τ, H6, I6, q6⟩ := hsp
        exact fin I6 fun _ I7 => ⟨_, _, I7, q6⟩
      | cont =>
        obtain ⟨τ, H6, I6, q6⟩ := hsp
        exact fin I6 fun _ I7 => ⟨_, _, I7, q6⟩
      | ret u =>
        obtain ⟨v, τ, H6, I6, r6, q6⟩ := hsp
        exact fin I6 fun _ I7 => ⟨_, _, _, I7, r6, q6⟩
theorem ps_try_named {body : List Stmt} {h0 : ExceptHandler} {hds : List ExceptHandler} {l : List Clause} {pos : Pos} {tb : WX → TS} {Wout : WX} (hs : X.stack = X.env :: X.outer) (hf : X.env.frame = some X.env.locals) (hN : X.N.Nodup) (tk : Takes X Wout)
    (hb : ∀ (W : WX) (qs : List (Addr × Obj)) (xe : Value → Shared → Prop), Takes (X.tr qs xe) W → PassesOwn (model X.prog X.w) X.A X.env xe → PSs (X.tr qs xe) body (tb W))
    (hh : HdN X (h0 :: hds) l) : PS X (.Try body (h0 :: hds) [] [] pos) (fun D σ H => tb (wNamed X.K Wout D l) D σ H) := by
  constructor
  intro pins s σ H D I h
  have ok := I.ok
  have hfr : X.A.frames = some (X.env :: X.outer) := ok.frames.trans (by rw [hs])
  refine wpAny_Try_except (wpAny_mono ((hb (wNamed X.K Wout D l) (X.pn ++ pins) (fun e t1 => wpAny (model X.prog X.w) X.A (noteFrame e X.env) (fun _ t2 => wpAny (model X.prog X.w) X.A (setFlight e none)
    (fun _ t3 => wpAny (model X.prog X.w) X.A (handleBy e X.env (h0 :: hds)) (SP X pins D) X.xe t3) X.xe t2) X.xe t1) (fun u s' hx => ?_) PassesOwn.looking).run [] s σ H D (I.toTry _) h) (fun f s1 hsp => ?_) (fun _ _ q => q))
  · obtain ⟨a, B, sI, pn', τ, H', cls, d, rfl, J, nb, up, sky, na, os, ag, w⟩ := hx
    have sky2 : Sky B (X.env :: X.outer) a (Zc cls d) X.env.locals s'.heap := hs ▸ sky
    refine Sky.land (a := a) Zc.steady hfr hf sky2 fun h3 fl up3 => ?_
    exact Fly.clauses (s3 := { s' with heap := h3 }) hs hf hN tk hh ⟨J.ofTry ok, nb, up.trans up3, fl, na, os, ag⟩ w
  · cases f with
    | next =>
      obtain ⟨τ, H', J, q⟩ := hsp
      exact wpAny_execs_nil ⟨τ, H', J.ofTry ok, q⟩
    | brk =>
      obtain ⟨τ, H', J, q⟩ := hsp
      exact ⟨τ, H', J.ofTry ok, q⟩
    | cont =>
      obtain ⟨τ, H', J, q⟩ := hsp
      exact ⟨τ, H', J.ofTry ok, q⟩
    | ret u =>
      obtain ⟨v, τ, H', J, r, q⟩ := hsp
      exact ⟨v, τ, H', J.ofTry ok, r, q⟩
end
/-- isinstance(e, c), e the caught exception, which has its dict -/
def rIsD (K : PySem.W.Frag) (z : Addr) (cls : Value) (d : Option Addr) : List V → Hp → VK → Prop := fun xs H Q => ∃ (D dd : Addr) (fs : List (Str × V)) (c : V) (cv : Value) (b : Bool),
  cls = .ref D ∧ d = some dd ∧ H dd = some (.xd fs) ∧ ExcC K D ∧ xs = [.ref z, c] ∧ (∀ u, RelV c u → u = cv) ∧ PySem.W.kitOne K (.ref D) cv = some b ∧ Q (.bl b) H
theorem call_isD {X : Cx} {z : Addr} {cls : Value} {d : Option Addr} {oz : Obj} {pn : List (Addr × Obj)} (hz : Zc cls d oz) (hf : ∃ fv, oz.data = .fields fv) : CallR (X.suite z ((z, oz) :: pn)) (.builtin "isinstance") (rIsD X.K z cls d) := by
  intro pins s σ H xs us Q I r h
  obtain ⟨D, dd, fs, c, cv, b, rfl, rfl, ed, T, rfl, hcv, e, q⟩ := h
  obtain ⟨u1, u2, rfl, r1, r2⟩ : ∃ u1 u2, us = [u1, u2] ∧ RelV (.ref z) u1 ∧ RelV c u2 := by
    cases r with
    | cons r1 r =>
      cases r with
      | cons r2 r =>
        cases r
        exact ⟨_, _, rfl, r1, r2⟩
  obtain rfl : u1 = Value.ref z := r1
  obtain rfl := hcv _ r2
  obtain ⟨at1, _⟩ := I.pin (z, oz) (List.mem_append_left _ List.mem_cons_self)
  obtain ⟨fv, hd⟩ := hf
  have hx : ObjOk X.prog X.w H s.heap dd (.xd fs) := I.hok dd _ ed
  obtain ⟨mA, hns, hr⟩ := hx
  obtain ⟨od, ho, _⟩ := lookIn_ns hns
  have J : PySem.W.InstAt s.heap z oz D (some od) := ⟨at1, hz.1, by unfold PySem.W.notCls; rw [hd] <;> rfl, by rw [hz.2]; exact ho⟩
  have hcl : (PySem.W.clsIn X.K D).isSome = true := by
    obtain ⟨cd, hc, _⟩ := PySem.W.any_some T.hd
    rw [hc]
    rfl
  exact PySem.W.kia_one (PySem.W.kitx_exc hcl T.hg T.hk T.hs T.ha T.hn T.ht T.hm) I.kIn J e (fun w => nomatch w) fun tk => ⟨.bl b, H, I.kept (t' := tk) fun _ _ w => w, rfl, q⟩
end L2

set_option linter.all false
set_option maxRecDepth 100000
namespace My
open PySem
/-- small letters, names -/
def letter (c : Nat) : Bool := decide (97 ≤ c) && decide (c ≤ 122)
def nameB (s : Str) : Bool := decide (1 ≤ s.cps.size) && decide (s.cps.size ≤ 8) && s.cps.toList.all letter
/-- the pigeonhole -/
theorem len_le {α : Type} [DecidableEq α] : ∀ {l m : List α}, l.Nodup → (∀ x, x ∈ l → x ∈ m) → l.length ≤ m.length
  | [], m, _, _ => Nat.zero_le _
  | a :: l, m, nd, h => by
    rw [List.nodup_cons] at nd
    have h2 : ∀ x, x ∈ l → x ∈ m.erase a := fun x hx => (List.mem_erase_of_ne (fun (e : x = a) => nd.1 (e ▸ hx))).mpr (h x (List.mem_cons_of_mem _ hx))
    have := len_le nd.2 h2
    have hm := h a List.mem_cons_self
    have := List.length_erase_of_mem hm
    have := List.length_pos_of_mem hm
    rw [List.length_cons]
    omega
def spares : List Str := ["q", "qa", "qb", "qc", "qd", "qe", "qf", "qg", "qh", "qi", "qj", "qk", "ql", "qm", "qn", "qo"]
theorem spares_nodup : spares.Nodup := by decide +kernel
theorem spares_name : ∀ s, s ∈ spares → nameB s = true := by decide +kernel
/-- how far the search for a spare name has come: i spares were looked at -/
def Seek (found : List Str) (i : Nat) (x : Str) : Prop := nameB x = true ∧ (x ∉ found ∨ ((∀ j, j + 1 < i → ∀ s, spares[j]? = some s → s ∈ found) ∧ (∀ s, 0 < i → spares[i - 1]? = some s → x = s)))
theorem Seek.first {found : List Str} {x : Str} (h : nameB x = true) : Seek found 0 x := ⟨h, .inr ⟨fun j h => absurd h (by omega), fun s h => absurd h (by omega)⟩⟩
theorem Seek.keep {found : List Str} {i : Nat} {x : Str} (h : Seek found i x) (n : x ∉ found) : Seek found (i + 1) x := ⟨h.1, .inl n⟩
theorem Seek.next {found : List Str} {i : Nat} {x s : Str} (h : Seek found i x) (n : x ∈ found) (hs : spares[i]? = some s) : Seek found (i + 1) s := by
  refine ⟨spares_name s (List.mem_of_getElem? hs), .inr ⟨fun j hj t ht => ?_, fun t _ ht => ?_⟩⟩
  · rcases h.2 with h2 | ⟨h2, h3⟩
    · exact absurd n h2
    · by_cases e : j + 1 < i
      · exact h2 j e t ht
      · obtain rfl : i = j + 1 := by omega
        have := h3 t (by omega) (by simpa using ht)
        exact this ▸ n
  · have : i + 1 - 1 = i := by omega
    rw [this, hs] at ht
    exact Option.some.inj ht
theorem Seek.done {found : List Str} {x : Str} (h : Seek found 16 x) (hl : found.length < 15) : nameB x = true ∧ x ∉ found := by
  refine ⟨h.1, ?_⟩
  rcases h.2 with h2 | ⟨h2, _⟩
  · exact h2
  · exfalso
    have nd : (spares.take 15).Nodup := by decide +kernel
    have hle : (spares.take 15).length ≤ found.length := len_le nd fun s hs => by
      obtain ⟨j, hj⟩ := List.getElem?_of_mem hs
      have hj2 : j < 15 := by
        have := (List.getElem?_eq_some_iff.mp hj).1
        have e : (spares.take 15).length = 15 := by decide +kernel
        omega
      rw [List.getElem?_take, if_pos hj2] at hj
      exact h2 j (by omega) s hj
    have e : (spares.take 15).length = 15 := by decide +kernel
    omega
/-- pairs of words: near, far, laden -/
abbrev Pr := Str × Str × Bool
structure PairsOk (ps : List Pr) : Prop where
  many : ps.length ≤ 6
  nm : ∀ p, p ∈ ps → nameB p.1 = true ∧ nameB p.2.1 = true
  nears : (ps.map (·.1)).Nodup
  fars : (ps.map (·.2.1)).Nodup
theorem PairsOk.take {ps : List Pr} (h : PairsOk ps) (n : Nat) : PairsOk (ps.take n) := by
  refine ⟨by have := h.many; rw [List.length_take]; omega, fun p hp => h.nm p (List.mem_of_mem_take hp), ?_, ?_⟩
  · rw [List.map_take]; exact h.nears.sublist (List.take_sublist _ _)
  · rw [List.map_take]; exact h.fars.sublist (List.take_sublist _ _)
theorem rot_nodup {α : Type} {l : List α} (h : l.Nodup) : (l.drop 1 ++ l.take 1).Nodup := by
  have e : (l.drop 1 ++ l.take 1).Perm (l.take 1 ++ l.drop 1) := List.perm_append_comm
  rw [List.take_append_drop] at e
  exact e.nodup_iff.mpr h
theorem rot_len {α : Type} (l : List α) : (l.drop 1 ++ l.take 1).length = l.length := by
  rw [List.length_append, List.length_drop, List.length_take]
  omega
end My

set_option linter.all false
set_option maxRecDepth 100000
namespace My
open PySem
/-- a helper's pact -/
structure Hr where
  name : Str
  side : Int
  takes : List Str
  gives : Bool
  throws : List Str
deriving DecidableEq
def wd (i : Int) (p : Pr) : Str := if i = 0 then p.1 else p.2.1
def sideB (i : Int) : Bool := decide (i = 0 ∨ i = 1)
def takesB (ts : List Str) : Bool := decide (ts.length ≤ 3) && ts.all fun t => decide (t ∈ (["lent", "given"] : List Str))
def throwsB (ts : List Str) : Bool := decide (ts.length ≤ 4) && ts.all fun t => decide (ts.count t = 1)
def pactB (x : Hr) : Bool := nameB x.name && sideB x.side && takesB x.takes && throwsB x.throws
def fitsHB (x : Hr) (ps : List Pr) (hs : List Hr) : Bool :=
  !(decide ((hs.filter fun z => decide (z.side = x.side)).length = 4) || decide (x.name ∈ hs.map (·.name))) && x.throws.all fun t => decide (t ∈ ps.map (wd x.side))
structure CrewOk (ps : List Pr) (hs : List Hr) : Prop where
  one : ∀ x, x ∈ hs → pactB x = true ∧ ∀ t, t ∈ x.throws → t ∈ ps.map (wd x.side)
  names : (hs.map (·.name)).Nodup
  few : ∀ s : Int, (hs.filter fun z => decide (z.side = s)).length ≤ 4
theorem throws_count {ts : List Str} (nd : ts.Nodup) : ∀ t, t ∈ ts → ts.count t = 1 := fun t h => by
  rw [List.nodup_iff_count] at nd
  have h1 := nd t
  have h2 := List.count_pos_iff.mpr h
  omega
theorem throwsB_nodup {ts : List Str} (h : throwsB ts = true) : ts.length ≤ 4 ∧ ts.Nodup := by
  unfold throwsB at h
  simp only [Bool.and_eq_true, decide_eq_true_eq, List.all_eq_true] at h
  refine ⟨h.1, List.nodup_iff_count.mpr fun t => ?_⟩
  by_cases hm : t ∈ ts
  · have := h.2 t hm
    omega
  · rw [List.count_eq_zero.mpr hm]
    omega
theorem throwsB_of {ts : List Str} (hl : ts.length ≤ 4) (nd : ts.Nodup) : throwsB ts = true := by
  unfold throwsB
  simp only [Bool.and_eq_true, decide_eq_true_eq, List.all_eq_true]
  exact ⟨hl, fun t ht => throws_count nd t ht⟩
theorem nin_take {α β : Type} [DecidableEq β] {f : α → β} {xs : List α} {i : Nat} {q : α} (nd : (xs.map f).Nodup) (h : xs[i]? = some q) : f q ∉ (xs.take i).map f := by
  intro hc
  rw [← List.take_append_drop i (xs.map f), List.nodup_append] at nd
  have h2 : f q ∈ (xs.map f).drop i := by
    have : (xs.map f)[i]? = some (f q) := by rw [List.getElem?_map, h]; rfl
    exact List.mem_of_getElem? (i := 0) (by rw [List.getElem?_drop]; simpa using this)
  rw [List.map_take] at hc
  exact nd.2.2 _ hc _ h2 rfl
theorem CrewOk.next {ps : List Pr} {hs : List Hr} (ok : CrewOk ps hs) {i : Nat} {x : Hr} (h : hs[i]? = some x) : pactB x = true ∧ fitsHB x ps (hs.take i) = true := by
  have hm := List.mem_of_getElem? h
  refine ⟨(ok.one x hm).1, ?_⟩
  unfold fitsHB
  have h1 : ((hs.take i).filter fun z => decide (z.side = x.side)).length < 4 := by
    have hf := ok.few x.side
    have e : hs = hs.take i ++ (x :: hs.drop (i + 1)) := by
      have hl := (List.getElem?_eq_some_iff.mp h)
      obtain ⟨hl, e⟩ := hl
      rw [← e, List.getElem_cons_drop hl, List.take_append_drop]
    rw [e, List.filter_append, List.length_append, List.filter_cons, if_pos (by simp), List.length_cons] at hf
    omega
  have h2 : x.throws.all (fun t => decide (t ∈ ps.map (wd x.side))) = true := List.all_eq_true.mpr fun t ht => decide_eq_true ((ok.one x hm).2 t ht)
  rw [h2, decide_eq_false (by omega), decide_eq_false (nin_take ok.names h)]
  rfl
end My

set_option linter.all false
set_option maxRecDepth 100000
set_option maxHeartbeats 4000000
/-! a method called with values by place and by name -/
namespace L2
open PySem PySem.Spec PyProof.Rows
structure KwN (K : PySem.W.Frag) (fd : FuncData) (ps : List Str) (n : Nat) (ks : List Str) : Prop where
  to : ∀ (s : Shared) (us ws : List Value), K.In s.heap → us.length = n → ws.length = ks.length → BindsTo s fd ⟨us, ks.zip ws⟩ (ps.zip (us ++ ws))
  len : ps.length = n + ks.length
theorem kwn_mk {K : PySem.W.Frag} {x qual : Str} {st : Stmt} {f : Addr} {fd : FuncData} {ps ks : List Str} {n : Nat} (F : Fun K x qual st f fd) (hl : ps.length = n + ks.length)
    (h : ∀ (kV doc pm : Value) (an : Option Addr) (cdv ct : Value) (us ws : List Value), us.length = n → ws.length = ks.length → bindArgs (PySem.W.fnOf x qual (defArgs st) (defBody st) (defScope st) .none kV doc pm an cdv ct) ⟨us, ks.zip ws⟩ = pure (ps.zip (us ++ ws))) : KwN K fd ps n ks := by
  obtain ⟨_, _, kV, doc, pm, an, cdv, ct, _, rfl, _, _⟩ := F.ex
  exact ⟨fun s us ws _ hu hw => .of_eq (h kV doc pm an cdv ct us ws hu hw), hl⟩
section
variable {X : Cx} {CX : CXT} {k n : Nat} {f C : Addr} {fd : FuncData} {ps ks : List Str} {sp : Sp} {m : Str} {pos apos : Pos} {o e : Expr} {es : List Expr} {kws : List Keyword} {ta : TE} {t tk : TA}
theorem run_fnN2 {E : XK} {pins : List (Addr × Obj)} {σ : St} {H : Hp} {s : Shared} {Q : VK} {us ws : List Value} {vs zs : List V} (F : FnOk X.prog X.w X.K X.mg X.base CX k f fd ps sp) (hr : Room k X.A) (hb : KwN X.K fd ps n ks) (hx : PassesAt CX X σ E)
    (I : Inv X pins σ H s) (r : Vals vs us) (rz : Vals zs ws) (hn : vs.length = n) (h : sp (vs ++ zs) H Q E) : wpAny (model X.prog X.w) X.A (call (.ref f) us (ks.zip ws)) (EP X pins σ Q) X.xe s := by
  have r2 := r.append rz
  have hl : (vs ++ zs).length = ps.length := F.len _ _ _ _ h
  have l1 : us.length = n := by rw [← r.length]; exact hn
  have l2 : ws.length = ks.length := by
    have := hb.len
    rw [← rz.length]
    rw [List.length_append] at hl
    omega
  refine wpAny_call (codeAny_mono (F.run X.A X.stack s H ⟨us, ks.zip ws⟩ (us ++ ws) (vs ++ zs) Q E hr I.env0 (hb.to s us ws I.kIn l1 l2) r2 h) fun r s' hq => ?_)
  cases r with
  | error e => exact hx pins H s e s' I hq
  | ok fl =>
    cases fl with
    | ret u => exact I.after hq
    | next => exact False.elim hq
    | brk => exact False.elim hq
    | cont => exact False.elim hq
def tMethNAt (C : Addr) (m : Str) (n : Nat) (sp : Sp) (E : St → XK) (ta : TE) (t tk : TA) : TE := fun σ H Q => ta σ H fun x H1 => ∃ a dx fs, x = .ref a ∧ H1 a = some (.ins C dx fs) ∧ fs.lookup m = none ∧
  t σ H1 fun vs H2 => tk σ H2 fun zs H3 => vs.length + 1 = n ∧ sp (x :: (vs ++ zs)) H3 Q (E σ)
theorem pe_methNAt {E : St → XK} {pl : Sem Bool} (ho : PE X o ta) (c : Cls X.K C) (hm : Meth X.K C m f) (F : FnOk X.prog X.w X.K X.mg X.base CX k f fd ps sp) (hr : Room k X.A) (hb : KwN X.K fd ps n ks) (hx : ∀ σ, PassesAt CX X σ (E σ)) (ha : PA X (e :: es) t) (hkw : PK X kws tk)
    (hall : (backToKw pos (keywordEach kws X.env)).all (·.1.isSome) = true := by rfl) (hks : (backToKw pos (keywordEach kws X.env)).filterMap (·.1) = ks := by rfl)
    (h1 : starEach (e :: es) X.env = (false, eval e X.env) :: starEach es X.env := by rfl)
    (hpl : ((backTo pos (starEach (e :: es) X.env)).any (·.1) || (backToKw pos (keywordEach kws X.env)).any (·.1.isNone)) = false := by rfl)
    (h3 : eval (.Call (.Attribute o m apos) (e :: es) kws pos) X.env = (do
      let v0 ← eval o X.env
      standAt apos.atName
      let (g, first) ← holding [v0] (getMethod v0 m pl)
      callWith pos g first (backTo pos (starEach (e :: es) X.env)) (backToKw pos (keywordEach kws X.env))) := by rfl) :
    PE X (.Call (.Attribute o m apos) (e :: es) kws pos) (tMethNAt C m n sp E ta t tk) := by
  constructor
  intro pins s σ H Q I h
  refine PySem.W.methodCall_KW (pl := pl) (thn (ho.run pins s σ H _ I h) fun u s1 ⟨x, H1, I1, rx, a, dx, fs, ex, ea, l, q⟩ => ?_) h3
  subst ex
  obtain rfl : u = Value.ref a := rx
  refine getmeth_ok I1 ea c hm l (PySem.W.callWith_KW (h₀ := X.base) (first := [.ref a]) I.ok.mod.kin hm.kp hall (thn (ha.run pos pins s1 σ H1 _ I1 q) fun us s2 ⟨vs, H2, I2, r, q2⟩ => ?_) hpl h1)
  refine thn (hkw.run pos pins s2 σ H2 _ I2 q2) fun ws s3 ⟨zs, H3, I3, rz, hn, q3⟩ => ⟨I3.kIn, ?_⟩
  rw [hks]
  exact run_fnN2 (vs := .ref a :: vs) (us := .ref a :: us) F hr hb (hx σ) I3 (.cons rfl r) rz hn q3
def tMethN (C : Addr) (m : Str) (n : Nat) (sp : Sp) (E : XK) (ta : TE) (t tk : TA) : TE := tMethNAt C m n sp (fun _ => E) ta t tk
theorem pe_methN {E : XK} {pl : Sem Bool} (ho : PE X o ta) (c : Cls X.K C) (hm : Meth X.K C m f) (F : FnOk X.prog X.w X.K X.mg X.base CX k f fd ps sp) (hr : Room k X.A) (hb : KwN X.K fd ps n ks) (hx : Passes CX X E) (ha : PA X (e :: es) t) (hkw : PK X kws tk)
    (hall : (backToKw pos (keywordEach kws X.env)).all (·.1.isSome) = true := by rfl) (hks : (backToKw pos (keywordEach kws X.env)).filterMap (·.1) = ks := by rfl)
    (h1 : starEach (e :: es) X.env = (false, eval e X.env) :: starEach es X.env := by rfl)
    (hpl : ((backTo pos (starEach (e :: es) X.env)).any (·.1) || (backToKw pos (keywordEach kws X.env)).any (·.1.isNone)) = false := by rfl)
    (h3 : eval (.Call (.Attribute o m apos) (e :: es) kws pos) X.env = (do
      let v0 ← eval o X.env
      standAt apos.atName
      let (g, first) ← holding [v0] (getMethod v0 m pl)
      callWith pos g first (backTo pos (starEach (e :: es) X.env)) (backToKw pos (keywordEach kws X.env))) := by rfl) :
    PE X (.Call (.Attribute o m apos) (e :: es) kws pos) (tMethN C m n sp E ta t tk) :=
  pe_methNAt (pl := pl) ho c hm F hr hb (fun σ pins H s e s' I q => hx pins σ H s e s' I q) ha hkw hall hks h1 hpl h3
end
end L2

set_option linter.all false
set_option maxRecDepth 100000
set_option maxHeartbeats 4000000
/-! tuple.count of texts -/
namespace L2
open PySem PySem.Spec PyProof.Rows
theorem countP_eqU {x : V} : ∀ {xs : List V} {us : List Value}, Vals xs us → xs.all flatV = true → us.countP (eqU x) = xs.countP fun y => eqV y x
  | _, _, .nil, _ => rfl
  | y :: xs, u :: us, .cons r t, f => by
    rw [List.all_cons, Bool.and_eq_true] at f
    rw [List.countP_cons, List.countP_cons, eqU_of r f.1, countP_eqU t f.2]
theorem countP_str (z : Str) : ∀ ys : List Str, ((ys.map V.str).countP fun y => eqV y (.str z)) = ys.count z
  | [] => rfl
  | y :: ys => by
    rw [List.map_cons, List.countP_cons, List.count_cons, countP_str z ys]
    rfl
theorem flats (l : List Str) : (l.map V.str).all flatV = true := List.all_eq_true.mpr fun v hv => by
  obtain ⟨s, _, rfl⟩ := List.mem_map.mp hv
  rfl
def rCntS (K : PySem.W.Frag) : V → List V → Hp → VK → Prop := fun x xs H Q => ∃ (p : Addr) (ys : List Str) (z : Str), x = .ref p ∧ xs = [.str z] ∧ SqT K H p (ys.map V.str) ∧ Q (.int (ys.count z : Nat)) H
theorem mt_tcount {X : Cx} : MtR X "tuple.count" (rCntS X.K) := by
  intro pins s σ H x xs v us Q I rx rxs h
  obtain ⟨p, ys, z, rfl, rfl, hq, q⟩ := h
  cases rx
  obtain ⟨u, rfl, ru⟩ := rxs.one
  obtain ⟨t, rfl⟩ := ru
  obtain ⟨its, r, pl, hz⟩ := I.tuple hq
  obtain ⟨⟨cls, dd, dt, sl⟩, ho, hc, n, hd⟩ := pl
  simp only at hc hd
  subst hc
  subst hd
  refine call_meets PySem.F.slot_tuple_count ⟨_, ho, rfl⟩ PySem.F.entry_tuple_count (PySem.F.args_tuple_count_2 _ _) (SeqAt.tuple_countAt p its.toArray n dd sl (.str z t) (eqU (.str z)))
    ⟨ho, fun w hw => mem_eqAt (x := .str z) ⟨t, rfl⟩ rfl r (flats ys) w (by simpa using hw), .int (ys.count z : Nat), H, I.tok _, ⟨s.toks, ?_⟩, q⟩
  show Value.int ((its.toArray.toList.countP (eqU (.str z)) : Nat) : Int) s.toks = Value.int ((ys.count z : Nat) : Int) s.toks
  have e : its.toArray.toList.countP (eqU (.str z)) = ys.count z := by
    rw [← countP_str]
    simpa using countP_eqU r (flats ys)
  rw [e]
end L2

set_option linter.all false
set_option maxRecDepth 100000
set_option maxHeartbeats 4000000
/-! tuples of which it is known that they have no dict of their own: held as locked objects -/
namespace L2
open PySem PySem.Spec PyProof.Rows
def TupF (H : Hp) (a : Addr) (xs : List V) : Prop := ∃ o : Obj, o.dict = none ∧ H a = some (.frz o (.tup xs))
theorem TupF.seq {K : PySem.W.Frag} {H : Hp} {a : Addr} {xs : List V} (h : TupF H a xs) : SqT K H a xs := let ⟨o, _, e⟩ := h; .inl (.inr ⟨o, e⟩)
section
variable {X : Cx} {es : List Expr} {e o : Expr} {t : TA} {to : TE} {pos apos cpos : Pos} {T id : String} {name : Str} {r : V → List V → Hp → VK → Prop}
/-- (a, ..), a new tuple, locked -/
def tTupF (t : TA) : TE := fun σ H Q => t σ H fun xs H1 => xs.length ≤ sizeLine ∧ ∀ (p : Addr) (ob : Obj), H1 p = none → ob.dict = none → Q (.ref p) (upd H1 p (.frz ob (.tup xs)))
theorem pe_tupF {x1} (h : PA X es t) : PE X (.Tuple es x1 pos) (tTupF t) := by
  constructor
  intro pins s σ H Q I hq
  refine wpAny_Tuple_spliced (thn (h.run pos pins s σ H _ I hq) fun us s1 ⟨xs, H1, I1, r, z, q⟩ => ⟨by rw [← r.length]; exact z, ?_⟩)
  refine ⟨.ref s1.heap.objs.size, _, I1.laid (t' := s1.toks) (o := .frz { cls := .type "tuple", data := .seq us.toArray } (.tup xs)) (fun b u e => Heap.get?_push_of_some _ e) (Nat.le_refl _) ?_, rfl, q _ _ (I1.hok.fresh (Nat.le_refl _)) rfl⟩
  exact ⟨Heap.get?_push_size _ rfl, z, us, r, ⟨_, Heap.get?_push_size _ rfl, rfl, _, rfl⟩⟩
/-- tuple(xs), xs a list: a new tuple, locked -/
def rTupF (K : PySem.W.Frag) : List V → Hp → VK → Prop := fun vs H Q => ∃ (p : Addr) (ys : List V), vs = [.ref p] ∧ SqL K H p ys ∧ ∀ (l : Addr) (ob : Obj), H l = none → ob.dict = none → Q (.ref l) (upd H l (.frz ob (.tup ys)))
theorem call_tupleF : CallR X (.type "tuple") (rTupF X.K) := by
  intro pins s σ H vs us Q I r h
  obtain ⟨p, ys, rfl, hq, q⟩ := h
  obtain ⟨u, rfl, rx⟩ := r.one
  cases rx
  obtain ⟨its, r', pl, hz⟩ := I.list hq
  have hn : its.length = ys.length := r'.length.symm
  refine call_tuple_list pl.isList (fun h' kp => ?_) (by rw [List.size_toArray, hn]; exact hz)
  have J := I.kept (t' := s.toks) kp
  have J2 : Inv X pins σ (upd H h'.objs.size (.frz { cls := .type "tuple", data := .seq its.toArray } (.tup ys))) { s with heap := h'.push { cls := .type "tuple", data := .seq its.toArray } } :=
    J.laid (t' := s.toks) (fun b u e => Heap.get?_push_of_some _ e) (Nat.le_refl _) ⟨Heap.get?_push_size _ rfl, hz, its, r', IsTup.new _ _⟩
  exact ⟨.ref h'.objs.size, _, J2, rfl, q _ _ (J.hok.fresh (Nat.le_refl _)) rfl⟩
/-- t.m(x, ..), t a locked tuple -/
def tBMF (r : V → List V → Hp → VK → Prop) (to : TE) (t : TA) : TE := fun σ H Q => to σ H fun x H1 => (∃ p xs, x = .ref p ∧ TupF H1 p xs) ∧ t σ H1 fun vs H2 => r x vs H2 Q
theorem pe_bmF (pa : PlainAttrs "tuple") (slot : Slot "tuple" name id) (hty : typeOf (.builtin id) = pure (.type "method_descriptor")) (hm : MtR X id r) (ho : PE X o to) (ha : PA X (e :: es) t)
    (b1 : attributeBase o name X.env (eval o X.env) = eval o X.env := by rfl)
    (b2 : ((backTo cpos (starEach (e :: es) X.env)).all (fun x => !x.1) && (backToKw cpos (keywordEach [] X.env)).all (fun x => x.1.isSome)
      && decide ((e :: es).length + ([] : List Keyword).length + (if ([] : List Keyword).isEmpty then 0 else 1) < 30)) = true := by rfl)
    (b3 : (apos.endLine == cpos.line) = true := by rfl) (b4 : starEach (e :: es) X.env = (false, eval e X.env) :: starEach es X.env := by rfl) (b5 : (backTo cpos (starEach es X.env)).any (·.1) = false := by rfl) :
    PE X (.Call (.Attribute o name apos) (e :: es) [] cpos) (tBMF r to t) := by
  constructor
  intro pins s σ H Q I h
  refine wpAny_Call_method_late b1 b2 b3 rfl (thn (ho.run pins s σ H _ I h) fun v s1 ⟨x, H1, I1, r1, ⟨p, xs, ex, ob, hd, hp⟩, q1⟩ => ?_)
  subst ex
  cases r1
  obtain ⟨g1, _, its, rv, ot, g2, hc, _⟩ := I1.hok p _ hp
  have eo : ob = ot := Option.some.inj (g1.symm.trans g2)
  refine ⟨"tuple", id, pa, slot, hty, ⟨ob, g1, eo ▸ hc⟩, fun b eb => ?_, ?_⟩
  · cases eb
    exact ⟨ob, g1, hd⟩
  have hA := ha.run cpos pins s1 σ H1 _ I1 q1
  rw [b4] at hA ⊢
  refine Calls.callWith_builtin (by show (false || (backTo cpos (starEach es X.env)).any (·.1)) = false; rw [b5] <;> rfl) (Calls.evalArgs_plain ?_)
  exact thn hA fun us s2 ⟨vs, H2, I2, r2, q2⟩ => hm pins s2 σ H2 (.ref p) vs _ us Q I2 rfl r2 q2
end
end L2
namespace L2
open PySem PySem.Spec PyProof.Rows
section
variable {X : Cx}
/-- t + u, both locked: a locked one -/
def rCatF : R2 := fun x y H Q => ∃ a b xs ys, x = .ref a ∧ y = .ref b ∧ TupF H a xs ∧ TupF H b ys ∧ xs.length + ys.length ≤ sizeLine ∧ ∀ (p : Addr) (H' : Hp), Same H H' → TupF H' p (xs ++ ys) → Q (.ref p) H'
theorem op_catF : OpR X (binaryOp .Add) rCatF := by
  intro pins s σ H x y v u Q I rx ry h
  obtain ⟨a, b, xs, ys, rfl, rfl, ha, hb, hz, q⟩ := h
  cases rx
  cases ry
  obtain ⟨its, r1, p1, _⟩ := I.tuple ha.seq
  obtain ⟨its2, r2, p2, _⟩ := I.tuple hb.seq
  by_cases hx : xs = []
  · subst hx
    cases r1
    exact cat_tup0 p1 p2 ⟨.ref b, H, I, rfl, q b H (Same.refl H) hb⟩
  · refine HT.cat_tup p1 p2 (fun z => hx (r1.nil_iff.mp z)) (fun z => ⟨.ref a, H, I, rfl, q a H (Same.refl H) ?_⟩) (fun z => ?_) (by rw [← r1.length, ← r2.length]; exact hz)
    · rw [r2.nil_iff.mp z, List.append_nil]
      exact ha
    · have hn := I.hok.fresh (H := H) (Nat.le_refl s.heap.objs.size)
      refine ⟨.ref s.heap.objs.size, _, I.laid (t' := s.toks) (o := .frz { cls := .type "tuple", data := .seq (its ++ its2).toArray } (.tup (xs ++ ys))) (fun b ob q => Heap.get?_push_of_some _ q) (Nat.le_refl _) ?_, rfl, q _ _ ((Same.refl H).upd hn) ⟨_, rfl, upd_same⟩⟩
      exact ⟨Heap.get?_push_size _ rfl, by rw [List.length_append]; exact hz, _, r1.append r2, IsTup.new _ _⟩
/-- t[lo:hi], t locked: a locked one -/
def rSlF : V → Option Int → Option Int → Hp → VK → Prop := fun x lo hi H Q => ∃ a xs, x = .ref a ∧ TupF H a xs ∧ ∀ (p : Addr) (H' : Hp), Same H H' → TupF H' p (cutV xs lo hi) → Q (.ref p) H'
theorem sl_tupF : SlR X rSlF := by
  intro pins s σ H x v vl vu lo hi sl Q I rx hs pl pu h
  obtain ⟨a, xs, rfl, hx, q⟩ := h
  cases rx
  obtain ⟨its, r, ht, hz⟩ := I.tuple hx.seq
  have hlen : its.toArray.size = xs.length := by rw [List.size_toArray]; exact r.length.symm
  by_cases hw : HT.sIx xs.length 0 lo = 0 ∧ HT.sIx xs.length xs.length hi = xs.length
  · refine ⟨"tuple", _, PyProof.Rows.slot_tuple_getitem.lookup, ht.typeIs, ?_⟩
    refine getItem_tuple_whole ht hs pl pu (by rw [hlen]; exact hw) ⟨.ref a, H, I, rfl, q a H (Same.refl H) ?_⟩
    have e : cutV xs lo hi = xs := by
      unfold cutV
      rw [hw.1, hw.2, List.drop_zero, Nat.sub_zero, List.take_length]
    rw [e]
    exact hx
  · refine ⟨"tuple", _, PyProof.Rows.slot_tuple_getitem.lookup, ht.typeIs, ?_⟩
    refine HT.getItem_tuple_cut ht hs pl pu (by rw [hlen]; exact hw) ?_ (by rw [hlen]; exact hz)
    rw [hlen]
    have hn := I.hok.fresh (H := H) (Nat.le_refl s.heap.objs.size)
    refine ⟨.ref s.heap.objs.size, _, I.laid (t' := s.toks) (o := .frz { cls := .type "tuple", data := .seq ((its.drop (HT.sIx xs.length 0 lo)).take (HT.sIx xs.length xs.length hi - HT.sIx xs.length 0 lo)).toArray } (.tup (cutV xs lo hi))) (fun b ob q => Heap.get?_push_of_some _ q) (Nat.le_refl _) ?_, rfl, q _ _ ((Same.refl H).upd hn) ⟨_, rfl, upd_same⟩⟩
    exact ⟨Heap.get?_push_size _ rfl, Nat.le_trans (cutV_length xs lo hi) hz, _, (r.drop (HT.sIx xs.length 0 lo)).take (HT.sIx xs.length xs.length hi - HT.sIx xs.length 0 lo), IsTup.new _ _⟩
end
end L2

set_option linter.all false
set_option maxRecDepth 100000
set_option maxHeartbeats 4000000
/-! == and != by an own __eq__, whatever it tells -/
namespace OC
open PySem PySem.Spec PyProof.Rows PySem.SeqAt
variable {prog : Program} {w : World} {A : Around} {E : Value → Shared → Prop} {s : Shared} {K : PySem.W.Frag} {x C f : Addr} {ox : Obj} {od : Option Obj} {b tb : Value}
theorem bound_ne {M : Model} {Ar : Around} {args : List Value} {Q : Option Value → Shared → Prop} (X : K.In s.heap) (I : PySem.W.InstAt s.heap x ox C od) (hs : PySem.W.findIn K (.ref C) "__ne__" = some (some (.builtin "object.__ne__")))
    (h : wpAny M Ar (call (.builtin "object.__ne__") (.ref x :: args)) (fun v => Q (some v)) E s) : wpAny M Ar (callSpecialIfBound? (.ref x) "__ne__" args) Q E s := by
  simp only [callSpecialIfBound?, bindSpecialIfBound?]
  refine wpAny_holding (wpAny_bind (wpAny_bind (wpAny_bind (I.type.here ((PySem.W.looks_findIn X hs).here ?_)))))
  refine wpAny_bind (wpAny_askSetting (wpAny_ite ?_))
  have fin : wpAny M Ar (call (.builtin "object.__ne__") ([.ref x] ++ args) >>= fun v => pure (some v)) Q E s := wpAny_bind (wpAny_mono h (fun v s' q => wpAny_pure q) fun _ _ q => q)
  split
  · exact wpAny_bind (wpAny_of_eq (F.cmp_object.ne.bind _) (wpAny_pure (by exact fin)))
  · exact wpAny_tryCatch (wpAny_bind (wpAny_of_eq (F.cmp_object.ne.bind _) (wpAny_pure (by exact fin))))
theorem entry_ne {Q : PySem.Fin → Shared → Prop} (hu : A.units < cLine) (X : K.In s.heap) (I : PySem.W.InstAt s.heap x ox C od) (he : PySem.W.findIn K (.ref C) "__eq__" = some (some (.ref f))) (hf : PySem.W.isFn K (.ref f) = true)
    (h : wpAny (model prog w) A (call (.ref f) [.ref x, b]) (fun v s' => ∃ c, v = .bool c ∧ Q (.done (.ret (.bool (!c)))) s') E s) :
    wpAny (model prog w) A (Builtin.«object.__ne__» ⟨[.ref x, b], []⟩) Q E s := by
  unfold Builtin.«object.__ne__»
  repeat (first
    | with_reducible refine wpAny_cRoomFor hu ?_
    | (refine wpAny_bind (m := callSpecialIfBound? (.ref x) (Str.ofString "__eq__") [b])
        (PySem.W.ifBound_K X I he hf (wpAny_mono h (fun r s' hr => by
          obtain ⟨c, rfl, hq⟩ := hr
          repeat (first | exact hq | exact wpAny_pure hq | exact wpAny_truthy_bool hq | (refine wpAny_bind (m := truthy (.bool _)) (wpAny_truthy_bool ?_)) | wp_step)) fun _ _ e => e)))
    | wp_step)
theorem call_ne {Q : Value → Shared → Prop} (hu : A.in1.units < cLine) (X : K.In s.heap) (I : PySem.W.InstAt s.heap x ox C od) (hm : PySem.W.mroIn K C (.type "object") = some true) (he : PySem.W.findIn K (.ref C) "__eq__" = some (some (.ref f))) (hf : PySem.W.isFn K (.ref f) = true)
    (h : wpAny (model prog w) A.in1 (call (.ref f) [.ref x, b]) (fun v s' => ∃ c, v = .bool c ∧ Q (.bool (!c)) s') E s) : wpAny (model prog w) A (call (.builtin "object.__ne__") [.ref x, b]) Q E s :=
  wpAny_call (codeAny_call_builtin F.cmp_object.ne.plain F.cmpEntry_ne (PySem.W.check_slot F.cmpKind_ne F.cmpSplit_ne (I.type.andThen (PySem.W.looks_mroIn X hm)) (F.cmpArgs_ne _ _) (entry_ne hu X I he hf h)))
theorem rich_ne {Q : Value → Shared → Prop} (hu : A.units + 1 < cLine) (X : K.In s.heap) (I : PySem.W.InstAt s.heap x ox C od) (hb : PySem.W.Looks (model prog w) s.heap (typeOf b) tb) (hn : PySem.W.notFirst K C tb = true) (hm : PySem.W.mroIn K C (.type "object") = some true)
    (hne : PySem.W.findIn K (.ref C) "__ne__" = some (some (.builtin "object.__ne__"))) (he : PySem.W.findIn K (.ref C) "__eq__" = some (some (.ref f))) (hf : PySem.W.isFn K (.ref f) = true)
    (h : wpAny (model prog w) A.in1 (call (.ref f) [.ref x, b]) (fun v s' => ∃ c, v = .bool c ∧ Q (.bool (!c)) s') E s) : wpAny (model prog w) A (richCompare .NotEq (.ref x) b) Q E s := by
  have one : wpAny (model prog w) A (tryCompare (.ref x) (cmpInfo .NotEq).2.1 b) (fun r s' => ∃ v, r = some v ∧ Q v s') E s := by
    unfold tryCompare
    refine wpAny_bind (bound_ne X I hne (call_ne (by show A.units + 1 < cLine; exact hu) X I hm he hf (wpAny_mono h (fun v s' hv => ?_) fun _ _ e => e)))
    obtain ⟨c, rfl, q⟩ := hv
    exact ⟨c, rfl, wpAny_pure ⟨_, rfl, q⟩⟩
  unfold richCompare
  simp only [oneThing_ref]
  refine wpAny_holding (wpAny_bind (wpAny_cRoomFor (Nat.lt_of_succ_lt hu) ?_))
  refine wpAny_bind (I.type.here (wpAny_bind (hb.here ?_)))
  split
  · rename_i q
    have e : PySem.W.subIn K tb (.ref C) = some false := by
      rcases Bool.or_eq_true_iff.mp hn with e | e
      · rw [beq_iff_eq.mp e] at q; simp at q
      · exact beq_iff_eq.mp e
    refine wpAny_bind ((PySem.W.looks_subIn X e).here ?_)
    simp only [Bool.false_eq_true, if_false]
    refine wpAny_bind (wpAny_mono one (fun r s' z => ?_) fun _ _ e => e)
    obtain ⟨v, rfl, hq⟩ := z
    exact wpAny_pure hq
  · refine wpAny_bind (m := pure false) (wpAny_pure ?_)
    simp only [Bool.false_eq_true, if_false]
    refine wpAny_bind (wpAny_mono one (fun r s' z => ?_) fun _ _ e => e)
    obtain ⟨v, rfl, hq⟩ := z
    exact wpAny_pure hq
end OC
namespace L2
open PySem PySem.Spec PyProof.Rows
def rEqOwn (C : Addr) (sp : Sp) (E : XK) : R2 := fun x y H Q => ∃ a b dx dy fs gs, x = .ref a ∧ y = .ref b ∧ H a = some (.ins C dx fs) ∧ H b = some (.ins C dy gs) ∧ sp [.ref a, .ref b] H (fun v H' => ∃ c, v = .bl c ∧ Q (.bl c) H') E
def rNeOwn (C : Addr) (sp : Sp) (E : XK) : R2 := fun x y H Q => ∃ a b dx dy fs gs, x = .ref a ∧ y = .ref b ∧ H a = some (.ins C dx fs) ∧ H b = some (.ins C dy gs) ∧ sp [.ref a, .ref b] H (fun v H' => ∃ c, v = .bl c ∧ Q (.bl (!c)) H') E
section
variable {X : Cx} {CX : CXT} {k : Nat} {f C : Addr} {fd : FuncData} {ps : List Str} {sp : Sp} {E : XK}
/-- what the class must have -/
structure CmpC (K : PySem.W.Frag) (C f : Addr) : Prop where
  eq : PySem.W.findIn K (.ref C) "__eq__" = some (some (.ref f))
  ne : PySem.W.findIn K (.ref C) "__ne__" = some (some (.builtin "object.__ne__"))
  fn : PySem.W.isFn K (.ref f) = true
  ob : PySem.W.mroIn K C (.type "object") = some true
theorem op_eqOwn (T : CmpC X.K C f) (F : FnOk X.prog X.w X.K X.mg X.base CX k f fd ps sp) (hr : Room k X.A) (hb : Binds X.K fd ps []) (hx : Passes CX X E) : OpR X (compareOp .Eq) (rEqOwn C sp E) := by
  intro pins s σ H x y v u Q I rx ry h
  obtain ⟨a, b, dx, dy, fs, gs, rfl, rfl, ha, hbb, q⟩ := h
  cases rx
  cases ry
  obtain ⟨mA, J, _⟩ := ins_get I.hok ha
  obtain ⟨mB, J', _⟩ := ins_get I.hok hbb
  obtain ⟨od, J, _⟩ := J.look
  obtain ⟨od', J', _⟩ := J'.look
  obtain ⟨m, hF⟩ := I.fr
  refine PySem.W.cmp_K (op := .Eq) (tb := .ref C) hr.units0 hF I.ok.mod.kin J J'.type (by simp [PySem.W.notFirst]) T.eq T.fn ?_
  have hl := F.len _ _ _ _ q
  have r2 : Vals [V.ref a, V.ref b] [Value.ref a, Value.ref b] := .cons rfl (.cons rfl .nil)
  refine wpAny_call (codeAny_mono (F.run X.A X.stack s H ⟨[.ref a, .ref b], []⟩ [.ref a, .ref b] [.ref a, .ref b] _ E hr I.env0 (by
    have := hb s [.ref a, .ref b] I.kIn (by simpa using hl)
    simpa using this) r2 q) fun r s' hq => ?_)
  cases r with
  | error e => exact hx pins σ H s e s' I hq
  | ok fl =>
    cases fl with
    | ret w =>
      obtain ⟨z, H', I', rz, c, ez, qz⟩ := I.after hq
      subst ez
      cases rz
      exact ⟨.bl c, H', I', rfl, qz⟩
    | next => exact False.elim hq
    | brk => exact False.elim hq
    | cont => exact False.elim hq
theorem op_neOwn (T : CmpC X.K C f) (F : FnOk X.prog X.w X.K X.mg X.base CX k f fd ps sp) (hr : Room (k + 1) X.A) (hb : Binds X.K fd ps []) (hx : Passes CX X E) : OpR X (compareOp .NotEq) (rNeOwn C sp E) := by
  intro pins s σ H x y v u Q I rx ry h
  obtain ⟨a, b, dx, dy, fs, gs, rfl, rfl, ha, hbb, q⟩ := h
  cases rx
  cases ry
  obtain ⟨mA, J, _⟩ := ins_get I.hok ha
  obtain ⟨mB, J', _⟩ := ins_get I.hok hbb
  obtain ⟨od, J, _⟩ := J.look
  obtain ⟨od', J', _⟩ := J'.look
  refine OC.rich_ne (tb := .ref C) (by have := hr.units0; have := hr.units; omega) I.kIn J J'.type (by simp [PySem.W.notFirst]) T.ob T.ne T.eq T.fn ?_
  have hl := F.len _ _ _ _ q
  have r2 : Vals [V.ref a, V.ref b] [Value.ref a, Value.ref b] := .cons rfl (.cons rfl .nil)
  refine wpAny_call (codeAny_mono (F.run X.A.in1 X.stack s H ⟨[.ref a, .ref b], []⟩ [.ref a, .ref b] [.ref a, .ref b] _ E hr.in1 I.env0.in1 (by
    have := hb s [.ref a, .ref b] I.kIn (by simpa using hl)
    simpa using this) r2 q) fun r s' hq => ?_)
  cases r with
  | error e => exact hx pins σ H s e s' I hq
  | ok fl =>
    cases fl with
    | ret w =>
      obtain ⟨z, H', I', rz, c, ez, qz⟩ := I.after hq
      subst ez
      cases rz
      exact ⟨c, rfl, .bl (!c), H', I', rfl, qz⟩
    | next => exact False.elim hq
    | brk => exact False.elim hq
    | cont => exact False.elim hq
end
end L2

set_option linter.all false
set_option maxRecDepth 100000
set_option maxHeartbeats 4000000
/-! enumerate(tuple) -/
namespace L2
open PySem PySem.Spec PyProof.Rows
open Sem (wp)
theorem et_meets {v : Value} {o : Obj} {H : Heap → Prop} (B : Begins v o H) :
    Meets (Builtin.«enumerate.__new__» ⟨[.type "enumerate", v], []⟩) (fun _ R s => H s.heap ∧
      R (.ok (.ret (.ref (s.heap.push o).objs.size))) { s with heap := (s.heap.push o).push { cls := .type "enumerate", data := .fields #[.none, .bool false, .ref s.heap.objs.size, rawInt 0, .none, .none] } }) := by
  refine .of_wp fun prog w A R s h => ?_
  obtain ⟨hp, gl, dd, tk, os⟩ := s
  obtain ⟨h1, h⟩ := h
  have hsub := sub_enumerate
  have q1 : ∀ {A' : Around} {E : Value → Shared → Prop} {Q : Value → Shared → Prop}, Q (.ref hp.objs.size) ⟨hp.push o, gl, dd, tk, os⟩ → wpAny (model prog w) A' (pyIter v) Q E ⟨hp, gl, dd, tk, os⟩ := fun q => B.iter prog w _ _ ⟨hp, gl, dd, tk, os⟩ _ h1 q
  wp_walk using q1
  refine wpAny_stack_any fun st => wpAny_pure ?_
  split
  · rename_i c _ _ _ _ _
    cases (c == Value.type "enumerate") <;> (wp_walk using q1; exact ⟨_, rfl, h⟩)
  · wp_walk using q1
    exact ⟨_, rfl, h⟩
theorem et_call {prog : Program} {w : World} {A : Around} {E : Value → Shared → Prop} {s : Shared} {t : Addr} {its : Array Value} {Q : Value → Shared → Prop} (ht : s.heap.IsTuple t its)
    (h : ∀ h', IsEnum h' (s.heap.objs.size + 1) s.heap.objs.size 0 .none → h'.IsTupleIter s.heap.objs.size t 0 → h'.objs.size = s.heap.objs.size + 2 →
      (∀ b o, s.heap.get? b = some o → h'.get? b = some o) → Q (.ref (s.heap.objs.size + 1)) { s with heap := h' }) :
    wpAny (model prog w) A (call (.type "enumerate") [.ref t]) Q E s := by
  refine callType_new F.called_enumerate (by decide) (F.typeCall_enumerate_1 _) (F.newCall_enumerate_1 _) (fun obj => F.args_object_init_2 obj _) F.entry_enumerate_new (et_meets (begins_tuple t its)) ⟨ht, ?_⟩
  have hz : (s.heap.push { cls := .type "tuple_iterator", data := .fields #[.ref t, .int 0 0] }).objs.size = s.heap.objs.size + 1 := Heap.size_push ..
  show _ ∧ _
  rw [hz]
  have he := Heap.get?_push_size (s.heap.push { cls := .type "tuple_iterator", data := .fields #[.ref t, .int 0 0] }) (o := { cls := .type "enumerate", data := .fields #[.none, .bool false, .ref s.heap.objs.size, rawInt 0, .none, .none] }) rfl
  rw [hz] at he
  exact ⟨⟨_, he, rfl⟩, h _ he ⟨_, Heap.get?_push_of_some _ (Heap.get?_push_size _ rfl), rfl, rfl⟩ (by rw [Heap.size_push, hz]) fun b o x => Heap.get?_push_of_some _ (Heap.get?_push_of_some _ x)⟩
/-- the tuple at a, each part in a new pair -/
def IteT (K : PySem.W.Frag) (a : Addr) : It where
  go i H := ∃ (xs : List V) (x : V), SqT K H a xs ∧ xs[i]? = some x
  yld i H v H' := ∃ T x, v = .ref T ∧ H T = none ∧ H' = upd H T (.tup [.int (i : Nat), x]) ∧ ∀ xs, SqT K H a xs → xs[i]? = some x
  stop i H := ∃ xs : List V, SqT K H a xs ∧ xs.length ≤ i
theorem turn_enumT {P : Program} {w : World} {K : PySem.W.Frag} {elts : List Expr} {kk : Nat} {tpos : Pos} (a e it : Addr) :
    Turn P w K (.Tuple elts kk tpos) (IteT K a) [e, it] e (fun i h => (∃ old, IsEnum h e it ((i : Nat) : Int) old) ∧ h.IsTupleIter it a i ∧ e ≠ it ∧ a ≠ it ∧ a ≠ e) where
  mem := List.mem_cons_self
  obj := fun i h st b hb => by
    obtain ⟨⟨old, he⟩, ⟨o, ho, hc, hd⟩, _⟩ := st
    have e' : b = e ∨ b = it := by simpa using hb
    rcases e' with rfl | rfl
    · exact ⟨_, he, fun v q => nomatch q⟩
    · exact ⟨o, ho, fun v q => by rw [hd] at q; cases q⟩
  keep := fun i h h' st k => let ⟨⟨old, he⟩, hi, hne⟩ := st; ⟨⟨old, k e (by simp) _ he⟩, hi.at fun o q => k it (by simp) o q, hne⟩
  item := by
    intro X hP hw hK hc i pins s σ H E I hf st hg
    subst hP hw hK
    obtain ⟨⟨old, he⟩, hit, hne, n1, n2⟩ := st
    obtain ⟨xs, x, hq, hx⟩ := hg
    obtain ⟨its, rv, p, hz⟩ := I.tuple hq
    obtain ⟨u, hu, ru⟩ := rv.get hx
    have hel : e < s.heap.objs.size := Heap.lt_size he
    have hil : it < s.heap.objs.size := by obtain ⟨_, q, _⟩ := hit; exact Heap.lt_size q
    have hlt : i < its.toArray.size := by
      have := (List.getElem?_eq_some_iff.mp hu).1
      simpa using this
    refine wpAny_pyNext_enum_itemD (Draws.tuple (A := X.A.in1) (show X.A.in1.handled = none from I.ok.hd hc) it a n1 its.toArray) he ⟨hit, p⟩ hlt hne (by simp [hne, n2.symm]) fun y h' tk hy ho st' hT hsz hk => ?_
    obtain rfl : y = u := by
      have h2 : its.toArray[i]? = some u := by simpa using hu
      have h3 : its.toArray[i]? = some y := hy
      rw [h2] at h3
      exact (Option.some.inj h3).symm
    refine ⟨_, rfl, wpAny_letOwnedTupleGo_enum (s := { s with heap := h', toks := tk + 1 }) ho fun h'' he' sb => ?_⟩
    have hT2 : h''.get? s.heap.objs.size = some { cls := .type "tuple", data := .seq #[.int i tk, y] } := (sb.2 _ (Nat.ne_of_gt hel)).trans hT
    have new : ObjOk X.prog X.w (upd H s.heap.objs.size (.tup [.int (i : Nat), x])) h'' s.heap.objs.size (.tup [.int (i : Nat), x]) :=
      ⟨by show 2 ≤ sizeLine; decide, [.int i tk, y], .cons ⟨_, rfl⟩ (.cons ru .nil), ⟨_, hT2, rfl, _, rfl⟩⟩
    have I1 : Inv X pins σ (upd H s.heap.objs.size (.tup [.int (i : Nat), x])) { s with heap := h'', toks := tk + 1 } :=
      I.turnedNew (ch := [e, it]) (fun b ob hb q => (sb.2 b (fun z => hb (by simp [z]))).trans (hk b ob (fun z => hb (by simp [z])) (fun z => hb (by simp [z])) q)) hf (Nat.le_refl _) new
    refine ⟨.ref s.heap.objs.size, _, I1, rfl, ⟨_, x, rfl, I.hok.fresh (Nat.le_refl _), rfl, fun ys hq2 => ?_⟩, ⟨⟨y, ?_⟩, st'.1.at fun o q => (sb.2 it (Ne.symm hne)).trans q, hne, n1, n2⟩, fun b hb => ?_⟩
    · rw [I.tuple_inj hq2 hq]; exact hx
    · have e1 : ((i + 1 : Nat) : Int) = (i : Int) + 1 := by omega
      rw [e1]; exact he'
    · have hb' : b < s.heap.objs.size := by
        have e' : b = e ∨ b = it := by simpa using hb
        rcases e' with z | z
        · rw [z]; exact hel
        · rw [z]; exact hil
      rw [upd_ne (Nat.ne_of_lt hb')]
      exact (hf b hb).1
  done := by
    intro X hP hw hK hc i pins s σ H E I hf st hg
    subst hP hw hK
    obtain ⟨⟨old, he⟩, hit, hne, n1, n2⟩ := st
    obtain ⟨xs, hq, hx⟩ := hg
    obtain ⟨its, rv, p, hz⟩ := I.tuple hq
    obtain ⟨f0, f1, f2, f3, f4, f5⟩ := hf it (by simp)
    have hl := rv.length
    have hT : s.TypeIs (.ref e) "enumerate" := ⟨_, he, rfl⟩
    unfold pyNext
    refine wpAny_bind (wpAny_attempt (wpAny_callSpecial?_slot (name := Str.ofString "__next__") hT F.slot_enumerate_next
      (wpAny_call_entry F.slot_enumerate_next hT F.entry_enumerate_next ?_ (F.args_enumerate_next_1 _))))
    show wpAny _ _ (field (.ref e) 2 >>= _) _ _ _
    refine wpAny_bind (wpAny_field he rfl (x := .ref it) rfl ?_)
    refine wpAny_bind (wpAny_nextOf_tuple_end (A := X.A.in1) (show X.A.in1.handled = none from I.ok.hd hc) hit p (by simp; omega) fun h' x he' hx' => ?_)
    obtain ⟨o, ho, hc2⟩ := hx'
    refine wpAny_bind (wpAny_isInstance (T := "StopIteration") (b := true) ⟨o, ho, hc2⟩ isSubtype_stop ?_)
    exact wpAny_pure ⟨rfl, I.turned (t' := s.toks) (fun b ob hb e => he' b ob hb e) f0 f1 f3 f4 f5⟩
  self := fun A i s Q E st h => let ⟨⟨_, he⟩, _⟩ := st; wpAny_pyIter_enum he h
def iEnumT (K : PySem.W.Frag) (ta : TA) : TI := fun σ H R => ta σ H fun vs H1 => ∃ a xs, vs = [.ref a] ∧ SqT K H1 a xs ∧ R (IteT K a) H1
theorem pi_enumT {X : Cx} {e : Expr} {ta : TA} {p pos tpos : Pos} {elts : List Expr} {kk : Nat} (hg : Gl X "enumerate") (hm : X.mg "enumerate" = none) (ha : PA X [e] ta) (hs : starEach [e] X.env = [(false, eval e X.env)] := by rfl) :
    PI X (.Tuple elts kk tpos) (.Call (.Name "enumerate" p) [e] [] pos) (iEnumT X.K ta) := by
  refine ⟨fun pins s σ H R I h => Call_ (ld_blt I hg hm boot_enumerate (PyProof.Rows.callWith_type1 (thn (ha.run pos pins s σ H _ I h) fun us s1 ⟨vs, H1, I1, r1, q1⟩ => ?_) hs rfl))⟩
  obtain ⟨a, xs, rfl, hq, q⟩ := q1
  obtain ⟨u, rfl, r⟩ := r1.one
  cases r
  obtain ⟨its, rv, p', hz⟩ := I1.tuple hq
  have hal : a < s1.heap.objs.size := by obtain ⟨o, ho, _⟩ := p'; exact Heap.lt_size ho
  refine et_call p' fun h' he hit hsz hk => wpAny_pyIter_enum he ?_
  have I2 : Inv X pins σ H1 { s1 with heap := h' } := I1.kept (t' := s1.toks) hk
  refine ⟨s1.heap.objs.size + 1, [s1.heap.objs.size + 1, s1.heap.objs.size], _, _, H1, rfl, I2, turn_enumT a (s1.heap.objs.size + 1) s1.heap.objs.size, ⟨⟨.none, he⟩, hit, Nat.succ_ne_self _, Nat.ne_of_lt hal, Nat.ne_of_lt (Nat.lt_succ_of_lt hal)⟩, fun b hb => ?_, q⟩
  have e' : b = s1.heap.objs.size + 1 ∨ b = s1.heap.objs.size := by simpa using hb
  have hle : s1.heap.objs.size ≤ b := by
    rcases e' with z | z
    · rw [z]; exact Nat.le_add_right _ _
    · rw [z]; exact Nat.le_refl _
  exact I1.fpOk hle (I1.hok.fresh hle)
end L2
namespace L2
open PySem PySem.Spec PyProof.Rows
theorem walk_enumT {K : PySem.W.Frag} {a : Addr} {xs : List V} : Walk (IteT K a) xs.length (fun H => SqT K H a xs) (YPair (fun i => some (.int (i : Nat))) (fun i => xs[i]?)) := by
  refine ⟨fun i _ hi q => ⟨xs, xs[i], q, List.getElem?_eq_getElem hi⟩, fun _ q => ⟨xs, q, Nat.le_refl _⟩, fun i H v H' _ q y => ?_⟩
  obtain ⟨T, x, h1, h2, h3, h4⟩ := y
  exact ⟨T, .int (i : Nat), x, h1, h2, h3, rfl, h4 xs q⟩
end L2

set_option linter.all false
set_option maxRecDepth 100000
set_option maxHeartbeats 4000000
/-! an instance made where its __init__ may refuse and the body around takes the refusal -/
namespace L2
open PySem PySem.Spec PyProof.Rows
def tMakeAt (C : Addr) (sp : Sp) (E : St → XK) (t : TA) : TE := fun σ H Q => t σ H fun vs H1 => ∀ x dx, H1 x = none → H1 dx = none → dx ≠ x →
  sp (.ref x :: vs) (upd (upd H1 dx (.own x)) x (.ins C dx [])) (fun v H2 => v = .non ∧ Q (.ref x) H2) (E σ)
section
variable {X : Cx} {CX : CXT} {k : Nat} {f C : Addr} {fd : FuncData} {ps : List Str} {sp : Sp} {E : St → XK} {x : Str} {p pos : Pos} {e : Expr} {es : List Expr} {t : TA}
theorem pe_makeAt (M : Mk X.K C f) (F : FnOk X.prog X.w X.K X.mg X.base CX k f fd ps sp) (hr : Room (k + 1) X.A) (hg : Gl X x) (hm : X.mg x = some (.ref C)) (hb : Binds X.K fd ps []) (hx : ∀ σ, PassesAt CX X σ (E σ))
    (ha : PA X (e :: es) t) (hdb : (x == ("__debug__" : Str)) = false := by decide) (he : starEach (e :: es) X.env = (false, eval e X.env) :: starEach es X.env := by rfl) (hpl : (backTo pos (starEach es X.env)).any (·.1) = false := by rfl) :
    PE X (.Call (.Name x p) (e :: es) [] pos) (tMakeAt C sp E t) := by
  refine ⟨fun pins s σ H Q I h => wpAny_Call_Name_kw (ld_glob I hg hm ?_ hdb)⟩
  refine PySem.W.callWith_K (h₀ := X.base) I.ok.mod.kin M.kp (thn (ha.run pos pins s σ H _ I h) fun us s1 ⟨vs, H1, I1, r, q⟩ => ⟨I1.kIn, ?_⟩) he hpl
  have hq := q (s1.heap.objs.size + 1) s1.heap.objs.size (I1.hok.fresh (Nat.le_succ _)) (I1.hok.fresh (Nat.le_refl _)) (Nat.ne_of_lt (Nat.lt_succ_self _))
  have I2 := Inv.made (C := C) I1
  have r2 : Vals (V.ref (s1.heap.objs.size + 1) :: vs) (Value.ref (s1.heap.objs.size + 1) :: us) := .cons rfl r
  have hl : (Value.ref (s1.heap.objs.size + 1) :: us).length = ps.length := by
    rw [← r2.length]
    exact F.len _ _ _ _ hq
  have b := hb _ (Value.ref (s1.heap.objs.size + 1) :: us) I2.kIn (by rw [List.append_nil]; exact hl)
  rw [List.append_nil] at b
  refine wpAny_call (make_map (f := f) I1.kIn M.makes M.init (beq_iff_eq.mp M.fn) (codeAny_mono (F.run _ X.stack _ _ ⟨Value.ref (s1.heap.objs.size + 1) :: us, []⟩ _ _ _ (E σ) (hr.make C us []) (I2.env0.make C us []) b r2 hq) fun r s' hq' => ?_))
  cases r with
  | error e => exact hx σ pins _ _ e s' I2 hq'
  | ok fl =>
    cases fl with
    | ret u =>
      obtain ⟨v, H', I3, rv, ev, q3⟩ := I2.after hq'
      subst ev
      exact ⟨rv, ⟨V.ref (s1.heap.objs.size + 1), H', I3, rfl, q3⟩⟩
    | next => exact False.elim hq'
    | brk => exact False.elim hq'
    | cont => exact False.elim hq'
end
end L2

set_option linter.all false
set_option maxRecDepth 100000
set_option maxHeartbeats 4000000
/-! a dict starred in a list's display: its keys -/
namespace L2
open PySem PySem.Spec PyProof.Rows
section
variable {P : Program} {w : World} {A : Around} {E : Value → Shared → Prop} {s : Shared} {T : String} {r d : Addr} {n : Nat} {Pv : Nat → Value → Prop} {OK : Heap → Prop}
theorem code_kdl {R : Result → Shared → Prop} (Kd : PySem.W.KdlSrc P w T r d n Pv OK) (h0 : A.handled = none) (ok : OK s.heap) (hz : n ≤ sizeLine)
    (hR : ∀ (h' : Heap) (tk : Nat) (acc : Array Value) (c : Nat), (∀ b o, s.heap.get? b = some o → h'.get? b = some o) → h'.get? s.heap.objs.size = some { cls := .type "list", dict := none, data := .seq acc c, slots := #[] } → ItemsOf Pv acc n → R (.ok (.ret (.ref s.heap.objs.size))) { s with heap := h', toks := tk }) :
    codeAny (model P w) A (.builtin "proto.collect" ⟨[.ref r], []⟩) R s := by
  have big := Kd.there _ ok
  have fresh := Heap.get?_push_size s.heap (o := ({ cls := .type "list", data := .seq ([] : List Value).toArray } : Obj)) rfl
  refine codeAny_builtin F.entry_proto_collect ?_; rw [Around.under_plainId F.plain_proto_collect _]
  show wpAny _ A.in1 (newList [] >>= fun z => again (.builtin "list.__iadd__" ⟨[z, .ref r], []⟩)) _ _ s
  refine wpAny_bind (wpAny_newObj_type (wpAny_pure ⟨plainId_quiet F.plain_list_iadd _, codeAny_builtin F.entry_list_iadd ?_⟩)); rw [Around.under_plainId F.plain_list_iadd _]
  exact PySem.W.kdl_extend (s := { s with heap := s.heap.push { cls := .type "list", data := .seq ([] : List Value).toArray } }) Kd h0 (Kd.keep _ _ ok fun b _ o e => Heap.get?_push_of_some _ e) s.heap.objs.size (Nat.ne_of_gt big.1) (Nat.ne_of_gt big.2) (.ref s.heap.objs.size) _ fresh (fun h' tk acc c keep seq items =>
    hR h' tk acc c (fun b o e => keep b o (Nat.ne_of_lt (Heap.lt_size e)) (Heap.get?_push_of_some _ e)) seq items) hz
theorem gather_kdl {Q : List Value → Shared → Prop} (Kd : PySem.W.KdlSrc P w T r d n Pv OK) (h0 : A.handled = none) (ok : OK s.heap) (hz : n ≤ sizeLine)
    (hQ : ∀ (h' : Heap) (tk : Nat) (acc : Array Value), (∀ b o, s.heap.get? b = some o → h'.get? b = some o) → ItemsOf Pv acc n → Q acc.toList { s with heap := h', toks := tk }) : wpAny (model P w) A (collect (.ref r)) Q E s := by
  unfold collect
  refine wpAny_bind (wpAny_runValue (code_kdl Kd h0 ok hz fun h' tk acc c keep seq items => ?_))
  show wpAny _ A (load _ >>= _) _ _ _
  exact wpAny_bind (wpAny_load seq (wpAny_pure (hQ h' tk acc keep items)))
end
section
variable {X : Cx} {fixed : List (Addr × Obj)} {σ : L2.St} {H : Hp} {now : Shared}
theorem star_dct (quiet : X.calm = true) {d : Addr} {ents : List (Key × V)} {Er : Value → Shared → Prop} {Q : List Value → Shared → Prop} (J : Inv X fixed σ H now) (hd : Rd H d (.dK ents))
    (hQ : ∀ us s', Inv X fixed σ H s' → Vals (ents.map fun e => kV e.1) us → Q us s') : PySem.W.StarOf (model X.prog X.w) X.A Er (.ref d) Q now := by
  obtain ⟨few, low, raw, same, held⟩ := dk_rd J.hok hd; obtain ⟨age, stands⟩ := held.dictAt
  have ks : (ents.map fun e => kV e.1) = raw.map fun e => kV e.1 := by have q := congrArg (List.map kV) same.keys; rw [List.map_map, List.map_map] at q; exact q
  have got : wpAny (model X.prog X.w) X.A (collect (.ref d)) Q Er now := gather_kdl (PySem.W.kdl_dict (knd := mixKind X.prog X.w) (kvs := raw) (ep := age) low) (J.ok.hd quiet) stands (by rw [← same.length]; exact few) fun h2 tk items old all => by
    have told : Vals (raw.map fun e => kV e.1) items.toList := keys_at (all.1 ▸ Array.length_toList) fun i u e => all.2 i u ((Array.getElem?_toList ▸ e))
    exact hQ _ _ (J.kept (t' := tk) old) (ks ▸ told)
  exact (show wpAny _ _ (notIterableAtAll _) _ _ _ from wpAny_bind (wpAny_specialOf stands.dictOf.typeIs PySem.F.slot_dict_iter.lookup (wpAny_pure ⟨rfl, got⟩)))
/-- *d in a display: the keys of a dict -/
def tStarD (te : TE) (t : TA) : TA := fun σ H Q => te σ H fun x H1 => ∃ p kvs, x = V.ref p ∧ Rd H1 p (.dK kvs) ∧ t σ H1 fun ys H2 => Q ((kvs.map fun kv => kV kv.1) ++ ys) H2
theorem pa_starD {e : Expr} {es : List Expr} {te : TE} {t : TA} {p : Pos} (quiet : X.calm = true) (he : PE X e te) (hr : PA X es t) (hs : starEach (.Starred e p :: es) X.env = (true, eval e X.env) :: starEach es X.env := by rfl) : PA X (.Starred e p :: es) (tStarD te t) :=
  ⟨fun pos fixed now σ H Q J h => PySem.W.items_star (thn (he.run fixed now σ H _ J h) fun v s1 ⟨y, H1, J1, ry, a, ents, ey, hx, q⟩ => by
    subst ey; obtain rfl : v = Value.ref a := ry
    exact star_dct quiet J1 hx fun us s2 J2 rv => thn (hr.run pos fixed s2 σ H1 _ J2 q) fun ws s3 ⟨vs, H3, J3, r3, q3⟩ => ⟨_, H3, J3, rv.append r3, q3⟩) hs⟩
end
end L2

set_option linter.all false
set_option maxRecDepth 100000
set_option maxHeartbeats 4000000
/-! xs[::k], k 1 or -1, known at the run -/
namespace L2
open PySem PySem.Spec PyProof.Rows
theorem pick_forth (items : Array Value) : slicePick items none none (some 1) = items := by
  have e : slicePick items none none (some 1) = ((sliceRange 0 (items.size : Int) 1).filterMap (items[·]?)).toArray := rfl
  have z : sliceRange 0 (items.size : Int) 1 = List.range items.size := by
    unfold sliceRange
    by_cases h : (0 : Int) < items.size
    · have c : ((items.size : Int) - 0 + 1 - 1) / 1 = items.size := by rw [Int.ediv_one]; omega
      simp only [show (1 : Int) > 0 from by decide, if_true, h, c, Int.toNat_natCast]
      have id : ∀ l : List Nat, (l.map fun (k : Nat) => ((0 : Int) + 1 * (k : Int)).toNat) = l := fun l => by
        induction l with
        | nil => rfl
        | cons a r ih => rw [List.map_cons, ih]; congr 1; omega
      exact id _
    · have e0 : items.size = 0 := by omega
      simp [e0]
  rw [e, z]
  exact (congrArg List.toArray (PySem.W.krv_all items)).trans (by simp)
section
variable {X : Cx}
def tStepL (K : PySem.W.Frag) (te tk : TE) : TE := fun σ H Q => te σ H fun x H1 => ∃ a xs, x = .ref a ∧ SqL K H1 a xs ∧ tk σ H1 fun y H2 => ∃ i, y = .int i ∧ ∃ (c : Bool), i = (if c then 1 else -1) ∧ SqL K H2 a xs ∧ ∀ p, H2 p = none → Q (.ref p) (upd H2 p (.lst (if c then xs else xs.reverse)))
theorem pe_stepL {e k : Expr} {te tk : TE} {p3 pos : Pos} (he : PE X e te) (hk : PE X k tk) : PE X (.Subscript e (.Slice none none (some k) p3) pos) (tStepL X.K te tk) := by
  constructor; intro pz s σ H Q I h
  refine Subscript_ (thn (he.run pz s σ H _ I h) fun v s1 ⟨x, H1, I1, r1, a, xs, ex, hx, q⟩ => ?_)
  subst ex; cases r1
  have hst := po_some hk
  refine wpAny_Slice (thn (po_none.run pz s1 σ H1 (fun lo HL => lo = none ∧ HL = H1) I1 ⟨rfl, rfl⟩) fun vl s2 ⟨l, H2, I2, pl, el, e2⟩ => ?_)
  subst el e2
  refine thn (po_none.run pz s2 σ H2 (fun up HU => up = none ∧ HU = H2) I2 ⟨rfl, rfl⟩) fun vu s3 ⟨u, H3, I3, pu, eu, e3⟩ => ?_
  subst eu e3
  refine thn (hst.run pz s3 σ H3 (fun o H4 => match o with | some i => ∃ c : Bool, i = (if c then 1 else -1) ∧ SqL X.K H4 a xs ∧ ∀ p, H4 p = none → Q (.ref p) (upd H4 p (.lst (if c then xs else xs.reverse))) | none => False) I3 q) fun vs s4 ⟨o, H4, I4, ps, q3⟩ => ?_
  obtain ⟨i, rfl⟩ : ∃ i, o = some i := by
    cases o with
    | none => exact q3.elim
    | some i => exact ⟨i, rfl⟩
  obtain ⟨c, ei, hx4, q4⟩ := q3
  subst ei
  have I5 : Inv X pz σ H4 { s4 with heap := s4.heap.push { cls := .type "slice", data := .fields #[vl, vu, vs] } } := I4.kept (t' := s4.toks) fun _ _ hb => Heap.get?_push_of_some _ hb
  obtain ⟨its, r, ht, hz⟩ := I5.list hx4
  have hlen := r.length
  refine tail_any (ops := [.ref a, .ref s4.heap.objs.size]) (ht.isList.typeIs) PySem.slot_list_getitem.lookup ?_ (by with_unfolding_all rfl)
  refine wpAny_getItem_list_slice ht.isList (Heap.IsSliceOf.new _ vl vu vs) pl pu ps (by cases c <;> decide) ?_ (by rw [List.size_toArray]; omega)
  cases c with
  | true =>
    rw [show (if true = true then (1 : Int) else -1) = 1 from rfl, pick_forth]
    refine ⟨.ref _, _, I5.laid (t' := s4.toks) (o := .lst xs) (fun b ob q => Heap.get?_push_of_some _ q) (Nat.le_refl _) ?_, rfl, q4 _ (I5.hok.fresh (Nat.le_refl _))⟩
    exact ⟨hz, _, 0, r, Heap.get?_push_size _ rfl⟩
  | false =>
    rw [show (if false = true then (1 : Int) else -1) = -1 from rfl, PySem.W.krv_pick]
    refine ⟨.ref _, _, I5.laid (t' := s4.toks) (o := .lst xs.reverse) (fun b ob q => Heap.get?_push_of_some _ q) (Nat.le_refl _) ?_, rfl, q4 _ (I5.hok.fresh (Nat.le_refl _))⟩
    have hr : xs.reverse.length = xs.length := List.length_reverse
    exact ⟨hr.symm ▸ hz, _, 0, r.reverse, Heap.get?_push_size _ rfl⟩
end
end L2

set_option linter.all false
/-! what is never come to -/
namespace L2
open PySem
def tNevE : TE := fun _ _ _ => False
def tNevT : TT := fun _ _ _ => False
def tNevG : TG := fun _ _ _ _ => False
theorem pe_nev {X : Cx} {e : Expr} : PE X e tNevE := ⟨fun _ _ _ _ _ _ h => h.elim⟩
theorem pt_nev {X : Cx} {e : Expr} : PT X e tNevT := ⟨fun _ _ _ _ _ _ h => h.elim⟩
theorem pw_nev {X : Cx} {e : Expr} : PW X e tNevT := ⟨fun _ _ _ _ _ _ _ h => h.elim⟩
theorem pg_nev {X : Cx} {e : Expr} : PG X e tNevG := ⟨fun _ _ _ _ _ _ _ _ _ h => h.elim⟩
end L2

set_option linter.all false
set_option maxRecDepth 100000
/-! a text cut at a sign and put together again; lines read -/
namespace My
open PySem
theorem spl1 (c : Nat) (acc : List Nat) (d : Nat) (r : List Nat) : TL.spl [c] 0 acc (d :: r) = if d = c then acc :: TL.spl [c] 0 [] r else TL.spl [c] 0 (acc ++ [d]) r := by
  by_cases h : d = c
  · subst h
    rw [if_pos rfl, TL.spl_hit (show TL.pre [d] (d :: r) = true from TL.pre_self [d] r)]
    rfl
  · rw [if_neg h, TL.spl_miss (TL.pre_of_head [] r h)]
theorem spl_nn (c : Nat) : ∀ (l acc : List Nat), ∃ p ps, TL.spl [c] 0 acc l = p :: ps
  | [], acc => ⟨acc, [], TL.spl_nil _ _ _⟩
  | d :: r, acc => by
    rw [spl1]
    by_cases h : d = c
    · rw [if_pos h]; exact ⟨_, _, rfl⟩
    · rw [if_neg h]; exact spl_nn c r _
theorem join_spl (c : Nat) : ∀ (l acc : List Nat), TL.joinL [c] (TL.spl [c] 0 acc l) = acc ++ l
  | [], acc => by rw [TL.spl_nil]; simp [TL.joinL]
  | d :: r, acc => by
    rw [spl1]
    by_cases h : d = c
    · rw [if_pos h]
      obtain ⟨p, ps, e⟩ := spl_nn c r []
      have ih := join_spl c r []
      rw [e] at ih ⊢
      rw [TL.joinL, ih, h]
      simp
    · rw [if_neg h, join_spl c r]
      simp
theorem spl_mem (c : Nat) : ∀ (l acc p : List Nat), c ∉ acc → p ∈ TL.spl [c] 0 acc l → c ∉ p ∧ ∀ d ∈ p, d ∈ acc ++ l
  | [], acc, p, h, hp => by
    rw [TL.spl_nil] at hp
    simp at hp
    subst hp
    exact ⟨h, fun d hd => by simpa using hd⟩
  | d :: r, acc, p, h, hp => by
    rw [spl1] at hp
    by_cases e : d = c
    · rw [if_pos e] at hp
      rcases List.mem_cons.mp hp with rfl | q
      · exact ⟨h, fun x hx => List.mem_append.mpr (.inl hx)⟩
      · obtain ⟨h1, h2⟩ := spl_mem c r [] p (by simp) q
        exact ⟨h1, fun x hx => List.mem_append.mpr (.inr (List.mem_cons_of_mem _ (by simpa using h2 x hx)))⟩
    · rw [if_neg e] at hp
      obtain ⟨h1, h2⟩ := spl_mem c r (acc ++ [d]) p (by simp [h, Ne.symm e]) hp
      exact ⟨h1, fun x hx => by simpa using h2 x hx⟩
theorem spl_sum (c : Nat) : ∀ (l acc : List Nat), ((TL.spl [c] 0 acc l).map (·.length)).sum + (TL.spl [c] 0 acc l).length = acc.length + l.length + 1
  | [], acc => by rw [TL.spl_nil]; simp
  | d :: r, acc => by
    rw [spl1]
    by_cases e : d = c
    · rw [if_pos e]
      have := spl_sum c r []
      simp only [List.map_cons, List.sum_cons, List.length_cons, List.length_nil] at this ⊢
      omega
    · rw [if_neg e]
      have := spl_sum c r (acc ++ [d])
      simp only [List.length_append, List.length_cons, List.length_nil] at this ⊢
      omega
theorem mem_sum {xs : List Str} {x : Str} (h : x ∈ xs) : x.length ≤ (xs.map (·.length)).sum := by
  induction xs with
  | nil => cases h
  | cons y r ih =>
    rw [List.map_cons, List.sum_cons]
    rcases List.mem_cons.mp h with rfl | q
    · omega
    · have := ih q
      omega
/-- the text cut at the sign c -/
def cut (c : Nat) (x : Str) : List Str := Txt.split x ⟨#[c]⟩
def glue (c : Nat) (xs : List Str) : Str := Txt.join ⟨#[c]⟩ xs
theorem cut_eq {c : Nat} (hc : c < 256) (x : Str) : cut c x = (TL.spl [c] 0 [] x.cps.toList).map SX.S := by
  have e := SX.split_S (a := x.cps.toList) (b := [c]) (by simp) (by simpa using hc)
  rw [← e, SX.S_tl]
  rfl
theorem glue_eq (c : Nat) (ys : List (List Nat)) : glue c (ys.map SX.S) = SX.S (TL.joinL [c] ys) := SX.join_S [c] ys
theorem glue_cut {c : Nat} (hc : c < 256) (x : Str) : glue c (cut c x) = x := by
  rw [cut_eq hc, glue_eq, join_spl, List.nil_append, SX.S_tl]
theorem cut_ne {c : Nat} (hc : c < 256) (x : Str) : cut c x ≠ [] := by
  obtain ⟨p, ps, e⟩ := spl_nn c x.cps.toList []
  rw [cut_eq hc, e]
  simp
theorem cut_glue {c : Nat} (hc : c < 256) {xs : List Str} (ne : xs ≠ []) (h : ∀ p ∈ xs, c ∉ p.cps.toList) : cut c (glue c xs) = xs := by
  have e : xs = (xs.map fun x => x.cps.toList).map SX.S := by
    rw [List.map_map]
    have : (SX.S ∘ fun x : Str => x.cps.toList) = id := funext fun x => SX.S_tl x
    rw [this, List.map_id]
  have e2 : glue c xs = SX.S (TL.joinL [c] (xs.map fun x => x.cps.toList)) := by
    rw [← glue_eq, ← e]
  rw [cut_eq hc, e2]
  have := SX.spl_join (c := c) (sep := []) (parts := xs.map fun x => x.cps.toList) (by simpa using ne) (fun p hp => by
    obtain ⟨x, hx, rfl⟩ := List.mem_map.mp hp
    exact h x hx)
  show (TL.spl [c] 0 [] (TL.joinL [c] (xs.map fun x => x.cps.toList))).map SX.S = xs
  rw [this, ← e]
theorem cut_mem {c : Nat} (hc : c < 256) {x p : Str} (h : p ∈ cut c x) : c ∉ p.cps.toList ∧ ∀ d ∈ p.cps.toList, d ∈ x.cps.toList := by
  rw [cut_eq hc] at h
  obtain ⟨q, hq, rfl⟩ := List.mem_map.mp h
  obtain ⟨h1, h2⟩ := spl_mem c _ [] q (by simp) hq
  exact ⟨h1, fun d hd => by simpa using h2 d hd⟩
theorem cut_sum {c : Nat} (hc : c < 256) (x : Str) : ((cut c x).map (·.length)).sum + (cut c x).length = x.length + 1 := by
  have := spl_sum c x.cps.toList []
  rw [cut_eq hc]
  have e : ((TL.spl [c] 0 [] x.cps.toList).map SX.S).map (·.length) = (TL.spl [c] 0 [] x.cps.toList).map (·.length) := SX.lens _
  rw [e, List.length_map]
  have hl : x.cps.toList.length = x.length := Array.length_toList
  simp only [List.length_nil] at this
  omega
theorem cut_len {c : Nat} (hc : c < 256) {x p : Str} (h : p ∈ cut c x) : p.length ≤ x.length := by
  have h1 := cut_sum hc x
  have h2 := mem_sum h
  have h3 : 0 < (cut c x).length := List.length_pos_iff.mpr (cut_ne hc x)
  omega
theorem cut_many {c : Nat} (hc : c < 256) (x : Str) : (cut c x).length ≤ x.length + 1 := by
  have h1 := cut_sum hc x
  omega
/-! ### lines read -/
def isTake (t : Str) : Bool := decide (t ∈ (["lent", "given"] : List Str))
def pairWords (q : Pr) : List Str := "word" :: q.1 :: q.2.1 :: (if q.2.2 = true then ["laden"] else [])
def sideW (s : Int) : Str := if s = 0 then "0" else "1"
def throwsW (ts : List Str) : List Str := if ts = [] then [] else "throws" :: ts
def helpWords (x : Hr) : List Str := "helper" :: x.name :: sideW x.side :: (x.takes ++ ((if x.gives = true then [("gives" : Str)] else []) ++ throwsW x.throws))
/-- the row of the words of a pair's line -/
def pairOf (ws : List Str) : Option Pr :=
  if ("" : Str) ∈ ws then none else
  match ws with
  | [a, b, c] => if a = "word" then some (b, c, false) else none
  | [a, b, c, d] => if a = "word" ∧ d = "laden" then some (b, c, true) else none
  | _ => none
def behind (r : List Str) : Bool × List Str := match r with
  | a :: q => if a = "gives" then (true, q) else (false, a :: q)
  | [] => (false, [])
def thrown (r : List Str) : Option (List Str) := match r with
  | [] => some []
  | a :: b :: q => if a = "throws" then some (b :: q) else none
  | _ => none
def helpOf (ws : List Str) : Option Hr :=
  if ("" : Str) ∈ ws then none else
  match ws with
  | h :: n :: s :: r => if h = "helper" ∧ (s = "0" ∨ s = "1") then
      (thrown (behind (r.dropWhile isTake)).2).map fun th => ⟨n, if s = "0" then 0 else 1, r.takeWhile isTake, (behind (r.dropWhile isTake)).1, th⟩
    else none
  | _ => none
theorem pairOf_words {q : Pr} (h1 : q.1 ≠ "") (h2 : q.2.1 ≠ "") : pairOf (pairWords q) = some q := by
  obtain ⟨a, b, c⟩ := q
  have n1 : ("" : Str) ≠ "word" := by decide +kernel
  have n2 : ("" : Str) ≠ "laden" := by decide +kernel
  unfold pairOf pairWords
  cases c with
  | false => simp [n1, Ne.symm h1, Ne.symm h2]
  | true => simp [n1, n2, Ne.symm h1, Ne.symm h2]
theorem words_pairOf {ws : List Str} {q : Pr} (h : pairOf ws = some q) : ws = pairWords q ∧ ("" : Str) ∉ ws := by
  unfold pairOf at h
  by_cases hm : ("" : Str) ∈ ws
  · rw [if_pos hm] at h; cases h
  rw [if_neg hm] at h
  refine ⟨?_, hm⟩
  split at h
  · split at h
    · rename_i e
      cases h
      rw [e]
      rfl
    · cases h
  · split at h
    · rename_i e
      cases h
      rw [e.1, e.2]
      rfl
    · cases h
  · cases h
theorem tw_all : ∀ (r : List Str) (t : Str), t ∈ r.takeWhile isTake → isTake t = true
  | [], _, h => by cases h
  | a :: r, t, h => by
    unfold List.takeWhile at h
    split at h
    · rename_i e
      rcases List.mem_cons.mp h with rfl | q
      · exact e
      · exact tw_all r t q
    · cases h
theorem take_run {ts r : List Str} (h : ∀ t ∈ ts, isTake t = true) (hr : ∀ a q, r = a :: q → isTake a = false) : (ts ++ r).takeWhile isTake = ts ∧ (ts ++ r).dropWhile isTake = r := by
  induction ts with
  | nil =>
    cases r with
    | nil => exact ⟨rfl, rfl⟩
    | cons a q =>
      have := hr a q rfl
      simp [List.takeWhile, List.dropWhile, this]
  | cons t ts ih =>
    have ht := h t List.mem_cons_self
    have := ih fun x hx => h x (List.mem_cons_of_mem _ hx)
    simp [List.takeWhile, List.dropWhile, ht, this]
theorem throwsW_head {ts : List Str} : (∀ a q, throwsW ts = a :: q → isTake a = false ∧ a ≠ "gives") ∧ thrown (throwsW ts) = some ts := by
  have e1 : isTake "throws" = false := by decide +kernel
  have e2 : ("throws" : Str) ≠ "gives" := by decide +kernel
  unfold throwsW
  cases ts with
  | nil => exact ⟨fun a q h => by simp at h, rfl⟩
  | cons t r =>
    simp only [reduceCtorEq, if_false]
    refine ⟨fun a q h => ?_, by simp [thrown]⟩
    injection h with h1 _
    subst h1
    exact ⟨e1, e2⟩
theorem helpOf_words {x : Hr} (hn : x.name ≠ "") (hs : x.side = 0 ∨ x.side = 1) (ht : ∀ t ∈ x.takes, isTake t = true) (hth : ∀ t ∈ x.throws, t ≠ "") : helpOf (helpWords x) = some x := by
  obtain ⟨n, s, ts, g, th⟩ := x
  dsimp only at hn hs ht hth
  have n0 : ("" : Str) ≠ "helper" ∧ ("" : Str) ≠ "0" ∧ ("" : Str) ≠ "1" ∧ ("" : Str) ≠ "gives" ∧ ("" : Str) ≠ "throws" ∧ isTake ("" : Str) = false ∧ isTake "gives" = false ∧ ("1" : Str) ≠ "0" := by decide +kernel
  obtain ⟨n1, n2, n3, n4, n5, n6, n7, n8⟩ := n0
  have hno : ("" : Str) ∉ helpWords ⟨n, s, ts, g, th⟩ := by
    have a1 : ("" : Str) ∉ ts := fun h => by rw [ht _ h] at n6; cases n6
    have a2 : ("" : Str) ∉ th := fun h => hth _ h rfl
    unfold helpWords sideW throwsW
    rcases hs with rfl | rfl
    · cases g <;> by_cases e : th = [] <;> simp [n1, n2, n4, n5, Ne.symm hn, a1, a2, e]
    · cases g <;> by_cases e : th = [] <;> simp [n1, n3, n4, n5, Ne.symm hn, a1, a2, e]
  obtain ⟨th1, th2⟩ := throwsW_head (ts := th)
  have hrun := take_run (ts := ts) (r := (if g = true then [("gives" : Str)] else []) ++ throwsW th) ht (fun a q e => by
    cases g with
    | true => simp at e; rw [← e.1]; exact n7
    | false => simp at e; exact (th1 _ _ e).1)
  have hbe : behind ((if g = true then [("gives" : Str)] else []) ++ throwsW th) = (g, throwsW th) := by
    cases g with
    | true => simp [behind]
    | false =>
      cases e : throwsW th with
      | nil => simp [behind]
      | cons a q => simp [behind, (th1 a q e).2]
  unfold helpOf
  rw [if_neg hno]
  unfold helpWords
  dsimp only
  rcases hs with rfl | rfl
  · rw [if_pos ⟨rfl, .inl rfl⟩, hrun.1, hrun.2, hbe]
    simp only [th2]
    rfl
  · rw [if_pos ⟨rfl, .inr rfl⟩, hrun.1, hrun.2, hbe]
    simp only [th2]
    simp [sideW, n8]
theorem words_helpOf {ws : List Str} {x : Hr} (h : helpOf ws = some x) : ws = helpWords x ∧ (x.side = 0 ∨ x.side = 1) ∧ (∀ t ∈ x.takes, isTake t = true) ∧ ("" : Str) ∉ ws := by
  unfold helpOf at h
  by_cases hm : ("" : Str) ∈ ws
  · rw [if_pos hm] at h; cases h
  rw [if_neg hm] at h
  split at h
  · rename_i hw n s r
    split at h
    · rename_i e
      obtain ⟨e1, e2⟩ := e
      obtain ⟨th, ht, hx⟩ := Option.map_eq_some_iff.mp h
      subst hx
      have hr : r = r.takeWhile isTake ++ r.dropWhile isTake := (List.takeWhile_append_dropWhile ..).symm
      have hb : r.dropWhile isTake = (if (behind (r.dropWhile isTake)).1 = true then [("gives" : Str)] else []) ++ (behind (r.dropWhile isTake)).2 := by
        generalize r.dropWhile isTake = d
        cases d with
        | nil => rfl
        | cons a q =>
          unfold behind
          by_cases ea : a = "gives"
          · simp [ea]
          · simp [ea]
      have hth : (behind (r.dropWhile isTake)).2 = throwsW th := by
        generalize (behind (r.dropWhile isTake)).2 = d at ht
        unfold thrown at ht
        split at ht
        · cases ht; rfl
        · split at ht
          · rename_i ea
            cases ht
            simp [throwsW, ea]
          · cases ht
        · cases ht
      have hsd : s = sideW (if s = "0" then 0 else 1) := by
        unfold sideW
        rcases e2 with rfl | rfl
        · simp
        · simp [show ("1" : Str) ≠ "0" by decide +kernel]
      refine ⟨?_, ?_, fun t ht' => ?_, hm⟩
      · unfold helpWords
        dsimp only
        rw [← hth, ← hb, ← hr, ← hsd, e1]
      · dsimp only
        split
        · exact .inl rfl
        · exact .inr rfl
      · exact tw_all r t ht'
    · cases h
  · cases h
/-! ### all lines -/
/-- the row of a line; pairs stand ahead of the helpers -/
def stepR (o : Option (List Pr × List Hr)) (ws : List Str) : Option (List Pr × List Hr) :=
  match o with
  | none => none
  | some (ps, hs) => match pairOf ws, hs with
    | some q, [] => some (ps ++ [q], [])
    | _, _ => (helpOf ws).map fun x => (ps, hs ++ [x])
def readW (wss : List (List Str)) : Option (List Pr × List Hr) := wss.foldl stepR (some ([], []))
theorem readW_snoc (wss : List (List Str)) (ws : List Str) : readW (wss ++ [ws]) = stepR (readW wss) ws := by
  unfold readW
  rw [List.foldl_append]
  rfl
theorem readW_take {wss : List (List Str)} {i : Nat} {ws : List Str} (h : wss[i]? = some ws) : readW (wss.take (i + 1)) = stepR (readW (wss.take i)) ws := by
  rw [List.take_add_one, h, ← readW_snoc]
  rfl
theorem stepR_none (ws : List Str) : stepR none ws = none := rfl
theorem readW_stuck {wss : List (List Str)} : ∀ {i j : Nat}, i ≤ j → readW (wss.take i) = none → readW (wss.take j) = none
  | i, 0, h, e => by
    obtain rfl : i = 0 := by omega
    exact e
  | i, j + 1, h, e => by
    by_cases hij : i = j + 1
    · subst hij; exact e
    · have ih := readW_stuck (i := i) (j := j) (by omega) e
      cases hw : wss[j]? with
      | none =>
        have hl : wss.length ≤ j := List.getElem?_eq_none_iff.mp hw
        rw [List.take_of_length_le (by omega)]
        rw [List.take_of_length_le hl] at ih
        exact ih
      | some ws => rw [readW_take hw, ih]; rfl
/-- the first line without form -/
def BadAt (wss : List (List Str)) (n : Nat) : Prop := readW (wss.take n) ≠ none ∧ readW (wss.take (n + 1)) = none
theorem badAt_one {wss : List (List Str)} {n m : Nat} (h : BadAt wss n) (h2 : BadAt wss m) : n = m := by
  rcases Nat.lt_trichotomy n m with q | q | q
  · exact absurd (readW_stuck (by omega : n + 1 ≤ m) h.2) h2.1
  · exact q
  · exact absurd (readW_stuck (by omega : m + 1 ≤ n) h2.2) h.1
theorem badAt_all {wss : List (List Str)} {n : Nat} (h : BadAt wss n) (hn : n < wss.length) : readW wss = none := by
  have := readW_stuck (by omega : n + 1 ≤ wss.length) h.2
  rwa [List.take_length] at this
theorem stepR_some {o : Option (List Pr × List Hr)} {ws : List Str} {ps : List Pr} {hs : List Hr} (h : stepR o ws = some (ps, hs)) :
    (∃ qs q, o = some (qs, []) ∧ pairOf ws = some q ∧ ps = qs ++ [q] ∧ hs = []) ∨ ∃ ks x, o = some (ps, ks) ∧ helpOf ws = some x ∧ hs = ks ++ [x] := by
  cases o with
  | none => cases h
  | some st =>
    obtain ⟨qs, ks⟩ := st
    have two : ((helpOf ws).map fun x => (qs, ks ++ [x])) = some (ps, hs) → ∃ ls x, some (qs, ks) = some (ps, ls) ∧ helpOf ws = some x ∧ hs = ls ++ [x] := fun h => by
      obtain ⟨x, hx, e⟩ := Option.map_eq_some_iff.mp h
      cases e
      exact ⟨ks, x, rfl, hx, rfl⟩
    unfold stepR at h
    cases hq : pairOf ws with
    | none =>
      simp only [hq] at h
      exact .inr (two h)
    | some q =>
      cases ks with
      | nil =>
        simp only [hq] at h
        cases h
        exact .inl ⟨qs, q, rfl, rfl, rfl, rfl⟩
      | cons k ks =>
        simp only [hq] at h
        exact .inr (two h)
/-- the rows' words, all -/
def rowsWords (ps : List Pr) (hs : List Hr) : List (List Str) := ps.map pairWords ++ hs.map helpWords
structure ReadOk (ps : List Pr) (hs : List Hr) : Prop where
  pw : ∀ q ∈ ps, q.1 ≠ "" ∧ q.2.1 ≠ ""
  hw : ∀ x ∈ hs, x.name ≠ "" ∧ (x.side = 0 ∨ x.side = 1) ∧ (∀ t ∈ x.takes, isTake t = true) ∧ ∀ t ∈ x.throws, t ≠ ""
theorem read_words : ∀ (n : Nat) {wss : List (List Str)} {ps : List Pr} {hs : List Hr}, wss.length = n → readW wss = some (ps, hs) → wss = rowsWords ps hs ∧ ReadOk ps hs
  | 0, wss, ps, hs, hl, h => by
    obtain rfl := List.length_eq_zero_iff.mp hl
    cases h
    exact ⟨rfl, ⟨fun q hq => (List.not_mem_nil hq).elim, fun x hx => (List.not_mem_nil hx).elim⟩⟩
  | n + 1, wss, ps, hs, hl, h => by
    have ne : wss ≠ [] := fun e => by subst e; simp at hl
    obtain ⟨w0, ws, rfl⟩ : ∃ w0 ws, wss = w0 ++ [ws] := ⟨wss.dropLast, wss.getLast ne, (List.dropLast_concat_getLast ne).symm⟩
    rw [readW_snoc] at h
    have hl0 : w0.length = n := by simpa using hl
    rcases stepR_some h with ⟨qs, q, ho, hq, rfl, rfl⟩ | ⟨ks, x, ho, hx, rfl⟩
    · obtain ⟨e, ok⟩ := read_words n hl0 ho
      obtain ⟨ew, hno⟩ := words_pairOf hq
      refine ⟨?_, ⟨fun z hz => ?_, ok.hw⟩⟩
      · rw [e, ew]
        simp [rowsWords]
      · rcases List.mem_append.mp hz with q' | q'
        · exact ok.pw z q'
        · simp at q'
          subst q'
          rw [ew] at hno
          refine ⟨fun e => hno ?_, fun e => hno ?_⟩
          · rw [pairWords, e]; simp
          · rw [pairWords, e]; simp
    · obtain ⟨e, ok⟩ := read_words n hl0 ho
      obtain ⟨ew, sd, tk, hno⟩ := words_helpOf hx
      refine ⟨?_, ⟨ok.pw, fun z hz => ?_⟩⟩
      · rw [e, ew]
        simp [rowsWords]
      · rcases List.mem_append.mp hz with q' | q'
        · exact ok.hw z q'
        · simp at q'
          subst q'
          rw [ew] at hno
          refine ⟨fun e => hno ?_, sd, tk, fun t ht e => hno ?_⟩
          · rw [helpWords, e]; simp
          · subst e
            have : z.throws ≠ [] := fun q => by rw [q] at ht; cases ht
            simp [helpWords, throwsW, this, ht]
theorem readW_pairs : ∀ (n : Nat) {ps : List Pr}, ps.length = n → (∀ q ∈ ps, q.1 ≠ "" ∧ q.2.1 ≠ "") → readW (ps.map pairWords) = some (ps, [])
  | 0, ps, hl, _ => by
    obtain rfl := List.length_eq_zero_iff.mp hl
    rfl
  | n + 1, ps, hl, h => by
    have ne : ps ≠ [] := fun e => by subst e; simp at hl
    obtain ⟨p0, q, rfl⟩ : ∃ w0 ws, ps = w0 ++ [ws] := ⟨ps.dropLast, ps.getLast ne, (List.dropLast_concat_getLast ne).symm⟩
    have hl0 : p0.length = n := by simpa using hl
    have hq := h q (by simp)
    rw [List.map_append, List.map_cons, List.map_nil, readW_snoc, readW_pairs n hl0 fun z hz => h z (by simp [hz])]
    unfold stepR
    simp only [pairOf_words hq.1 hq.2]
theorem pairOf_help {x : Hr} : pairOf (helpWords x) = none := by
  unfold pairOf
  split
  · rfl
  · have e : ("helper" : Str) ≠ "word" := by decide +kernel
    unfold helpWords
    split
    · rename_i h
      injection h with h1 _
      rw [← h1, if_neg e]
    · rename_i h
      injection h with h1 _
      rw [← h1, if_neg (fun q => e q.1)]
    · rfl
theorem read_back : ∀ (n : Nat) {ps : List Pr} {hs : List Hr}, hs.length = n → ReadOk ps hs → readW (rowsWords ps hs) = some (ps, hs)
  | 0, ps, hs, hl, h => by
    obtain rfl := List.length_eq_zero_iff.mp hl
    unfold rowsWords
    rw [List.map_nil, List.append_nil]
    exact readW_pairs _ rfl h.pw
  | n + 1, ps, hs, hl, h => by
    have ne : hs ≠ [] := fun e => by subst e; simp at hl
    obtain ⟨k0, x, rfl⟩ : ∃ w0 ws, hs = w0 ++ [ws] := ⟨hs.dropLast, hs.getLast ne, (List.dropLast_concat_getLast ne).symm⟩
    have hl0 : k0.length = n := by simpa using hl
    have hx := h.hw x (by simp)
    have e : rowsWords ps (k0 ++ [x]) = rowsWords ps k0 ++ [helpWords x] := by simp [rowsWords]
    rw [e, readW_snoc, read_back n hl0 ⟨h.pw, fun z hz => h.hw z (by simp [hz])⟩]
    unfold stepR
    simp only [pairOf_help, helpOf_words hx.1 hx.2.1 hx.2.2.1 hx.2.2.2]
    rfl
/-- the text's lines, as words -/
def pgLines (page : Str) : List Str := if page = "" then [] else cut 10 page
def pgWords (page : Str) : List (List Str) := (pgLines page).map (cut 32)
def lineOf (ws : List Str) : Str := glue 32 ws
def pageOf (ps : List Pr) (hs : List Hr) : Str := glue 10 ((rowsWords ps hs).map lineOf)
/-- what is read is told again -/
theorem page_again {page : Str} {ps : List Pr} {hs : List Hr} (h : readW (pgWords page) = some (ps, hs)) : pageOf ps hs = page := by
  have e := (read_words _ rfl h).1
  unfold pageOf
  rw [← e]
  unfold pgWords pgLines
  rw [List.map_map]
  have e2 : lineOf ∘ cut 32 = id := funext fun x => glue_cut (by decide) x
  rw [e2, List.map_id]
  by_cases q : page = ""
  · rw [if_pos q, q]
    decide +kernel
  · rw [if_neg q]
    exact glue_cut (by decide) page
/-- words without a blank or a break -/
def wordOk (s : Str) : Prop := 32 ∉ s.cps.toList ∧ 10 ∉ s.cps.toList
theorem glue_break {c d : Nat} (hcd : c ≠ d) : ∀ {xs : List Str}, (∀ x ∈ xs, c ∉ x.cps.toList) → c ∉ (glue d xs).cps.toList := by
  intro xs h
  have e : xs = (xs.map fun x => x.cps.toList).map SX.S := by
    rw [List.map_map]
    have : (SX.S ∘ fun x : Str => x.cps.toList) = id := funext fun x => SX.S_tl x
    rw [this, List.map_id]
  have e2 : (glue d xs).cps.toList = TL.joinL [d] (xs.map fun x => x.cps.toList) := by
    have := glue_eq d (xs.map fun x => x.cps.toList)
    rw [← e] at this
    rw [this]
  rw [e2]
  clear e e2
  induction xs with
  | nil => simp [TL.joinL]
  | cons x r ih =>
    have h0 := h x List.mem_cons_self
    have ih := ih fun z hz => h z (List.mem_cons_of_mem _ hz)
    cases r with
    | nil => simpa [TL.joinL] using h0
    | cons y r =>
      rw [List.map_cons, List.map_cons, TL.joinL]
      simp only [List.mem_append, not_or]
      exact ⟨h0, by simpa using hcd, by simpa using ih⟩
theorem pgWords_page {ps : List Pr} {hs : List Hr} (h : ∀ ws ∈ rowsWords ps hs, ∀ w ∈ ws, wordOk w) : pgWords (pageOf ps hs) = rowsWords ps hs := by
  have nn : ∀ ws ∈ rowsWords ps hs, ws ≠ [] := fun ws hw => by
    unfold rowsWords at hw
    rcases List.mem_append.mp hw with q | q
    · obtain ⟨z, _, rfl⟩ := List.mem_map.mp q
      simp [pairWords]
    · obtain ⟨z, _, rfl⟩ := List.mem_map.mp q
      simp [helpWords]
  have back : ∀ ws ∈ rowsWords ps hs, cut 32 (lineOf ws) = ws := fun ws hw => cut_glue (by decide) (nn ws hw) fun p hp => (h ws hw p hp).1
  unfold pgWords pgLines
  by_cases e : rowsWords ps hs = []
  · unfold pageOf
    rw [e]
    have : glue 10 (List.map lineOf []) = "" := by decide +kernel
    rw [this, if_pos rfl]
    rfl
  · have hcut : cut 10 (pageOf ps hs) = (rowsWords ps hs).map lineOf := by
      refine cut_glue (by decide) (by simpa using e) fun p hp => ?_
      obtain ⟨ws, hw, rfl⟩ := List.mem_map.mp hp
      exact glue_break (by decide) fun w hx => (h ws hw w hx).2
    have hne : pageOf ps hs ≠ "" := fun q => by
      rw [q] at hcut
      have c0 : cut 10 "" = [("" : Str)] := by decide +kernel
      rw [c0] at hcut
      cases hr : rowsWords ps hs with
      | nil => exact e hr
      | cons ws r =>
        rw [hr] at hcut
        injection hcut with h1 _
        have b := back ws (by rw [hr]; simp)
        rw [← h1] at b
        have c1 : cut 32 "" = [("" : Str)] := by decide +kernel
        rw [c1] at b
        have m := (show ws ∈ rowsWords ps hs by rw [hr]; simp)
        unfold rowsWords at m
        have k1 : ("" : Str) ≠ "word" ∧ ("" : Str) ≠ "helper" := by decide +kernel
        rcases List.mem_append.mp m with q | q
        · obtain ⟨z, _, ez⟩ := List.mem_map.mp q
          rw [← ez, pairWords] at b
          injection b with b1 _
          exact k1.1 b1
        · obtain ⟨z, _, ez⟩ := List.mem_map.mp q
          rw [← ez, helpWords] at b
          injection b with b1 _
          exact k1.2 b1
    rw [if_neg hne, hcut, List.map_map]
    have : ∀ ws ∈ rowsWords ps hs, (cut 32 ∘ lineOf) ws = ws := back
    rw [List.map_congr_left this, List.map_id']
end My

set_option linter.all false
set_option maxRecDepth 100000
/-! dicts by texts -/
namespace My
open PySem L2
def dS (tx : List (Str × V)) : List (Key × V) := tx.map fun e => (Sum.inr e.1, e.2)
def valS {α : Type} (tx : List (Str × α)) (n : Str) : Option α := (tx.find? fun e => decide (e.1 = n)).map (·.2)
def putS {α : Type} (tx : List (Str × α)) (n : Str) (v : α) : List (Str × α) := if n ∈ tx.map (·.1) then tx.map fun e => if e.1 = n then (e.1, v) else e else tx ++ [(n, v)]
def dropS {α : Type} (tx : List (Str × α)) (n : Str) : List (Str × α) := tx.filter fun e => decide (e.1 ≠ n)
def onV {α : Type} (f : α → V) (tx : List (Str × α)) : List (Str × V) := tx.map fun e => (e.1, f e.2)
theorem keys_dS (tx : List (Str × V)) : ((dS tx).map fun kv => kV kv.1) = (tx.map (·.1)).map V.str := by
  unfold dS
  rw [List.map_map, List.map_map]
  rfl
theorem keys_onV {α : Type} (f : α → V) (tx : List (Str × α)) : (onV f tx).map (·.1) = tx.map (·.1) := by
  unfold onV
  rw [List.map_map]
  rfl
theorem valS_onV {α : Type} (f : α → V) (n : Str) : ∀ tx : List (Str × α), valS (onV f tx) n = (valS tx n).map f
  | [] => rfl
  | e :: r => by
    have ih := valS_onV f n r
    unfold valS onV at ih ⊢
    rw [List.map_cons, List.find?_cons, List.find?_cons]
    by_cases h : e.1 = n
    · rw [decide_eq_true h]
      rfl
    · rw [decide_eq_false h]
      exact ih
theorem val_dS (n : Str) : ∀ tx : List (Str × V), valV (dS tx) (.inr n) = valS tx n
  | [] => rfl
  | e :: r => by
    have ih := val_dS n r
    have c : dS (e :: r) = (Sum.inr e.1, e.2) :: dS r := rfl
    rw [c]
    by_cases h : e.1 = n
    · rw [valV_pos (by rw [h])]
      unfold valS
      rw [List.find?_cons, decide_eq_true h]
      rfl
    · rw [valV_neg (fun q => h (by injection q)), ih]
      unfold valS
      rw [List.find?_cons, decide_eq_false h]
theorem val_in {α : Type} {tx : List (Str × α)} {n : Str} : (valS tx n).isSome = decide (n ∈ tx.map (·.1)) := by
  induction tx with
  | nil => rfl
  | cons e r ih =>
    unfold valS at ih ⊢
    rw [List.find?_cons]
    by_cases h : e.1 = n
    · rw [decide_eq_true h]
      simp [h]
    · rw [decide_eq_false h]
      simp only
      rw [ih]
      have : (n ∈ (e :: r).map (·.1)) ↔ n ∈ r.map (·.1) := by
        rw [List.map_cons, List.mem_cons]
        exact ⟨fun q => q.resolve_left fun z => h z.symm, .inr⟩
      exact decide_eq_decide.mpr this.symm
theorem val_some {α : Type} {tx : List (Str × α)} {n : Str} (h : n ∈ tx.map (·.1)) : ∃ v, valS tx n = some v := by
  have := val_in (tx := tx) (n := n)
  rw [decide_eq_true h] at this
  exact Option.isSome_iff_exists.mp this
theorem val_none {α : Type} {tx : List (Str × α)} {n : Str} (h : n ∉ tx.map (·.1)) : valS tx n = none := by
  have := val_in (tx := tx) (n := n)
  rw [decide_eq_false h] at this
  cases e : valS tx n with
  | none => rfl
  | some v => rw [e] at this; cases this
theorem val_mem {α : Type} {tx : List (Str × α)} {n : Str} {v : α} (h : valS tx n = some v) : (n, v) ∈ tx := by
  unfold valS at h
  obtain ⟨e, he, rfl⟩ := Option.map_eq_some_iff.mp h
  have h1 := List.mem_of_find?_eq_some he
  have h2 := List.find?_some he
  have : e.1 = n := of_decide_eq_true h2
  rw [← this]
  exact h1
theorem any_dS (tx : List (Str × V)) (n : Str) : ((dS tx).any fun kv => decide (kv.1 = (Sum.inr n : Key))) = decide (n ∈ tx.map (·.1)) := by
  rw [valV_any, val_dS, val_in]
theorem put_dS (tx : List (Str × V)) (n : Str) (v : V) : putK (dS tx) (.inr n) v = dS (putS tx n v) := by
  unfold putK putS
  rw [any_dS]
  by_cases h : n ∈ tx.map (·.1)
  · rw [decide_eq_true h, if_pos rfl, if_pos h]
    unfold dS
    rw [List.map_map, List.map_map]
    refine List.map_congr_left fun e _ => ?_
    show (if (Sum.inr e.1 : Key) = Sum.inr n then ((Sum.inr e.1 : Key), v) else (Sum.inr e.1, e.2)) = ((fun e : Str × V => ((Sum.inr e.1 : Key), e.2)) (if e.1 = n then (e.1, v) else e))
    by_cases q : e.1 = n
    · rw [if_pos (by rw [q]), if_pos q]
    · rw [if_neg (fun z => q (by injection z)), if_neg q]
  · rw [decide_eq_false h, if_neg Bool.false_ne_true, if_neg h]
    unfold dS
    rw [List.map_append]
    rfl
theorem drop_dS (tx : List (Str × V)) (n : Str) : dropK (dS tx) (.inr n) = dS (dropS tx n) := by
  unfold dropK dropS dS
  rw [List.filter_map]
  congr 1
  refine List.filter_congr fun e _ => ?_
  show decide ((Sum.inr e.1 : Key) ≠ Sum.inr n) = decide (e.1 ≠ n)
  refine decide_eq_decide.mpr ⟨fun h q => h (by rw [q]), fun h q => h (by injection q)⟩
theorem put_onV {α : Type} (f : α → V) (tx : List (Str × α)) (n : Str) (v : α) : putS (onV f tx) n (f v) = onV f (putS tx n v) := by
  unfold putS
  rw [keys_onV]
  by_cases h : n ∈ tx.map (·.1)
  · rw [if_pos h, if_pos h]
    unfold onV
    rw [List.map_map, List.map_map]
    refine List.map_congr_left fun e _ => ?_
    show (if e.1 = n then (e.1, f v) else (e.1, f e.2)) = ((fun e : Str × α => (e.1, f e.2)) (if e.1 = n then (e.1, v) else e))
    by_cases q : e.1 = n
    · rw [if_pos q, if_pos q]
    · rw [if_neg q, if_neg q]
  · rw [if_neg h, if_neg h]
    unfold onV
    rw [List.map_append]
    rfl
theorem drop_onV {α : Type} (f : α → V) (tx : List (Str × α)) (n : Str) : dropS (onV f tx) n = onV f (dropS tx n) := by
  unfold dropS onV
  rw [List.filter_map]
  rfl
theorem keys_put {α : Type} (tx : List (Str × α)) (n : Str) (v : α) : (putS tx n v).map (·.1) = if n ∈ tx.map (·.1) then tx.map (·.1) else tx.map (·.1) ++ [n] := by
  unfold putS
  by_cases h : n ∈ tx.map (·.1)
  · rw [if_pos h, if_pos h, List.map_map]
    refine List.map_congr_left fun e _ => ?_
    show (if e.1 = n then (e.1, v) else e).1 = e.1
    split <;> rfl
  · rw [if_neg h, if_neg h, List.map_append]
    rfl
theorem nd_put {α : Type} {tx : List (Str × α)} (nd : (tx.map (·.1)).Nodup) (n : Str) (v : α) : ((putS tx n v).map (·.1)).Nodup := by
  rw [keys_put]
  split
  · exact nd
  · rename_i h
    exact nd_snoc nd h
theorem keys_drop {α : Type} (tx : List (Str × α)) (n : Str) : (dropS tx n).map (·.1) = (tx.map (·.1)).filter fun k => decide (k ≠ n) := by
  unfold dropS
  rw [List.filter_map]
  rfl
theorem nd_drop {α : Type} {tx : List (Str × α)} (nd : (tx.map (·.1)).Nodup) (n : Str) : ((dropS tx n).map (·.1)).Nodup := by
  rw [keys_drop]
  exact nd.filter _
theorem len_put {α : Type} (tx : List (Str × α)) (n : Str) (v : α) : (putS tx n v).length ≤ tx.length + 1 := by
  unfold putS
  split
  · rw [List.length_map]; omega
  · rw [List.length_append]; exact Nat.le_refl _
theorem mem_put {α : Type} {tx : List (Str × α)} {n : Str} {v : α} {e : Str × α} (h : e ∈ putS tx n v) : e = (n, v) ∨ e ∈ tx := by
  unfold putS at h
  split at h
  · obtain ⟨z, hz, rfl⟩ := List.mem_map.mp h
    by_cases q : z.1 = n
    · rw [if_pos q, q]
      exact .inl rfl
    · rw [if_neg q]
      exact .inr hz
  · rcases List.mem_append.mp h with q | q
    · exact .inr q
    · exact .inl (List.mem_singleton.mp q)
theorem val_put {α : Type} (tx : List (Str × α)) (n k : Str) (v : α) : valS (putS tx n v) k = if k = n then some v else valS tx k := by
  unfold putS
  split
  · rename_i hin
    have key : ∀ l : List (Str × α), valS (l.map fun e => if e.1 = n then (e.1, v) else e) k = if k = n then (valS l k).map fun _ => v else valS l k := by
      intro l
      induction l with
      | nil => split <;> rfl
      | cons e r ih =>
        unfold valS at ih ⊢
        rw [List.map_cons, List.find?_cons, List.find?_cons]
        by_cases q : e.1 = n
        · rw [if_pos q]
          by_cases z : e.1 = k
          · rw [decide_eq_true z, if_pos (z.symm.trans q)]
            rfl
          · rw [decide_eq_false z]
            exact ih
        · rw [if_neg q]
          by_cases z : e.1 = k
          · rw [decide_eq_true z, if_neg (fun w => q (z.trans w))]
          · rw [decide_eq_false z]
            exact ih
    rw [key]
    split
    · rename_i e
      subst e
      obtain ⟨u, hu⟩ := val_some hin
      rw [hu]
      rfl
    · rfl
  · rename_i h
    have key : ∀ l : List (Str × α), n ∉ l.map (·.1) → valS (l ++ [(n, v)]) k = if k = n then some v else valS l k := by
      intro l
      induction l with
      | nil =>
        intro _
        unfold valS
        by_cases z : n = k
        · simp [z]
        · have z2 : ¬ k = n := fun w => z w.symm
          simp [z, z2]
      | cons e r ih =>
        intro hn
        rw [List.map_cons, List.mem_cons, not_or] at hn
        have ih := ih hn.2
        unfold valS at ih ⊢
        rw [List.cons_append, List.find?_cons, List.find?_cons]
        by_cases z : e.1 = k
        · rw [decide_eq_true z, if_neg (fun w => hn.1 (w.symm.trans z.symm))]
        · rw [decide_eq_false z]
          exact ih
    exact key tx h
theorem val_drop {α : Type} (tx : List (Str × α)) (n k : Str) : valS (dropS tx n) k = if k = n then none else valS tx k := by
  induction tx with
  | nil => split <;> rfl
  | cons e r ih =>
    unfold valS dropS at ih ⊢
    rw [List.filter_cons]
    by_cases q : e.1 = n
    · rw [if_neg (by simp [q]), ih, List.find?_cons]
      by_cases z : k = n
      · rw [if_pos z, if_pos z]
      · rw [if_neg z, if_neg z, decide_eq_false (fun w => z (w.symm.trans q))]
    · rw [if_pos (by simp [q]), List.find?_cons, List.find?_cons]
      by_cases z : e.1 = k
      · rw [decide_eq_true z, if_neg (fun w => q (z.trans w))]
      · rw [decide_eq_false z]
        exact ih
end My

set_option linter.all false
/-! texts in their order -/
namespace My
open PySem PySem.Spec PyProof.Rows
def leS (a b : Str) : Prop := ltCps b.cps.toList a.cps.toList = false
theorem lt_nil : ∀ a : List Nat, ltCps a [] = false
  | [] => rfl
  | _ :: _ => rfl
theorem le_trans_cps : ∀ {a b c : List Nat}, ltCps b a = false → ltCps c b = false → ltCps c a = false
  | [], _, c, _, _ => lt_nil c
  | _ :: _, [], _, h, _ => by cases h
  | _ :: _, _ :: _, [], _, h => by cases h
  | x :: a, y :: b, z :: c, h1, h2 => by
    unfold ltCps at h1 h2 ⊢
    simp only [Bool.or_eq_false_iff, decide_eq_false_iff_not, Bool.and_eq_false_imp, beq_iff_eq, Nat.not_lt] at h1 h2 ⊢
    refine ⟨by omega, fun e => ?_⟩
    have exy : y = x := by omega
    have ezy : z = y := by omega
    exact le_trans_cps (h1.2 exy) (h2.2 ezy)
theorem le_anti_cps : ∀ {a b : List Nat}, ltCps b a = false → ltCps a b = false → a = b
  | [], [], _, _ => rfl
  | [], _ :: _, _, h => by cases h
  | _ :: _, [], h, _ => by cases h
  | x :: a, y :: b, h1, h2 => by
    unfold ltCps at h1 h2
    simp only [Bool.or_eq_false_iff, decide_eq_false_iff_not, Bool.and_eq_false_imp, beq_iff_eq, Nat.not_lt] at h1 h2
    have e : x = y := by omega
    subst e
    rw [le_anti_cps (h1.2 rfl) (h2.2 rfl)]
theorem leS.trans {a b c : Str} (h1 : leS a b) (h2 : leS b c) : leS a c := le_trans_cps h1 h2
theorem leS.anti {a b : Str} (h1 : leS a b) (h2 : leS b a) : a = b := TL.ext_tl (le_anti_cps h1 h2)
theorem rising_pair : ∀ (p : Str) (l : List Str), risingS p l = true → (p :: l).Pairwise leS
  | p, [], _ => List.pairwise_singleton _ _
  | p, x :: r, h => by
    unfold risingS at h
    simp only [Bool.and_eq_true, Bool.not_eq_true'] at h
    have ih := rising_pair x r h.2
    have px : leS p x := h.1
    refine List.pairwise_cons.mpr ⟨fun y hy => ?_, ih⟩
    rcases List.mem_cons.mp hy with rfl | q
    · exact px
    · exact px.trans ((List.pairwise_cons.mp ih).1 y q)
theorem sorted_pair : ∀ {l : List Str}, sortedS l = true → l.Pairwise leS
  | [], _ => List.Pairwise.nil
  | x :: r, h => rising_pair x r h
theorem leS.refl (a : Str) : leS a a := by
  have key : ∀ l : List Nat, ltCps l l = false := by
    intro l
    induction l with
    | nil => rfl
    | cons x r ih => unfold ltCps; simp [ih]
  exact key _
/-- the first one of a kind in the sorted whole is the first of the sorted ones of that kind -/
theorem first_sorted {P : Str → Prop} {all am ys zs : List Str} {k : Nat} {n m : Str} (py : ys.Perm all) (sy : sortedS ys = true) (pz : zs.Perm am) (sz : sortedS zs = true) (ham : ∀ x, x ∈ am ↔ x ∈ all ∧ P x)
    (hk : ys[k]? = some n) (hp : P n) (fst : ∀ j z, j < k → ys[j]? = some z → ¬ P z) (hm : zs[0]? = some m) : n = m := by
  have my : n ∈ zs := pz.mem_iff.mpr ((ham n).mpr ⟨py.mem_iff.mp (List.mem_of_getElem? hk), hp⟩)
  have mm := (ham m).mp (pz.mem_iff.mp (List.mem_of_getElem? hm))
  obtain ⟨r, rfl⟩ : ∃ r, zs = m :: r := by
    cases zs with
    | nil => cases hm
    | cons a r => exact ⟨r, by rw [Option.some.inj hm]⟩
  have le1 : leS m n := by
    rcases List.mem_cons.mp my with rfl | q
    · exact leS.refl _
    · exact (List.pairwise_cons.mp (sorted_pair sz)).1 n q
  obtain ⟨j, hj, ej⟩ := List.getElem_of_mem (py.mem_iff.mpr mm.1)
  have hj2 : ys[j]? = some m := by rw [List.getElem?_eq_getElem hj, ej]
  have hjk : ¬ j < k := fun q => fst j m q hj2 mm.2
  have le2 : leS n m := by
    by_cases e : j = k
    · subst e
      rw [hk] at hj2
      rw [Option.some.inj hj2]
      exact leS.refl _
    · have pw := List.pairwise_iff_getElem.mp (sorted_pair sy)
      obtain ⟨hkl, ek⟩ := List.getElem?_eq_some_iff.mp hk
      have := pw k j hkl hj (by omega)
      rw [ek, ej] at this
      exact this
  exact le2.anti le1
/-- .. there is a first one -/
theorem first_of {P : Str → Prop} [DecidablePred P] {ys : List Str} (h : ∃ x, x ∈ ys ∧ P x) : ∃ (k : Nat) (n : Str), ys[k]? = some n ∧ P n ∧ ∀ (j : Nat) (z : Str), j < k → ys[j]? = some z → ¬ P z := by
  induction ys with
  | nil =>
    obtain ⟨x, hx, _⟩ := h
    cases hx
  | cons a r ih =>
    by_cases c : P a
    · exact ⟨0, a, rfl, c, fun j z hj => absurd hj (Nat.not_lt_zero j)⟩
    · obtain ⟨k, n, h1, h2, h3⟩ := ih (by
        obtain ⟨x, hx, px⟩ := h
        rcases List.mem_cons.mp hx with rfl | q
        · exact absurd px c
        · exact ⟨x, q, px⟩)
      refine ⟨k + 1, n, h1, h2, fun j z hj hz => ?_⟩
      cases j with
      | zero => rw [← Option.some.inj hz]; exact c
      | succ j => exact h3 j z (by omega) hz
end My

set_option linter.all false
set_option maxRecDepth 100000
set_option maxHeartbeats 4000000
/-! list.remove of a text -/
namespace L2
open PySem PySem.Spec PyProof.Rows
def likeS (z : Str) (v : Value) : Bool := match v with
  | .str y _ => y.cps.toList == z.cps.toList
  | _ => false
theorem likeS_eq {y z : Str} {t : Tok} : likeS z (.str y t) = decide (y = z) := by
  show (y.cps.toList == z.cps.toList) = _
  by_cases h : y = z
  · subst h; simp
  · rw [decide_eq_false h]
    refine beq_eq_false_iff_ne.mpr fun q => h ?_
    cases y; cases z
    exact congrArg Str.mk (Array.toList_inj.mp q)
theorem erase_strs (l : List Str) : ∀ j : Nat, (l.map V.str).eraseIdx j = (l.eraseIdx j).map V.str := by
  induction l with
  | nil => intro j; rfl
  | cons b q ih =>
    intro j
    cases j with
    | zero => rfl
    | succ j => exact congrArg (V.str b :: ·) (ih j)
section
variable {X : Cx}
def rRemS : V → List V → Hp → VK → Prop := fun x xs H Q => ∃ (l : Addr) (ws : List Str) (z : Str) (j : Nat), x = .ref l ∧ xs = [.str z] ∧ H l = some (.lst (ws.map V.str)) ∧ ws[j]? = some z ∧ (∀ m : Nat, m < j → ws[m]? ≠ some z) ∧ Q .non (upd H l (.lst ((ws.eraseIdx j).map V.str)))
theorem mt_removeS : MtM X "list.remove" rRemS := by
  intro pz s σ H x xs v us Q I rx rxs h
  obtain ⟨l, ws, z, j, rfl, rfl, hl, hj, hno, q⟩ := h
  cases rx
  obtain ⟨u, rfl, t, rfl⟩ := vals1 rxs
  obtain ⟨sz, its, n, r, hlen, e⟩ := I.lstM hl
  have at' : ∀ (m : Nat) (hm : m < its.toArray.size), ∃ y t', ws[m]? = some y ∧ its.toArray[m] = Value.str y t' := fun m hm => by
    have hw : m < ws.length := by
      have := r.length
      rw [List.length_map] at this
      rw [List.size_toArray] at hm
      omega
    obtain ⟨o, ho, t', ho'⟩ := r.get (i := m) (x := .str ws[m]) (by simp [hw])
    refine ⟨ws[m], t', List.getElem?_eq_getElem hw, ?_⟩
    have e1 := (List.getElem?_eq_some_iff.mp ho).2
    rw [← ho', ← e1]
    simp
  have hjl : j < its.toArray.size := by
    have h1 := (List.getElem?_eq_some_iff.mp hj).1
    have := r.length
    rw [List.length_map] at this
    rw [List.size_toArray]
    omega
  have all : ∀ y ∈ its.toArray, MeetsSeq.EqGives y (.str z t) (likeS z y) := fun y hy => by
    obtain ⟨m, hm, rfl⟩ := Array.mem_iff_getElem.mp hy
    obtain ⟨y, t', _, h2⟩ := at' m hm
    rw [h2]
    exact SeqRoads2.EqGives.str y z t' t
  refine call_meets PySem.F.slot_list_remove ⟨_, e, rfl⟩ PySem.F.entry_list_remove (PySem.F.args_list_remove_2 _ _) (MeetsSeq.list_remove l its.toArray n (.str z t) (likeS z) all j hjl ?_ ?_ ?_) ⟨e, ?_⟩
  · obtain ⟨y, t', h1, h2⟩ := at' j hjl
    rw [h2, likeS_eq]
    obtain rfl := Option.some.inj (h1.symm.trans hj)
    exact decide_eq_true rfl
  · intro m hm hmj
    obtain ⟨y, t', h1, h2⟩ := at' m hm
    rw [h2, likeS_eq]
    exact decide_eq_false fun q2 => hno m hmj (q2 ▸ h1)
  · rw [List.size_toArray]; omega
  · have rr := r.eraseIdx j
    rw [erase_strs] at rr
    refine ⟨.non, _, I.lset (its' := its.eraseIdx j) (t' := s.toks) hl e ?_ rr ?_, rfl, q⟩
    · show its.toArray.eraseIdxIfInBounds j = (its.eraseIdx j).toArray
      rw [List.eraseIdxIfInBounds_toArray]
    · have := List.length_eraseIdx_le ws j
      simp only [List.length_map] at *
      omega
end
end L2

set_option linter.all false
set_option maxRecDepth 100000
set_option maxHeartbeats 4000000
/-! a text times 0 or 1 -/
namespace L2
open PySem PySem.Spec PyProof.Rows
section
variable {X : Cx}
theorem op_mulS : OpR X (binaryOp .Mult) (fun x y H Q => ∃ (i : Str) (b : Bool), x = .str i ∧ y = .int (if b then 1 else 0) ∧ Q (.str (if b then i else Str.empty)) H) := by
  intro pz s σ H x y v u Q I rx ry h
  obtain ⟨i, b, rfl, rfl, q⟩ := h
  obtain ⟨t, rfl⟩ := rx
  obtain ⟨t', rfl⟩ := ry
  cases b with
  | false => exact PySem.P.mul_str_none (by decide) (by decide) ⟨.str Str.empty, H, I.tok _, ⟨_, rfl⟩, q⟩
  | true =>
    refine PySem.P.mul_str (by decide) (fun _ c => ?_) (fun _ c => ?_) ?_
    · simp at c
    · simp at c
    · have e1 : ¬ ((if true = true then (1 : Int) else 0) < 1) := by decide
      have e2 : (((if true = true then (1 : Int) else 0) == 1) || (i.length == 0)) = true := rfl
      rw [if_neg e1, if_pos e2]
      exact ⟨.str i, H, I, ⟨_, rfl⟩, q⟩
end
end L2

set_option linter.all false
set_option maxRecDepth 100000
/-! a text cut, one word behind another -/
open PySem L2
namespace My
theorem spl_none (c : Nat) : ∀ (y acc : List Nat), c ∉ y → TL.spl [c] 0 acc y = [acc ++ y]
  | [], acc, _ => by rw [TL.spl_nil]; simp
  | d :: r, acc, h => by
    have e : ¬ d = c := fun q => h (by simp [q])
    have ih := spl_none c r (acc ++ [d]) (fun q => h (List.mem_cons_of_mem _ q))
    rw [spl1, if_neg e, ih]
    simp
theorem spl_put (c : Nat) {y : List Nat} (hy : c ∉ y) : ∀ (l acc : List Nat), TL.spl [c] 0 acc (l ++ c :: y) = TL.spl [c] 0 acc l ++ [y]
  | [], acc => by
    rw [List.nil_append, spl1, if_pos rfl, spl_none c y [] hy, TL.spl_nil]
    simp
  | d :: r, acc => by
    rw [List.cons_append, spl1, spl1]
    by_cases e : d = c
    · rw [if_pos e, if_pos e, spl_put c hy r []]
      rfl
    · rw [if_neg e, if_neg e, spl_put c hy r (acc ++ [d])]
theorem cut_put {c : Nat} (hc : c < 256) (x : Str) {y : Str} (hy : c ∉ y.cps.toList) : cut c (x ++ (⟨#[c]⟩ ++ y)) = cut c x ++ [y] := by
  have e : (x ++ (⟨#[c]⟩ ++ y)).cps.toList = x.cps.toList ++ c :: y.cps.toList := by
    show (x.cps ++ (#[c] ++ y.cps)).toList = _
    simp
  rw [cut_eq hc, cut_eq hc, e, spl_put c hy, List.map_append]
  rw [List.map_cons, List.map_nil, SX.S_tl]
theorem cut_whole {c : Nat} (hc : c < 256) {y : Str} (hy : c ∉ y.cps.toList) : cut c y = [y] := by
  rw [cut_eq hc, spl_none c _ _ hy]
  show [SX.S y.cps.toList] = [y]
  rw [SX.S_tl]
end My

set_option Elab.async false
set_option linter.all false
set_option maxRecDepth 100000
set_option maxHeartbeats 4000000
namespace Lw
open PySem L2
local macro_rules | `(tactic| walk_at "hp") => `(tactic| (repeat (first | exact upd_same | assumption | (refine (upd_ne (by first | assumption | exact Ne.symm (by assumption) | exact ne_of_none (by assumption) (by assumption) | exact Ne.symm (ne_of_none (by assumption) (by assumption)))).trans ?_))))
local macro_rules | `(tactic| walk_at "r1") => `(tactic| (first
  | (refine ⟨_, rfl, ?_⟩) | (refine ⟨_, _, rfl, rfl, ?_⟩) | (refine ⟨_, _, _, _, rfl, rfl, SqL.of (by walk_at "hp"), rfl, ?_⟩) | (refine ⟨_, _, _, _, rfl, rfl, (by walk_at "hp"), rfl, ?_⟩) | (refine ⟨rfl, ?_⟩)
  | (refine ⟨_, .inl ⟨_, SqL.of (by walk_at "hp"), rfl⟩, ?_⟩) | (refine ⟨_, _, rfl, .inl (SqL.of (by walk_at "hp")), ?_⟩) | (refine ⟨.inl ⟨rfl, _, SqL.of (by walk_at "hp")⟩, ?_⟩)
  | (refine ⟨_, _, _, _, _, rfl, (by walk_at "hp"), (by assumption), (by assumption), (by assumption), ?_⟩) | (refine ⟨_, _, _, _, rfl, (by walk_at "hp"), (by assumption), (by assumption), (by first | (show 0 < 1000; decide) | (show 1 < 1000; decide) | (show 2 < 1000; decide) | (show 3 < 1000; decide) | (show 4 < 1000; decide)), ?_⟩)
  | (refine ⟨(by show (0 : Int) < _; first | decide | omega), ?_⟩) | (refine ⟨⟨by assumption, by assumption⟩, ?_⟩) | (refine ⟨.inl ⟨by decide, by decide⟩, ?_⟩) | (refine ⟨.inr ⟨by decide, by decide⟩, ?_⟩)))
local macro_rules | `(tactic| walk_at "rd") => `(tactic| (repeat walk_at "r1"))
def top (i : Nat) : Stmt := PySem.Challenge.pw_pactford_k09_rows_read.main.body.getD i (.Pass ⟨0, 0, 0, 0⟩)
abbrev s_NoHelper_init : Stmt := inClass (top 4) 0
theorem sc_NoHelper_init : FnScope ["self", "name"] ["self", "name"] (defScope s_NoHelper_init) := ⟨rfl, rfl, rfl, by decide +kernel, rfl, by decide +kernel, by decide +kernel⟩
abbrev s_NoWord_init : Stmt := inClass (top 2) 0
theorem sc_NoWord_init : FnScope ["self", "word"] ["self", "word"] (defScope s_NoWord_init) := ⟨rfl, rfl, rfl, by decide +kernel, rfl, by decide +kernel, by decide +kernel⟩
abbrev s_NoBody_init : Stmt := inClass (top 5) 0
theorem sc_NoBody_init : FnScope ["self", "name", "at"] ["self", "name", "at"] (defScope s_NoBody_init) := ⟨rfl, rfl, rfl, by decide +kernel, rfl, by decide +kernel, by decide +kernel⟩
abbrev s_NoRow_init : Stmt := inClass (top 6) 0
theorem sc_NoRow_init : FnScope ["self", "at"] ["self", "at"] (defScope s_NoRow_init) := ⟨rfl, rfl, rfl, by decide +kernel, rfl, by decide +kernel, by decide +kernel⟩
abbrev s_is_whole : Stmt := top 29
theorem sc_is_whole : FnScope ["thing"] ["thing"] (defScope s_is_whole) := ⟨rfl, rfl, rfl, by decide +kernel, rfl, by decide +kernel, by decide +kernel⟩
abbrev s_is_side : Stmt := top 30
theorem sc_is_side : FnScope ["thing"] ["thing"] (defScope s_is_side) := ⟨rfl, rfl, rfl, by decide +kernel, rfl, by decide +kernel, by decide +kernel⟩
abbrev s_is_name : Stmt := top 31
theorem sc_is_name : FnScope ["thing", "sign"] ["thing"] (defScope s_is_name) := ⟨rfl, rfl, rfl, by decide +kernel, rfl, by decide +kernel, by decide +kernel⟩
abbrev s_place_of : Stmt := top 11
theorem sc_place_of : FnScope ["word"] ["word"] (defScope s_place_of) := ⟨rfl, rfl, rfl, by decide +kernel, rfl, by decide +kernel, by decide +kernel⟩
abbrev s_pocket_of : Stmt := top 12
theorem sc_pocket_of : FnScope ["word", "place"] ["word"] (defScope s_pocket_of) := ⟨rfl, rfl, rfl, by decide +kernel, rfl, by decide +kernel, by decide +kernel⟩
abbrev s_read_rows : Stmt := top 16
theorem sc_read_rows : FnScope ["pacts", "name", "texts", "most", "reader", "steps", "at", "text", "step"] ["pacts", "name", "texts", "most"] (defScope s_read_rows) := ⟨rfl, rfl, rfl, by decide +kernel, rfl, by decide +kernel, by decide +kernel⟩
abbrev s_RowReader_init : Stmt := inClass (top 17) 0
theorem sc_RowReader_init : FnScope ["self", "pacts", "name", "many"] ["self", "pacts", "name", "many"] (defScope s_RowReader_init) := ⟨rfl, rfl, rfl, by decide +kernel, rfl, by decide +kernel, by decide +kernel⟩
abbrev s_RowReader_step : Stmt := inClass (top 17) 1
theorem sc_RowReader_step : FnScope ["self", "at", "words", "word"] ["self", "at", "words"] (defScope s_RowReader_step) := ⟨rfl, rfl, rfl, by decide +kernel, rfl, by decide +kernel, by decide +kernel⟩
abbrev s_RowReader_p_pocket_row : Stmt := inClass (top 17) 2
theorem sc_RowReader_p_pocket_row : FnScope ["self", "words", "pocket"] ["self", "words"] (defScope s_RowReader_p_pocket_row) := ⟨rfl, rfl, rfl, by decide +kernel, rfl, by decide +kernel, by decide +kernel⟩
abbrev s_RowReader_p_use : Stmt := inClass (top 17) 3
theorem sc_RowReader_p_use : FnScope ["self", "words"] ["self", "words"] (defScope s_RowReader_p_use) := ⟨rfl, rfl, rfl, by decide +kernel, rfl, by decide +kernel, by decide +kernel⟩
abbrev s_RowReader_p_move : Stmt := inClass (top 17) 4
theorem sc_RowReader_p_move : FnScope ["self", "words", "pockets", "word"] ["self", "words"] (defScope s_RowReader_p_move) := ⟨rfl, rfl, rfl, by decide +kernel, rfl, by decide +kernel, by decide +kernel⟩
abbrev s_RowReader_p_jump : Stmt := inClass (top 17) 5
theorem sc_RowReader_p_jump : FnScope ["self", "at", "words", "row"] ["self", "at", "words"] (defScope s_RowReader_p_jump) := ⟨rfl, rfl, rfl, by decide +kernel, rfl, by decide +kernel, by decide +kernel⟩
abbrev s_RowReader_p_row_number : Stmt := inClass (top 17) 6
theorem sc_RowReader_p_row_number : FnScope ["self", "word", "sign"] ["self", "word"] (defScope s_RowReader_p_row_number) := ⟨rfl, rfl, rfl, by decide +kernel, rfl, by decide +kernel, by decide +kernel⟩
abbrev s_RowReader_p_throw : Stmt := inClass (top 17) 7
theorem sc_RowReader_p_throw : FnScope ["self", "words", "laden"] ["self", "words"] (defScope s_RowReader_p_throw) := ⟨rfl, rfl, rfl, by decide +kernel, rfl, by decide +kernel, by decide +kernel⟩
abbrev s_RowReader_p_laden : Stmt := inClass (top 17) 8
theorem sc_RowReader_p_laden : FnScope ["self", "word"] ["self", "word"] (defScope s_RowReader_p_laden) := ⟨rfl, rfl, rfl, by decide +kernel, rfl, by decide +kernel, by decide +kernel⟩
abbrev s_RowReader_p_done : Stmt := inClass (top 17) 9
theorem sc_RowReader_p_done : FnScope ["self", "words"] ["self", "words"] (defScope s_RowReader_p_done) := ⟨rfl, rfl, rfl, by decide +kernel, rfl, by decide +kernel, by decide +kernel⟩
abbrev s_RowReader_p_end : Stmt := inClass (top 17) 10
theorem sc_RowReader_p_end : FnScope ["self", "word", "pockets", "pocket"] ["self", "word", "pockets"] (defScope s_RowReader_p_end) := ⟨rfl, rfl, rfl, by decide +kernel, rfl, by decide +kernel, by decide +kernel⟩
abbrev s_RowReader_p_call : Stmt := inClass (top 17) 11
theorem sc_RowReader_p_call : FnScope ["self", "words", "called", "name", "_", "takes", "gives", "behind", "handed", "to", "catches"] ["self", "words"] (defScope s_RowReader_p_call) := ⟨rfl, rfl, rfl, by decide +kernel, rfl, by decide +kernel, by decide +kernel⟩
abbrev s_RowReader_p_called : Stmt := inClass (top 17) 12
theorem sc_RowReader_p_called : FnScope ["self", "name"] ["self", "name"] (defScope s_RowReader_p_called) := ⟨rfl, rfl, rfl, by decide +kernel, rfl, by decide +kernel, by decide +kernel⟩
abbrev s_RowReader_p_handed : Stmt := inClass (top 17) 13
theorem sc_RowReader_p_handed : FnScope ["self", "words", "takes", "handed", "at", "take", "given", "place"] ["self", "words", "takes"] (defScope s_RowReader_p_handed) := ⟨rfl, rfl, rfl, by decide +kernel, rfl, by decide +kernel, by decide +kernel⟩
abbrev s_RowReader_p_to : Stmt := inClass (top 17) 14
theorem sc_RowReader_p_to : FnScope ["self", "words"] ["self", "words"] (defScope s_RowReader_p_to) := ⟨rfl, rfl, rfl, by decide +kernel, rfl, by decide +kernel, by decide +kernel⟩
abbrev s_RowReader_p_catches : Stmt := inClass (top 17) 15
theorem sc_RowReader_p_catches : FnScope ["self", "name", "words", "errors", "catches", "laden", "pocket", "behind", "row"] ["self", "name", "words"] (defScope s_RowReader_p_catches) := ⟨rfl, rfl, rfl, by decide +kernel, rfl, by decide +kernel, by decide +kernel⟩
abbrev s_Body_init : Stmt := inClass (top 46) 0
theorem sc_Body_init : FnScope ["self", "pacts", "name", "text", "most"] ["self", "pacts", "name", "text"] (defScope s_Body_init) := ⟨rfl, rfl, rfl, by decide +kernel, rfl, by decide +kernel, by decide +kernel⟩
abbrev s_Side_init : Stmt := inClass (top 48) 0
theorem sc_Side_init : FnScope ["self", "pacts", "number", "bodies", "names", "name"] ["self", "pacts", "number", "bodies"] (defScope s_Side_init) := ⟨rfl, rfl, rfl, by decide +kernel, rfl, by decide +kernel, by decide +kernel⟩
abbrev s_Side_pacts : Stmt := inClass (top 48) 1
theorem sc_Side_pacts : FnScope ["self"] ["self"] (defScope s_Side_pacts) := ⟨rfl, rfl, rfl, by decide +kernel, rfl, by decide +kernel, by decide +kernel⟩
abbrev s_Side_number : Stmt := inClass (top 48) 2
theorem sc_Side_number : FnScope ["self"] ["self"] (defScope s_Side_number) := ⟨rfl, rfl, rfl, by decide +kernel, rfl, by decide +kernel, by decide +kernel⟩
abbrev s_Side_body : Stmt := inClass (top 48) 3
theorem sc_Side_body : FnScope ["self", "name"] ["self", "name"] (defScope s_Side_body) := ⟨rfl, rfl, rfl, by decide +kernel, rfl, by decide +kernel, by decide +kernel⟩
abbrev s_Side_rows : Stmt := inClass (top 48) 4
theorem sc_Side_rows : FnScope ["self", "name"] ["self", "name"] (defScope s_Side_rows) := ⟨rfl, rfl, rfl, by decide +kernel, rfl, by decide +kernel, by decide +kernel⟩
abbrev s_Side_place : Stmt := inClass (top 48) 5
theorem sc_Side_place : FnScope ["self", "name", "row", "numbers"] ["self", "name", "row"] (defScope s_Side_place) := ⟨rfl, rfl, rfl, by decide +kernel, rfl, by decide +kernel, by decide +kernel⟩
abbrev s_Side_parsed : Stmt := inClass (top 48) 6
theorem sc_Side_parsed : FnScope ["self", "name"] ["self", "name"] (defScope s_Side_parsed) := ⟨rfl, rfl, rfl, by decide +kernel, rfl, by decide +kernel, by decide +kernel⟩
abbrev s_Pacts_init : Stmt := inClass (top 55) 0
theorem sc_Pacts_init : FnScope ["self", "pairs", "helpers", "pair", "pact"] ["self", "pairs", "helpers"] (defScope s_Pacts_init) := ⟨rfl, rfl, rfl, by decide +kernel, rfl, by decide +kernel, by decide +kernel⟩
abbrev s_Pacts_names : Stmt := inClass (top 55) 2
theorem sc_Pacts_names : FnScope ["self", "side", "pact"] ["self", "side"] (defScope s_Pacts_names) := ⟨rfl, rfl, rfl, by decide +kernel, rfl, by decide +kernel, by decide +kernel⟩
abbrev s_Pacts_pact : Stmt := inClass (top 55) 3
theorem sc_Pacts_pact : FnScope ["self", "name", "pact"] ["self", "name"] (defScope s_Pacts_pact) := ⟨rfl, rfl, rfl, by decide +kernel, rfl, by decide +kernel, by decide +kernel⟩
abbrev s_Pacts_laden : Stmt := inClass (top 55) 4
theorem sc_Pacts_laden : FnScope ["self", "word", "side"] ["self", "word", "side"] (defScope s_Pacts_laden) := ⟨rfl, rfl, rfl, by decide +kernel, rfl, by decide +kernel, by decide +kernel⟩
abbrev s_Pacts_over : Stmt := inClass (top 55) 5
theorem sc_Pacts_over : FnScope ["self", "word", "side"] ["self", "word", "side"] (defScope s_Pacts_over) := ⟨rfl, rfl, rfl, by decide +kernel, rfl, by decide +kernel, by decide +kernel⟩
abbrev s_Pacts_p_pair : Stmt := inClass (top 55) 6
theorem sc_Pacts_p_pair : FnScope ["self", "word", "side", "pair"] ["self", "word", "side"] (defScope s_Pacts_p_pair) := ⟨rfl, rfl, rfl, by decide +kernel, rfl, by decide +kernel, by decide +kernel⟩
abbrev s_Pacts_errors : Stmt := inClass (top 55) 7
theorem sc_Pacts_errors : FnScope ["self", "name", "side", "_", "own", "throws", "word"] ["self", "name", "side"] (defScope s_Pacts_errors) := ⟨rfl, rfl, rfl, by decide +kernel, rfl, by decide +kernel, by decide +kernel⟩
abbrev s_Pacts_eq : Stmt := inClass (top 55) 9
theorem sc_Pacts_eq : FnScope ["self", "other"] ["self", "other"] (defScope s_Pacts_eq) := ⟨rfl, rfl, rfl, by decide +kernel, rfl, by decide +kernel, by decide +kernel⟩
abbrev s_p_is_pair : Stmt := top 56
theorem sc_p_is_pair : FnScope ["pair", "near", "far", "laden"] ["pair"] (defScope s_p_is_pair) := ⟨rfl, rfl, rfl, by decide +kernel, rfl, by decide +kernel, by decide +kernel⟩
abbrev s_p_fits_pairs : Stmt := top 57
theorem sc_p_fits_pairs : FnScope ["pair", "ahead", "nears", "fars", "one"] ["pair", "ahead"] (defScope s_p_fits_pairs) := ⟨rfl, rfl, rfl, by decide +kernel, rfl, by decide +kernel, by decide +kernel⟩
abbrev s_p_is_pact : Stmt := top 58
theorem sc_p_is_pact : FnScope ["pact", "name", "side", "takes", "gives", "throws"] ["pact"] (defScope s_p_is_pact) := ⟨rfl, rfl, rfl, by decide +kernel, rfl, by decide +kernel, by decide +kernel⟩
abbrev s_p_are_takes : Stmt := top 59
theorem sc_p_are_takes : FnScope ["takes", "take"] ["takes"] (defScope s_p_are_takes) := ⟨rfl, rfl, rfl, by decide +kernel, rfl, by decide +kernel, by decide +kernel⟩
abbrev s_p_are_throws : Stmt := top 60
theorem sc_p_are_throws : FnScope ["throws", "word"] ["throws"] (defScope s_p_are_throws) := ⟨rfl, rfl, rfl, by decide +kernel, rfl, by decide +kernel, by decide +kernel⟩
abbrev s_p_fits_helpers : Stmt := top 61
theorem sc_p_fits_helpers : FnScope ["pact", "pairs", "ahead", "name", "side", "_", "throws", "fellows", "words", "one", "pair", "word"] ["pact", "pairs", "ahead"] (defScope s_p_fits_helpers) := ⟨rfl, rfl, rfl, by decide +kernel, rfl, by decide +kernel, by decide +kernel⟩
abbrev s_box : Stmt := top 65
theorem sc_box : FnScope ["_law_script", "_law_great", "_law_cell"] ["_law_script"] (defScope s_box) := ⟨rfl, rfl, rfl, by decide +kernel, rfl, by decide +kernel, by decide +kernel⟩
abbrev s_mixed : Stmt := top 66
theorem sc_mixed : FnScope ["_law_cell", "_law_k", "_law_whole"] ["_law_cell", "_law_k"] (defScope s_mixed) := ⟨rfl, rfl, rfl, by decide +kernel, rfl, by decide +kernel, by decide +kernel⟩
abbrev s_take : Stmt := top 67
theorem sc_take : FnScope ["_law_box_here", "_law_size", "_law_found", "_law_cell", "_law_reach"] ["_law_box_here", "_law_size"] (defScope s_take) := ⟨rfl, rfl, rfl, by decide +kernel, rfl, by decide +kernel, by decide +kernel⟩
abbrev s_unlike : Stmt := top 68
theorem sc_unlike : FnScope ["_law_box_here", "_law_many", "_law_pool", "_law_left", "_law_found", "_law_k"] ["_law_box_here", "_law_many", "_law_pool"] (defScope s_unlike) := ⟨rfl, rfl, rfl, by decide +kernel, rfl, by decide +kernel, by decide +kernel⟩
abbrev s_names : Stmt := top 69
theorem sc_names : FnScope ["_law_box_here", "_law_many", "_law_menu", "_law_letters", "_law_found", "_law_k", "_law_word", "_law_size", "_law_spare", "_law_j"] ["_law_box_here", "_law_many", "_law_menu"] (defScope s_names) := ⟨rfl, rfl, rfl, by decide +kernel, rfl, by decide +kernel, by decide +kernel⟩
abbrev s_any_deal : Stmt := top 70
theorem sc_any_deal : FnScope ["_law_box_here", "_law_limit", "_law_many", "_law_near", "_law_far", "_law_pairs", "_law_names_here", "_law_pacts", "_law_team", "_law_k", "_law_throws", "_law_takes", "_law_pact_here", "_law_pair", "_law_j"] ["_law_box_here", "_law_limit"] (defScope s_any_deal) := ⟨rfl, rfl, rfl, by decide +kernel, rfl, by decide +kernel, by decide +kernel⟩
abbrev s_pact : Stmt := top 71
theorem sc_pact : FnScope ["_law_deal", "_law_name", "_law_pact_here"] ["_law_deal", "_law_name"] (defScope s_pact) := ⟨rfl, rfl, rfl, by decide +kernel, rfl, by decide +kernel, by decide +kernel⟩
abbrev s_laden : Stmt := top 72
theorem sc_laden : FnScope ["_law_deal", "_law_team", "_law_word", "_law_pair"] ["_law_deal", "_law_team", "_law_word"] (defScope s_laden) := ⟨rfl, rfl, rfl, by decide +kernel, rfl, by decide +kernel, by decide +kernel⟩
abbrev s_errors : Stmt := top 73
theorem sc_errors : FnScope ["_law_deal", "_law_name", "_law_team", "_law_pact_here", "_law_found", "_law_word", "_law_pair"] ["_law_deal", "_law_name", "_law_team"] (defScope s_errors) := ⟨rfl, rfl, rfl, by decide +kernel, rfl, by decide +kernel, by decide +kernel⟩
abbrev s_of_team : Stmt := top 74
theorem sc_of_team : FnScope ["_law_deal", "_law_team", "_law_pact_here"] ["_law_deal", "_law_team"] (defScope s_of_team) := ⟨rfl, rfl, rfl, by decide +kernel, rfl, by decide +kernel, by decide +kernel⟩
abbrev s_any_call : Stmt := top 75
theorem sc_any_call : FnScope ["_law_box_here", "_law_deal", "_law_team", "_law_many", "_law_callee", "_law_words", "_law_how", "_law_errors_here", "_law_word"] ["_law_box_here", "_law_deal", "_law_team", "_law_many"] (defScope s_any_call) := ⟨rfl, rfl, rfl, by decide +kernel, rfl, by decide +kernel, by decide +kernel⟩
abbrev s_any_end : Stmt := top 76
theorem sc_any_end : FnScope ["_law_box_here", "_law_deal", "_law_name", "_law_pact_here", "_law_known", "_law_pocket", "_law_word", "_law_pair"] ["_law_box_here", "_law_deal", "_law_name"] (defScope s_any_end) := ⟨rfl, rfl, rfl, by decide +kernel, rfl, by decide +kernel, by decide +kernel⟩
abbrev s_any_row : Stmt := top 77
theorem sc_any_row : FnScope ["_law_box_here", "_law_deal", "_law_name", "_law_at", "_law_many", "_law_words", "_law_word", "_law_one", "_law_goal"] ["_law_box_here", "_law_deal", "_law_name", "_law_at", "_law_many"] (defScope s_any_row) := ⟨rfl, rfl, rfl, by decide +kernel, rfl, by decide +kernel, by decide +kernel⟩
abbrev s_any_rows : Stmt := top 78
theorem sc_any_rows : FnScope ["_law_box_here", "_law_deal", "_law_name", "_law_many", "_law_at"] ["_law_box_here", "_law_deal", "_law_name", "_law_many"] (defScope s_any_rows) := ⟨rfl, rfl, rfl, by decide +kernel, rfl, by decide +kernel, by decide +kernel⟩
abbrev s_sided : Stmt := top 79
theorem sc_sided : FnScope ["_law_deal", "_law_team", "_law_texts", "_law_found", "e"] ["_law_deal", "_law_team", "_law_texts"] (defScope s_sided) := ⟨rfl, rfl, rfl, by decide +kernel, rfl, by decide +kernel, by decide +kernel⟩
abbrev s_no_row : Stmt := top 80
theorem sc_no_row : FnScope ["_law_made", "_law_name", "_law_row", "_law_found", "e"] ["_law_made", "_law_name", "_law_row"] (defScope s_no_row) := ⟨rfl, rfl, rfl, by decide +kernel, rfl, by decide +kernel, by decide +kernel⟩
abbrev s_told : Stmt := top 81
theorem sc_told : FnScope ["_law_made", "_law_texts", "_law_name", "_law_rows", "_law_told_here", "_law_far", "_law_k"] ["_law_made", "_law_texts"] (defScope s_told) := ⟨rfl, rfl, rfl, by decide +kernel, rfl, by decide +kernel, by decide +kernel⟩
abbrev s_law : Stmt := top 82
theorem sc_law : FnScope ["_law_script", "_law_box_here", "_law_deal", "_law_team", "_law_texts", "_law_name", "_law_many", "_law_texts_in", "_law_kind", "_law_made"] ["_law_script"] (defScope s_law) := ⟨rfl, rfl, rfl, by decide +kernel, rfl, by decide +kernel, by decide +kernel⟩
/-- the addresses -/
structure Ad where
  c_Pacts : Addr
  c_RowReader : Addr
  c_Body : Addr
  c_Side : Addr
  c_NoHelper : Addr
  c_NoBody : Addr
  c_NoWord : Addr
  c_NoRow : Addr
  c_PactError : Addr
  t_LONGEST_NAME : Tok
  t_MOST_PAIRS : Tok
  t_MOST_HELPERS : Tok
  t_MOST_TAKES : Tok
  t_MOST_THROWS : Tok
  t_TAKES : Addr
  t_PLACES : Addr
  t_SHELF : Tok
  t_POCKET_ROWS : Addr
  t_MOST_ROWS : Tok
  f_NoHelper_init : Addr
  d_NoHelper_init : FuncData
  f_NoWord_init : Addr
  d_NoWord_init : FuncData
  f_NoBody_init : Addr
  d_NoBody_init : FuncData
  f_NoRow_init : Addr
  d_NoRow_init : FuncData
  f_is_whole : Addr
  d_is_whole : FuncData
  f_is_side : Addr
  d_is_side : FuncData
  f_is_name : Addr
  d_is_name : FuncData
  f_place_of : Addr
  d_place_of : FuncData
  f_pocket_of : Addr
  d_pocket_of : FuncData
  f_read_rows : Addr
  d_read_rows : FuncData
  f_RowReader_init : Addr
  d_RowReader_init : FuncData
  f_RowReader_step : Addr
  d_RowReader_step : FuncData
  f_RowReader_p_pocket_row : Addr
  d_RowReader_p_pocket_row : FuncData
  f_RowReader_p_use : Addr
  d_RowReader_p_use : FuncData
  f_RowReader_p_move : Addr
  d_RowReader_p_move : FuncData
  f_RowReader_p_jump : Addr
  d_RowReader_p_jump : FuncData
  f_RowReader_p_row_number : Addr
  d_RowReader_p_row_number : FuncData
  f_RowReader_p_throw : Addr
  d_RowReader_p_throw : FuncData
  f_RowReader_p_laden : Addr
  d_RowReader_p_laden : FuncData
  f_RowReader_p_done : Addr
  d_RowReader_p_done : FuncData
  f_RowReader_p_end : Addr
  d_RowReader_p_end : FuncData
  f_RowReader_p_call : Addr
  d_RowReader_p_call : FuncData
  f_RowReader_p_called : Addr
  d_RowReader_p_called : FuncData
  f_RowReader_p_handed : Addr
  d_RowReader_p_handed : FuncData
  f_RowReader_p_to : Addr
  d_RowReader_p_to : FuncData
  f_RowReader_p_catches : Addr
  d_RowReader_p_catches : FuncData
  f_Body_init : Addr
  d_Body_init : FuncData
  f_Side_init : Addr
  d_Side_init : FuncData
  f_Side_pacts : Addr
  d_Side_pacts : FuncData
  f_Side_number : Addr
  d_Side_number : FuncData
  f_Side_body : Addr
  d_Side_body : FuncData
  f_Side_rows : Addr
  d_Side_rows : FuncData
  f_Side_place : Addr
  d_Side_place : FuncData
  f_Side_parsed : Addr
  d_Side_parsed : FuncData
  f_Pacts_init : Addr
  d_Pacts_init : FuncData
  f_Pacts_names : Addr
  d_Pacts_names : FuncData
  f_Pacts_pact : Addr
  d_Pacts_pact : FuncData
  f_Pacts_laden : Addr
  d_Pacts_laden : FuncData
  f_Pacts_over : Addr
  d_Pacts_over : FuncData
  f_Pacts_p_pair : Addr
  d_Pacts_p_pair : FuncData
  f_Pacts_errors : Addr
  d_Pacts_errors : FuncData
  f_Pacts_eq : Addr
  d_Pacts_eq : FuncData
  f_p_is_pair : Addr
  d_p_is_pair : FuncData
  f_p_fits_pairs : Addr
  d_p_fits_pairs : FuncData
  f_p_is_pact : Addr
  d_p_is_pact : FuncData
  f_p_are_takes : Addr
  d_p_are_takes : FuncData
  f_p_are_throws : Addr
  d_p_are_throws : FuncData
  f_p_fits_helpers : Addr
  d_p_fits_helpers : FuncData
  f_box : Addr
  d_box : FuncData
  f_mixed : Addr
  d_mixed : FuncData
  f_take : Addr
  d_take : FuncData
  f_unlike : Addr
  d_unlike : FuncData
  f_names : Addr
  d_names : FuncData
  f_any_deal : Addr
  d_any_deal : FuncData
  f_pact : Addr
  d_pact : FuncData
  f_laden : Addr
  d_laden : FuncData
  f_errors : Addr
  d_errors : FuncData
  f_of_team : Addr
  d_of_team : FuncData
  f_any_call : Addr
  d_any_call : FuncData
  f_any_end : Addr
  d_any_end : FuncData
  f_any_row : Addr
  d_any_row : FuncData
  f_any_rows : Addr
  d_any_rows : FuncData
  f_sided : Addr
  d_sided : FuncData
  f_no_row : Addr
  d_no_row : FuncData
  f_told : Addr
  d_told : FuncData
  f_law : Addr
  d_law : FuncData
/-- what the top has written -/
structure Txt (K : PySem.W.Frag) (mg : Str → Option Value) (a : Ad) : Prop where
  cl_Pacts : Cls K a.c_Pacts
  mk_Pacts : Mk K a.c_Pacts a.f_Pacts_init
  g_Pacts : mg "Pacts" = some (.ref a.c_Pacts)
  n_Pacts__pairs : NoAttr K a.c_Pacts "_pairs"
  n_Pacts__helpers : NoAttr K a.c_Pacts "_helpers"
  cl_RowReader : Cls K a.c_RowReader
  mk_RowReader : Mk K a.c_RowReader a.f_RowReader_init
  g_RowReader : mg "RowReader" = some (.ref a.c_RowReader)
  n_RowReader__pacts : NoAttr K a.c_RowReader "_pacts"
  n_RowReader__pact : NoAttr K a.c_RowReader "_pact"
  n_RowReader__many : NoAttr K a.c_RowReader "_many"
  cl_Body : Cls K a.c_Body
  mk_Body : Mk K a.c_Body a.f_Body_init
  g_Body : mg "Body" = some (.ref a.c_Body)
  n_Body_text : NoAttr K a.c_Body "text"
  n_Body_many : NoAttr K a.c_Body "many"
  n_Body_statements : NoAttr K a.c_Body "statements"
  n_Body_texts : NoAttr K a.c_Body "texts"
  n_Body_numbers : NoAttr K a.c_Body "numbers"
  n_Body_steps : NoAttr K a.c_Body "steps"
  cl_Side : Cls K a.c_Side
  mk_Side : Mk K a.c_Side a.f_Side_init
  g_Side : mg "Side" = some (.ref a.c_Side)
  n_Side__pacts : NoAttr K a.c_Side "_pacts"
  n_Side__number : NoAttr K a.c_Side "_number"
  n_Side__bodies : NoAttr K a.c_Side "_bodies"
  n_Side__parsed : NoAttr K a.c_Side "_parsed"
  x_NoHelper : OexC K a.c_NoHelper
  xi_NoHelper : PySem.W.findIn K (.ref a.c_NoHelper) "__init__" = some (some (.ref a.f_NoHelper_init))
  xt_NoHelper : PySem.W.typeIn K (.ref a.f_NoHelper_init) = some (.type "function")
  xf_NoHelper : XfC K a.c_NoHelper
  g_NoHelper : mg "NoHelper" = some (.ref a.c_NoHelper)
  n_NoHelper_name : PySem.W.findIn K (.ref a.c_NoHelper) "name" = some none
  x_NoBody : OexC K a.c_NoBody
  xi_NoBody : PySem.W.findIn K (.ref a.c_NoBody) "__init__" = some (some (.ref a.f_NoBody_init))
  xt_NoBody : PySem.W.typeIn K (.ref a.f_NoBody_init) = some (.type "function")
  xf_NoBody : XfC K a.c_NoBody
  g_NoBody : mg "NoBody" = some (.ref a.c_NoBody)
  n_NoBody_name : PySem.W.findIn K (.ref a.c_NoBody) "name" = some none
  n_NoBody_at : PySem.W.findIn K (.ref a.c_NoBody) "at" = some none
  x_NoWord : OexC K a.c_NoWord
  xi_NoWord : PySem.W.findIn K (.ref a.c_NoWord) "__init__" = some (some (.ref a.f_NoWord_init))
  xt_NoWord : PySem.W.typeIn K (.ref a.f_NoWord_init) = some (.type "function")
  xf_NoWord : XfC K a.c_NoWord
  g_NoWord : mg "NoWord" = some (.ref a.c_NoWord)
  n_NoWord_word : PySem.W.findIn K (.ref a.c_NoWord) "word" = some none
  x_NoRow : OexC K a.c_NoRow
  xi_NoRow : PySem.W.findIn K (.ref a.c_NoRow) "__init__" = some (some (.ref a.f_NoRow_init))
  xt_NoRow : PySem.W.typeIn K (.ref a.f_NoRow_init) = some (.type "function")
  xf_NoRow : XfC K a.c_NoRow
  g_NoRow : mg "NoRow" = some (.ref a.c_NoRow)
  n_NoRow_at : PySem.W.findIn K (.ref a.c_NoRow) "at" = some none
  md_PactError : MidC K a.c_PactError
  g_PactError : mg "PactError" = some (.ref a.c_PactError)
  fe_BB : PySem.W.exmOne K (.ref a.c_NoBody) (.ref a.c_NoBody) = some true
  fe_HB : PySem.W.exmOne K (.ref a.c_NoHelper) (.ref a.c_NoBody) = some false
  fe_HH : PySem.W.exmOne K (.ref a.c_NoHelper) (.ref a.c_NoHelper) = some true
  fe_WW : PySem.W.exmOne K (.ref a.c_NoWord) (.ref a.c_NoWord) = some true
  fe_RR : PySem.W.exmOne K (.ref a.c_NoRow) (.ref a.c_NoRow) = some true
  fg : PySem.W.specialIn K (.builtin "object.__class__") "__get__" = some (some (.builtin "getset_descriptor.__get__"))
  ft : PySem.W.takesIn K (.builtin "object.__class__") = some true
  pn_1 : PySem.W.findIn K (.ref a.c_Pacts) "__ne__" = some (some (.builtin "object.__ne__"))
  pn_2 : PySem.W.mroIn K a.c_Pacts (.type "object") = some true
  pn_3 : PySem.W.subIn K (.ref a.c_Pacts) (.type "NoneType") = some false
  pn_4 : PySem.W.subIn K (.ref a.c_Pacts) (.type "int") = some false
  pn_5 : PySem.W.subIn K (.ref a.c_Pacts) (.type "str") = some false
  pn_6 : PySem.W.subIn K (.ref a.c_Pacts) (.type "list") = some false
  pn_7 : PySem.W.findIn K (.ref a.c_Pacts) "__class__" = some (some (.builtin "object.__class__"))
  pn_8 : PySem.W.kitOne K (.ref a.c_Pacts) (.ref a.c_Pacts) = some true
  pn_9 : PySem.W.kitOne K (.type "NoneType") (.ref a.c_Pacts) = some false
  pn_10 : PySem.W.kitOne K (.type "int") (.ref a.c_Pacts) = some false
  pn_11 : PySem.W.kitOne K (.type "str") (.ref a.c_Pacts) = some false
  pn_12 : PySem.W.kitOne K (.type "list") (.ref a.c_Pacts) = some false
  F_NoHelper_init : Fun K "__init__" "NoHelper.__init__" s_NoHelper_init a.f_NoHelper_init a.d_NoHelper_init
  B_NoHelper_init : Binds K a.d_NoHelper_init ["self", "name"] []
  F_NoWord_init : Fun K "__init__" "NoWord.__init__" s_NoWord_init a.f_NoWord_init a.d_NoWord_init
  B_NoWord_init : Binds K a.d_NoWord_init ["self", "word"] []
  F_NoBody_init : Fun K "__init__" "NoBody.__init__" s_NoBody_init a.f_NoBody_init a.d_NoBody_init
  B_NoBody_init : Binds K a.d_NoBody_init ["self", "name", "at"] []
  F_NoRow_init : Fun K "__init__" "NoRow.__init__" s_NoRow_init a.f_NoRow_init a.d_NoRow_init
  B_NoRow_init : Binds K a.d_NoRow_init ["self", "at"] []
  F_is_whole : Fun K "is_whole" "is_whole" s_is_whole a.f_is_whole a.d_is_whole
  B_is_whole : Binds K a.d_is_whole ["thing"] []
  g_is_whole : mg "is_whole" = some (.ref a.f_is_whole)
  k_is_whole : PySem.W.keepIn K (.ref a.f_is_whole) = true
  F_is_side : Fun K "is_side" "is_side" s_is_side a.f_is_side a.d_is_side
  B_is_side : Binds K a.d_is_side ["thing"] []
  g_is_side : mg "is_side" = some (.ref a.f_is_side)
  k_is_side : PySem.W.keepIn K (.ref a.f_is_side) = true
  F_is_name : Fun K "is_name" "is_name" s_is_name a.f_is_name a.d_is_name
  B_is_name : Binds K a.d_is_name ["thing"] []
  g_is_name : mg "is_name" = some (.ref a.f_is_name)
  k_is_name : PySem.W.keepIn K (.ref a.f_is_name) = true
  F_place_of : Fun K "place_of" "place_of" s_place_of a.f_place_of a.d_place_of
  B_place_of : Binds K a.d_place_of ["word"] []
  g_place_of : mg "place_of" = some (.ref a.f_place_of)
  k_place_of : PySem.W.keepIn K (.ref a.f_place_of) = true
  F_pocket_of : Fun K "pocket_of" "pocket_of" s_pocket_of a.f_pocket_of a.d_pocket_of
  B_pocket_of : Binds K a.d_pocket_of ["word"] []
  g_pocket_of : mg "pocket_of" = some (.ref a.f_pocket_of)
  k_pocket_of : PySem.W.keepIn K (.ref a.f_pocket_of) = true
  F_read_rows : Fun K "read_rows" "read_rows" s_read_rows a.f_read_rows a.d_read_rows
  B_read_rows : Binds K a.d_read_rows ["pacts", "name", "texts", "most"] []
  g_read_rows : mg "read_rows" = some (.ref a.f_read_rows)
  k_read_rows : PySem.W.keepIn K (.ref a.f_read_rows) = true
  F_RowReader_init : Fun K "__init__" "RowReader.__init__" s_RowReader_init a.f_RowReader_init a.d_RowReader_init
  B_RowReader_init : Binds K a.d_RowReader_init ["self", "pacts", "name", "many"] []
  F_RowReader_step : Fun K "step" "RowReader.step" s_RowReader_step a.f_RowReader_step a.d_RowReader_step
  B_RowReader_step : Binds K a.d_RowReader_step ["self", "at", "words"] []
  m_RowReader_step : Meth K a.c_RowReader "step" a.f_RowReader_step
  F_RowReader_p_pocket_row : Fun K "_pocket_row" "RowReader._pocket_row" s_RowReader_p_pocket_row a.f_RowReader_p_pocket_row a.d_RowReader_p_pocket_row
  B_RowReader_p_pocket_row : Binds K a.d_RowReader_p_pocket_row ["self", "words"] []
  m_RowReader_p_pocket_row : Meth K a.c_RowReader "_pocket_row" a.f_RowReader_p_pocket_row
  F_RowReader_p_use : Fun K "_use" "RowReader._use" s_RowReader_p_use a.f_RowReader_p_use a.d_RowReader_p_use
  B_RowReader_p_use : Binds K a.d_RowReader_p_use ["self", "words"] []
  m_RowReader_p_use : Meth K a.c_RowReader "_use" a.f_RowReader_p_use
  F_RowReader_p_move : Fun K "_move" "RowReader._move" s_RowReader_p_move a.f_RowReader_p_move a.d_RowReader_p_move
  B_RowReader_p_move : Binds K a.d_RowReader_p_move ["self", "words"] []
  m_RowReader_p_move : Meth K a.c_RowReader "_move" a.f_RowReader_p_move
  F_RowReader_p_jump : Fun K "_jump" "RowReader._jump" s_RowReader_p_jump a.f_RowReader_p_jump a.d_RowReader_p_jump
  B_RowReader_p_jump : Binds K a.d_RowReader_p_jump ["self", "at", "words"] []
  m_RowReader_p_jump : Meth K a.c_RowReader "_jump" a.f_RowReader_p_jump
  F_RowReader_p_row_number : Fun K "_row_number" "RowReader._row_number" s_RowReader_p_row_number a.f_RowReader_p_row_number a.d_RowReader_p_row_number
  B_RowReader_p_row_number : Binds K a.d_RowReader_p_row_number ["self", "word"] []
  m_RowReader_p_row_number : Meth K a.c_RowReader "_row_number" a.f_RowReader_p_row_number
  F_RowReader_p_throw : Fun K "_throw" "RowReader._throw" s_RowReader_p_throw a.f_RowReader_p_throw a.d_RowReader_p_throw
  B_RowReader_p_throw : Binds K a.d_RowReader_p_throw ["self", "words"] []
  m_RowReader_p_throw : Meth K a.c_RowReader "_throw" a.f_RowReader_p_throw
  F_RowReader_p_laden : Fun K "_laden" "RowReader._laden" s_RowReader_p_laden a.f_RowReader_p_laden a.d_RowReader_p_laden
  B_RowReader_p_laden : Binds K a.d_RowReader_p_laden ["self", "word"] []
  m_RowReader_p_laden : Meth K a.c_RowReader "_laden" a.f_RowReader_p_laden
  F_RowReader_p_done : Fun K "_done" "RowReader._done" s_RowReader_p_done a.f_RowReader_p_done a.d_RowReader_p_done
  B_RowReader_p_done : Binds K a.d_RowReader_p_done ["self", "words"] []
  m_RowReader_p_done : Meth K a.c_RowReader "_done" a.f_RowReader_p_done
  F_RowReader_p_end : Fun K "_end" "RowReader._end" s_RowReader_p_end a.f_RowReader_p_end a.d_RowReader_p_end
  B_RowReader_p_end : Binds K a.d_RowReader_p_end ["self", "word", "pockets"] []
  m_RowReader_p_end : Meth K a.c_RowReader "_end" a.f_RowReader_p_end
  F_RowReader_p_call : Fun K "_call" "RowReader._call" s_RowReader_p_call a.f_RowReader_p_call a.d_RowReader_p_call
  B_RowReader_p_call : Binds K a.d_RowReader_p_call ["self", "words"] []
  m_RowReader_p_call : Meth K a.c_RowReader "_call" a.f_RowReader_p_call
  F_RowReader_p_called : Fun K "_called" "RowReader._called" s_RowReader_p_called a.f_RowReader_p_called a.d_RowReader_p_called
  B_RowReader_p_called : Binds K a.d_RowReader_p_called ["self", "name"] []
  m_RowReader_p_called : Meth K a.c_RowReader "_called" a.f_RowReader_p_called
  F_RowReader_p_handed : Fun K "_handed" "RowReader._handed" s_RowReader_p_handed a.f_RowReader_p_handed a.d_RowReader_p_handed
  B_RowReader_p_handed : Binds K a.d_RowReader_p_handed ["self", "words", "takes"] []
  m_RowReader_p_handed : Meth K a.c_RowReader "_handed" a.f_RowReader_p_handed
  F_RowReader_p_to : Fun K "_to" "RowReader._to" s_RowReader_p_to a.f_RowReader_p_to a.d_RowReader_p_to
  B_RowReader_p_to : Binds K a.d_RowReader_p_to ["self", "words"] []
  m_RowReader_p_to : Meth K a.c_RowReader "_to" a.f_RowReader_p_to
  F_RowReader_p_catches : Fun K "_catches" "RowReader._catches" s_RowReader_p_catches a.f_RowReader_p_catches a.d_RowReader_p_catches
  B_RowReader_p_catches : Binds K a.d_RowReader_p_catches ["self", "name", "words"] []
  m_RowReader_p_catches : Meth K a.c_RowReader "_catches" a.f_RowReader_p_catches
  F_Body_init : Fun K "__init__" "Body.__init__" s_Body_init a.f_Body_init a.d_Body_init
  B_Body_init : Binds K a.d_Body_init ["self", "pacts", "name", "text"] []
  F_Side_init : Fun K "__init__" "Side.__init__" s_Side_init a.f_Side_init a.d_Side_init
  B_Side_init : Binds K a.d_Side_init ["self", "pacts", "number", "bodies"] []
  F_Side_pacts : Fun K "pacts" "Side.pacts" s_Side_pacts a.f_Side_pacts a.d_Side_pacts
  B_Side_pacts : Binds K a.d_Side_pacts ["self"] []
  m_Side_pacts : Meth K a.c_Side "pacts" a.f_Side_pacts
  F_Side_number : Fun K "number" "Side.number" s_Side_number a.f_Side_number a.d_Side_number
  B_Side_number : Binds K a.d_Side_number ["self"] []
  m_Side_number : Meth K a.c_Side "number" a.f_Side_number
  F_Side_body : Fun K "body" "Side.body" s_Side_body a.f_Side_body a.d_Side_body
  B_Side_body : Binds K a.d_Side_body ["self", "name"] []
  m_Side_body : Meth K a.c_Side "body" a.f_Side_body
  F_Side_rows : Fun K "rows" "Side.rows" s_Side_rows a.f_Side_rows a.d_Side_rows
  B_Side_rows : Binds K a.d_Side_rows ["self", "name"] []
  m_Side_rows : Meth K a.c_Side "rows" a.f_Side_rows
  F_Side_place : Fun K "place" "Side.place" s_Side_place a.f_Side_place a.d_Side_place
  B_Side_place : Binds K a.d_Side_place ["self", "name", "row"] []
  m_Side_place : Meth K a.c_Side "place" a.f_Side_place
  F_Side_parsed : Fun K "parsed" "Side.parsed" s_Side_parsed a.f_Side_parsed a.d_Side_parsed
  B_Side_parsed : Binds K a.d_Side_parsed ["self", "name"] []
  m_Side_parsed : Meth K a.c_Side "parsed" a.f_Side_parsed
  F_Pacts_init : Fun K "__init__" "Pacts.__init__" s_Pacts_init a.f_Pacts_init a.d_Pacts_init
  B_Pacts_init : Binds K a.d_Pacts_init ["self", "pairs", "helpers"] []
  F_Pacts_names : Fun K "names" "Pacts.names" s_Pacts_names a.f_Pacts_names a.d_Pacts_names
  B_Pacts_names : Binds K a.d_Pacts_names ["self", "side"] []
  m_Pacts_names : Meth K a.c_Pacts "names" a.f_Pacts_names
  F_Pacts_pact : Fun K "pact" "Pacts.pact" s_Pacts_pact a.f_Pacts_pact a.d_Pacts_pact
  B_Pacts_pact : Binds K a.d_Pacts_pact ["self", "name"] []
  m_Pacts_pact : Meth K a.c_Pacts "pact" a.f_Pacts_pact
  F_Pacts_laden : Fun K "laden" "Pacts.laden" s_Pacts_laden a.f_Pacts_laden a.d_Pacts_laden
  m_Pacts_laden : Meth K a.c_Pacts "laden" a.f_Pacts_laden
  F_Pacts_over : Fun K "over" "Pacts.over" s_Pacts_over a.f_Pacts_over a.d_Pacts_over
  m_Pacts_over : Meth K a.c_Pacts "over" a.f_Pacts_over
  F_Pacts_p_pair : Fun K "_pair" "Pacts._pair" s_Pacts_p_pair a.f_Pacts_p_pair a.d_Pacts_p_pair
  B_Pacts_p_pair : Binds K a.d_Pacts_p_pair ["self", "word", "side"] []
  m_Pacts_p_pair : Meth K a.c_Pacts "_pair" a.f_Pacts_p_pair
  F_Pacts_errors : Fun K "errors" "Pacts.errors" s_Pacts_errors a.f_Pacts_errors a.d_Pacts_errors
  m_Pacts_errors : Meth K a.c_Pacts "errors" a.f_Pacts_errors
  F_Pacts_eq : Fun K "__eq__" "Pacts.__eq__" s_Pacts_eq a.f_Pacts_eq a.d_Pacts_eq
  B_Pacts_eq : Binds K a.d_Pacts_eq ["self", "other"] []
  m_Pacts_eq : Meth K a.c_Pacts "__eq__" a.f_Pacts_eq
  F_p_is_pair : Fun K "_is_pair" "_is_pair" s_p_is_pair a.f_p_is_pair a.d_p_is_pair
  B_p_is_pair : Binds K a.d_p_is_pair ["pair"] []
  g_p_is_pair : mg "_is_pair" = some (.ref a.f_p_is_pair)
  k_p_is_pair : PySem.W.keepIn K (.ref a.f_p_is_pair) = true
  F_p_fits_pairs : Fun K "_fits_pairs" "_fits_pairs" s_p_fits_pairs a.f_p_fits_pairs a.d_p_fits_pairs
  B_p_fits_pairs : Binds K a.d_p_fits_pairs ["pair", "ahead"] []
  g_p_fits_pairs : mg "_fits_pairs" = some (.ref a.f_p_fits_pairs)
  k_p_fits_pairs : PySem.W.keepIn K (.ref a.f_p_fits_pairs) = true
  F_p_is_pact : Fun K "_is_pact" "_is_pact" s_p_is_pact a.f_p_is_pact a.d_p_is_pact
  B_p_is_pact : Binds K a.d_p_is_pact ["pact"] []
  g_p_is_pact : mg "_is_pact" = some (.ref a.f_p_is_pact)
  k_p_is_pact : PySem.W.keepIn K (.ref a.f_p_is_pact) = true
  F_p_are_takes : Fun K "_are_takes" "_are_takes" s_p_are_takes a.f_p_are_takes a.d_p_are_takes
  B_p_are_takes : Binds K a.d_p_are_takes ["takes"] []
  g_p_are_takes : mg "_are_takes" = some (.ref a.f_p_are_takes)
  k_p_are_takes : PySem.W.keepIn K (.ref a.f_p_are_takes) = true
  F_p_are_throws : Fun K "_are_throws" "_are_throws" s_p_are_throws a.f_p_are_throws a.d_p_are_throws
  B_p_are_throws : Binds K a.d_p_are_throws ["throws"] []
  g_p_are_throws : mg "_are_throws" = some (.ref a.f_p_are_throws)
  k_p_are_throws : PySem.W.keepIn K (.ref a.f_p_are_throws) = true
  F_p_fits_helpers : Fun K "_fits_helpers" "_fits_helpers" s_p_fits_helpers a.f_p_fits_helpers a.d_p_fits_helpers
  B_p_fits_helpers : Binds K a.d_p_fits_helpers ["pact", "pairs", "ahead"] []
  g_p_fits_helpers : mg "_fits_helpers" = some (.ref a.f_p_fits_helpers)
  k_p_fits_helpers : PySem.W.keepIn K (.ref a.f_p_fits_helpers) = true
  F_box : Fun K "_law_box" "_law_box" s_box a.f_box a.d_box
  B_box : Binds K a.d_box ["_law_script"] []
  g_box : mg "_law_box" = some (.ref a.f_box)
  k_box : PySem.W.keepIn K (.ref a.f_box) = true
  F_mixed : Fun K "_law_mixed" "_law_mixed" s_mixed a.f_mixed a.d_mixed
  B_mixed : Binds K a.d_mixed ["_law_cell", "_law_k"] []
  g_mixed : mg "_law_mixed" = some (.ref a.f_mixed)
  k_mixed : PySem.W.keepIn K (.ref a.f_mixed) = true
  F_take : Fun K "_law_take" "_law_take" s_take a.f_take a.d_take
  B_take : Binds K a.d_take ["_law_box_here", "_law_size"] []
  g_take : mg "_law_take" = some (.ref a.f_take)
  k_take : PySem.W.keepIn K (.ref a.f_take) = true
  F_unlike : Fun K "_law_unlike" "_law_unlike" s_unlike a.f_unlike a.d_unlike
  B_unlike : Binds K a.d_unlike ["_law_box_here", "_law_many", "_law_pool"] []
  g_unlike : mg "_law_unlike" = some (.ref a.f_unlike)
  k_unlike : PySem.W.keepIn K (.ref a.f_unlike) = true
  F_names : Fun K "_law_names" "_law_names" s_names a.f_names a.d_names
  B_names : Binds K a.d_names ["_law_box_here", "_law_many", "_law_menu"] []
  g_names : mg "_law_names" = some (.ref a.f_names)
  k_names : PySem.W.keepIn K (.ref a.f_names) = true
  F_any_deal : Fun K "_law_any_deal" "_law_any_deal" s_any_deal a.f_any_deal a.d_any_deal
  B_any_deal : Binds K a.d_any_deal ["_law_box_here", "_law_limit"] []
  g_any_deal : mg "_law_any_deal" = some (.ref a.f_any_deal)
  k_any_deal : PySem.W.keepIn K (.ref a.f_any_deal) = true
  F_pact : Fun K "_law_pact" "_law_pact" s_pact a.f_pact a.d_pact
  B_pact : Binds K a.d_pact ["_law_deal", "_law_name"] []
  g_pact : mg "_law_pact" = some (.ref a.f_pact)
  k_pact : PySem.W.keepIn K (.ref a.f_pact) = true
  F_laden : Fun K "_law_laden" "_law_laden" s_laden a.f_laden a.d_laden
  B_laden : Binds K a.d_laden ["_law_deal", "_law_team", "_law_word"] []
  g_laden : mg "_law_laden" = some (.ref a.f_laden)
  k_laden : PySem.W.keepIn K (.ref a.f_laden) = true
  F_errors : Fun K "_law_errors" "_law_errors" s_errors a.f_errors a.d_errors
  B_errors : Binds K a.d_errors ["_law_deal", "_law_name", "_law_team"] []
  g_errors : mg "_law_errors" = some (.ref a.f_errors)
  k_errors : PySem.W.keepIn K (.ref a.f_errors) = true
  F_of_team : Fun K "_law_of_team" "_law_of_team" s_of_team a.f_of_team a.d_of_team
  B_of_team : Binds K a.d_of_team ["_law_deal", "_law_team"] []
  g_of_team : mg "_law_of_team" = some (.ref a.f_of_team)
  k_of_team : PySem.W.keepIn K (.ref a.f_of_team) = true
  F_any_call : Fun K "_law_any_call" "_law_any_call" s_any_call a.f_any_call a.d_any_call
  B_any_call : Binds K a.d_any_call ["_law_box_here", "_law_deal", "_law_team", "_law_many"] []
  g_any_call : mg "_law_any_call" = some (.ref a.f_any_call)
  k_any_call : PySem.W.keepIn K (.ref a.f_any_call) = true
  F_any_end : Fun K "_law_any_end" "_law_any_end" s_any_end a.f_any_end a.d_any_end
  B_any_end : Binds K a.d_any_end ["_law_box_here", "_law_deal", "_law_name"] []
  g_any_end : mg "_law_any_end" = some (.ref a.f_any_end)
  k_any_end : PySem.W.keepIn K (.ref a.f_any_end) = true
  F_any_row : Fun K "_law_any_row" "_law_any_row" s_any_row a.f_any_row a.d_any_row
  B_any_row : Binds K a.d_any_row ["_law_box_here", "_law_deal", "_law_name", "_law_at", "_law_many"] []
  g_any_row : mg "_law_any_row" = some (.ref a.f_any_row)
  k_any_row : PySem.W.keepIn K (.ref a.f_any_row) = true
  F_any_rows : Fun K "_law_any_rows" "_law_any_rows" s_any_rows a.f_any_rows a.d_any_rows
  B_any_rows : Binds K a.d_any_rows ["_law_box_here", "_law_deal", "_law_name", "_law_many"] []
  g_any_rows : mg "_law_any_rows" = some (.ref a.f_any_rows)
  k_any_rows : PySem.W.keepIn K (.ref a.f_any_rows) = true
  F_sided : Fun K "_law_sided" "_law_sided" s_sided a.f_sided a.d_sided
  B_sided : Binds K a.d_sided ["_law_deal", "_law_team", "_law_texts"] []
  g_sided : mg "_law_sided" = some (.ref a.f_sided)
  k_sided : PySem.W.keepIn K (.ref a.f_sided) = true
  F_no_row : Fun K "_law_no_row" "_law_no_row" s_no_row a.f_no_row a.d_no_row
  B_no_row : Binds K a.d_no_row ["_law_made", "_law_name", "_law_row"] []
  g_no_row : mg "_law_no_row" = some (.ref a.f_no_row)
  k_no_row : PySem.W.keepIn K (.ref a.f_no_row) = true
  F_told : Fun K "_law_told" "_law_told" s_told a.f_told a.d_told
  B_told : Binds K a.d_told ["_law_made", "_law_texts"] []
  g_told : mg "_law_told" = some (.ref a.f_told)
  k_told : PySem.W.keepIn K (.ref a.f_told) = true
  F_law : Fun K "law" "law" s_law a.f_law a.d_law
  B_law : Binds K a.d_law ["_law_script"] []
  g_law : mg "law" = some (.ref a.f_law)
  k_law : PySem.W.keepIn K (.ref a.f_law) = true
  KN_Pacts_laden_2 : KwN K a.d_Pacts_laden ["self", "word", "side"] 2 ["side"]
  KN_Pacts_over_2 : KwN K a.d_Pacts_over ["self", "word", "side"] 2 ["side"]
  KN_Pacts_errors_2 : KwN K a.d_Pacts_errors ["self", "name", "side"] 2 ["side"]
  v_LONGEST_NAME : mg "LONGEST_NAME" = some (.int 8 a.t_LONGEST_NAME)
  v_MOST_PAIRS : mg "MOST_PAIRS" = some (.int 6 a.t_MOST_PAIRS)
  v_MOST_HELPERS : mg "MOST_HELPERS" = some (.int 4 a.t_MOST_HELPERS)
  v_MOST_TAKES : mg "MOST_TAKES" = some (.int 3 a.t_MOST_TAKES)
  v_MOST_THROWS : mg "MOST_THROWS" = some (.int 4 a.t_MOST_THROWS)
  v_TAKES : mg "TAKES" = some (.ref a.t_TAKES)
  q_TAKES : ∀ H, SqT K H a.t_TAKES [.str "lent", .str "given"]
  kt_TAKES : ∃ o, K.lookup a.t_TAKES = some o ∧ o.cls = .type "tuple" ∧ o.dict = none
  v_PLACES : mg "PLACES" = some (.ref a.t_PLACES)
  q_PLACES : ∀ H, SqT K H a.t_PLACES [.str "a", .str "b", .str "c", .str "d", .str "e", .str "shelf"]
  kt_PLACES : ∃ o, K.lookup a.t_PLACES = some o ∧ o.cls = .type "tuple" ∧ o.dict = none
  v_SHELF : mg "SHELF" = some (.int 5 a.t_SHELF)
  v_POCKET_ROWS : mg "POCKET_ROWS" = some (.ref a.t_POCKET_ROWS)
  q_POCKET_ROWS : ∀ H, SqT K H a.t_POCKET_ROWS [.str "make", .str "free", .str "clear", .str "forget", .str "put", .str "take"]
  kt_POCKET_ROWS : ∃ o, K.lookup a.t_POCKET_ROWS = some o ∧ o.cls = .type "tuple" ∧ o.dict = none
  v_MOST_ROWS : mg "MOST_ROWS" = some (.int 200 a.t_MOST_ROWS)
  z_ValueError : mg "ValueError" = none
  z_isinstance : mg "isinstance" = none
  z_int : mg "int" = none
  z_bool : mg "bool" = none
  z_tuple : mg "tuple" = none
  z_list : mg "list" = none
  z_str : mg "str" = none
  z_dict : mg "dict" = none
  z_len : mg "len" = none
  z_all : mg "all" = none
  z_range : mg "range" = none
  z_zip : mg "zip" = none
  z_min : mg "min" = none
  z_max : mg "max" = none
  z_enumerate : mg "enumerate" = none
  z_sorted : mg "sorted" = none
section
variable {P : Program} {w : World} {K : PySem.W.Frag} {mg : Str → Option Value} {base : Heap} {a : Ad}
/-! ### texts and kinds -/
theorem inV_str (x : Str) : ∀ l : List Str, inV (.str x) (l.map V.str) = decide (x ∈ l)
  | [] => rfl
  | y :: l => by
    have ih := inV_str x l
    unfold inV at ih ⊢
    rw [List.map_cons, List.any_cons, ih]
    show ((y == x) || decide (x ∈ l)) = decide (x ∈ y :: l)
    by_cases e : y = x
    · subst e; simp
    · have e2 : ¬ x = y := fun z => e z.symm
      simp [e, e2]
theorem flat_str (l : List Str) : (l.map V.str).all flatV = true := List.all_eq_true.mpr fun v hv => by
  obtain ⟨s, _, rfl⟩ := List.mem_map.mp hv
  rfl
theorem strs_get {xs : List Str} {i : Nat} {y : V} (h : (xs.map V.str)[i]? = some y) : ∃ s, xs[i]? = some s ∧ y = V.str s := by
  rw [List.getElem?_map] at h
  cases e : xs[i]? with
  | none => rw [e] at h; cases h
  | some z => rw [e] at h; exact ⟨z, rfl, (Option.some.inj h).symm⟩
theorem refs_get {xs : List Addr} {i : Nat} {y : V} (h : (xs.map V.ref)[i]? = some y) : ∃ s, xs[i]? = some s ∧ y = V.ref s := by
  rw [List.getElem?_map] at h
  cases e : xs[i]? with
  | none => rw [e] at h; cases h
  | some z => rw [e] at h; exact ⟨z, rfl, (Option.some.inj h).symm⟩
theorem take_snoc {α : Type} {xs : List α} {i : Nat} {x : α} (h : xs[i]? = some x) : xs.take (i + 1) = xs.take i ++ [x] := by rw [List.take_add_one, h]; rfl
def sp_is_whole : Sp := fun vs H Q _ => ∃ i : Int, vs = [.int i] ∧ Q (.bl true) H
theorem ok_is_whole (T : Txt K mg a) : FnOk P w K mg base CX0 1 a.f_is_whole a.d_is_whole ["thing"] sp_is_whole := by
  refine T.F_is_whole.ok sc_is_whole (fun vs H Q E h => ?_) (fun cdv A outer s H vs Q E hr h => ?_)
  · obtain ⟨i, rfl, _⟩ := h
    rfl
  · obtain ⟨i, rfl, kk⟩ := h
    refine ⟨_, (pss_one (ps_ret (pe_and (pe_callB call_isi (by rfl) T.z_isinstance (by decide +kernel) (pa_cons (pv 0) (pa_cons (pe_bltn (v := .ty "int") (by rfl) T.z_int (by decide +kernel) rfl) pa_nil))) (pe_one (pe_not (pe_callB call_isi (by rfl) T.z_isinstance (by decide +kernel) (pa_cons (pv 0) (pa_cons (pe_bltn (v := .ty "bool") (by rfl) T.z_bool (by decide +kernel) rfl) pa_nil)))))))), ?_⟩
    refine ⟨_, rfl, _, _, _, _, true, rfl, .ty "int", .base (.int i), kit_ty (by decide +kernel), true, rfl, ?_⟩
    refine iteT ?_
    refine ⟨_, rfl, _, _, _, _, false, rfl, .ty "bool", .base (.int i), kit_ty (by decide +kernel), ?_⟩
    refine ⟨_, rfl, ?_⟩
    exact kk
theorem inV_01 (i : Int) : inV (.int i) [.int 0, .int 1] = decide (i = 0 ∨ i = 1) := by
  show ((0 == i) || ((1 == i) || false)) = _
  by_cases h0 : i = 0
  · subst h0; rfl
  · by_cases h1 : i = 1
    · subst h1; rfl
    · have a0 : ((0 : Int) == i) = false := beq_eq_false_iff_ne.mpr fun z => h0 z.symm
      have a1 : ((1 : Int) == i) = false := beq_eq_false_iff_ne.mpr fun z => h1 z.symm
      rw [a0, a1]
      simp [h0, h1]
def sp_is_side : Sp := fun vs H Q _ => ∃ i : Int, vs = [.int i] ∧ ∀ H', Same H H' → Q (.bl (decide (i = 0 ∨ i = 1))) H'
theorem ok_is_side (T : Txt K mg a) : FnOk P w K mg base CX0 2 a.f_is_side a.d_is_side ["thing"] sp_is_side := by
  refine T.F_is_side.ok sc_is_side (fun vs H Q E h => ?_) (fun cdv A outer s H vs Q E hr h => ?_)
  · obtain ⟨i, rfl, _⟩ := h
    rfl
  · obtain ⟨i, rfl, kk⟩ := h
    refine ⟨_, (pss_one (ps_ret (pe_and (pe_call (ok_is_whole T) (hr.mono (by decide)) rfl T.g_is_whole T.k_is_whole T.B_is_whole .nil pass0 (pa_cons (pv 0) pa_nil)) (pe_one (pe_cmpR op_in_seq (pv 0) (pe_tup (pa_cons pe_int (pa_cons pe_int pa_nil))) (by rfl)))))), ?_⟩
    refine ⟨_, rfl, i, rfl, true, rfl, ?_⟩
    refine iteT ?_
    refine ⟨_, rfl, by show 2 ≤ sizeLine; decide, fun t ht => ?_⟩
    refine ⟨t, _, rfl, .inr (SqT.of upd_same), rfl, rfl, ?_⟩
    show Q (.bl (inV (.int i) [.int 0, .int 1])) _
    rw [inV_01]
    exact kk _ ((Same.refl H).upd ht)
theorem one_lt (c d : Nat) : (([c] : List Nat) < [d]) ↔ c < d := by
  rw [List.cons_lt_cons_iff]
  simp
theorem le_a (c : Nat) : (!decide ((⟨#[c]⟩ : Str).cps.toList < ("a" : Str).cps.toList)) = decide (97 ≤ c) := by
  have e : ("a" : Str).cps.toList = [97] := by decide +kernel
  rw [e]
  show (!decide (([c] : List Nat) < [97])) = _
  rw [decide_eq_decide.mpr (one_lt c 97)]
  by_cases h : c < 97
  · rw [decide_eq_true h, decide_eq_false (by omega)]; rfl
  · rw [decide_eq_false h, decide_eq_true (by omega)]; rfl
theorem le_z (c : Nat) : (!decide (("z" : Str).cps.toList < (⟨#[c]⟩ : Str).cps.toList)) = decide (c ≤ 122) := by
  have e : ("z" : Str).cps.toList = [122] := by decide +kernel
  rw [e]
  show (!decide (([122] : List Nat) < [c])) = _
  rw [decide_eq_decide.mpr (one_lt 122 c)]
  by_cases h : 122 < c
  · rw [decide_eq_true h, decide_eq_false (by omega)]; rfl
  · rw [decide_eq_false h, decide_eq_true (by omega)]; rfl
theorem all_id (l : List Nat) : (l.map My.letter).all id = l.all My.letter := by rw [List.all_map]; rfl
def sp_is_name : Sp := fun vs H Q _ => ∃ s : Str, vs = [.str s] ∧ s.length ≤ sizeLine ∧ ∀ H', Same H H' → Q (.bl (My.nameB s)) H'
theorem ok_is_name (T : Txt K mg a) : FnOk P w K mg base CX0 1 a.f_is_name a.d_is_name ["thing"] sp_is_name := by
  refine T.F_is_name.ok sc_is_name (fun vs H Q E h => ?_) (fun cdv A outer s H vs Q E hr h => ?_)
  · obtain ⟨s, rfl, _⟩ := h
    rfl
  · obtain ⟨s, rfl, hz, kk⟩ := h
    refine ⟨_, (pss_cons (ps_if (PW.pt (pw_or (pt_not (pt_val (pe_callB call_isi (by rfl) T.z_isinstance (by decide +kernel) (pa_cons (pv 0) (pa_cons (pe_bltn (v := .ty "str") (by rfl) T.z_str (by decide +kernel) rfl) pa_nil))))) (pw_or1 (pt_not (pt_chain op_le op_le pe_int (pe_callB call_len_str (by rfl) T.z_len (by decide +kernel) (pa_cons (pv 0) pa_nil)) (pe_glob (v := .int 8) rfl T.v_LONGEST_NAME ⟨_, rfl⟩)))))) (pss_one (ps_ret pe_bl)) pss_nil)
      (pss_one (ps_ret (pe_callB (cr_all rfl) (by rfl) T.z_all (by decide +kernel) (pa_cons (pe_lc (own := [("sign", 1)]) (g := gName 1) (tt := tYes) rfl sc_is_name.nd (pi_str (pv 0)) (blkOk_by (own := [("sign", 1)]) (N := ["thing", "sign"]) (sc := defScope s_is_name) (by decide +kernel)) (fun _ _ _ _ _ => pg_name (i := 1) sc_is_name.nd rfl (Or.inl rfl)) (fun _ _ _ _ _ => pts_nil) (fun _ _ _ _ _ => by exact (pe_chain op_le_str op_le_str pe_str (pv 1) pe_str))) pa_nil))))), ?_⟩
    have no : ¬ (1 ≤ s.cps.size ∧ s.cps.size ≤ 8) → Q (.bl false) H := fun n => by
      have e : My.nameB s = false := by
        unfold My.nameB
        by_cases h1 : 1 ≤ s.cps.size
        · have h2 : ¬ s.cps.size ≤ 8 := fun z => n ⟨h1, z⟩
          rw [decide_eq_false h2]; simp
        · rw [decide_eq_false h1]; simp
      exact e ▸ kk H (Same.refl H)
    refine ⟨_, rfl, _, _, _, _, true, rfl, .ty "str", .base (.str s), kit_ty (by decide +kernel), true, rfl, ?_⟩
    refine iteF ?_
    refine ⟨_, rfl, _, rfl, hz, ?_⟩
    refine ⟨_, _, rfl, rfl, _, rfl, ?_⟩
    refine iteD (fun h1 => ?_) (fun h1 => ?_)
    · refine ⟨_, _, rfl, rfl, _, rfl, ?_⟩
      refine iteB (fun h2 => ?_) (fun h2 => ?_)
      · refine no fun z => ?_
        have z2 : ((s.length : Nat) : Int) ≤ 8 := by
          show ((s.cps.size : Nat) : Int) ≤ 8
          omega
        rw [show (!decide ((s.length : Int) ≤ 8)) = false by rw [decide_eq_true z2]; rfl] at h2
        cases h2
      · have h2' : ((s.cps.size : Nat) : Int) ≤ 8 := by
          show ((s.length : Nat) : Int) ≤ 8
          by_cases z : ((s.length : Nat) : Int) ≤ 8
          · exact z
          · rw [show (!decide ((s.length : Int) ≤ 8)) = true by rw [decide_eq_false z]; rfl] at h2
            cases h2
        have b1 : 1 ≤ s.cps.size := by
          have : (1 : Int) ≤ (s.cps.size : Int) := h1
          omega
        have b2 : s.cps.size ≤ 8 := by omega
        refine ⟨_, rfl, s, rfl, fun D hD => ?_⟩
        refine lc_it walk_str (fun i H1 => Blk (H1 = upd H D (.lst (((s.cps.toList.take i).map My.letter).map V.bl)) ∧ i ≤ s.cps.size)) (Blk.of ⟨rfl, by omega⟩) (fun i H1 _ hB => trivial) ?_ ?_
        · intro i y H1 H2 hi hB hy
          obtain ⟨rfl, hi2⟩ := hB.out
          obtain ⟨rfl, c, hc, rfl⟩ := hy
          have hc2 : s.cps.toList[i]? = some c := by rw [Array.getElem?_toList]; exact hc
          refine ⟨rfl, ?_⟩
          dsimp only [tYes]
          refine iteT ?_
          refine ⟨_, rfl, _, _, rfl, rfl, _, rfl, ?_⟩
          rw [le_a]
          have fin : ∀ b : Bool, b = My.letter c → ∃ acc, upd H D (.lst (((s.cps.toList.take i).map My.letter).map V.bl)) D = some (.lst acc) ∧ acc.length < sizeLine ∧
              Blk (upd (upd H D (.lst (((s.cps.toList.take i).map My.letter).map V.bl))) D (.lst (acc ++ [.bl b])) = upd H D (.lst (((s.cps.toList.take (i + 1)).map My.letter).map V.bl)) ∧ i + 1 ≤ s.cps.size) := by
            rintro b rfl
            refine ⟨_, upd_same, ?_, Blk.of ⟨?_, by omega⟩⟩
            · rw [List.length_map, List.length_map, List.length_take]
              exact small (by omega)
            · rw [upd_upd, take_snoc hc2, List.map_append, List.map_append]
              rfl
          refine iteD (fun ha => ?_) (fun ha => ?_)
          · refine ⟨_, _, rfl, rfl, ?_⟩
            rw [le_z]
            refine fin _ ?_
            unfold My.letter
            rw [decide_eq_true ha]
            rfl
          · refine fin false ?_
            unfold My.letter
            rw [decide_eq_false ha]
            rfl
        · intro H1 hB
          obtain ⟨rfl, _⟩ := hB.out
          refine ⟨D, _, rfl, SqL.of upd_same, ?_⟩
          have el : s.cps.toList.take s.cps.size = s.cps.toList := by rw [← Array.length_toList, List.take_length]
          rw [el, all_id]
          have en : s.cps.toList.all My.letter = My.nameB s := by
            unfold My.nameB
            rw [decide_eq_true b1, decide_eq_true b2]
            rfl
          rw [en]
          exact kk _ ((Same.refl H).upd hD)
    · refine ⟨_, rfl, ?_⟩
      refine iteT (no fun z => h1 ?_)
      show (1 : Int) ≤ (s.cps.size : Int)
      omega

/-! ### _law_mixed -/
def sp_mixed : Sp := fun vs H Q _ => ∃ (c k : Int), vs = [.int c, .int k] ∧ 0 ≤ k ∧ k < 100000000 ∧ ∀ r : Int, 0 ≤ r → r < 1000000007 → Q (.int r) H
theorem mixed_bound {c k : Int} (h0 : 0 ≤ k) (h1 : k < 100000000) : (c % 2147483647 + 1009 * k * k + 48611 * k + 17).natAbs < 2 ^ 64 := by
  have a0 := Int.emod_nonneg c (by decide : (2147483647 : Int) ≠ 0)
  have a1 := Int.emod_lt_of_pos c (by decide : (0 : Int) < 2147483647)
  have b0 : 0 ≤ 1009 * k * k := Int.mul_nonneg (by omega) h0
  have b1 : 1009 * k * k ≤ 1009 * 100000000 * 100000000 := Int.mul_le_mul (by omega) (by omega) h0 (by omega)
  have e : (2 : Nat) ^ 64 = 18446744073709551616 := by decide
  rw [e]
  omega
theorem ok_mixed (T : Txt K mg a) : FnOk P w K mg base CX0 1 a.f_mixed a.d_mixed ["_law_cell", "_law_k"] sp_mixed := by
  refine T.F_mixed.ok sc_mixed (fun vs H Q E h => ?_) (fun cdv A outer s H vs Q E hr h => ?_)
  · obtain ⟨c, k, rfl, _⟩ := h
    rfl
  · obtain ⟨c, k, rfl, h0, h1, kk⟩ := h
    refine ⟨_, (pss_cons (ps_set (i := 2) sc_mixed.nd rfl (Or.inl rfl) (pe_op op_mod (pe_op op_pow (pe_op op_add (pe_op op_add (pe_op op_add (pe_op op_mod (pv 0) pe_int) (pe_op op_mul (pe_op op_mul pe_int (pv 1)) (pv 1))) (pe_op op_mul pe_int (pv 1))) pe_int) pe_int) pe_int))
      (pss_one (ps_ret (pe_op op_mod (pe_op op_add (pe_op op_mul (pv 2) pe_int) (pe_op op_mul pe_int (pv 1))) pe_int)))), ?_⟩
    have eb := mixed_bound (c := c) h0 h1
    generalize hx : c % 2147483647 + 1009 * k * k + 48611 * k + 17 = x at eb
    refine ⟨_, rfl, _, _, rfl, rfl, (by show (0 : Int) < _; decide), _, rfl, _, _, rfl, rfl, .inl ⟨by decide, by decide⟩, _, rfl, _, _, rfl, rfl, .inl ⟨by omega, by omega⟩, _, _, rfl, rfl, _, rfl, _, _, rfl, rfl, .inl ⟨by decide, by decide⟩,
      _, _, rfl, rfl, _, _, rfl, rfl, _, _, rfl, rfl, ⟨by decide, by decide, by rw [hx]; exact eb⟩, _, _, rfl, rfl, (by show (0 : Int) < _; decide), ?_⟩
    rw [hx]
    generalize x ^ Int.toNat 5 % 2147483647 = y
    refine ⟨_, rfl, _, _, rfl, rfl, .inr ⟨by decide, by decide⟩, _, rfl, _, _, rfl, rfl, .inl ⟨by decide, by decide⟩, _, _, rfl, rfl, _, _, rfl, rfl, (by show (0 : Int) < _; decide), ?_⟩
    exact kk _ (Int.emod_nonneg _ (by decide)) (Int.emod_lt_of_pos _ (by decide))

/-! ### _law_take -/
def sp_take : Sp := fun vs H Q _ => ∃ (b g l : Addr) (n size : Int), vs = [.ref b, .int size] ∧ BoxAt H b g l n ∧ 0 ≤ n ∧ n < 10000000 ∧ 0 < size ∧ size.natAbs.log2 < 9000 ∧
  ∀ (k : Int) (H' : Hp), 0 ≤ k → k < size → BoxAt H' b g l (n + 1) → Keeps [b, g] H H' → Q (.int k) H'
theorem ok_take (T : Txt K mg a) : FnOk P w K mg base CX0 2 a.f_take a.d_take ["_law_box_here", "_law_size"] sp_take := by
  refine T.F_take.ok sc_take (fun vs H Q E h => ?_) (fun cdv A outer s H vs Q E hr h => ?_)
  · obtain ⟨b, g, l, n, size, rfl, _⟩ := h
    rfl
  · obtain ⟨b, g, l, n, size, rfl, ⟨gs, ls, cur, hb, hg, hl, nbg, nbl, ngl, zg, zl⟩, n0, n1, s0, s1, kk⟩ := h
    refine ⟨_, (pss_cons (ps_asg (pe_op op_add (pe_ix ix_list (pv 0) pe_int (fun _ _ => rfl)) pe_int) (pg_sub (pv 0) pe_int set_list))
      (C8.pss_cut (ps_if (PW.pt (pw_and (pt_cmpR op_eq (pe_ix ix_list (pv 0) pe_int (fun _ _ => rfl)) pe_int (nomark _)) (pw_and1 (pt_cmpR op_gt (pe_callB call_len_seq (by rfl) T.z_len (by decide +kernel) (pa_cons (pe_ix ix_list (pv 0) pe_int (fun _ _ => rfl)) pa_nil)) pe_int (nomark _))))) (pss_one (ps_asg (pe_bm PySem.F.plainAttrs_list PySem.F.slot_list_pop PySem.F.type_list_pop mt_popAt (pe_ix ix_list (pv 0) pe_int (fun _ _ => rfl)) (pa_cons pe_int pa_nil)) (pg_sub (pv 0) pe_int set_list))) pss_nil)
      (pss_cons (ps_if (pt_cmpR op_gt (pe_ix ix_list (pv 0) pe_int (fun _ _ => rfl)) pe_int (nomark _)) (pss_cons (ps_set (i := 2) sc_take.nd rfl (Or.inl rfl) (pe_op op_mod (pe_ix ix_list (pv 0) pe_int (fun _ _ => rfl)) (pv 1)))
      (pss_cons (ps_asg (pe_op op_fdivW (pe_ix ix_list (pv 0) pe_int (fun _ _ => rfl)) (pv 1)) (pg_sub (pv 0) pe_int set_list))
      (pss_one (ps_ret (pv 2))))) pss_nil)
      (pss_cons (ps_set (i := 3) sc_take.nd rfl (Or.inl rfl) (pe_op op_mul pe_int (pe_ix ix_list (pv 0) pe_int (fun _ _ => rfl))))
      (C8.pss_cut (ps_if (pt_cmpR op_gt (pe_callB call_len_seq (by rfl) T.z_len (by decide +kernel) (pa_cons (pe_ix ix_list (pv 0) pe_int (fun _ _ => rfl)) pa_nil)) pe_int (nomark _)) (pss_one (ps_set (i := 3) sc_take.nd rfl (Or.inl rfl) (pe_ix ix_list (pe_ix ix_list (pv 0) pe_int (fun _ _ => rfl)) (pe_op op_mod (pe_ix ix_list (pv 0) pe_int (fun _ _ => rfl)) (pe_callB call_len_seq (by rfl) T.z_len (by decide +kernel) (pa_cons (pe_ix ix_list (pv 0) pe_int (fun _ _ => rfl)) pa_nil))) (fun _ _ => rfl)))) pss_nil)
      (pss_cons (ps_set (i := 2) sc_take.nd rfl (Or.inl rfl) pe_int)
      (pss_cons (ps_set (i := 4) sc_take.nd rfl (Or.inl rfl) pe_int)
      (pss_cons (ps_while PassesOwn.never (pt_cmpR op_lt (pv 4) (pv 1) (nomark _)) (pss_cons (ps_set (i := 2) sc_take.nd rfl (Or.inl rfl) (pe_op op_add (pe_op op_mul (pv 2) pe_int) (pe_call (ok_mixed T) (hr.mono (by decide)) rfl T.g_mixed T.k_mixed T.B_mixed .nil pass0 (pa_cons (pv 3) (pa_cons (pe_op op_add (pe_ix ix_list (pv 0) pe_int (fun _ _ => rfl)) (pe_op op_mul pe_int (pe_op op_mod (pv 2) pe_int))) pa_nil)))))
      (pss_one (ps_set (i := 4) sc_take.nd rfl (Or.inl rfl) (pe_op op_mul (pv 4) pe_int)))))
      (pss_one (ps_ret (pe_op op_mod (pv 2) (pv 1)))))))))))), ?_⟩
    -- box[3] = box[3] + 1
    walk_at "rd"
    have kp0 : Keeps [b, g] H (upd H b (.lst [.ref g, .int cur, .ref l, .int (n + 1)])) := (Keeps.refl _ H).upd (.inl (List.mem_cons_self))
    refine ⟨fun σ H1 => Blk (σ = [some (.ref b), some (.int size), none, none, none] ∧ ∃ (gs : List Int) (cur : Int), H1 b = some (.lst [.ref g, .int cur, .ref l, .int (n + 1)]) ∧ H1 g = some (.lst (gs.map V.int)) ∧ gs.length ≤ 63 ∧ H1 l = some (.lst (ls.map V.int)) ∧ Keeps [b, g] H H1), ?_, ?_⟩
    · walk_at "rd"
      refine iteD (fun hc => ?_) (fun hc => ?_)
      · walk_at "rd"
        refine iteD (fun hc => ?_) (fun hc => ?_)
        · rw [List.length_map] at hc
          match gs, hc with
          | x :: gs, _ =>
            walk_at "rd"
            refine ⟨_, _, _, _, _, rfl, rfl, (by walk_at "hp"), by decide, by decide, seqIndex_of (by decide) (by simp), rfl, ?_⟩
            walk_at "rd"
            refine Blk.of ⟨rfl, gs, x, upd_same, (by walk_at "hp"), by rw [List.length_cons] at zg; omega, by walk_at "hp", ?_⟩
            exact (kp0.upd (.inl (by simp))).upd (.inl (by simp))
        · refine Blk.of ⟨rfl, gs, cur, upd_same, by walk_at "hp", zg, by walk_at "hp", kp0⟩
      · refine iteF ?_
        refine Blk.of ⟨rfl, gs, cur, upd_same, by walk_at "hp", zg, by walk_at "hp", kp0⟩
    · rintro σ H1 hB
      obtain ⟨rfl, gs, cur, hb, hg, zg, hl, kp⟩ := hB.out
      walk_at "rd"
      refine iteD (fun hc => ?_) (fun hc => ?_)
      · walk_at "rd"
        refine kk _ _ (Int.emod_nonneg _ (by omega)) (Int.emod_lt_of_pos _ s0) ⟨gs, ls, _, upd_same, by walk_at "hp", by walk_at "hp", nbg, nbl, ngl, zg, zl⟩ (kp.upd (.inl (by simp)))
      · walk_at "rd"
        refine ⟨fun σ H2 => Blk (H2 = H1 ∧ ∃ cell : Int, σ = [some (.ref b), some (.int size), none, some (.int cell), none]), ?_, ?_⟩
        · walk_at "rd"
          refine iteD (fun hc2 => ?_) (fun hc2 => ?_)
          · have hpos : (0 : Int) < ((ls.map V.int).length : Int) := hc2
            walk_at "rd"
            have i0 := Int.emod_nonneg (n + 1) (show (((ls.map V.int).length : Nat) : Int) ≠ 0 by omega)
            have i1 := Int.emod_lt_of_pos (n + 1) hpos
            have hx : (ls.map V.int)[((n + 1) % (((ls.map V.int).length : Nat) : Int)).toNat]? = some (.int (My.g ls ((n + 1) % (((ls.map V.int).length : Nat) : Int)).toNat)) := by
              rw [List.getElem?_map, My.g_lt (by rw [List.length_map] at *; omega)]; rfl
            refine ⟨_, _, _, _, rfl, rfl, SqL.of (by walk_at "hp"), at_of (j := ((n + 1) % (((ls.map V.int).length : Nat) : Int)).toNat) (by omega) hx, ?_⟩
            exact Blk.of ⟨rfl, _, rfl⟩
          · exact Blk.of ⟨rfl, _, rfl⟩
        · rintro σ H2 hB
          obtain ⟨rfl, cell, rfl⟩ := hB.out
          walk_at "rd"
          refine while_by (fun σ H1 => H1 = H2 ∧ ∃ found reach : Int, σ = [some (.ref b), some (.int size), some (.int found), some (.int cell), some (.int reach)] ∧ 0 < reach)
            (fun σ _ => match σ with | [_, _, _, _, some (.int r)] => (size - r).toNat | _ => 0) ⟨rfl, 0, 1, rfl, by decide⟩ ?_ ?_
          · rintro σ H1 ⟨rfl, found, reach, rfl, hr0⟩
            walk_at "rd"
            refine iteD (fun hlt => ?_) (fun hlt => ?_)
            · walk_at "rd"
              have f0 := Int.emod_nonneg found (show (89 : Int) ≠ 0 by decide)
              have f1 := Int.emod_lt_of_pos found (show (0 : Int) < 89 by decide)
              refine ⟨_, _, rfl, (by show 0 ≤ n + 1 + 1000 * (found % 89); omega), (by show n + 1 + 1000 * (found % 89) < 100000000; omega), fun r r0 r1 => ?_⟩
              walk_at "rd"
              refine ⟨⟨rfl, _, _, rfl, by omega⟩, ?_⟩
              show (size - reach * 1000000007).toNat < (size - reach).toNat
              omega
            · walk_at "rd"
              exact kk _ _ (Int.emod_nonneg _ (by omega)) (Int.emod_lt_of_pos _ s0) ⟨gs, ls, _, hb, hg, hl, nbg, nbl, ngl, zg, zl⟩ kp
          · intro σ H Q Q' hq h
            obtain ⟨v, h1, u, h2, i, j, e1, e2, k, e3, q⟩ := h
            exact ⟨v, h1, u, h2, i, j, e1, e2, k, e3, hq _ _ q⟩

/-! ### _law_box -/
def sp_box (K : PySem.W.Frag) : Sp := fun vs H Q _ => ∃ (s : Addr) (ns : List Int), vs = [.ref s] ∧ SqL K H s (ns.map V.int) ∧ ns.length ≤ 63 ∧
  ∀ (b g l : Addr) (H' : Hp), H b = none → H g = none → H l = none → BoxAt H' b g l 0 → Same H H' → Q (.ref b) H'
theorem ok_box (T : Txt K mg a) : FnOk P w K mg base CX0 1 a.f_box a.d_box ["_law_script"] (sp_box K) := by
  refine T.F_box.ok sc_box (fun vs H Q E h => ?_) (fun cdv A outer s H vs Q E hr h => ?_)
  · obtain ⟨s, ns, rfl, _⟩ := h
    rfl
  · obtain ⟨sc, ns, rfl, hS, hz, kk⟩ := h
    refine ⟨_, (pss_cons (ps_setLc (i := 1) (own := [("_law_cell", 2)]) (g := gName 2) rfl sc_box.nd rfl rfl (sw_true rfl rfl rfl (by decide +kernel)) (pi_list (pv 0)) (blkOk_by (own := [("_law_cell", 2)]) (N := ["_law_script", "_law_great", "_law_cell"]) (sc := defScope s_box) (by decide +kernel)) (fun _ _ _ _ _ => pg_name (i := 2) sc_box.nd rfl (Or.inl rfl)) (fun _ _ _ _ _ => pts_one (pt_cmpR op_ge (pv 2) (pe_op op_pow pe_int pe_int) (nomark _))) (fun _ _ _ _ _ => by exact (pv 2)))
      (pss_one (ps_ret (pe_lst (pa_cons (pv 1) (pa_cons pe_int (pa_cons (pe_lc (own := [("_law_cell", 2)]) (g := gName 2) rfl sc_box.nd (pi_list (pv 0)) (blkOk_by (own := [("_law_cell", 2)]) (N := ["_law_script", "_law_great", "_law_cell"]) (sc := defScope s_box) (by decide +kernel)) (fun _ _ _ _ _ => pg_name (i := 2) sc_box.nd rfl (Or.inl rfl)) (fun _ _ _ _ _ => pts_one (pt_cmpR op_lt (pv 2) (pe_op op_pow pe_int pe_int) (nomark _))) (fun _ _ _ _ _ => by exact (pv 2))) (pa_cons pe_int pa_nil)))))))), ?_⟩
    refine ⟨_, rfl, sc, rfl, ⟨_, hS⟩, fun g hg => ?_⟩
    have sG : ∀ o, Same H (upd H g o) := fun o => (Same.refl H).upd hg
    refine lc_list (K := K) (a := sc) (xs := ns.map V.int) (fun i H1 => Blk (∃ gs : List Int, H1 = upd H g (.lst (gs.map V.int)) ∧ gs.length ≤ i)) (Blk.of ⟨[], rfl, Nat.le_refl _⟩) (fun i H1 _ hB => ?_) ?_ ?_
    · obtain ⟨gs, rfl, _⟩ := hB.out
      exact (sG _).seq hS
    · intro i y H1 hi hB
      obtain ⟨gs, rfl, hl⟩ := hB.out
      obtain ⟨z, hz, rfl⟩ := ints_get hi
      have := get_lt hi
      rw [List.length_map] at this
      refine ⟨rfl, _, rfl, _, _, rfl, rfl, ⟨by decide, by decide, by decide⟩, _, _, rfl, rfl, _, rfl, iteD (fun hc => ?_) (fun hc => ?_)⟩
      · refine ⟨_, rfl, _, upd_same, by rw [List.length_map]; exact small (by omega), Blk.of ⟨gs ++ [z], ?_, by rw [List.length_append]; simp; omega⟩⟩
        rw [upd_upd, List.map_append]; rfl
      · exact Blk.of ⟨gs, rfl, by omega⟩
    · intro H1 hB
      obtain ⟨gs, rfl, hgl⟩ := hB.out
      rw [List.length_map] at hgl
      refine ⟨_, rfl, ?_⟩
      refine ⟨_, rfl, sc, rfl, ⟨_, (sG _).seq hS⟩, fun l hl => ?_⟩
      have ngl : g ≠ l := ne_of_none upd_same hl
      have hl0 : H l = none := by rw [upd_ne ngl.symm] at hl; exact hl
      refine lc_list (K := K) (a := sc) (xs := ns.map V.int) (fun i H1 => Blk (∃ ls : List Int, H1 = upd (upd H g (.lst (gs.map V.int))) l (.lst (ls.map V.int)) ∧ ls.length ≤ i)) (Blk.of ⟨[], rfl, Nat.le_refl _⟩) (fun i H1 _ hB => ?_) ?_ ?_
      · obtain ⟨ls, rfl, _⟩ := hB.out
        exact ((sG _).upd hl0).seq hS
      · intro i y H1 hi hB
        obtain ⟨ls, rfl, hl⟩ := hB.out
        obtain ⟨z, hz, rfl⟩ := ints_get hi
        have := get_lt hi
        rw [List.length_map] at this
        refine ⟨rfl, _, rfl, _, _, rfl, rfl, ⟨by decide, by decide, by decide⟩, _, _, rfl, rfl, _, rfl, iteD (fun hc => ?_) (fun hc => ?_)⟩
        · refine ⟨_, rfl, _, upd_same, by rw [List.length_map]; exact small (by omega), Blk.of ⟨ls ++ [z], ?_, by rw [List.length_append]; simp; omega⟩⟩
          rw [upd_upd, List.map_append]; rfl
        · exact Blk.of ⟨ls, rfl, by omega⟩
      · intro H1 hB
        obtain ⟨ls, rfl, hll⟩ := hB.out
        rw [List.length_map] at hll
        refine ⟨by show 4 ≤ sizeLine; decide, fun b hb => ?_⟩
        have nlb : l ≠ b := ne_of_none upd_same hb
        have hb' : upd H g (.lst (gs.map V.int)) b = none := by rw [upd_ne nlb.symm] at hb; exact hb
        have ngb : g ≠ b := ne_of_none upd_same hb'
        have hb0 : H b = none := by rw [upd_ne ngb.symm] at hb'; exact hb'
        exact kk b g l _ hb0 hg hl0 ⟨gs, ls, 0, upd_same, by rw [upd_ne ngb, upd_ne ngl, upd_same], by rw [upd_ne nlb, upd_same], ngb.symm, nlb.symm, ngl, by omega, by omega⟩ (((sG _).upd hl0).upd hb0)

/-! ### names that are drawn -/
theorem abc_at : ∀ j, j < 26 → ∃ c, ("abcdefghijklmnopqrstuvwxyz" : Str).cps.toList[j]? = some c ∧ My.letter c = true := by
  intro j hj
  have e : ("abcdefghijklmnopqrstuvwxyz" : Str).cps.toList = (List.range 26).map (· + 97) := by decide +kernel
  rw [e]
  refine ⟨j + 97, by rw [List.getElem?_map, List.getElem?_range hj]; rfl, ?_⟩
  unfold My.letter
  rw [decide_eq_true (by omega), decide_eq_true (by omega)]
  rfl
theorem abc_len : ("abcdefghijklmnopqrstuvwxyz" : Str).length ≤ sizeLine := by decide +kernel
theorem abc_ix {k : Int} (h0 : 0 ≤ k) (h1 : k < 26) : ∃ c, atI ("abcdefghijklmnopqrstuvwxyz" : Str).cps.toList k = some c ∧ My.letter c = true := by
  obtain ⟨j, rfl⟩ : ∃ j : Nat, k = j := ⟨k.toNat, by omega⟩
  obtain ⟨c, hc, l⟩ := abc_at j (by omega)
  exact ⟨c, atI_nat hc, l⟩
def sign (c : Nat) : Str := ⟨#[c]⟩
theorem join_signs (cs : List Nat) : Txt.join ("" : Str) (cs.map sign) = ⟨cs.toArray⟩ := by
  have e0 : ("" : Str) = SX.S [] := by decide +kernel
  have e1 : cs.map sign = (cs.map fun c => [c]).map SX.S := by rw [List.map_map]; rfl
  rw [e0, e1, SX.join_S]
  have e2 : ∀ l : List Nat, TL.joinL [] (l.map fun c => [c]) = l := by
    intro l
    induction l with
    | nil => rfl
    | cons x r ih =>
      cases r with
      | nil => rfl
      | cons y r =>
        show [x] ++ ([] ++ TL.joinL [] ((y :: r).map fun c => [c])) = _
        rw [ih]
        rfl
  rw [e2]
theorem name_of {cs : List Nat} (h1 : 1 ≤ cs.length) (h2 : cs.length ≤ 8) (hl : cs.all My.letter = true) : My.nameB ⟨cs.toArray⟩ = true := by
  unfold My.nameB
  have e : (cs.toArray).size = cs.length := by simp
  simp only [e]
  rw [decide_eq_true h1, decide_eq_true h2]
  simpa using hl
theorem nameB_out {s : Str} (h : My.nameB s = true) : 1 ≤ s.cps.size ∧ s.cps.size ≤ 8 ∧ s.cps.toList.all My.letter = true := by
  unfold My.nameB at h
  simp only [Bool.and_eq_true, decide_eq_true_eq] at h
  exact ⟨h.1.1, h.1.2, h.2⟩
theorem name_len {s : Str} (h : My.nameB s = true) : s.length ≤ 8 := (nameB_out h).2.1
theorem name_line {s : Str} (h : My.nameB s = true) : s.length ≤ sizeLine := Nat.le_trans (name_len h) (by rw [sizeLine_eq]; decide)
theorem cut7 (z : Str) : cutS z none (some 7) = ⟨(z.cps.toList.take 7).toArray⟩ := by
  unfold cutS
  congr 1
  congr 1
  have e0 : HT.sIx z.length 0 none = 0 := rfl
  have e1 : HT.sIx z.length z.length (some 7) = min 7 z.length := HT.sIx_nat _ _ 7
  rw [e0, e1, List.drop_zero, Nat.sub_zero]
  have hl : z.cps.toList.length = z.length := Array.length_toList
  by_cases h : 7 ≤ z.length
  · rw [Nat.min_eq_left h]
  · rw [Nat.min_eq_right (by omega), List.take_of_length_le (by omega), List.take_of_length_le (by omega)]
theorem name_cut {z : Str} {c : Nat} (h : My.nameB z = true) (hc : My.letter c = true) : My.nameB (cutS z none (some 7) ++ sign c) = true := by
  rw [cut7]
  have e : ((⟨(z.cps.toList.take 7).toArray⟩ : Str) ++ sign c) = ⟨(z.cps.toList.take 7 ++ [c]).toArray⟩ := SX.S_cat _ _
  rw [e]
  have hl := (nameB_out h).2.2
  refine name_of ?_ ?_ ?_
  · rw [List.length_append]; simp
  · rw [List.length_append, List.length_take]; simp; omega
  · rw [List.all_append]
    have : (z.cps.toList.take 7).all My.letter = true := List.all_eq_true.mpr fun x hx => (List.all_eq_true.mp hl) x (List.mem_of_mem_take hx)
    rw [this]
    simpa using hc
theorem offbox {b g l x : Addr} {n : Int} {H0 : Hp} (bx : BoxAt H0 b g l n) (hx : H0 x = none) : x ∉ [b, g] := by
  obtain ⟨gs, ls, cur, e1, e2, _⟩ := bx
  intro hq
  simp at hq
  rcases hq with rfl | rfl
  · rw [e1] at hx; cases hx
  · rw [e2] at hx; cases hx
theorem offbox3 {b g l x : Addr} {n : Int} {H0 : Hp} (bx : BoxAt H0 b g l n) (hx : H0 x = none) : x ∉ [b, g, l] := by
  obtain ⟨gs, ls, cur, e1, e2, e3, _⟩ := bx
  intro hq
  simp at hq
  rcases hq with rfl | rfl | rfl
  · rw [e1] at hx; cases hx
  · rw [e2] at hx; cases hx
  · rw [e3] at hx; cases hx
theorem box_put {H : Hp} {b g l x : Addr} {n : Int} {o : HO} (h : BoxAt H b g l n) (hx : x ∉ [b, g, l]) : BoxAt (upd H x o) b g l n := by
  obtain ⟨gs, ls, cur, e1, e2, e3, r⟩ := h
  simp at hx
  exact ⟨gs, ls, cur, by rw [upd_ne (Ne.symm hx.1)]; exact e1, by rw [upd_ne (Ne.symm hx.2.1)]; exact e2, by rw [upd_ne (Ne.symm hx.2.2)]; exact e3, r⟩

/-! ### pairs of words -/
def prO (p : My.Pr) : HO := .tup [.str p.1, .str p.2.1, .bl p.2.2]
/-- at as stand the objects of xs -/
structure Objs {α : Type} (H : Hp) (as : List Addr) (f : α → HO) (xs : List α) : Prop where
  len : as.length = xs.length
  at_ : ∀ (i : Nat) (h : Addr) (x : α), as[i]? = some h → xs[i]? = some x → H h = some (f x)
theorem Objs.keep {α : Type} {H H' : Hp} {R as : List Addr} {f : α → HO} {xs : List α} (o : Objs H as f xs) (k : Keeps R H H') (d : ∀ x, x ∈ R → x ∉ as) : Objs H' as f xs :=
  ⟨o.len, fun i h x e1 e2 => k _ _ (o.at_ i h x e1 e2) fun q => d h q (List.mem_of_getElem? e1)⟩
theorem Objs.same {α : Type} {H H' : Hp} {as : List Addr} {f : α → HO} {xs : List α} (o : Objs H as f xs) (k : Same H H') : Objs H' as f xs :=
  ⟨o.len, fun i h x e1 e2 => k _ _ (o.at_ i h x e1 e2)⟩
theorem Objs.get {α : Type} {H : Hp} {as : List Addr} {f : α → HO} {xs : List α} (o : Objs H as f xs) {i : Nat} {h : Addr} (e : as[i]? = some h) : ∃ x, xs[i]? = some x ∧ H h = some (f x) := by
  have hl := get_lt e
  rw [o.len] at hl
  have e2 : xs[i]? = some xs[i] := List.getElem?_eq_getElem hl
  exact ⟨_, e2, o.at_ i h _ e e2⟩
theorem Objs.nil {α : Type} {H : Hp} {f : α → HO} : Objs H [] f [] := ⟨rfl, fun i h x e => by simp at e⟩
theorem Objs.snoc {α : Type} {H : Hp} {as : List Addr} {f : α → HO} {xs : List α} (o : Objs H as f xs) {h : Addr} {x : α} (e : H h = some (f x)) : Objs H (as ++ [h]) f (xs ++ [x]) := by
  refine ⟨by rw [List.length_append, List.length_append, o.len]; rfl, fun i h' x' e1 e2 => ?_⟩
  by_cases hi : i < as.length
  · rw [List.getElem?_append_left hi] at e1
    rw [List.getElem?_append_left (by rw [← o.len]; exact hi)] at e2
    exact o.at_ i h' x' e1 e2
  · have hl := get_lt e1
    rw [List.length_append, List.length_singleton] at hl
    obtain rfl : i = as.length := by omega
    have e3 : as.length = xs.length := o.len
    simp at e1
    rw [e3] at e2
    simp at e2
    subst e1 e2
    exact e
theorem Objs.take {α : Type} {H : Hp} {as : List Addr} {f : α → HO} {xs : List α} (o : Objs H as f xs) (n : Nat) : Objs H (as.take n) f (xs.take n) := by
  refine ⟨by rw [List.length_take, List.length_take, o.len], fun i h x e1 e2 => ?_⟩
  by_cases hi : i < n
  · rw [List.getElem?_take, if_pos hi] at e1 e2
    exact o.at_ i h x e1 e2
  · rw [List.getElem?_take, if_neg hi] at e1
    cases e1
theorem cutV_tail (xs : List V) : cutV xs (some 1) none = xs.drop 1 := by
  unfold cutV
  have e0 : HT.sIx xs.length 0 (some 1) = min 1 xs.length := HT.sIx_nat _ _ 1
  have e1 : HT.sIx xs.length xs.length none = xs.length := rfl
  rw [e0, e1]
  cases xs with
  | nil => rfl
  | cons x r =>
    have : min 1 (x :: r).length = 1 := by rw [List.length_cons]; omega
    rw [this]
    refine List.take_of_length_le ?_
    rw [List.length_drop]
    exact Nat.le_refl _
theorem cutV_head (xs : List V) : cutV xs none (some 1) = xs.take 1 := by
  unfold cutV
  have e0 : HT.sIx xs.length 0 none = 0 := rfl
  have e1 : HT.sIx xs.length xs.length (some 1) = min 1 xs.length := HT.sIx_nat _ _ 1
  rw [e0, e1, List.drop_zero, Nat.sub_zero]
  cases xs with
  | nil => rfl
  | cons x r =>
    have : min 1 (x :: r).length = 1 := by rw [List.length_cons]; omega
    rw [this]

/-! ### Pacts: made of pairs that fit -/
def sp_is_pair : Sp := fun vs H Q _ => ∃ (h : Addr) (q : My.Pr), vs = [.ref h] ∧ H h = some (prO q) ∧ q.1.length ≤ sizeLine ∧ q.2.1.length ≤ sizeLine ∧ ∀ H', Same H H' → Q (.bl (My.nameB q.1 && My.nameB q.2.1)) H'
theorem ok_p_is_pair (T : Txt K mg a) : FnOk P w K mg base CX0 2 a.f_p_is_pair a.d_p_is_pair ["pair"] sp_is_pair := by
  refine T.F_p_is_pair.ok sc_p_is_pair (fun vs H Q E h => ?_) (fun cdv A outer s H vs Q E hr h => ?_)
  · obtain ⟨h, q, rfl, _⟩ := h
    rfl
  · obtain ⟨h, ⟨q1, q2, q3⟩, rfl, e, z1, z2, kk⟩ := h
    refine ⟨_, (pss_cons (ps_if (PW.pt (pw_or (pt_not (pt_val (pe_callB call_isi (by rfl) T.z_isinstance (by decide +kernel) (pa_cons (pv 0) (pa_cons (pe_bltn (v := .ty "tuple") (by rfl) T.z_tuple (by decide +kernel) rfl) pa_nil))))) (pw_or1 (pt_cmpR op_ne (pe_callB call_len_seq (by rfl) T.z_len (by decide +kernel) (pa_cons (pv 0) pa_nil)) pe_int (nomark _))))) (pss_one (ps_ret pe_bl)) pss_nil)
      (pss_cons (ps_asg (pv 0) (pg_tup (by rfl) (pgs_cons (pg_name (i := 1) sc_p_is_pair.nd rfl (Or.inl rfl)) (pgs_cons (pg_name (i := 2) sc_p_is_pair.nd rfl (Or.inl rfl)) (pgs_cons (pg_name (i := 3) sc_p_is_pair.nd rfl (Or.inl rfl)) pgs_nil)))))
      (pss_one (ps_ret (pe_and (pe_call (ok_is_name T) (hr.mono (by decide)) rfl T.g_is_name T.k_is_name T.B_is_name .nil pass0 (pa_cons (pv 1) pa_nil)) (pe_and (pe_call (ok_is_name T) (hr.mono (by decide)) rfl T.g_is_name T.k_is_name T.B_is_name .nil pass0 (pa_cons (pv 2) pa_nil)) (pe_one (pe_callB call_isi (by rfl) T.z_isinstance (by decide +kernel) (pa_cons (pv 3) (pa_cons (pe_bltn (v := .ty "bool") (by rfl) T.z_bool (by decide +kernel) rfl) pa_nil)))))))))), ?_⟩
    have e' : H h = some (.tup [.str q1, .str q2, .bl q3]) := e
    refine ⟨_, rfl, _, _, _, _, true, rfl, .ty "tuple", .base (.tup e'), kit_ty (by decide +kernel), true, rfl, ?_⟩
    refine iteF ?_
    refine ⟨_, rfl, _, _, rfl, .inr (SqT.of e'), rfl, _, rfl, ?_⟩
    refine iteNS rfl ?_
    refine ⟨_, rfl, h, _, rfl, SqT.of e', rfl, ?_⟩
    refine ⟨_, _, rfl, _, _, rfl, _, _, rfl, rfl, ?_⟩
    refine ⟨_, rfl, q1, rfl, z1, fun H1 s1 => ⟨_, rfl, ?_⟩⟩
    refine iteB (fun h1 => ?_) (fun h1 => ?_)
    · refine ⟨_, rfl, q2, rfl, z2, fun H2 s2 => ⟨_, rfl, ?_⟩⟩
      refine iteB (fun h2 => ?_) (fun h2 => ?_)
      · refine ⟨_, rfl, _, _, _, _, true, rfl, .ty "bool", .base (.bl q3), kit_ty (by decide +kernel), ?_⟩
        have e3 : (My.nameB q1 && My.nameB q2) = true := by rw [h1, h2]; rfl
        exact e3 ▸ kk H2 (s1.trans s2)
      · have e3 : (My.nameB q1 && My.nameB q2) = false := by rw [h1, h2]; rfl
        exact e3 ▸ kk H2 (s1.trans s2)
    · have e3 : (My.nameB q1 && My.nameB q2) = false := by rw [h1]; rfl
      exact e3 ▸ kk H1 s1
def fitsB (q : My.Pr) (ps : List My.Pr) : Bool := decide (ps.length < 6) && !decide (q.1 ∈ ps.map (·.1)) && !decide (q.2.1 ∈ ps.map (·.2.1))
def sp_fits_pairs : Sp := fun vs H Q _ => ∃ (h l : Addr) (q : My.Pr) (as : List Addr) (ps : List My.Pr), vs = [.ref h, .ref l] ∧ H h = some (prO q) ∧ H l = some (.lst (as.map V.ref)) ∧ Objs H as prO ps ∧ ps.length ≤ 10000 ∧ ∀ H', Same H H' → Q (.bl (fitsB q ps)) H'
theorem ok_p_fits_pairs (T : Txt K mg a) : FnOk P w K mg base CX0 1 a.f_p_fits_pairs a.d_p_fits_pairs ["pair", "ahead"] sp_fits_pairs := by
  refine T.F_p_fits_pairs.ok sc_p_fits_pairs (fun vs H Q E h => ?_) (fun cdv A outer s H vs Q E hr h => ?_)
  · obtain ⟨h, l, q, as, ps, rfl, _⟩ := h
    rfl
  · obtain ⟨h, l, ⟨q1, q2, q3⟩, as, ps, rfl, e, el, ob, hz, kk⟩ := h
    have e' : H h = some (.tup [.str q1, .str q2, .bl q3]) := e
    have asl := ob.len
    refine ⟨_, (pss_cons (ps_setLc (i := 2) (own := [("one", 4)]) (g := gName 4) (te := tOp (rIxT K) (tVar 4) (tC (.int 0))) (tt := tYes) rfl sc_p_fits_pairs.nd rfl rfl (sw_true rfl rfl rfl (by decide +kernel)) (pi_list (pv 1)) (blkOk_by (own := [("one", 4)]) (N := ["pair", "ahead", "nears", "fars", "one"]) (sc := defScope s_p_fits_pairs) (by decide +kernel)) (fun _ _ _ _ _ => pg_name (i := 4) sc_p_fits_pairs.nd rfl (Or.inl rfl)) (fun _ _ _ _ _ => pts_nil) (fun _ _ _ _ _ => by exact (pe_ix ix_tup (pv 4) pe_int (fun _ _ => rfl))))
      (pss_cons (ps_setLc (i := 3) (own := [("one", 4)]) (g := gName 4) (te := tOp (rIxT K) (tVar 4) (tC (.int 1))) (tt := tYes) rfl sc_p_fits_pairs.nd rfl rfl (sw_true rfl rfl rfl (by decide +kernel)) (pi_list (pv 1)) (blkOk_by (own := [("one", 4)]) (N := ["pair", "ahead", "nears", "fars", "one"]) (sc := defScope s_p_fits_pairs) (by decide +kernel)) (fun _ _ _ _ _ => pg_name (i := 4) sc_p_fits_pairs.nd rfl (Or.inl rfl)) (fun _ _ _ _ _ => pts_nil) (fun _ _ _ _ _ => by exact (pe_ix ix_tup (pv 4) pe_int (fun _ _ => rfl))))
      (pss_one (ps_ret (pe_and (pe_cmpR op_lt (pe_callB call_len_seq (by rfl) T.z_len (by decide +kernel) (pa_cons (pv 1) pa_nil)) (pe_glob (v := .int 6) rfl T.v_MOST_PAIRS ⟨_, rfl⟩) (nomark _)) (pe_and (pe_cmpR op_notIn_seq (pe_ix ix_tup (pv 0) pe_int (fun _ _ => rfl)) (pv 2) (by rfl)) (pe_one (pe_cmpR op_notIn_seq (pe_ix ix_tup (pv 0) pe_int (fun _ _ => rfl)) (pv 3) (by rfl))))))))), ?_⟩
    refine ⟨_, rfl, l, rfl, ⟨_, SqL.of el⟩, fun D hD => ?_⟩
    have nlD : l ≠ D := ne_of_none el hD
    refine lc_list (K := K) (a := l) (xs := as.map V.ref) (fun i H1 => Blk (H1 = upd H D (.lst (((ps.take i).map (·.1)).map V.str)))) (Blk.of rfl) (fun i H1 _ hB => ?_) ?_ ?_
    · obtain rfl := hB.out
      exact SqL.of ((upd_ne nlD).trans el)
    · intro i y H1 hi hB
      obtain rfl := hB.out
      obtain ⟨x, hx, rfl⟩ := refs_get hi
      obtain ⟨r, hr1, hr2⟩ := ob.get hx
      have := get_lt hr1
      refine ⟨rfl, ?_⟩
      dsimp only [tYes]
      refine iteT ?_
      refine ⟨_, rfl, _, _, _, _, rfl, rfl, SqT.of ((upd_ne (ne_of_none hr2 hD)).trans hr2), rfl, ?_⟩
      refine ⟨_, upd_same, by rw [List.length_map, List.length_map, List.length_take]; exact small (by omega), Blk.of ?_⟩
      rw [upd_upd, take_snoc hr1, List.map_append, List.map_append]
      rfl
    · intro H1 hB
      obtain rfl := hB.out
      have e1 : ps.take (as.map V.ref).length = ps := by rw [List.length_map, asl, List.take_length]
      rw [e1]
      refine ⟨_, rfl, l, rfl, ⟨_, SqL.of ((upd_ne nlD).trans el)⟩, fun G hG => ?_⟩
      have nDG : D ≠ G := ne_of_none upd_same hG
      have hG0 : H G = none := (upd_ne nDG.symm).symm.trans hG
      have nlG : l ≠ G := ne_of_none el hG0
      refine lc_list (K := K) (a := l) (xs := as.map V.ref) (fun i H1 => Blk (H1 = upd (upd H D (.lst ((ps.map (·.1)).map V.str))) G (.lst (((ps.take i).map (·.2.1)).map V.str)))) (Blk.of rfl) (fun i H1 _ hB => ?_) ?_ ?_
      · obtain rfl := hB.out
        exact SqL.of ((upd_ne nlG).trans ((upd_ne nlD).trans el))
      · intro i y H1 hi hB
        obtain rfl := hB.out
        obtain ⟨x, hx, rfl⟩ := refs_get hi
        obtain ⟨r, hr1, hr2⟩ := ob.get hx
        have := get_lt hr1
        refine ⟨rfl, ?_⟩
        dsimp only [tYes]
        refine iteT ?_
        refine ⟨_, rfl, _, _, _, _, rfl, rfl, SqT.of ((upd_ne (ne_of_none hr2 hG0)).trans ((upd_ne (ne_of_none hr2 hD)).trans hr2)), rfl, ?_⟩
        refine ⟨_, upd_same, by rw [List.length_map, List.length_map, List.length_take]; exact small (by omega), Blk.of ?_⟩
        rw [upd_upd, take_snoc hr1, List.map_append, List.map_append]
        rfl
      · intro H1 hB
        obtain rfl := hB.out
        rw [e1]
        have sH : Same H (upd (upd H D (.lst ((ps.map (·.1)).map V.str))) G (.lst ((ps.map (·.2.1)).map V.str))) := ((Same.refl H).upd hD).upd hG0
        have hq := sH _ _ e'
        have hDl : (upd (upd H D (.lst ((ps.map (·.1)).map V.str))) G (.lst ((ps.map (·.2.1)).map V.str))) D = some (.lst ((ps.map (·.1)).map V.str)) := (upd_ne nDG).trans upd_same
        have hGl : (upd (upd H D (.lst ((ps.map (·.1)).map V.str))) G (.lst ((ps.map (·.2.1)).map V.str))) G = some (.lst ((ps.map (·.2.1)).map V.str)) := upd_same
        have fin := kk _ sH
        generalize (upd (upd H D (.lst ((ps.map (·.1)).map V.str))) G (.lst ((ps.map (·.2.1)).map V.str))) = H2 at sH hq hDl hGl fin
        have el2 := sH _ _ el
        refine ⟨_, rfl, l, _, rfl, .inl (SqL.of el2), _, _, rfl, rfl, _, rfl, ?_⟩
        have ec : (((as.map V.ref).length : Nat) : Int) = (ps.length : Int) := by rw [List.length_map, asl]
        rw [ec]
        refine iteD (fun c1 => ?_) (fun c1 => ?_)
        · refine ⟨_, rfl, _, _, _, _, rfl, rfl, SqT.of hq, rfl, ?_⟩
          refine ⟨_, rfl, D, _, rfl, .inl (SqL.of hDl), rfl, flat_str _, _, rfl, ?_⟩
          rw [if_pos rfl, inV_str]
          refine iteB (fun c2 => ?_) (fun c2 => ?_)
          · refine ⟨_, rfl, _, _, _, _, rfl, rfl, SqT.of hq, rfl, ?_⟩
            refine ⟨_, rfl, G, _, rfl, .inl (SqL.of hGl), rfl, flat_str _, ?_⟩
            rw [if_pos rfl, inV_str]
            have e3 : fitsB (q1, q2, q3) ps = !decide (q2 ∈ ps.map (·.2.1)) := by
              unfold fitsB
              rw [c2, decide_eq_true (by omega : ps.length < 6)]
              rfl
            exact e3 ▸ fin
          · have e3 : fitsB (q1, q2, q3) ps = false := by
              unfold fitsB
              rw [c2]
              simp
            exact e3 ▸ fin
        · have e3 : fitsB (q1, q2, q3) ps = false := by
            unfold fitsB
            rw [decide_eq_false (by omega : ¬ ps.length < 6)]
            simp
          exact e3 ▸ fin

/-! ### helpers' pacts -/
open My (Hr)
/-- at as stand things of which R speaks -/
structure AllAt {α : Type} (R : Addr → α → Prop) (as : List Addr) (xs : List α) : Prop where
  len : as.length = xs.length
  at_ : ∀ (i : Nat) (h : Addr) (x : α), as[i]? = some h → xs[i]? = some x → R h x
theorem AllAt.imp {α : Type} {R R' : Addr → α → Prop} {as : List Addr} {xs : List α} (o : AllAt R as xs) (h : ∀ a x, R a x → R' a x) : AllAt R' as xs := ⟨o.len, fun i a x e1 e2 => h a x (o.at_ i a x e1 e2)⟩
theorem AllAt.get {α : Type} {R : Addr → α → Prop} {as : List Addr} {xs : List α} (o : AllAt R as xs) {i : Nat} {h : Addr} (e : as[i]? = some h) : ∃ x, xs[i]? = some x ∧ R h x := by
  have hl := get_lt e
  rw [o.len] at hl
  have e2 : xs[i]? = some xs[i] := List.getElem?_eq_getElem hl
  exact ⟨_, e2, o.at_ i h _ e e2⟩
theorem AllAt.nil {α : Type} {R : Addr → α → Prop} : AllAt R [] [] := ⟨rfl, fun i h x e => by simp at e⟩
theorem AllAt.snoc {α : Type} {R : Addr → α → Prop} {as : List Addr} {xs : List α} (o : AllAt R as xs) {h : Addr} {x : α} (e : R h x) : AllAt R (as ++ [h]) (xs ++ [x]) := by
  refine ⟨by rw [List.length_append, List.length_append, o.len]; rfl, fun i h' x' e1 e2 => ?_⟩
  by_cases hi : i < as.length
  · rw [List.getElem?_append_left hi] at e1
    rw [List.getElem?_append_left (by rw [← o.len]; exact hi)] at e2
    exact o.at_ i h' x' e1 e2
  · have hl := get_lt e1
    rw [List.length_append, List.length_singleton] at hl
    obtain rfl : i = as.length := by omega
    have e3 : as.length = xs.length := o.len
    simp at e1
    rw [e3] at e2
    simp at e2
    subst e1 e2
    exact e
theorem AllAt.take {α : Type} {R : Addr → α → Prop} {as : List Addr} {xs : List α} (o : AllAt R as xs) (n : Nat) : AllAt R (as.take n) (xs.take n) := by
  refine ⟨by rw [List.length_take, List.length_take, o.len], fun i h x e1 e2 => ?_⟩
  by_cases hi : i < n
  · rw [List.getElem?_take, if_pos hi] at e1 e2
    exact o.at_ i h x e1 e2
  · rw [List.getElem?_take, if_neg hi] at e1
    cases e1
/-- the tuple of a helper's pact -/
def HrAt (H : Hp) (h : Addr) (x : Hr) : Prop := ∃ tk th : Addr, H h = some (.tup [.str x.name, .int x.side, .ref tk, .bl x.gives, .ref th]) ∧ TupF H tk (x.takes.map V.str) ∧ TupF H th (x.throws.map V.str)
theorem _root_.L2.TupF.same {H H' : Hp} {h : Addr} {xs : List V} (e : TupF H h xs) (s : Same H H') : TupF H' h xs := let ⟨o, ho, q⟩ := e; ⟨o, ho, s _ _ q⟩
theorem HrAt.same {H H' : Hp} {h : Addr} {x : Hr} (e : HrAt H h x) (s : Same H H') : HrAt H' h x := by
  obtain ⟨tk, th, e1, e2, e3⟩ := e
  exact ⟨tk, th, s _ _ e1, e2.same s, e3.same s⟩
def NoTup (H : Hp) (R : List Addr) : Prop := ∀ x, x ∈ R → ∀ ys, H x ≠ some (.tup ys) ∧ ∀ o, H x ≠ some (.frz o (.tup ys))
theorem NoTup.one {H : Hp} {x : Addr} {o : HO} (h : H x = some o) (n1 : ∀ ys, o ≠ .tup ys) (n2 : ∀ b ys, o ≠ .frz b (.tup ys)) : NoTup H [x] := fun y hy ys => by
  simp at hy
  subst hy
  rw [h]
  exact ⟨fun e => n1 ys (Option.some.inj e), fun b e => n2 b ys (Option.some.inj e)⟩
theorem NoTup.lst {H : Hp} {x : Addr} {xs : List V} (h : H x = some (.lst xs)) : NoTup H [x] := NoTup.one h (fun _ e => by cases e) fun _ _ e => by cases e
theorem tupF_keep {H H' : Hp} {R : List Addr} {h : Addr} {xs : List V} (e : TupF H h xs) (k : Keeps R H H') (n : NoTup H R) : TupF H' h xs := let ⟨o, ho, q⟩ := e; ⟨o, ho, k _ _ q fun z => (n _ z _).2 o q⟩
theorem HrAt.keep {H H' : Hp} {R : List Addr} {h : Addr} {x : Hr} (e : HrAt H h x) (k : Keeps R H H') (n : NoTup H R) : HrAt H' h x := by
  obtain ⟨tk, th, e1, e2, e3⟩ := e
  exact ⟨tk, th, k _ _ e1 fun q => (n _ q _).1 e1, tupF_keep e2 k n, tupF_keep e3 k n⟩
theorem Objs.keepN {H H' : Hp} {R as : List Addr} {ps : List My.Pr} (o : Objs H as prO ps) (k : Keeps R H H') (n : NoTup H R) : Objs H' as prO ps :=
  ⟨o.len, fun i h x e1 e2 => by
    have e := o.at_ i h x e1 e2
    exact k _ _ e fun q => (n _ q _).1 e⟩
abbrev Crew (H : Hp) (as : List Addr) (xs : List Hr) : Prop := AllAt (HrAt H) as xs
theorem Crew.same {H H' : Hp} {as : List Addr} {xs : List Hr} (o : Crew H as xs) (s : Same H H') : Crew H' as xs := o.imp fun _ _ e => e.same s
theorem Crew.keep {H H' : Hp} {R as : List Addr} {xs : List Hr} (o : Crew H as xs) (k : Keeps R H H') (n : NoTup H R) : Crew H' as xs := o.imp fun _ _ e => e.keep k n
theorem bools_step {α : Type} {D : Addr} {H : Hp} {xs : List α} {f : α → Bool} {i : Nat} {x : α} (h : xs[i]? = some x) (hz : xs.length ≤ 10000) :
    ∃ acc, upd H D (.lst (((xs.take i).map f).map V.bl)) D = some (.lst acc) ∧ acc.length < sizeLine ∧ upd (upd H D (.lst (((xs.take i).map f).map V.bl))) D (.lst (acc ++ [.bl (f x)])) = upd H D (.lst (((xs.take (i + 1)).map f).map V.bl)) := by
  refine ⟨_, upd_same, ?_, ?_⟩
  · rw [List.length_map, List.length_map, List.length_take]
    have := get_lt h
    exact small (by omega)
  · rw [upd_upd, take_snoc h, List.map_append, List.map_append]
    rfl
theorem all_map_id {α : Type} (l : List α) (f : α → Bool) : (l.map f).all id = l.all f := by rw [List.all_map]; rfl
def sp_are_takes : Sp := fun vs H Q _ => ∃ (t : Addr) (ts : List Str), vs = [.ref t] ∧ TupF H t (ts.map V.str) ∧ ts.length ≤ 10000 ∧ ∀ H', Same H H' → Q (.bl (My.takesB ts)) H'
theorem ok_p_are_takes (T : Txt K mg a) : FnOk P w K mg base CX0 1 a.f_p_are_takes a.d_p_are_takes ["takes"] sp_are_takes := by
  refine T.F_p_are_takes.ok sc_p_are_takes (fun vs H Q E h => ?_) (fun cdv A outer s H vs Q E hr h => ?_)
  · obtain ⟨t, ts, rfl, _⟩ := h
    rfl
  · obtain ⟨t, ts, rfl, ⟨ob, hob, e⟩, hz, kk⟩ := h
    have eq : ∀ {H' : Hp}, H' t = some (.frz ob (.tup (ts.map V.str))) → SqT K H' t (ts.map V.str) := fun e => .inl (.inr ⟨ob, e⟩)
    refine ⟨_, (pss_cons (ps_if (PW.pt (pw_or (pt_not (pt_val (pe_callB call_isi (by rfl) T.z_isinstance (by decide +kernel) (pa_cons (pv 0) (pa_cons (pe_bltn (v := .ty "tuple") (by rfl) T.z_tuple (by decide +kernel) rfl) pa_nil))))) (pw_or1 (pt_cmpR op_gt (pe_callB call_len_seq (by rfl) T.z_len (by decide +kernel) (pa_cons (pv 0) pa_nil)) (pe_glob (v := .int 3) rfl T.v_MOST_TAKES ⟨_, rfl⟩) (nomark _))))) (pss_one (ps_ret pe_bl)) pss_nil)
      (pss_one (ps_ret (pe_callB (cr_all rfl) (by rfl) T.z_all (by decide +kernel) (pa_cons (pe_lc (own := [("take", 1)]) (g := gName 1) (te := tOp (rIn K false) (tVar 1) (tC (.ref a.t_TAKES))) (tt := tYes) rfl sc_p_are_takes.nd (pi_tup (pv 0)) (blkOk_by (own := [("take", 1)]) (N := ["takes", "take"]) (sc := defScope s_p_are_takes) (by decide +kernel)) (fun _ _ _ _ _ => pg_name (i := 1) sc_p_are_takes.nd rfl (Or.inl rfl)) (fun _ _ _ _ _ => pts_nil) (fun _ _ _ _ _ => by exact (pe_cmpR op_in_seq (pv 1) (pe_glob (v := .ref a.t_TAKES) rfl T.v_TAKES rfl) (by rfl)))) pa_nil))))), ?_⟩
    refine ⟨_, rfl, _, _, _, _, true, rfl, .ty "tuple", .fTuple e, kit_ty (by decide +kernel), true, rfl, ?_⟩
    refine iteF ?_
    refine ⟨_, rfl, t, _, rfl, .inr (eq e), _, _, rfl, rfl, _, rfl, ?_⟩
    have el : (((ts.map V.str).length : Nat) : Int) = (ts.length : Int) := by rw [List.length_map]
    rw [el]
    refine iteD (fun c => ?_) (fun c => ?_)
    · have eb : My.takesB ts = false := by
        unfold My.takesB
        rw [decide_eq_false (by omega)]
        rfl
      exact eb ▸ kk H (Same.refl H)
    · refine ⟨_, rfl, t, rfl, ⟨_, eq e⟩, fun D hD => ?_⟩
      have nD : t ≠ D := ne_of_none e hD
      refine lc_tup (K := K) (a := t) (xs := ts.map V.str) (fun i H1 => Blk (H1 = upd H D (.lst (((ts.take i).map fun t => decide (t ∈ (["lent", "given"] : List Str))).map V.bl)))) (Blk.of rfl) (fun i H1 _ hB => ?_) ?_ ?_
      · obtain rfl := hB.out
        exact eq ((upd_ne nD).trans e)
      · intro i y H1 hi hB
        obtain rfl := hB.out
        obtain ⟨x, hx, rfl⟩ := strs_get hi
        refine ⟨rfl, ?_⟩
        dsimp only [tYes]
        refine iteT ?_
        refine ⟨_, rfl, _, _, rfl, .inr (T.q_TAKES _), rfl, rfl, ?_⟩
        rw [if_neg Bool.false_ne_true]
        have ei : inV (.str x) [.str "lent", .str "given"] = decide (x ∈ (["lent", "given"] : List Str)) := inV_str x ["lent", "given"]
        rw [ei]
        obtain ⟨acc, h1, h2, h3⟩ := bools_step (D := D) (H := H) (f := fun t => decide (t ∈ (["lent", "given"] : List Str))) hx hz
        exact ⟨acc, h1, h2, Blk.of h3⟩
      · intro H1 hB
        obtain rfl := hB.out
        refine ⟨D, _, rfl, SqL.of upd_same, ?_⟩
        rw [List.length_map, List.take_length, all_map_id]
        have eb : ts.all (fun t => decide (t ∈ (["lent", "given"] : List Str))) = My.takesB ts := by
          unfold My.takesB
          rw [decide_eq_true (by omega : ts.length ≤ 3)]
          rfl
        rw [eb]
        exact kk _ ((Same.refl H).upd hD)
def sp_are_throws : Sp := fun vs H Q _ => ∃ (t : Addr) (ts : List Str), vs = [.ref t] ∧ TupF H t (ts.map V.str) ∧ ts.length ≤ 10000 ∧ ∀ H', Same H H' → Q (.bl (My.throwsB ts)) H'
theorem ok_p_are_throws (T : Txt K mg a) : FnOk P w K mg base CX0 1 a.f_p_are_throws a.d_p_are_throws ["throws"] sp_are_throws := by
  refine T.F_p_are_throws.ok sc_p_are_throws (fun vs H Q E h => ?_) (fun cdv A outer s H vs Q E hr h => ?_)
  · obtain ⟨t, ts, rfl, _⟩ := h
    rfl
  · obtain ⟨t, ts, rfl, ⟨ob, hob, e⟩, hz, kk⟩ := h
    have eq : ∀ {H' : Hp}, H' t = some (.frz ob (.tup (ts.map V.str))) → SqT K H' t (ts.map V.str) := fun e => .inl (.inr ⟨ob, e⟩)
    refine ⟨_, (pss_cons (ps_if (PW.pt (pw_or (pt_not (pt_val (pe_callB call_isi (by rfl) T.z_isinstance (by decide +kernel) (pa_cons (pv 0) (pa_cons (pe_bltn (v := .ty "tuple") (by rfl) T.z_tuple (by decide +kernel) rfl) pa_nil))))) (pw_or1 (pt_cmpR op_gt (pe_callB call_len_seq (by rfl) T.z_len (by decide +kernel) (pa_cons (pv 0) pa_nil)) (pe_glob (v := .int 4) rfl T.v_MOST_THROWS ⟨_, rfl⟩) (nomark _))))) (pss_one (ps_ret pe_bl)) pss_nil)
      (pss_one (ps_ret (pe_callB (cr_all rfl) (by rfl) T.z_all (by decide +kernel) (pa_cons (pe_lc (own := [("word", 1)]) (g := gName 1) (te := tOp rEq (tBMF (rCntS K) (tVar 0) (tCons (tVar 1) tNil)) (tC (.int 1))) (tt := tYes) rfl sc_p_are_throws.nd (pi_tup (pv 0)) (blkOk_by (own := [("word", 1)]) (N := ["throws", "word"]) (sc := defScope s_p_are_throws) (by decide +kernel)) (fun _ _ _ _ _ => pg_name (i := 1) sc_p_are_throws.nd rfl (Or.inl rfl)) (fun _ _ _ _ _ => pts_nil) (fun _ _ _ _ _ => by exact (pe_cmpR op_eq (pe_bmF PySem.F.plainAttrs_tuple PySem.F.slot_tuple_count PySem.F.type_tuple_count mt_tcount (pv 0) (pa_cons (pv 1) pa_nil)) pe_int (nomark _)))) pa_nil))))), ?_⟩
    refine ⟨_, rfl, _, _, _, _, true, rfl, .ty "tuple", .fTuple e, kit_ty (by decide +kernel), true, rfl, ?_⟩
    refine iteF ?_
    refine ⟨_, rfl, t, _, rfl, .inr (eq e), _, _, rfl, rfl, _, rfl, ?_⟩
    have el : (((ts.map V.str).length : Nat) : Int) = (ts.length : Int) := by rw [List.length_map]
    rw [el]
    refine iteD (fun c => ?_) (fun c => ?_)
    · have eb : My.throwsB ts = false := by
        unfold My.throwsB
        rw [decide_eq_false (by omega)]
        rfl
      exact eb ▸ kk H (Same.refl H)
    · refine ⟨_, rfl, t, rfl, ⟨_, eq e⟩, fun D hD => ?_⟩
      have nD : t ≠ D := ne_of_none e hD
      refine lc_tup (K := K) (a := t) (xs := ts.map V.str) (fun i H1 => Blk (H1 = upd H D (.lst (((ts.take i).map fun t => decide (ts.count t = 1)).map V.bl)))) (Blk.of rfl) (fun i H1 _ hB => ?_) ?_ ?_
      · obtain rfl := hB.out
        exact eq ((upd_ne nD).trans e)
      · intro i y H1 hi hB
        obtain rfl := hB.out
        obtain ⟨x, hx, rfl⟩ := strs_get hi
        refine ⟨rfl, ?_⟩
        dsimp only [tYes]
        refine iteT ?_
        have e2 : ∀ o, upd H D o t = some (.frz ob (.tup (ts.map V.str))) := fun o => (upd_ne nD).trans e
        refine ⟨_, rfl, ⟨t, _, rfl, ob, hob, e2 _⟩, _, rfl, t, ts, x, rfl, rfl, eq (e2 _), rfl, ?_⟩
        have ed : decide (V.int ((ts.count x : Nat) : Int) = V.int 1) = decide (ts.count x = 1) := by
          by_cases h : ts.count x = 1
          · rw [h]; rfl
          · rw [decide_eq_false h, decide_eq_false fun z => h (by have := V.int.inj z; omega)]
        rw [ed]
        obtain ⟨acc, h1, h2, h3⟩ := bools_step (D := D) (H := H) (f := fun t => decide (ts.count t = 1)) hx hz
        exact ⟨acc, h1, h2, Blk.of h3⟩
      · intro H1 hB
        obtain rfl := hB.out
        refine ⟨D, _, rfl, SqL.of upd_same, ?_⟩
        rw [List.length_map, List.take_length, all_map_id]
        have eb : ts.all (fun t => decide (ts.count t = 1)) = My.throwsB ts := by
          unfold My.throwsB
          rw [decide_eq_true (by omega : ts.length ≤ 4)]
          rfl
        rw [eb]
        exact kk _ ((Same.refl H).upd hD)

open My (Hr)
theorem lenI (n : Nat) (xs : List V) (h : xs.length = n) : ((xs.length : Nat) : Int) = (n : Int) := by rw [h]
def sp_is_pact : Sp := fun vs H Q _ => ∃ (h : Addr) (x : Hr), vs = [.ref h] ∧ HrAt H h x ∧ x.name.length ≤ sizeLine ∧ x.takes.length ≤ 10000 ∧ x.throws.length ≤ 10000 ∧ ∀ H', Same H H' → Q (.bl (My.pactB x)) H'
theorem ok_p_is_pact (T : Txt K mg a) : FnOk P w K mg base CX0 3 a.f_p_is_pact a.d_p_is_pact ["pact"] sp_is_pact := by
  refine T.F_p_is_pact.ok sc_p_is_pact (fun vs H Q E h => ?_) (fun cdv A outer s H vs Q E hr h => ?_)
  · obtain ⟨h, x, rfl, _⟩ := h
    rfl
  · obtain ⟨h, x, rfl, ⟨tk, th, e, etk, eth⟩, z1, z2, z3, kk⟩ := h
    refine ⟨_, (pss_cons (ps_if (PW.pt (pw_or (pt_not (pt_val (pe_callB call_isi (by rfl) T.z_isinstance (by decide +kernel) (pa_cons (pv 0) (pa_cons (pe_bltn (v := .ty "tuple") (by rfl) T.z_tuple (by decide +kernel) rfl) pa_nil))))) (pw_or1 (pt_cmpR op_ne (pe_callB call_len_seq (by rfl) T.z_len (by decide +kernel) (pa_cons (pv 0) pa_nil)) pe_int (nomark _))))) (pss_one (ps_ret pe_bl)) pss_nil)
      (pss_cons (ps_asg (pv 0) (pg_tup (by rfl) (pgs_cons (pg_name (i := 1) sc_p_is_pact.nd rfl (Or.inl rfl)) (pgs_cons (pg_name (i := 2) sc_p_is_pact.nd rfl (Or.inl rfl)) (pgs_cons (pg_name (i := 3) sc_p_is_pact.nd rfl (Or.inl rfl)) (pgs_cons (pg_name (i := 4) sc_p_is_pact.nd rfl (Or.inl rfl)) (pgs_cons (pg_name (i := 5) sc_p_is_pact.nd rfl (Or.inl rfl)) pgs_nil)))))))
      (pss_cons (ps_if (PW.pt (pw_or (pt_not (pt_val (pe_call (ok_is_name T) (hr.mono (by decide)) rfl T.g_is_name T.k_is_name T.B_is_name .nil pass0 (pa_cons (pv 1) pa_nil)))) (pw_or (pt_not (pt_val (pe_call (ok_is_side T) (hr.mono (by decide)) rfl T.g_is_side T.k_is_side T.B_is_side .nil pass0 (pa_cons (pv 2) pa_nil)))) (pw_or1 (pt_not (pt_val (pe_callB call_isi (by rfl) T.z_isinstance (by decide +kernel) (pa_cons (pv 4) (pa_cons (pe_bltn (v := .ty "bool") (by rfl) T.z_bool (by decide +kernel) rfl) pa_nil))))))))) (pss_one (ps_ret pe_bl)) pss_nil)
      (pss_one (ps_ret (pe_and (pe_call (ok_p_are_takes T) (hr.mono (by decide)) rfl T.g_p_are_takes T.k_p_are_takes T.B_p_are_takes .nil pass0 (pa_cons (pv 3) pa_nil)) (pe_one (pe_call (ok_p_are_throws T) (hr.mono (by decide)) rfl T.g_p_are_throws T.k_p_are_throws T.B_p_are_throws .nil pass0 (pa_cons (pv 5) pa_nil))))))))), ?_⟩
    refine ⟨_, rfl, _, _, _, _, true, rfl, .ty "tuple", .base (.tup e), kit_ty (by decide +kernel), true, rfl, ?_⟩
    refine iteF ?_
    refine ⟨_, rfl, _, _, rfl, .inr (SqT.of e), rfl, _, rfl, ?_⟩
    refine iteNS rfl ?_
    refine ⟨_, rfl, h, _, rfl, SqT.of e, rfl, ?_⟩
    refine ⟨_, _, rfl, _, _, rfl, _, _, rfl, _, _, rfl, _, _, rfl, rfl, ?_⟩
    have no : ∀ {H1 : Hp}, Same H H1 → (My.nameB x.name && My.sideB x.side) = false → Q (.bl false) H1 := fun s c => by
      have e2 : My.pactB x = false := by unfold My.pactB; rw [c]; rfl
      exact e2 ▸ kk _ s
    refine ⟨_, rfl, x.name, rfl, z1, fun H1 s1 => ⟨_, rfl, ?_⟩⟩
    refine iteB (fun c1 => ?_) (fun c1 => ?_)
    · have c : My.nameB x.name = false := by simpa using c1
      exact iteT (no s1 (by rw [c]; rfl))
    · have c1' : My.nameB x.name = true := by simpa using c1
      refine ⟨_, rfl, x.side, rfl, fun H2 s2 => ⟨_, rfl, ?_⟩⟩
      refine iteB (fun c2 => ?_) (fun c2 => ?_)
      · have c : My.sideB x.side = false := by
          show decide (x.side = 0 ∨ x.side = 1) = false
          cases hq : decide (x.side = 0 ∨ x.side = 1) with
          | true => rw [hq] at c2; cases c2
          | false => rfl
        exact iteT (no (s1.trans s2) (by rw [c, Bool.and_false]))
      · have c2' : My.sideB x.side = true := by
          show decide (x.side = 0 ∨ x.side = 1) = true
          cases hq : decide (x.side = 0 ∨ x.side = 1) with
          | true => rfl
          | false => rw [hq] at c2; cases c2
        refine ⟨_, rfl, _, _, _, _, true, rfl, .ty "bool", .base (.bl x.gives), kit_ty (by decide +kernel), true, rfl, ?_⟩
        refine iteF ?_
        have s12 := s1.trans s2
        refine ⟨_, rfl, tk, x.takes, rfl, etk.same s12, z2, fun H3 s3 => ⟨_, rfl, ?_⟩⟩
        obtain ⟨ob, hob, eth2⟩ := eth
        refine iteB (fun c3 => ?_) (fun c3 => ?_)
        · refine ⟨_, rfl, th, x.throws, rfl, ⟨ob, hob, s3 _ _ (s12 _ _ eth2)⟩, z3, fun H4 s4 => ?_⟩
          have e2 : My.pactB x = My.throwsB x.throws := by unfold My.pactB; rw [c1', c2', c3]; rfl
          exact e2 ▸ kk _ ((s12.trans s3).trans s4)
        · have e2 : My.pactB x = false := by unfold My.pactB; rw [c3]; simp
          exact e2 ▸ kk _ (s12.trans s3)
def sp_fits_helpers : Sp := fun vs H Q _ => ∃ (h l L : Addr) (x : Hr) (as has : List Addr) (ps : List My.Pr) (hs : List Hr), vs = [.ref h, .ref l, .ref L] ∧ HrAt H h x ∧ (x.side = 0 ∨ x.side = 1) ∧ H l = some (.lst (as.map V.ref)) ∧ Objs H as prO ps ∧ H L = some (.lst (has.map V.ref)) ∧ Crew H has hs ∧
  ps.length ≤ 10000 ∧ hs.length ≤ 10000 ∧ x.throws.length ≤ 10000 ∧ ∀ H', Same H H' → Q (.bl (My.fitsHB x ps hs)) H'
theorem wd_at2 {i : Int} (hi : i = 0 ∨ i = 1) (p : My.Pr) : atI [V.str p.1, .str p.2.1, .bl p.2.2] i = some (.str (My.wd i p)) := by
  rcases hi with rfl | rfl <;> rfl
theorem ok_p_fits_helpers (T : Txt K mg a) : FnOk P w K mg base CX0 1 a.f_p_fits_helpers a.d_p_fits_helpers ["pact", "pairs", "ahead"] sp_fits_helpers := by
  refine T.F_p_fits_helpers.ok sc_p_fits_helpers (fun vs H Q E h => ?_) (fun cdv A outer s H vs Q E hr h => ?_)
  · obtain ⟨h, l, L, x, as, has, ps, hs, rfl, _⟩ := h
    rfl
  · obtain ⟨h, l, L, x, as, has, ps, hs, rfl, ⟨tk, th, e, etk, ob, hob, eth⟩, hside, el, obs, eL, crew, hz1, hz2, hz3, kk⟩ := h
    refine ⟨_, (pss_cons (ps_asg (pv 0) (pg_tup (by rfl) (pgs_cons (pg_name (i := 3) sc_p_fits_helpers.nd rfl (Or.inl rfl)) (pgs_cons (pg_name (i := 4) sc_p_fits_helpers.nd rfl (Or.inr rfl)) (pgs_cons (pg_name (i := 5) sc_p_fits_helpers.nd rfl (Or.inl rfl)) (pgs_cons (pg_name (i := 5) sc_p_fits_helpers.nd rfl (Or.inl rfl)) (pgs_cons (pg_name (i := 6) sc_p_fits_helpers.nd rfl (Or.inl rfl)) pgs_nil)))))))
      (pss_cons (ps_setLc (i := 7) (own := [("one", 9)]) (g := gName 9) (te := tVar 9) (tt := tTest (tOp rEq (tOp (rIxT K) (tVar 9) (tC (.int 1))) (tVar 4))) rfl sc_p_fits_helpers.nd rfl rfl (sw_true rfl rfl rfl (by decide +kernel)) (pi_list (pv 2)) (blkOk_by (own := [("one", 9)]) (N := ["pact", "pairs", "ahead", "name", "side", "_", "throws", "fellows", "words", "one", "pair", "word"]) (sc := defScope s_p_fits_helpers) (by decide +kernel)) (fun _ _ _ _ _ => pg_name (i := 9) sc_p_fits_helpers.nd rfl (Or.inl rfl)) (fun _ _ _ _ _ => pts_one (pt_cmpR op_eq (pe_ix ix_tup (pv 9) pe_int (fun _ _ => rfl)) (pv 4) (nomark _))) (fun _ _ _ _ _ => by exact (pv 9)))
      (pss_cons (ps_if (PW.pt (pw_or (pt_cmpR op_eq (pe_callB call_len_seq (by rfl) T.z_len (by decide +kernel) (pa_cons (pv 7) pa_nil)) (pe_glob (v := .int 4) rfl T.v_MOST_HELPERS ⟨_, rfl⟩) (nomark _)) (pw_or1 (pt_cmpR op_in_seq (pv 3) (pe_lc (own := [("one", 9)]) (g := gName 9) (te := tOp (rIxT K) (tVar 9) (tC (.int 0))) (tt := tYes) rfl sc_p_fits_helpers.nd (pi_list (pv 2)) (blkOk_by (own := [("one", 9)]) (N := ["pact", "pairs", "ahead", "name", "side", "_", "throws", "fellows", "words", "one", "pair", "word"]) (sc := defScope s_p_fits_helpers) (by decide +kernel)) (fun _ _ _ _ _ => pg_name (i := 9) sc_p_fits_helpers.nd rfl (Or.inl rfl)) (fun _ _ _ _ _ => pts_nil) (fun _ _ _ _ _ => by exact (pe_ix ix_tup (pv 9) pe_int (fun _ _ => rfl)))) (by rfl))))) (pss_one (ps_ret pe_bl)) pss_nil)
      (pss_cons (ps_set (i := 8) sc_p_fits_helpers.nd rfl (Or.inr rfl) (pe_lc (own := [("pair", 10)]) (g := gName 10) (te := tOp (rIxT K) (tVar 10) (tVar 4)) (tt := tYes) rfl sc_p_fits_helpers.nd (pi_list (pv 1)) (blkOk_by (own := [("pair", 10)]) (N := ["pact", "pairs", "ahead", "name", "side", "_", "throws", "fellows", "words", "one", "pair", "word"]) (sc := defScope s_p_fits_helpers) (by decide +kernel)) (fun _ _ _ _ _ => pg_name (i := 10) sc_p_fits_helpers.nd rfl (Or.inl rfl)) (fun _ _ _ _ _ => pts_nil) (fun _ _ _ _ _ => by exact (pe_ix ix_tup (pv 10) (pv 4) (fun _ _ => rfl)))))
      (pss_one (ps_ret (pe_callB (cr_all rfl) (by rfl) T.z_all (by decide +kernel) (pa_cons (pe_lc (own := [("word", 11)]) (g := gName 11) (te := tOp (rIn K false) (tVar 11) (tVar 8)) (tt := tYes) rfl sc_p_fits_helpers.nd (pi_tup (pv 6)) (blkOk_by (own := [("word", 11)]) (N := ["pact", "pairs", "ahead", "name", "side", "_", "throws", "fellows", "words", "one", "pair", "word"]) (sc := defScope s_p_fits_helpers) (by decide +kernel)) (fun _ _ _ _ _ => pg_name (i := 11) sc_p_fits_helpers.nd rfl (Or.inl rfl)) (fun _ _ _ _ _ => pts_nil) (fun _ _ _ _ _ => by exact (pe_cmpR op_in_seq (pv 11) (pv 8) (by rfl)))) pa_nil)))))))), ?_⟩
    refine ⟨_, rfl, h, _, rfl, SqT.of e, rfl, ?_⟩
    refine ⟨_, _, rfl, _, _, rfl, _, _, rfl, _, _, rfl, _, _, rfl, rfl, ?_⟩
    have asl := obs.len
    have hasl := crew.len
    -- fellows
    refine ⟨_, rfl, L, rfl, ⟨_, SqL.of eL⟩, fun D hD => ?_⟩
    have nLD : L ≠ D := ne_of_none eL hD
    refine lc_list (K := K) (a := L) (xs := has.map V.ref) (fun i H1 => Blk (∃ fs : List Addr, H1 = upd H D (.lst (fs.map V.ref)) ∧ fs.length = ((hs.take i).filter fun z => decide (z.side = x.side)).length)) (Blk.of ⟨[], rfl, rfl⟩) (fun i H1 _ hB => ?_) ?_ ?_
    · obtain ⟨fs, rfl, _⟩ := hB.out
      exact SqL.of ((upd_ne nLD).trans eL)
    · intro i y H1 hi hB
      obtain ⟨fs, rfl, hf⟩ := hB.out
      obtain ⟨b, hb, rfl⟩ := refs_get hi
      obtain ⟨z, hz, tk2, th2, ez, _⟩ := crew.get hb
      have hil := get_lt hz
      refine ⟨rfl, ?_⟩
      refine ⟨_, rfl, _, _, _, _, rfl, rfl, SqT.of ((upd_ne (ne_of_none ez hD)).trans ez), rfl, _, rfl, rfl, _, rfl, ?_⟩
      have ed : decide (V.int z.side = V.int x.side) = decide (z.side = x.side) := by
        by_cases c : z.side = x.side
        · rw [c]; simp
        · rw [decide_eq_false c, decide_eq_false fun q => c (V.int.inj q)]
      rw [ed]
      have et : (hs.take (i + 1)).filter (fun z => decide (z.side = x.side)) = (hs.take i).filter (fun z => decide (z.side = x.side)) ++ (if z.side = x.side then [z] else []) := by
        rw [take_snoc hz, List.filter_append]
        by_cases c : z.side = x.side
        · simp [c]
        · simp [c]
      have hfl : fs.length ≤ i := by
        rw [hf]
        refine Nat.le_trans (List.length_filter_le _ _) ?_
        rw [List.length_take]
        omega
      refine iteD (fun c => ?_) (fun c => ?_)
      · refine ⟨_, rfl, _, upd_same, by rw [List.length_map]; exact small (by omega), Blk.of ⟨fs ++ [b], ?_, ?_⟩⟩
        · rw [upd_upd, List.map_append]; rfl
        · rw [et, if_pos c, List.length_append, List.length_append, hf]; rfl
      · exact Blk.of ⟨fs, rfl, by rw [et, if_neg c, List.append_nil, hf]⟩
    · intro H1 hB
      obtain ⟨fs, rfl, hf⟩ := hB.out
      rw [List.length_map, hasl, List.take_length] at hf
      have sD : Same H (upd H D (.lst (fs.map V.ref))) := (Same.refl H).upd hD
      have hD1 : (upd H D (.lst (fs.map V.ref))) D = some (.lst (fs.map V.ref)) := upd_same
      show _
      generalize (upd H D (.lst (fs.map V.ref))) = H1 at sD hD1
      have eL1 := sD _ _ eL
      have no : ∀ {H2 : Hp}, Same H H2 → (decide ((hs.filter fun z => decide (z.side = x.side)).length = 4) || decide (x.name ∈ hs.map (·.name))) = true → Q (.bl false) H2 := fun s c => by
        have e2 : My.fitsHB x ps hs = false := by unfold My.fitsHB; rw [c]; rfl
        exact e2 ▸ kk _ s
      refine ⟨_, rfl, D, _, rfl, .inl (SqL.of hD1), rfl, _, rfl, ?_⟩
      have el1 : decide (V.int (((fs.map V.ref).length : Nat) : Int) = V.int 4) = decide ((hs.filter fun z => decide (z.side = x.side)).length = 4) := by
        rw [List.length_map, hf]
        by_cases c : (hs.filter fun z => decide (z.side = x.side)).length = 4
        · rw [c]; rfl
        · rw [decide_eq_false c, decide_eq_false fun q => c (by have := V.int.inj q; omega)]
      rw [el1]
      refine iteB (fun c1 => iteT (no sD (by rw [c1]; rfl))) (fun c1 => ?_)
      refine ⟨_, rfl, _, rfl, L, rfl, ⟨_, SqL.of eL1⟩, fun G hG => ?_⟩
      have nLG : L ≠ G := ne_of_none eL1 hG
      refine lc_list (K := K) (a := L) (xs := has.map V.ref) (fun i H2 => Blk (H2 = upd H1 G (.lst (((hs.take i).map (·.name)).map V.str)))) (Blk.of rfl) (fun i H2 _ hB => ?_) ?_ ?_
      · obtain rfl := hB.out
        exact SqL.of ((upd_ne nLG).trans eL1)
      · intro i y H2 hi hB
        obtain rfl := hB.out
        obtain ⟨b, hb, rfl⟩ := refs_get hi
        obtain ⟨z, hz, tk2, th2, ez, _⟩ := crew.get hb
        have ez1 := sD _ _ ez
        have hil := get_lt hz
        refine ⟨rfl, ?_⟩
        dsimp only [tYes]
        refine iteT ?_
        refine ⟨_, rfl, _, _, _, _, rfl, rfl, SqT.of ((upd_ne (ne_of_none ez1 hG)).trans ez1), rfl, ?_⟩
        refine ⟨_, upd_same, by rw [List.length_map, List.length_map, List.length_take]; exact small (by omega), Blk.of ?_⟩
        rw [upd_upd, take_snoc hz, List.map_append, List.map_append]
        rfl
      · intro H2 hB
        obtain rfl := hB.out
        have e1 : hs.take (has.map V.ref).length = hs := by rw [List.length_map, hasl, List.take_length]
        rw [e1]
        have sG : Same H (upd H1 G (.lst ((hs.map (·.name)).map V.str))) := sD.trans ((Same.refl H1).upd hG)
        refine ⟨G, _, rfl, .inl (SqL.of upd_same), rfl, flat_str _, _, rfl, ?_⟩
        rw [if_neg Bool.false_ne_true, inV_str]
        refine iteB (fun c2 => no sG (by rw [c2, Bool.or_true])) (fun c2 => ?_)
        show _
        generalize (upd H1 G (.lst ((hs.map (·.name)).map V.str))) = H2 at sG
        have el2 := sG _ _ el
        refine ⟨_, rfl, l, rfl, ⟨_, SqL.of el2⟩, fun J hJ => ?_⟩
        have nlJ : l ≠ J := ne_of_none el2 hJ
        refine lc_list (K := K) (a := l) (xs := as.map V.ref) (fun i H3 => Blk (H3 = upd H2 J (.lst (((ps.take i).map (My.wd x.side)).map V.str)))) (Blk.of rfl) (fun i H3 _ hB => ?_) ?_ ?_
        · obtain rfl := hB.out
          exact SqL.of ((upd_ne nlJ).trans el2)
        · intro i y H3 hi hB
          obtain rfl := hB.out
          obtain ⟨b, hb, rfl⟩ := refs_get hi
          obtain ⟨z, hz, ez⟩ := obs.get hb
          have ez1 := sG _ _ ez
          have hil := get_lt hz
          refine ⟨rfl, ?_⟩
          dsimp only [tYes]
          refine iteT ?_
          refine ⟨_, rfl, _, rfl, _, _, _, _, rfl, rfl, SqT.of ((upd_ne (ne_of_none ez1 hJ)).trans ez1), wd_at2 hside z, ?_⟩
          refine ⟨_, upd_same, by rw [List.length_map, List.length_map, List.length_take]; exact small (by omega), Blk.of ?_⟩
          rw [upd_upd, take_snoc hz, List.map_append, List.map_append]
          rfl
        · intro H3 hB
          obtain rfl := hB.out
          have e2 : ps.take (as.map V.ref).length = ps := by rw [List.length_map, asl, List.take_length]
          rw [e2]
          have sJ : Same H (upd H2 J (.lst ((ps.map (My.wd x.side)).map V.str))) := sG.trans ((Same.refl H2).upd hJ)
          have hJ3 : (upd H2 J (.lst ((ps.map (My.wd x.side)).map V.str))) J = some (.lst ((ps.map (My.wd x.side)).map V.str)) := upd_same
          show _
          generalize (upd H2 J (.lst ((ps.map (My.wd x.side)).map V.str))) = H3 at sJ hJ3
          have eth3 := sJ _ _ eth
          have eqT : ∀ {H' : Hp}, H' th = some (.frz ob (.tup (x.throws.map V.str))) → SqT K H' th (x.throws.map V.str) := fun e => .inl (.inr ⟨ob, e⟩)
          refine ⟨_, rfl, th, rfl, ⟨_, eqT eth3⟩, fun M hM => ?_⟩
          have ntM : th ≠ M := ne_of_none eth3 hM
          have nJM : J ≠ M := ne_of_none hJ3 hM
          refine lc_tup (K := K) (a := th) (xs := x.throws.map V.str) (fun i H4 => Blk (H4 = upd H3 M (.lst (((x.throws.take i).map fun t => decide (t ∈ ps.map (My.wd x.side))).map V.bl)))) (Blk.of rfl) (fun i H4 _ hB => ?_) ?_ ?_
          · obtain rfl := hB.out
            exact eqT ((upd_ne ntM).trans eth3)
          · intro i y H4 hi hB
            obtain rfl := hB.out
            obtain ⟨t, ht, rfl⟩ := strs_get hi
            refine ⟨rfl, ?_⟩
            dsimp only [tYes]
            refine iteT ?_
            refine ⟨_, rfl, _, rfl, J, _, rfl, .inl (SqL.of ((upd_ne nJM).trans hJ3)), rfl, flat_str _, ?_⟩
            rw [if_neg Bool.false_ne_true, inV_str]
            obtain ⟨acc, h1, h2, h3⟩ := bools_step (D := M) (H := H3) (f := fun t => decide (t ∈ ps.map (My.wd x.side))) ht hz3
            exact ⟨acc, h1, h2, Blk.of h3⟩
          · intro H4 hB
            obtain rfl := hB.out
            refine ⟨M, _, rfl, SqL.of upd_same, ?_⟩
            rw [List.length_map, List.take_length, all_map_id]
            have eb : x.throws.all (fun t => decide (t ∈ ps.map (My.wd x.side))) = My.fitsHB x ps hs := by
              unfold My.fitsHB
              rw [c1, c2]
              rfl
            rw [eb]
            exact kk _ (sJ.trans ((Same.refl H3).upd hM))

open My (Hr)
abbrev pfs (pl hl : Addr) : List (Str × V) := [("_pairs", .ref pl), ("_helpers", .ref hl)]
theorem pfs_p {pl hl : Addr} : (pfs pl hl).lookup ("_pairs" : Str) = some (.ref pl) := by kernel_rfl
theorem pfs_h {pl hl : Addr} : (pfs pl hl).lookup ("_helpers" : Str) = some (.ref hl) := by kernel_rfl
theorem pfs_make {pl hl : Addr} : putF "_helpers" (.ref hl) (putF "_pairs" (.ref pl) []) = pfs pl hl := by kernel_rfl
theorem fits_next {ps : List My.Pr} (ok : My.PairsOk ps) {i : Nat} {q : My.Pr} (h : ps[i]? = some q) : fitsB q (ps.take i) = true := by
  have hl := get_lt h
  have hm := ok.many
  unfold fitsB
  rw [decide_eq_true (by rw [List.length_take]; omega), decide_eq_false (My.nin_take (f := fun z : My.Pr => z.1) ok.nears h), decide_eq_false (My.nin_take (f := fun z : My.Pr => z.2.1) ok.fars h)]
  rfl
/-- the Pacts at p: its lists at pl and hl; the pairs -/
structure PactsAt (C : Addr) (H : Hp) (p pl hl : Addr) (as : List Addr) (ps : List My.Pr) : Prop where
  ob : ∃ dx, H p = some (.ins C dx (pfs pl hl))
  lp : H pl = some (.lst (as.map V.ref))
  ps : Objs H as prO ps
theorem PactsAt.same {C : Addr} {H H' : Hp} {p pl hl : Addr} {as : List Addr} {ps : List My.Pr} (h : PactsAt C H p pl hl as ps) (k : Same H H') : PactsAt C H' p pl hl as ps := by
  obtain ⟨⟨dx, e⟩, e1, e3⟩ := h
  exact ⟨⟨dx, k _ _ e⟩, k _ _ e1, e3.same k⟩
/-- .. the helpers -/
structure CrewAt (H : Hp) (hl : Addr) (has : List Addr) (hs : List Hr) : Prop where
  lh : H hl = some (.lst (has.map V.ref))
  hs : Crew H has hs
theorem CrewAt.same {H H' : Hp} {hl : Addr} {has : List Addr} {hs : List Hr} (h : CrewAt H hl has hs) (k : Same H H') : CrewAt H' hl has hs := ⟨k _ _ h.lh, h.hs.same k⟩
theorem filter_sides {hs : List Hr} (h : ∀ x, x ∈ hs → x.side = 0 ∨ x.side = 1) : hs.length = (hs.filter fun z => decide (z.side = 0)).length + (hs.filter fun z => decide (z.side = 1)).length := by
  induction hs with
  | nil => rfl
  | cons x r ih =>
    have h2 := ih fun z hz => h z (List.mem_cons_of_mem _ hz)
    rcases h x List.mem_cons_self with e | e
    · rw [List.filter_cons, if_pos (by simp [e]), List.filter_cons, if_neg (by simp [e]), List.length_cons, List.length_cons]
      omega
    · rw [List.filter_cons, if_neg (by simp [e]), List.filter_cons, if_pos (by simp [e]), List.length_cons, List.length_cons]
      omega
theorem pactB_out {x : Hr} (h : My.pactB x = true) : My.nameB x.name = true ∧ (x.side = 0 ∨ x.side = 1) ∧ My.takesB x.takes = true ∧ My.throwsB x.throws = true := by
  unfold My.pactB at h
  simp only [Bool.and_eq_true] at h
  exact ⟨h.1.1.1, of_decide_eq_true h.1.1.2, h.1.2, h.2⟩
theorem takesB_len {ts : List Str} (h : My.takesB ts = true) : ts.length ≤ 3 := by
  unfold My.takesB at h
  simp only [Bool.and_eq_true, decide_eq_true_eq] at h
  exact h.1
theorem crew_many {ps : List My.Pr} {hs : List Hr} (ok : My.CrewOk ps hs) : hs.length ≤ 8 := by
  have h1 := ok.few 0
  have h2 := ok.few 1
  have := filter_sides fun x hx => (pactB_out (ok.one x hx).1).2.1
  omega
def sp_Pinit (C : Addr) : Sp := fun vs H Q _ => ∃ (p dx L Lh : Addr) (as has : List Addr) (ps : List My.Pr) (hs : List Hr), vs = [.ref p, .ref L, .ref Lh] ∧ H p = some (.ins C dx []) ∧ H L = some (.lst (as.map V.ref)) ∧ H Lh = some (.lst (has.map V.ref)) ∧ Objs H as prO ps ∧ Crew H has hs ∧ My.PairsOk ps ∧ My.CrewOk ps hs ∧
  ∀ (pl hl : Addr) (H' : Hp), H pl = none → H hl = none → PactsAt C H' p pl hl as ps → CrewAt H' hl has hs → Keeps [p] H H' → Q .non H'
theorem ok_Pacts_init (T : Txt K mg a) : FnOk P w K mg base CX0 4 a.f_Pacts_init a.d_Pacts_init ["self", "pairs", "helpers"] (sp_Pinit a.c_Pacts) := by
  refine T.F_Pacts_init.ok sc_Pacts_init (fun vs H Q E h => ?_) (fun cdv A outer s H vs Q E hr h => ?_)
  · obtain ⟨p, dx, L, Lh, as, has, ps, hs, rfl, _⟩ := h
    rfl
  · obtain ⟨p, dx, L, Lh, as, has, ps, hs, rfl, hp, hL, hLh, ob, crew, ok, cok, kk⟩ := h
    refine ⟨_, (pss_cons (ps_fld (pv 0) (pe_lst pa_nil) rfl)
      (pss_cons (ps_fld (pv 0) (pe_lst pa_nil) rfl)
      (pss_cons (ps_for PassesOwn.never rfl (pi_list (pv 1)) (pg_name (i := 3) sc_Pacts_init.nd rfl (Or.inl rfl)) (pss_cons (ps_if (PW.pt (pw_or (pt_not (pt_val (pe_call (ok_p_is_pair T) (hr.mono (by decide)) rfl T.g_p_is_pair T.k_p_is_pair T.B_p_is_pair .nil pass0 (pa_cons (pv 3) pa_nil)))) (pw_or1 (pt_not (pt_val (pe_call (ok_p_fits_pairs T) (hr.mono (by decide)) rfl T.g_p_fits_pairs T.k_p_fits_pairs T.B_p_fits_pairs .nil pass0 (pa_cons (pv 3) (pa_cons (pe_fld (pv 0) rfl) pa_nil)))))))) (pss_one ps_never) pss_nil)
      (pss_one (ps_expr (pe_bm PySem.F.plainAttrs_list PySem.F.slot_list_append PySem.F.type_list_append mt_append (pe_fld (pv 0) rfl) (pa_cons (pv 3) pa_nil))))))
      (pss_one (ps_for PassesOwn.never rfl (pi_list (pv 2)) (pg_name (i := 4) sc_Pacts_init.nd rfl (Or.inl rfl)) (pss_cons (ps_if (PW.pt (pw_or (pt_not (pt_val (pe_call (ok_p_is_pact T) (hr.mono (by decide)) rfl T.g_p_is_pact T.k_p_is_pact T.B_p_is_pact .nil pass0 (pa_cons (pv 4) pa_nil)))) (pw_or1 (pt_not (pt_val (pe_call (ok_p_fits_helpers T) (hr.mono (by decide)) rfl T.g_p_fits_helpers T.k_p_fits_helpers T.B_p_fits_helpers .nil pass0 (pa_cons (pv 4) (pa_cons (pe_fld (pv 0) rfl) (pa_cons (pe_fld (pv 0) rfl) pa_nil))))))))) (pss_one ps_never) pss_nil)
      (pss_one (ps_expr (pe_bm PySem.F.plainAttrs_list PySem.F.slot_list_append PySem.F.type_list_append mt_append (pe_fld (pv 0) rfl) (pa_cons (pv 4) pa_nil)))))))))), ?_⟩
    have c0 := T.cl_Pacts
    have c1 := T.n_Pacts__pairs
    have c2 := T.n_Pacts__helpers
    have asl := ob.len
    have many := ok.many
    have hmany := crew_many cok
    refine ⟨by show 0 ≤ sizeLine; decide, fun pl hpl => ?_⟩
    have n1 : p ≠ pl := ne_of_none hp hpl
    walk_at "rd"
    refine ⟨by show 0 ≤ sizeLine; decide, fun hl hhl => ?_⟩
    have n2 : p ≠ hl := fun e => by subst e; rw [upd_same] at hhl; cases hhl
    have hhl1 := (upd_ne n2.symm).symm.trans hhl
    have n3 : pl ≠ hl := ne_of_none upd_same hhl1
    have hhl0 : H hl = none := (upd_ne n3.symm).symm.trans hhl1
    refine ⟨_, rfl, _, _, _, _, rfl, (by walk_at "hp"), c0, c2, (by show 1 < 1000; decide), ?_⟩
    have nLp : L ≠ p := ne_of hL hp (fun q => by cases q)
    have nHp : Lh ≠ p := ne_of hLh hp (fun q => by cases q)
    have k0 : Keeps [p] H (upd (upd (upd (upd H pl (.lst [])) p (.ins a.c_Pacts dx (putF "_pairs" (.ref pl) []))) hl (.lst [])) p (.ins a.c_Pacts dx (putF "_helpers" (.ref hl) (putF "_pairs" (.ref pl) [])))) :=
      ((((Keeps.refl [p] H).upd (.inr hpl)).upd (.inl (by simp))).upd (.inr hhl0)).upd (.inl (by simp))
    have e0 : (upd (upd (upd (upd H pl (.lst [])) p (.ins a.c_Pacts dx (putF "_pairs" (.ref pl) []))) hl (.lst [])) p (.ins a.c_Pacts dx (putF "_helpers" (.ref hl) (putF "_pairs" (.ref pl) [])))) p = some (.ins a.c_Pacts dx (pfs pl hl)) := by
      rw [upd_same]
      exact congrArg (fun q => some (HO.ins a.c_Pacts dx q)) pfs_make
    have e1 : (upd (upd (upd (upd H pl (.lst [])) p (.ins a.c_Pacts dx (putF "_pairs" (.ref pl) []))) hl (.lst [])) p (.ins a.c_Pacts dx (putF "_helpers" (.ref hl) (putF "_pairs" (.ref pl) [])))) pl = some (.lst []) := by
      walk_at "hp"
    have e2 : (upd (upd (upd (upd H pl (.lst [])) p (.ins a.c_Pacts dx (putF "_pairs" (.ref pl) []))) hl (.lst [])) p (.ins a.c_Pacts dx (putF "_helpers" (.ref hl) (putF "_pairs" (.ref pl) [])))) hl = some (.lst []) := by
      walk_at "hp"
    generalize (upd (upd (upd (upd H pl (.lst [])) p (.ins a.c_Pacts dx (putF "_pairs" (.ref pl) []))) hl (.lst [])) p (.ins a.c_Pacts dx (putF "_helpers" (.ref hl) (putF "_pairs" (.ref pl) [])))) = H1 at k0 e0 e1 e2
    have np : NoTup H [p] := NoTup.one hp (fun _ e => by cases e) fun _ _ e => by cases e
    have ob1 : Objs H1 as prO ps := ob.keepN k0 np
    have crew1 : Crew H1 has hs := Crew.keep crew k0 np
    refine ⟨_, rfl, L, rfl, ⟨_, SqL.of (k0 _ _ hL (by simp [nLp]))⟩, ?_⟩
    refine for_list (K := K) (a := L) (xs := as.map V.ref) (fun i σ H2 => Blk (∃ v3, σ = [some (.ref p), some (.ref L), some (.ref Lh), v3, none] ∧ H2 p = some (.ins a.c_Pacts dx (pfs pl hl)) ∧ H2 pl = some (.lst ((as.take i).map V.ref)) ∧ H2 hl = some (.lst []) ∧ Objs H2 as prO ps ∧ Crew H2 has hs ∧ Keeps [p] H H2)) ?_ ?_ ?_ ?_
    · exact Blk.of ⟨_, rfl, e0, e1, e2, ob1, crew1, k0⟩
    · intro i σ H2 _ hB
      obtain ⟨v3, _, _, _, _, _, _, k2⟩ := hB.out
      exact SqL.of (k2 _ _ hL (by simp [nLp]))
    · intro i y σ H2 hi hB
      obtain ⟨v3, rfl, f0, f1, f2, ob2, cr2, k2⟩ := hB.out
      obtain ⟨h, hh, rfl⟩ := refs_get hi
      obtain ⟨q, hq, hq2⟩ := ob2.get hh
      have hil := get_lt hq
      obtain ⟨nm1, nm2⟩ := ok.nm q (List.mem_of_getElem? hq)
      refine ⟨_, rfl, h, q, rfl, hq2, name_line nm1, name_line nm2, fun H3 s3 => ⟨_, rfl, ?_⟩⟩
      rw [nm1, nm2]
      refine iteF ?_
      have f03 := s3 _ _ f0
      have f13 := s3 _ _ f1
      have k1 := @pfs_p pl hl
      refine ⟨_, rfl, ?_⟩
      refine ⟨_, rfl, _, _, _, _, _, rfl, f03, c0, c1, k1, ?_⟩
      refine ⟨h, pl, q, as.take i, ps.take i, rfl, s3 _ _ hq2, f13, (ob2.same s3).take i, by rw [List.length_take]; omega, fun H4 s4 => ⟨_, rfl, ?_⟩⟩
      rw [fits_next ok hq]
      refine iteF ?_
      have f04 := s4 _ _ f03
      have f14 := s4 _ _ f13
      have f24 := s4 _ _ (s3 _ _ f2)
      refine ⟨_, rfl, _, _, _, _, _, rfl, f04, c0, c1, k1, ?_⟩
      refine ⟨.inl ⟨rfl, _, SqL.of f14⟩, _, rfl, pl, _, _, rfl, rfl, f14, by rw [List.length_map, List.length_take]; exact small (by omega), ?_⟩
      have kpl : ∀ o, Keeps [pl] H4 (upd H4 pl o) := fun o => (Keeps.refl _ H4).upd (.inl (by simp))
      have npl : NoTup H4 [pl] := NoTup.lst f14
      refine Blk.of ⟨_, rfl, (upd_ne n1).trans f04, ?_, (upd_ne n3.symm).trans f24, ?_, ?_, ?_⟩
      · rw [upd_same, take_snoc hh, List.map_append]; rfl
      · exact ((ob2.same s3).same s4).keepN (kpl _) npl
      · exact Crew.keep ((Crew.same cr2 s3).same s4) (kpl _) npl
      · have k4 : Keeps [p] H H4 := (k2.trans (fun c o e _ => s3 c o e)).trans (fun c o e _ => s4 c o e)
        exact k4.upd (.inr hpl)
    · intro σ H2 hB
      obtain ⟨v3, rfl, f0, f1, f2, ob2, cr2, k2⟩ := hB.out
      have et : as.take (as.map V.ref).length = as := by rw [List.length_map, List.take_length]
      rw [et] at f1
      refine ⟨_, rfl, Lh, rfl, ⟨_, SqL.of (k2 _ _ hLh (by simp [nHp]))⟩, ?_⟩
      refine for_list (K := K) (a := Lh) (xs := has.map V.ref) (fun i σ H3 => Blk (∃ v3 v4, σ = [some (.ref p), some (.ref L), some (.ref Lh), v3, v4] ∧ H3 p = some (.ins a.c_Pacts dx (pfs pl hl)) ∧ H3 pl = some (.lst (as.map V.ref)) ∧ H3 hl = some (.lst ((has.take i).map V.ref)) ∧ Objs H3 as prO ps ∧ Crew H3 has hs ∧ Keeps [p] H H3)) ?_ ?_ ?_ ?_
      · exact Blk.of ⟨_, _, rfl, f0, f1, f2, ob2, cr2, k2⟩
      · intro i σ H3 _ hB
        obtain ⟨v3, v4, _, _, _, _, _, _, k3⟩ := hB.out
        exact SqL.of (k3 _ _ hLh (by simp [nHp]))
      · intro i y σ H3 hi hB
        obtain ⟨v3, v4, rfl, f0, f1, f2, ob3, cr3, k3⟩ := hB.out
        obtain ⟨h, hh, rfl⟩ := refs_get hi
        obtain ⟨x, hx, hx2⟩ := AllAt.get cr3 hh
        have hil := get_lt hx
        obtain ⟨b1, b2⟩ := cok.next hx
        obtain ⟨nm, sd, tkb, thb⟩ := pactB_out b1
        have t1 := takesB_len tkb
        have t2 := (My.throwsB_nodup thb).1
        have k1 := @pfs_p pl hl
        have k4 := @pfs_h pl hl
        refine ⟨_, rfl, h, x, rfl, hx2, name_line nm, by omega, by omega, fun H4 s4 => ⟨_, rfl, ?_⟩⟩
        rw [b1]
        refine iteF ?_
        have f04 := s4 _ _ f0
        refine ⟨_, rfl, _, rfl, _, _, _, _, _, rfl, f04, c0, c1, k1, _, rfl, _, _, _, _, _, rfl, f04, c0, c2, k4, ?_⟩
        refine ⟨h, pl, hl, x, as, has.take i, ps, hs.take i, rfl, hx2.same s4, sd, s4 _ _ f1, ob3.same s4, s4 _ _ f2, AllAt.take (Crew.same cr3 s4) i, by omega, by rw [List.length_take]; omega, by omega, fun H5 s5 => ⟨_, rfl, ?_⟩⟩
        rw [b2]
        refine iteF ?_
        have f05 := s5 _ _ f04
        have f15 := s5 _ _ (s4 _ _ f1)
        have f25 := s5 _ _ (s4 _ _ f2)
        refine ⟨_, rfl, _, _, _, _, _, rfl, f05, c0, c2, k4, ?_⟩
        refine ⟨.inl ⟨rfl, _, SqL.of f25⟩, _, rfl, hl, _, _, rfl, rfl, f25, by rw [List.length_map, List.length_take]; exact small (by omega), ?_⟩
        have khl : ∀ o, Keeps [hl] H5 (upd H5 hl o) := fun o => (Keeps.refl _ H5).upd (.inl (by simp))
        have nhl : NoTup H5 [hl] := NoTup.lst f25
        refine Blk.of ⟨_, _, rfl, (upd_ne n2).trans f05, (upd_ne n3).trans f15, ?_, ?_, ?_, ?_⟩
        · rw [upd_same, take_snoc hh, List.map_append]; rfl
        · exact ((ob3.same s4).same s5).keepN (khl _) nhl
        · exact Crew.keep ((Crew.same cr3 s4).same s5) (khl _) nhl
        · have k5 : Keeps [p] H H5 := (k3.trans (fun c o e _ => s4 c o e)).trans (fun c o e _ => s5 c o e)
          exact k5.upd (.inr hhl0)
      · intro σ H3 hB
        obtain ⟨v3, v4, rfl, f0, f1, f2, ob3, cr3, k3⟩ := hB.out
        have et2 : has.take (has.map V.ref).length = has := by rw [List.length_map, List.take_length]
        rw [et2] at f2
        exact kk pl hl _ hpl hhl0 ⟨⟨dx, f0⟩, f1, ob3⟩ ⟨f2, cr3⟩ k3

open My (Hr wd)
theorem find_first {α : Type} {P : α → Prop} [DecidablePred P] : ∀ {xs : List α} {k : Nat} {q : α}, (∀ (j : Nat) (z : α), j < k → xs[j]? = some z → ¬ P z) → xs[k]? = some q → P q → xs.find? (fun z => decide (P z)) = some q
  | [], k, q, _, h, _ => by simp at h
  | x :: r, 0, q, _, h, hp => by
    obtain rfl := Option.some.inj (show some x = some q from h)
    rw [List.find?_cons, decide_eq_true hp]
  | x :: r, k + 1, q, hn, h, hp => by
    rw [List.find?_cons, decide_eq_false (hn 0 x (by omega) rfl)]
    exact find_first (k := k) (fun j z hj e => hn (j + 1) z (by omega) e) h hp
theorem find_no {α : Type} {P : α → Prop} [DecidablePred P] {xs : List α} (hn : ∀ (j : Nat) (z : α), j < xs.length → xs[j]? = some z → ¬ P z) : xs.find? (fun z => decide (P z)) = none := by
  rw [List.find?_eq_none]
  intro x hx
  obtain ⟨j, hj⟩ := List.getElem?_of_mem hx
  simpa using hn j x (get_lt hj) hj
def ofSide (i : Int) (hs : List Hr) : List Hr := hs.filter fun z => decide (z.side = i)
theorem ofSide_snoc {hs : List Hr} {k : Nat} {z : Hr} (i : Int) (h : hs[k]? = some z) : ofSide i (hs.take (k + 1)) = ofSide i (hs.take k) ++ (if z.side = i then [z] else []) := by
  unfold ofSide
  rw [take_snoc h, List.filter_append]
  by_cases c : z.side = i
  · simp [c]
  · simp [c]
theorem ofSide_le (i : Int) (hs : List Hr) : (ofSide i hs).length ≤ hs.length := List.length_filter_le _ _
def sp_Pnames (C : Addr) : Sp := fun vs H Q _ => ∃ (p pl hl : Addr) (as has : List Addr) (ps : List My.Pr) (hs : List Hr) (i : Int), vs = [.ref p, .int i] ∧ PactsAt C H p pl hl as ps ∧ CrewAt H hl has hs ∧ hs.length ≤ 10000 ∧
  ∀ (r : Addr) (H' : Hp), H r = none → H' r = some (.lst (((ofSide i hs).map (·.name)).map V.str)) → Same H H' → Q (.ref r) H'
theorem dec_int_eq (i j : Int) : decide (V.int i = V.int j) = decide (i = j) := by
  by_cases c : i = j
  · rw [c]; simp
  · rw [decide_eq_false c, decide_eq_false fun q => c (V.int.inj q)]
theorem ok_Pacts_names (T : Txt K mg a) : FnOk P w K mg base CX0 1 a.f_Pacts_names a.d_Pacts_names ["self", "side"] (sp_Pnames a.c_Pacts) := by
  refine T.F_Pacts_names.ok sc_Pacts_names (fun vs H Q E h => ?_) (fun cdv A outer s H vs Q E hr h => ?_)
  · obtain ⟨p, pl, hl, as, has, ps, hs, i, rfl, _⟩ := h
    rfl
  · obtain ⟨p, pl, hl, as, has, ps, hs, i, rfl, pa, cr, hz, kk⟩ := h
    refine ⟨_, (pss_one (ps_ret (pe_lc (own := [("pact", 2)]) (g := gName 2) (te := tOp (rIxT K) (tVar 2) (tC (.int 0))) (tt := tTest (tOp rEq (tOp (rIxT K) (tVar 2) (tC (.int 1))) (tVar 1))) rfl sc_Pacts_names.nd (pi_list (pe_fld (pv 0) rfl)) (blkOk_by (own := [("pact", 2)]) (N := ["self", "side", "pact"]) (sc := defScope s_Pacts_names) (by decide +kernel)) (fun _ _ _ _ _ => pg_name (i := 2) sc_Pacts_names.nd rfl (Or.inl rfl)) (fun _ _ _ _ _ => pts_one (pt_cmpR op_eq (pe_ix ix_tup (pv 2) pe_int (fun _ _ => rfl)) (pv 1) (nomark _))) (fun _ _ _ _ _ => by exact (pe_ix ix_tup (pv 2) pe_int (fun _ _ => rfl)))))), ?_⟩
    obtain ⟨dx, e0⟩ := pa.ob
    have hasl := AllAt.len cr.hs
    have eL := cr.lh
    refine ⟨_, rfl, _, _, _, _, _, rfl, e0, T.cl_Pacts, T.n_Pacts__helpers, pfs_h, hl, rfl, ⟨_, SqL.of eL⟩, fun D hD => ?_⟩
    have nLD : hl ≠ D := ne_of_none eL hD
    refine lc_list (K := K) (a := hl) (xs := has.map V.ref) (fun k H1 => Blk (H1 = upd H D (.lst (((ofSide i (hs.take k)).map (·.name)).map V.str)))) (Blk.of rfl) (fun k H1 _ hB => ?_) ?_ ?_
    · obtain rfl := hB.out
      exact SqL.of ((upd_ne nLD).trans eL)
    · intro k y H1 hi hB
      obtain rfl := hB.out
      obtain ⟨b, hb, rfl⟩ := refs_get hi
      obtain ⟨z, hz2, tk2, th2, ez, _⟩ := AllAt.get cr.hs hb
      have hil := get_lt hz2
      have ez2 : ∀ o, upd H D o b = some (.tup [.str z.name, .int z.side, .ref tk2, .bl z.gives, .ref th2]) := fun o => (upd_ne (ne_of_none ez hD)).trans ez
      refine ⟨rfl, ?_⟩
      refine ⟨_, rfl, _, _, _, _, rfl, rfl, SqT.of (ez2 _), rfl, _, rfl, rfl, _, rfl, ?_⟩
      rw [dec_int_eq]
      have hle := ofSide_le i (hs.take k)
      rw [List.length_take] at hle
      refine iteD (fun c => ?_) (fun c => ?_)
      · refine ⟨_, rfl, _, _, _, _, rfl, rfl, SqT.of (ez2 _), rfl, ?_⟩
        refine ⟨_, upd_same, by rw [List.length_map, List.length_map]; exact small (by omega), Blk.of ?_⟩
        rw [upd_upd, ofSide_snoc i hz2, if_pos c, List.map_append, List.map_append]
        rfl
      · refine Blk.of ?_
        rw [ofSide_snoc i hz2, if_neg c, List.append_nil]
    · intro H1 hB
      obtain rfl := hB.out
      have e1 : hs.take (has.map V.ref).length = hs := by rw [List.length_map, hasl, List.take_length]
      rw [e1]
      exact kk D _ hD upd_same ((Same.refl H).upd hD)
def crewOf (w : Str) (hs : List Hr) : Option Hr := hs.find? fun z => decide (z.name = w)
def sp_Ppact (C : Addr) : Sp := fun vs H Q _ => ∃ (p pl hl : Addr) (as has : List Addr) (ps : List My.Pr) (hs : List Hr) (w : Str) (x : Hr), vs = [.ref p, .str w] ∧ PactsAt C H p pl hl as ps ∧ CrewAt H hl has hs ∧ crewOf w hs = some x ∧
  ∀ (h : Addr), HrAt H h x → Q (.ref h) H
theorem ok_Pacts_pact (T : Txt K mg a) : FnOk P w K mg base CX0 1 a.f_Pacts_pact a.d_Pacts_pact ["self", "name"] (sp_Ppact a.c_Pacts) := by
  refine T.F_Pacts_pact.ok sc_Pacts_pact (fun vs H Q E h => ?_) (fun cdv A outer s H vs Q E hr h => ?_)
  · obtain ⟨p, pl, hl, as, has, ps, hs, w, x, rfl, _⟩ := h
    rfl
  · obtain ⟨p, pl, hl, as, has, ps, hs, w, x, rfl, pa, cr, hx, kk⟩ := h
    refine ⟨_, (pss_cons (ps_for PassesOwn.never rfl (pi_list (pe_fld (pv 0) rfl)) (pg_name (i := 2) sc_Pacts_pact.nd rfl (Or.inl rfl)) (pss_one (ps_if (pt_cmpR op_eq (pe_ix ix_tup (pv 2) pe_int (fun _ _ => rfl)) (pv 1) (nomark _)) (pss_one (ps_ret (pv 2))) pss_nil)))
      (pss_one ps_never)), ?_⟩
    obtain ⟨dx, e0⟩ := pa.ob
    have eL := cr.lh
    refine ⟨_, rfl, _, _, _, _, _, rfl, e0, T.cl_Pacts, T.n_Pacts__helpers, pfs_h, hl, rfl, ⟨_, SqL.of eL⟩, ?_⟩
    refine for_list (K := K) (a := hl) (xs := has.map V.ref) (fun k σ H2 => Blk (∃ v2, σ = [some (.ref p), some (.str w), v2] ∧ H2 = H ∧ ∀ (j : Nat) (z : Hr), j < k → hs[j]? = some z → ¬ z.name = w)) ?_ ?_ ?_ ?_
    · exact Blk.of ⟨_, rfl, rfl, fun j z h => absurd h (by omega)⟩
    · intro k σ H2 _ hB
      obtain ⟨v2, _, rfl, _⟩ := hB.out
      exact SqL.of eL
    · intro k y σ H2 hy hB
      obtain ⟨v2, rfl, rfl, no⟩ := hB.out
      obtain ⟨h, hh, rfl⟩ := refs_get hy
      obtain ⟨z, hz, hz2⟩ := AllAt.get cr.hs hh
      obtain ⟨tk2, th2, ez, _⟩ := id hz2
      refine ⟨_, rfl, _, _, _, _, rfl, rfl, SqT.of ez, rfl, ?_⟩
      refine ⟨_, rfl, rfl, _, rfl, ?_⟩
      refine iteD (fun c => ?_) (fun c => ?_)
      · have c' : z.name = w := V.str.inj c
        have := find_first (P := fun z : Hr => z.name = w) no hz c'
        have e : some z = some x := this.symm.trans hx
        obtain rfl := Option.some.inj e
        exact ⟨_, rfl, kk h hz2⟩
      · refine Blk.of ⟨_, rfl, rfl, fun j z' hj e => ?_⟩
        by_cases e2 : j = k
        · subst e2
          rw [hz] at e
          obtain rfl := Option.some.inj e
          exact fun c2 => c (congrArg V.str c2)
        · exact no j z' (by omega) e
    · intro σ H2 hB
      obtain ⟨v2, rfl, rfl, no⟩ := hB.out
      rw [List.length_map, AllAt.len cr.hs] at no
      have : crewOf w hs = none := find_no no
      rw [hx] at this
      cases this
/-- a helper's errors as side i calls them -/
theorem pfs_no4 {pl hl : Addr} : (pfs pl hl).lookup ("pact" : Str) = none := by kernel_rfl
theorem pfs_nm {pl hl : Addr} : (pfs pl hl).lookup ("names" : Str) = none := by kernel_rfl

/-! ### the pair of a word -/
open My (wd)
theorem wd_at {i : Int} (hi : i = 0 ∨ i = 1) (p : My.Pr) : atI [V.str p.1, .str p.2.1, .bl p.2.2] i = some (.str (wd i p)) := by
  rcases hi with rfl | rfl <;> rfl
def pairOf (i : Int) (w : Str) (ps : List My.Pr) : Option My.Pr := ps.find? fun z => decide (wd i z = w)
def sp_pair (C : Addr) : Sp := fun vs H Q _ => ∃ (p pl hl : Addr) (as : List Addr) (ps : List My.Pr) (w : Str) (i : Int) (q : My.Pr), vs = [.ref p, .str w, .int i] ∧ PactsAt C H p pl hl as ps ∧ (i = 0 ∨ i = 1) ∧ pairOf i w ps = some q ∧
  ∀ (h : Addr) (H' : Hp), Same H H' → H' h = some (prO q) → Q (.ref h) H'
theorem ok_Pacts_p_pair (T : Txt K mg a) : FnOk P w K mg base CX0 3 a.f_Pacts_p_pair a.d_Pacts_p_pair ["self", "word", "side"] (sp_pair a.c_Pacts) := by
  refine T.F_Pacts_p_pair.ok sc_Pacts_p_pair (fun vs H Q E h => ?_) (fun cdv A outer s H vs Q E hr h => ?_)
  · obtain ⟨p, pl, hl, as, ps, w, i, q, rfl, _⟩ := h
    rfl
  · obtain ⟨p, pl, hl, as, ps, w, i, q, rfl, pa, hi, hq, kk⟩ := h
    refine ⟨_, (C8.pss_cut (ps_if (pt_val (pe_call (ok_is_side T) (hr.mono (by decide)) rfl T.g_is_side T.k_is_side T.B_is_side .nil pass0 (pa_cons (pv 2) pa_nil))) (pss_one (ps_for PassesOwn.never rfl (pi_list (pe_fld (pv 0) rfl)) (pg_name (i := 3) sc_Pacts_p_pair.nd rfl (Or.inl rfl)) (pss_one (ps_if (pt_cmpR op_eq (pe_ix ix_tup (pv 3) (pv 2) (fun _ _ => rfl)) (pv 1) (nomark _)) (pss_one (ps_ret (pv 3))) pss_nil)))) pss_nil)
      (pss_one ps_never)), ?_⟩
    refine ⟨fun σ H2 => False, ?_, fun σ H2 hB => hB.elim⟩
    refine ⟨_, rfl, i, rfl, fun H1 s1 => ⟨_, rfl, ?_⟩⟩
    have pa1 := pa.same s1
    obtain ⟨dx, e0⟩ := pa1.ob
    rw [decide_eq_true hi]
    refine iteT ?_
    refine ⟨_, rfl, _, _, _, _, _, rfl, e0, T.cl_Pacts, T.n_Pacts__pairs, pfs_p, pl, rfl, ⟨_, SqL.of pa1.lp⟩, ?_⟩
    refine for_list (K := K) (a := pl) (xs := as.map V.ref) (fun k σ H2 => Blk (∃ v3, σ = [some (.ref p), some (.str w), some (.int i), v3] ∧ H2 = H1 ∧ ∀ (j : Nat) (z : My.Pr), j < k → ps[j]? = some z → ¬ wd i z = w)) ?_ ?_ ?_ ?_
    · exact Blk.of ⟨_, rfl, rfl, fun j z h => absurd h (by omega)⟩
    · intro k σ H2 _ hB
      obtain ⟨v3, _, rfl, _⟩ := hB.out
      exact SqL.of pa1.lp
    · intro k y σ H2 hy hB
      obtain ⟨v3, rfl, rfl, no⟩ := hB.out
      obtain ⟨h, hh, rfl⟩ := refs_get hy
      obtain ⟨z, hz, hz2⟩ := pa1.ps.get hh
      refine ⟨_, rfl, _, rfl, _, _, _, _, rfl, rfl, SqT.of hz2, wd_at hi z, ?_⟩
      refine ⟨_, rfl, rfl, _, rfl, ?_⟩
      refine iteD (fun c => ?_) (fun c => ?_)
      · have c' : wd i z = w := V.str.inj c
        have := find_first (P := fun z => wd i z = w) no hz c'
        have e : some z = some q := this.symm.trans hq
        obtain rfl := Option.some.inj e
        exact ⟨_, rfl, kk h _ s1 hz2⟩
      · refine Blk.of ⟨_, rfl, rfl, fun j z' hj e => ?_⟩
        by_cases e2 : j = k
        · subst e2
          rw [hz] at e
          obtain rfl := Option.some.inj e
          exact fun c2 => c (congrArg V.str c2)
        · exact no j z' (by omega) e
    · intro σ H2 hB
      obtain ⟨v3, rfl, rfl, no⟩ := hB.out
      rw [List.length_map, pa1.ps.len] at no
      have : pairOf i w ps = none := find_no no
      rw [hq] at this
      cases this
def sp_laden (C : Addr) : Sp := fun vs H Q _ => ∃ (p pl hl : Addr) (as : List Addr) (ps : List My.Pr) (w : Str) (i : Int) (q : My.Pr), vs = [.ref p, .str w, .int i] ∧ PactsAt C H p pl hl as ps ∧ (i = 0 ∨ i = 1) ∧ pairOf i w ps = some q ∧
  ∀ (H' : Hp), Same H H' → Q (.bl q.2.2) H'
theorem pfs_no1 {pl hl : Addr} : (pfs pl hl).lookup ("_pair" : Str) = none := by kernel_rfl
theorem ok_Pacts_laden (T : Txt K mg a) : FnOk P w K mg base CX0 4 a.f_Pacts_laden a.d_Pacts_laden ["self", "word", "side"] (sp_laden a.c_Pacts) := by
  refine T.F_Pacts_laden.ok sc_Pacts_laden (fun vs H Q E h => ?_) (fun cdv A outer s H vs Q E hr h => ?_)
  · obtain ⟨p, pl, hl, as, ps, w, i, q, rfl, _⟩ := h
    rfl
  · obtain ⟨p, pl, hl, as, ps, w, i, q, rfl, pa, hi, hq, kk⟩ := h
    refine ⟨_, (pss_one (ps_ret (pe_ix ix_tup (pe_meth (pv 0) T.cl_Pacts T.m_Pacts_p_pair (ok_Pacts_p_pair T) (hr.mono (by decide)) T.B_Pacts_p_pair .nil pass0 (pa_cons (pv 1) (pa_cons (pv 2) pa_nil))) pe_int (fun _ _ => rfl)))), ?_⟩
    obtain ⟨dx, e0⟩ := pa.ob
    refine ⟨_, rfl, p, dx, _, rfl, e0, pfs_no1, _, rfl, _, rfl, p, pl, hl, as, ps, w, i, q, rfl, pa, hi, hq, fun h H1 s1 h1 => ?_⟩
    exact ⟨_, _, _, _, rfl, rfl, SqT.of h1, rfl, kk H1 s1⟩
def sp_over (C : Addr) : Sp := fun vs H Q _ => ∃ (p pl hl : Addr) (as : List Addr) (ps : List My.Pr) (w : Str) (i : Int) (q : My.Pr), vs = [.ref p, .str w, .int i] ∧ PactsAt C H p pl hl as ps ∧ (i = 0 ∨ i = 1) ∧ pairOf i w ps = some q ∧
  ∀ (H' : Hp), Same H H' → Q (.str (wd (1 - i) q)) H'
theorem ok_Pacts_over (T : Txt K mg a) : FnOk P w K mg base CX0 4 a.f_Pacts_over a.d_Pacts_over ["self", "word", "side"] (sp_over a.c_Pacts) := by
  refine T.F_Pacts_over.ok sc_Pacts_over (fun vs H Q E h => ?_) (fun cdv A outer s H vs Q E hr h => ?_)
  · obtain ⟨p, pl, hl, as, ps, w, i, q, rfl, _⟩ := h
    rfl
  · obtain ⟨p, pl, hl, as, ps, w, i, q, rfl, pa, hi, hq, kk⟩ := h
    refine ⟨_, (pss_one (ps_ret (pe_ix ix_tup (pe_meth (pv 0) T.cl_Pacts T.m_Pacts_p_pair (ok_Pacts_p_pair T) (hr.mono (by decide)) T.B_Pacts_p_pair .nil pass0 (pa_cons (pv 1) (pa_cons (pv 2) pa_nil))) (pe_op op_sub pe_int (pv 2)) (fun _ _ => rfl)))), ?_⟩
    obtain ⟨dx, e0⟩ := pa.ob
    refine ⟨_, rfl, p, dx, _, rfl, e0, pfs_no1, _, rfl, _, rfl, p, pl, hl, as, ps, w, i, q, rfl, pa, hi, hq, fun h H1 s1 h1 => ?_⟩
    refine ⟨_, rfl, _, _, rfl, rfl, ?_⟩
    exact ⟨_, _, _, _, rfl, rfl, SqT.of h1, wd_at (by omega) q, kk H1 s1⟩
/-! ### words that a side has not -/
/-- a refusal that bears a word is being made -/
def sp_word (C : Addr) : Sp := fun vs H Q _ => ∃ (e : Addr) (w : Str), vs = [.ref e, .str w] ∧ H e = some (exo e C none) ∧ w.length ≤ 40000 ∧
  ∀ (d : Addr) (H' : Hp), H d = none → d ≠ e → H' e = some (exo e C (some d)) → H' d = some (exd d [("word", .str w)]) → Keeps [e] H H' → Q .non H'
theorem str_small {m k : Str} {n : Nat} (h : m.length ≤ 40000) (hk : k.length = n) (hn : n ≤ 1000) : (k ++ m).length ≤ sizeLine := by
  rw [strLen_append, hk, sizeLine_eq]
  omega
theorem ok_NoWord_init (T : Txt K mg a) : FnOk P w K mg base CX0 1 a.f_NoWord_init a.d_NoWord_init ["self", "word"] (sp_word a.c_NoWord) := by
  refine T.F_NoWord_init.ok sc_NoWord_init (fun vs H Q E h => ?_) (fun cdv A outer s H vs Q E hr h => ?_)
  · obtain ⟨e, w, rfl, _⟩ := h
    rfl
  · obtain ⟨e, w, rfl, he, hw, kk⟩ := h
    refine ⟨_, (pss_cons (ps_expr (pe_midInit T.md_PactError (by rfl) T.g_PactError (pa_cons (pv 0) (pa_cons (pe_joined (.cons pe_str (.cons (pe_fmt (pv 1)) .nil))) pa_nil))))
      (pss_one (ps_ost (pv 0) (pv 1) rfl))), ?_⟩
    refine ⟨_, rfl, _, rfl, by rw [sizeLine_eq]; decide +kernel, ?_⟩
    refine ⟨_, rfl, .inl ⟨w, rfl, by rw [sizeLine_eq]; omega, ?_⟩⟩
    refine ⟨_, rfl, str_small hw (by decide +kernel : _ = 27) (by decide), ?_⟩
    refine ⟨e, a.c_NoWord, _, rfl, by show 1 ≤ 1000; decide, T.x_NoWord, he, ?_⟩
    refine ⟨_, rfl, _, rfl, e, a.c_NoWord, rfl, T.x_NoWord, T.n_NoWord_word, .inl ⟨he, fun d hd nd => ?_⟩⟩
    refine kk d _ hd nd upd_same ?_ ?_
    · rw [upd_ne nd, upd_same]
    · exact ((Keeps.refl [e] H).upd (.inr hd)).upd (.inl (by simp))

def OutW (CN : Addr) (w : Str) (H : Hp) (E : XK) : Prop := ∀ (d : Addr) (H' : Hp), Same H H' → H d = none → H' d = some (.xd [("word", .str w)]) → E (.ref CN) (some d) H'
theorem mk_word {C : Addr} {H H1 : Hp} {w : Str} {E : XK} {σ : L2.St} (s1 : Same H H1) (hw : w.length ≤ 40000) (hσ : σ[1]? = some (some (.str w))) (kk : OutW C w H E) :
    tMkO C (sp_word C) [] (tCons (tVar 1) tNil) σ H1 (fun cls d H' => E cls d H') := by
  refine ⟨_, hσ, by show 1 ≤ 1000; decide, fun e he => ?_⟩
  refine ⟨e, w, rfl, upd_same, hw, fun d H2 hd nde h1 h2 kp => ⟨rfl, d, _, h1, h2, ?_, ?_⟩⟩
  · exact (upd_ne nde).symm.trans hd
  · have hd1 : H1 d = none := (upd_ne nde).symm.trans hd
    refine kk d _ (fun c o ec => ?_) (s1.free hd1) upd_same
    have e1 := s1 _ _ ec
    have n1 : c ≠ e := ne_of_none e1 he
    have n2 : c ≠ d := ne_of_none e1 hd1
    rw [upd_ne n2, del_ne n1]
    exact kp c o ((upd_ne n1).trans e1) (by simp [n1])
def sp_pairX (CN C : Addr) : Sp := fun vs H _ E => ∃ (p pl hl : Addr) (as : List Addr) (ps : List My.Pr) (w : Str) (i : Int), vs = [.ref p, .str w, .int i] ∧ PactsAt C H p pl hl as ps ∧ (i = 0 ∨ i = 1) ∧ pairOf i w ps = none ∧ w.length ≤ 40000 ∧ OutW CN w H E
theorem ok_Pacts_p_pairX (T : Txt K mg a) : FnOk P w K mg base (L2.CX P w) 3 a.f_Pacts_p_pair a.d_Pacts_p_pair ["self", "word", "side"] (sp_pairX a.c_NoWord a.c_Pacts) := by
  refine T.F_Pacts_p_pair.okX sc_Pacts_p_pair (fun vs H Q E h => ?_) (fun cdv A outer s H vs Q E hr h => ?_)
  · obtain ⟨p, pl, hl, as, ps, w, i, rfl, _⟩ := h
    rfl
  · obtain ⟨p, pl, hl, as, ps, w, i, rfl, pa, hi, hq, hw, kk⟩ := h
    refine ⟨_, (C8.pss_cut (ps_if (pt_val (pe_call (ok_is_side T) (hr.mono (by decide)) rfl T.g_is_side T.k_is_side T.B_is_side .nil pass0 (pa_cons (pv 2) pa_nil))) (pss_one (ps_for (passes_of rfl) rfl (pi_list (pe_fld (pv 0) rfl)) (pg_name (i := 3) sc_Pacts_p_pair.nd rfl (Or.inl rfl)) (pss_one (ps_if (pt_cmpR op_eq (pe_ix ix_tup (pv 3) (pv 2) (fun _ _ => rfl)) (pv 1) (nomark _)) (pss_one (ps_ret (pv 3))) pss_nil)))) pss_nil)
      (pss_one (ps_raise rfl (W := fun cls d _ H => E cls d H) (takes_of rfl rfl rfl rfl) (pmk_oex T.x_NoWord T.xi_NoWord T.xt_NoWord (ok_NoWord_init T) (hr.mono (by decide)) T.B_NoWord_init .nil pass0 (by rfl) T.g_NoWord (pa_cons (pv 1) pa_nil))))), ?_⟩
    refine ⟨fun σ H2 => Blk (∃ v3, σ = [some (.ref p), some (.str w), some (.int i), v3] ∧ Same H H2), ?_, ?_⟩
    · refine ⟨_, rfl, i, rfl, fun H1 s1 => ⟨_, rfl, ?_⟩⟩
      have pa1 := pa.same s1
      obtain ⟨dx, e0⟩ := pa1.ob
      rw [decide_eq_true hi]
      refine iteT ?_
      refine ⟨_, rfl, _, _, _, _, _, rfl, e0, T.cl_Pacts, T.n_Pacts__pairs, pfs_p, pl, rfl, ⟨_, SqL.of pa1.lp⟩, ?_⟩
      refine for_list (K := K) (a := pl) (xs := as.map V.ref) (fun k σ H2 => Blk (∃ v3, σ = [some (.ref p), some (.str w), some (.int i), v3] ∧ H2 = H1)) ?_ ?_ ?_ ?_
      · exact Blk.of ⟨_, rfl, rfl⟩
      · intro k σ H2 _ hB
        obtain ⟨v3, _, rfl⟩ := hB.out
        exact SqL.of pa1.lp
      · intro k y σ H2 hy hB
        obtain ⟨v3, rfl, rfl⟩ := hB.out
        obtain ⟨h, hh, rfl⟩ := refs_get hy
        obtain ⟨z, hz, hz2⟩ := pa1.ps.get hh
        refine ⟨_, rfl, _, rfl, _, _, _, _, rfl, rfl, SqT.of hz2, wd_at hi z, ?_⟩
        refine ⟨_, rfl, rfl, _, rfl, ?_⟩
        refine iteD (fun c => ?_) (fun c => ?_)
        · exfalso
          have := List.find?_eq_none.mp hq z (List.mem_of_getElem? hz)
          exact this (decide_eq_true (V.str.inj c))
        · exact Blk.of ⟨_, rfl, rfl⟩
      · intro σ H2 hB
        obtain ⟨v3, rfl, rfl⟩ := hB.out
        exact Blk.of ⟨_, rfl, s1⟩
    · rintro σ H2 hB
      obtain ⟨v3, rfl, s2⟩ := hB.out
      exact mk_word s2 hw rfl kk
def sp_askX (CN C : Addr) : Sp := fun vs H _ E => ∃ (p pl hl : Addr) (as : List Addr) (ps : List My.Pr) (w : Str) (i : Int), vs = [.ref p, .str w, .int i] ∧ PactsAt C H p pl hl as ps ∧ (i = 0 ∨ i = 1) ∧ pairOf i w ps = none ∧ w.length ≤ 40000 ∧ OutW CN w H E
theorem ok_Pacts_ladenX (T : Txt K mg a) : FnOk P w K mg base (L2.CX P w) 4 a.f_Pacts_laden a.d_Pacts_laden ["self", "word", "side"] (sp_askX a.c_NoWord a.c_Pacts) := by
  refine T.F_Pacts_laden.okX sc_Pacts_laden (fun vs H Q E h => ?_) (fun cdv A outer s H vs Q E hr h => ?_)
  · obtain ⟨p, pl, hl, as, ps, w, i, rfl, _⟩ := h
    rfl
  · obtain ⟨p, pl, hl, as, ps, w, i, rfl, pa, hi, hq, hw, kk⟩ := h
    refine ⟨_, (pss_one (ps_ret (pe_ix ix_tup (pe_meth (pv 0) T.cl_Pacts T.m_Pacts_p_pair (ok_Pacts_p_pairX T) (hr.mono (by decide)) T.B_Pacts_p_pair .nil (passes_call (W := fun cls d _ H => E cls d H) (takes_of rfl rfl rfl rfl) (fun _ _ _ _ z => z)) (pa_cons (pv 1) (pa_cons (pv 2) pa_nil))) pe_int (fun _ _ => rfl)))), ?_⟩
    obtain ⟨dx, e0⟩ := pa.ob
    exact ⟨_, rfl, p, dx, _, rfl, e0, pfs_no1, _, rfl, _, rfl, p, pl, hl, as, ps, w, i, rfl, pa, hi, hq, hw, kk⟩

open My (Hr wd)
def errs (i : Int) (ps : List My.Pr) (x : Hr) : List Str := if x.side = i then x.throws else x.throws.map fun t => ((pairOf x.side t ps).map (wd (1 - x.side))).getD t
theorem errs_own {i : Int} {ps : List My.Pr} {x : Hr} (h : x.side = i) : errs i ps x = x.throws := if_pos h
theorem errs_other {i : Int} {ps : List My.Pr} {x : Hr} (h : ¬ x.side = i) : errs i ps x = x.throws.map fun t => ((pairOf x.side t ps).map (wd (1 - x.side))).getD t := if_neg h
theorem pairOf_mem {i : Int} {t : Str} {ps : List My.Pr} (h : t ∈ ps.map (My.wd i)) : ∃ q, pairOf i t ps = some q := by
  cases e : pairOf i t ps with
  | some q => exact ⟨q, rfl⟩
  | none =>
    obtain ⟨q, hq, e2⟩ := List.mem_map.mp h
    have := List.find?_eq_none.mp e q hq
    exact absurd (decide_eq_true e2) this
theorem pfs_no3 {pl hl : Addr} : (pfs pl hl).lookup ("over" : Str) = none := by kernel_rfl
def sp_Perrors (C : Addr) : Sp := fun vs H Q _ => ∃ (p pl hl : Addr) (as has : List Addr) (ps : List My.Pr) (hs : List Hr) (w : Str) (i : Int) (x : Hr), vs = [.ref p, .str w, .int i] ∧ PactsAt C H p pl hl as ps ∧ CrewAt H hl has hs ∧ crewOf w hs = some x ∧
  (x.side = 0 ∨ x.side = 1) ∧ (∀ t, t ∈ x.throws → t ∈ ps.map (My.wd x.side)) ∧ x.throws.length ≤ 10000 ∧
  ∀ (r : Addr) (H' : Hp), H r = none → H' r = some (.lst ((errs i ps x).map V.str)) → Same H H' → Q (.ref r) H'
theorem ok_Pacts_errors (T : Txt K mg a) : FnOk P w K mg base CX0 5 a.f_Pacts_errors a.d_Pacts_errors ["self", "name", "side"] (sp_Perrors a.c_Pacts) := by
  refine T.F_Pacts_errors.ok sc_Pacts_errors (fun vs H Q E h => ?_) (fun cdv A outer s H vs Q E hr h => ?_)
  · obtain ⟨p, pl, hl, as, has, ps, hs, w, i, x, rfl, _⟩ := h
    rfl
  · obtain ⟨p, pl, hl, as, has, ps, hs, w, i, x, rfl, pa, cr, hx, hsd, hth, hz, kk⟩ := h
    refine ⟨_, (pss_cons (ps_asg (pe_meth (pv 0) T.cl_Pacts T.m_Pacts_pact (ok_Pacts_pact T) (hr.mono (by decide)) T.B_Pacts_pact .nil pass0 (pa_cons (pv 1) pa_nil)) (pg_tup (by rfl) (pgs_cons (pg_name (i := 3) sc_Pacts_errors.nd rfl (Or.inl rfl)) (pgs_cons (pg_name (i := 4) sc_Pacts_errors.nd rfl (Or.inr rfl)) (pgs_cons (pg_name (i := 3) sc_Pacts_errors.nd rfl (Or.inl rfl)) (pgs_cons (pg_name (i := 3) sc_Pacts_errors.nd rfl (Or.inl rfl)) (pgs_cons (pg_name (i := 5) sc_Pacts_errors.nd rfl (Or.inl rfl)) pgs_nil)))))))
      (pss_cons (ps_if (pt_cmpR op_eq (pv 4) (pv 2) (nomark _)) (pss_one (ps_ret (pe_callTy call_list_of (by rfl) T.z_list (by decide +kernel) (pa_cons (pv 5) pa_nil)))) pss_nil)
      (pss_one (ps_ret (pe_lc (own := [("word", 6)]) (g := gName 6) (tt := tYes) rfl sc_Pacts_errors.nd (pi_tup (pv 5)) (blkOk_by (own := [("word", 6)]) (N := ["self", "name", "side", "_", "own", "throws", "word"]) (sc := defScope s_Pacts_errors) (by decide +kernel)) (fun _ _ _ _ _ => pg_name (i := 6) sc_Pacts_errors.nd rfl (Or.inl rfl)) (fun _ _ _ _ _ => pts_nil) (fun _ _ _ _ _ => by exact (pe_methN (ks := ["side"]) (pv 0) T.cl_Pacts T.m_Pacts_over (ok_Pacts_over T) (hr.mono (by decide)) T.KN_Pacts_over_2 (pass0) (pa_cons (pv 6) pa_nil) (pk_cons (pv 4) pk_nil)))))))), ?_⟩
    obtain ⟨dx, e0⟩ := pa.ob
    refine ⟨_, rfl, p, dx, _, rfl, e0, pfs_no4, _, rfl, p, pl, hl, as, has, ps, hs, w, x, rfl, pa, cr, hx, fun h ⟨tk, th, e, etk, ob, hob, eth⟩ => ?_⟩
    have eqT : ∀ {H' : Hp}, H' th = some (.frz ob (.tup (x.throws.map V.str))) → SqT K H' th (x.throws.map V.str) := fun e => .inl (.inr ⟨ob, e⟩)
    refine ⟨h, _, rfl, SqT.of e, rfl, ?_⟩
    refine ⟨_, _, rfl, _, _, rfl, _, _, rfl, _, _, rfl, _, _, rfl, rfl, ?_⟩
    refine ⟨_, rfl, _, rfl, rfl, _, rfl, ?_⟩
    rw [dec_int_eq]
    refine iteD (fun c => ?_) (fun c => ?_)
    · refine ⟨_, rfl, th, _, rfl, .inr (eqT eth), fun r hr => kk r _ hr ?_ ((Same.refl H).upd hr)⟩
      rw [upd_same, errs_own c]
    · refine ⟨_, rfl, th, rfl, ⟨_, eqT eth⟩, fun D hD => ?_⟩
      refine lc_tup (K := K) (a := th) (xs := x.throws.map V.str) (fun k H1 => Blk (Same H H1 ∧ H1 D = some (.lst (((x.throws.take k).map fun t => ((pairOf x.side t ps).map (wd (1 - x.side))).getD t).map V.str)))) (Blk.of ⟨(Same.refl H).upd hD, upd_same⟩) (fun k H1 _ hB => ?_) ?_ ?_
      · exact eqT (hB.out.1 _ _ eth)
      · intro k y H1 hi hB
        obtain ⟨s1, h1⟩ := hB.out
        obtain ⟨t, ht, rfl⟩ := strs_get hi
        obtain ⟨q, hq⟩ := pairOf_mem (hth t (List.mem_of_getElem? ht))
        have hil := get_lt ht
        refine ⟨rfl, ?_⟩
        dsimp only [tYes]
        refine iteT ?_
        have pa1 := pa.same s1
        obtain ⟨dx1, e1⟩ := pa1.ob
        refine ⟨_, rfl, p, dx1, _, rfl, e1, pfs_no3, _, rfl, _, rfl, rfl, p, pl, hl, as, ps, t, x.side, q, rfl, pa1, hsd, hq, fun H2 s2 => ?_⟩
        refine ⟨_, s2 _ _ h1, by rw [List.length_map, List.length_map, List.length_take]; exact small (by omega), Blk.of ⟨?_, ?_⟩⟩
        · exact (s1.trans s2).upd hD
        · rw [upd_same, take_snoc ht, List.map_append, List.map_append]
          show _ = some (HO.lst (_ ++ [V.str (((pairOf x.side t ps).map (wd (1 - x.side))).getD t)]))
          rw [hq]
          rfl
      · intro H1 hB
        obtain ⟨s1, h1⟩ := hB.out
        rw [List.length_map, List.take_length] at h1
        refine kk D H1 hD ?_ s1
        rw [h1, errs_other c]


open My (Hr)
/-! ### a name that is no helper's -/
def sp_who (C : Addr) : Sp := fun vs H Q _ => ∃ (e : Addr) (w : Str), vs = [.ref e, .str w] ∧ H e = some (exo e C none) ∧ w.length ≤ 40000 ∧
  ∀ (d : Addr) (H' : Hp), H d = none → d ≠ e → H' e = some (exo e C (some d)) → H' d = some (exd d [("name", .str w)]) → Keeps [e] H H' → Q .non H'
theorem ok_NoHelper_init (T : Txt K mg a) : FnOk P w K mg base CX0 1 a.f_NoHelper_init a.d_NoHelper_init ["self", "name"] (sp_who a.c_NoHelper) := by
  refine T.F_NoHelper_init.ok sc_NoHelper_init (fun vs H Q E h => ?_) (fun cdv A outer s H vs Q E hr h => ?_)
  · obtain ⟨e, w, rfl, _⟩ := h
    rfl
  · obtain ⟨e, w, rfl, he, hw, kk⟩ := h
    refine ⟨_, (pss_cons (ps_expr (pe_midInit T.md_PactError (by rfl) T.g_PactError (pa_cons (pv 0) (pa_cons (pe_joined (.cons pe_str (.cons (pe_fmt (pv 1)) .nil))) pa_nil))))
      (pss_one (ps_ost (pv 0) (pv 1) rfl))), ?_⟩
    refine ⟨_, rfl, _, rfl, by rw [sizeLine_eq]; decide +kernel, ?_⟩
    refine ⟨_, rfl, .inl ⟨w, rfl, by rw [sizeLine_eq]; omega, ?_⟩⟩
    refine ⟨_, rfl, str_small hw (by decide +kernel : _ = 16) (by decide), ?_⟩
    refine ⟨e, a.c_NoHelper, _, rfl, by show 1 ≤ 1000; decide, T.x_NoHelper, he, ?_⟩
    refine ⟨_, rfl, _, rfl, e, a.c_NoHelper, rfl, T.x_NoHelper, T.n_NoHelper_name, .inl ⟨he, fun d hd nd => ?_⟩⟩
    refine kk d _ hd nd upd_same ?_ ?_
    · rw [upd_ne nd, upd_same]
    · exact ((Keeps.refl [e] H).upd (.inr hd)).upd (.inl (by simp))
def OutN (CN : Addr) (w : Str) (H : Hp) (E : XK) : Prop := ∀ (d : Addr) (H' : Hp), Same H H' → H d = none → H' d = some (.xd [("name", .str w)]) → E (.ref CN) (some d) H'
theorem mk_who {C : Addr} {H H1 : Hp} {w : Str} {E : XK} {σ : L2.St} (s1 : Same H H1) (hw : w.length ≤ 40000) (hσ : σ[1]? = some (some (.str w))) (kk : OutN C w H E) :
    tMkO C (sp_who C) [] (tCons (tVar 1) tNil) σ H1 (fun cls d H' => E cls d H') := by
  refine ⟨_, hσ, by show 1 ≤ 1000; decide, fun e he => ?_⟩
  refine ⟨e, w, rfl, upd_same, hw, fun d H2 hd nde h1 h2 kp => ⟨rfl, d, _, h1, h2, ?_, ?_⟩⟩
  · exact (upd_ne nde).symm.trans hd
  · have hd1 : H1 d = none := (upd_ne nde).symm.trans hd
    refine kk d _ (fun c o ec => ?_) (s1.free hd1) upd_same
    have e1 := s1 _ _ ec
    have n1 : c ≠ e := ne_of_none e1 he
    have n2 : c ≠ d := ne_of_none e1 hd1
    rw [upd_ne n2, del_ne n1]
    exact kp c o ((upd_ne n1).trans e1) (by simp [n1])
def sp_pactX (CN C : Addr) : Sp := fun vs H _ E => ∃ (p pl hl : Addr) (as has : List Addr) (ps : List My.Pr) (hs : List Hr) (w : Str), vs = [.ref p, .str w] ∧ PactsAt C H p pl hl as ps ∧ CrewAt H hl has hs ∧ crewOf w hs = none ∧ w.length ≤ 40000 ∧ OutN CN w H E
theorem ok_Pacts_pactX (T : Txt K mg a) : FnOk P w K mg base (L2.CX P w) 3 a.f_Pacts_pact a.d_Pacts_pact ["self", "name"] (sp_pactX a.c_NoHelper a.c_Pacts) := by
  refine T.F_Pacts_pact.okX sc_Pacts_pact (fun vs H Q E h => ?_) (fun cdv A outer s H vs Q E hr h => ?_)
  · obtain ⟨p, pl, hl, as, has, ps, hs, w, rfl, _⟩ := h
    rfl
  · obtain ⟨p, pl, hl, as, has, ps, hs, w, rfl, pa, cr, hq, hw, kk⟩ := h
    refine ⟨_, (pss_cons (ps_for (passes_of rfl) rfl (pi_list (pe_fld (pv 0) rfl)) (pg_name (i := 2) sc_Pacts_pact.nd rfl (Or.inl rfl)) (pss_one (ps_if (pt_cmpR op_eq (pe_ix ix_tup (pv 2) pe_int (fun _ _ => rfl)) (pv 1) (nomark _)) (pss_one (ps_ret (pv 2))) pss_nil)))
      (pss_one (ps_raise rfl (W := fun cls d _ H => E cls d H) (takes_of rfl rfl rfl rfl) (pmk_oex T.x_NoHelper T.xi_NoHelper T.xt_NoHelper (ok_NoHelper_init T) (hr.mono (by decide)) T.B_NoHelper_init .nil pass0 (by rfl) T.g_NoHelper (pa_cons (pv 1) pa_nil))))), ?_⟩
    obtain ⟨dx, e0⟩ := pa.ob
    refine ⟨_, rfl, _, _, _, _, _, rfl, e0, T.cl_Pacts, T.n_Pacts__helpers, pfs_h, hl, rfl, ⟨_, SqL.of cr.lh⟩, ?_⟩
    refine for_list (K := K) (a := hl) (xs := has.map V.ref) (fun k σ H2 => Blk (∃ v2, σ = [some (.ref p), some (.str w), v2] ∧ H2 = H)) ?_ ?_ ?_ ?_
    · exact Blk.of ⟨_, rfl, rfl⟩
    · intro k σ H2 _ hB
      obtain ⟨v2, _, rfl⟩ := hB.out
      exact SqL.of cr.lh
    · intro k y σ H2 hy hB
      obtain ⟨v2, rfl, rfl⟩ := hB.out
      obtain ⟨h, hh, rfl⟩ := refs_get hy
      obtain ⟨z, hz, tk2, th2, ez, _⟩ := AllAt.get cr.hs hh
      refine ⟨_, rfl, _, _, _, _, rfl, rfl, SqT.of ez, rfl, ?_⟩
      refine ⟨_, rfl, rfl, _, rfl, ?_⟩
      refine iteD (fun c => ?_) (fun c => ?_)
      · exfalso
        have := List.find?_eq_none.mp hq z (List.mem_of_getElem? hz)
        exact this (decide_eq_true (V.str.inj c))
      · exact Blk.of ⟨_, rfl, rfl⟩
    · intro σ H2 hB
      obtain ⟨v2, rfl, rfl⟩ := hB.out
      exact mk_who (Same.refl H2) hw rfl kk

/-! ### places -/
theorem iteNI {a b : Int} {A B : Prop} (h1 : a ≠ b → A) (h2 : a = b → B) : if (!decide (V.int a = V.int b)) = true then A else B := by
  by_cases h : a = b
  · rw [decide_eq_true (congrArg V.int h), if_neg (by decide)]
    exact h2 h
  · rw [decide_eq_false fun q => h (by injection q), if_pos (by decide)]
    exact h1 h
theorem iteII {a b : Int} {A B : Prop} (h1 : a = b → A) (h2 : a ≠ b → B) : if decide (V.int a = V.int b) = true then A else B := iteD (fun h => h1 (by injection h)) fun h => h2 fun q => h (congrArg V.int q)
theorem iteSS {a b : Str} {A B : Prop} (h1 : a = b → A) (h2 : a ≠ b → B) : if decide (V.str a = V.str b) = true then A else B := iteD (fun h => h1 (by injection h)) fun h => h2 fun q => h (congrArg V.str q)
theorem iteNSS {a b : Str} {A B : Prop} (h1 : a ≠ b → A) (h2 : a = b → B) : if (!decide (V.str a = V.str b)) = true then A else B := by
  by_cases h : a = b
  · rw [decide_eq_true (congrArg V.str h), if_neg (by decide)]
    exact h2 h
  · rw [decide_eq_false fun q => h (by injection q), if_pos (by decide)]
    exact h1 h
def plcs : List Str := ["a", "b", "c", "d", "e", "shelf"]
def placeV (w : Str) : V := match plcs.findIdx? (fun z => decide (z = w)) with
  | some i => .int (i : Nat)
  | none => .non
def pocketV (w : Str) : V := if placeV w = .int 5 then .non else placeV w
theorem place_no {w : Str} (h : w ∉ plcs) : placeV w = .non := by
  unfold placeV
  have e : plcs.findIdx? (fun z => decide (z = w)) = none := List.findIdx?_eq_none_iff.mpr fun z hz => decide_eq_false fun q => h (q ▸ hz)
  rw [e]
theorem place_at {w : Str} (h : w ∈ plcs) : ∃ j, plcs[j]? = some w ∧ (∀ m, m < j → plcs[m]? ≠ some w) ∧ placeV w = .int (j : Nat) := by
  cases e : plcs.findIdx? (fun z => decide (z = w)) with
  | none =>
    exact absurd (List.findIdx?_eq_none_iff.mp e w h) (by simp)
  | some j =>
    obtain ⟨hj, h1, h2⟩ := List.findIdx?_eq_some_iff_getElem.mp e
    refine ⟨j, ?_, fun m hm q => ?_, ?_⟩
    · rw [List.getElem?_eq_getElem hj]
      exact congrArg some (of_decide_eq_true h1)
    · have := h2 m hm
      obtain ⟨hl, q2⟩ := List.getElem?_eq_some_iff.mp q
      simp [q2] at this
    · unfold placeV
      rw [e]
def sp_place : Sp := fun vs H Q _ => ∃ w : Str, vs = [.str w] ∧ Q (placeV w) H
theorem ok_place_of (T : Txt K mg a) : FnOk P w K mg base CX0 1 a.f_place_of a.d_place_of ["word"] sp_place := by
  refine T.F_place_of.ok sc_place_of (fun vs H Q E h => ?_) (fun cdv A outer s H vs Q E hr h => ?_)
  · obtain ⟨w, rfl, _⟩ := h
    rfl
  · obtain ⟨w, rfl, kk⟩ := h
    refine ⟨_, (pss_one (ps_ret (pe_ifExp (pt_cmpR op_in_seq (pv 0) (pe_glob (v := .ref a.t_PLACES) rfl T.v_PLACES rfl) (by rfl)) (pe_bm PySem.F.plainAttrs_tuple PySem.F.slot_tuple_index PySem.F.type_tuple_index mt_tup_index (pe_glob (v := .ref a.t_PLACES) rfl T.v_PLACES rfl) (pa_cons (pv 0) pa_nil)) pe_non))), ?_⟩
    have tP : ∀ H, SqT K H a.t_PLACES (plcs.map V.str) := T.q_PLACES
    refine ⟨_, rfl, _, _, rfl, .inr (tP H), rfl, flat_str _, ?_⟩
    refine ⟨_, rfl, ?_⟩
    rw [if_neg Bool.false_ne_true, inV_str]
    refine iteD (fun h => ?_) (fun h => ?_)
    · obtain ⟨j, h1, h2, h3⟩ := place_at h
      refine ⟨.inr (.inl ⟨rfl, T.kt_PLACES⟩), _, rfl, a.t_PLACES, plcs, w, j, rfl, rfl, tP H, h1, h2, ?_⟩
      rw [← h3]
      exact kk
    · rw [place_no h] at kk
      exact kk
def sp_pocket : Sp := fun vs H Q _ => ∃ w : Str, vs = [.str w] ∧ Q (pocketV w) H
theorem place_shape (w : Str) : placeV w = .non ∨ ∃ j : Nat, placeV w = .int j ∧ j < 6 := by
  by_cases h : w ∈ plcs
  · obtain ⟨j, h1, _, h3⟩ := place_at h
    exact .inr ⟨j, h3, get_lt h1⟩
  · exact .inl (place_no h)
theorem ok_pocket_of (T : Txt K mg a) : FnOk P w K mg base CX0 2 a.f_pocket_of a.d_pocket_of ["word"] sp_pocket := by
  refine T.F_pocket_of.ok sc_pocket_of (fun vs H Q E h => ?_) (fun cdv A outer s H vs Q E hr h => ?_)
  · obtain ⟨w, rfl, _⟩ := h
    rfl
  · obtain ⟨w, rfl, kk⟩ := h
    refine ⟨_, (pss_cons (ps_set (i := 1) sc_pocket_of.nd rfl (Or.inl rfl) (pe_call (ok_place_of T) (hr.mono (by decide)) rfl T.g_place_of T.k_place_of T.B_place_of .nil pass0 (pa_cons (pv 0) pa_nil)))
      (pss_one (ps_ret (pe_ifExp (pt_cmpR op_eq (pv 1) (pe_glob (v := .int 5) rfl T.v_SHELF ⟨_, rfl⟩) (nomark _)) pe_non (pv 1))))), ?_⟩
    refine ⟨_, rfl, _, rfl, ?_⟩
    unfold pocketV at kk
    rcases place_shape w with e | ⟨j, e, _⟩
    · rw [e] at kk ⊢
      refine ⟨_, rfl, rfl, _, rfl, ?_⟩
      refine iteD (fun h => nomatch h) (fun h => ⟨_, rfl, ?_⟩)
      rw [if_neg h] at kk
      exact kk
    · rw [e] at kk ⊢
      refine ⟨_, rfl, rfl, _, rfl, ?_⟩
      refine iteD (fun h => ?_) (fun h => ?_)
      · rw [if_pos h] at kk
        exact kk
      · rw [if_neg h] at kk
        exact ⟨_, rfl, kk⟩

open My (Hr)
/-! ### rows, with the steps that they come to -/
inductive Stp where
  | act (hd : Str) (vs : List V)
  | call (name : Str) (ho : List (V × Bool)) (to : V) (cs : List (Str × V × Nat))
def Stp.ends : Stp → Bool
  | .act hd _ => decide (hd = "end")
  | .call _ _ _ _ => false
def hoO (q : V × Bool) : HO := .tup [q.1, .bl q.2]
def caO (q : Str × V × Nat) : HO := .tup [.str q.1, q.2.1, .int (q.2.2 : Nat)]
def StpAt (H : Hp) (t : Addr) : Stp → Prop
  | .act hd vs => H t = some (.tup (.str hd :: vs))
  | .call n ho to cs => ∃ (h c : Addr) (has cas : List Addr), H t = some (.tup [.str "call", .str n, .ref h, to, .ref c]) ∧ TupF H h (has.map V.ref) ∧ TupF H c (cas.map V.ref) ∧ Objs H has hoO ho ∧ Objs H cas caO cs
theorem StpAt.same {H H' : Hp} {t : Addr} {st : Stp} (h : StpAt H t st) (s : Same H H') : StpAt H' t st := by
  cases st with
  | act hd vs => exact s _ _ h
  | call n ho to cs =>
    obtain ⟨a1, a2, a3, a4, e1, e2, e3, e4, e5⟩ := h
    exact ⟨a1, a2, a3, a4, s _ _ e1, e2.same s, e3.same s, e4.same s, e5.same s⟩
def StepOut (o : Option Stp) (H : Hp) (Q : VK) : Prop := (o = none → ∀ H', Same H H' → Q .non H') ∧
  ∀ st, o = some st → ∀ (t : Addr) (H' : Hp), Same H H' → StpAt H' t st → Q (.ref t) H'
theorem StepOut.from {o : Option Stp} {H H1 : Hp} {Q : VK} (h : StepOut o H Q) (s : Same H H1) : StepOut o H1 Q := ⟨fun e H' s' => h.1 e H' (s.trans s'), fun b e t H' s' => h.2 b e t H' (s.trans s')⟩
def pocketRowF (w : Str) (r : List Str) : Option Stp := match r with
  | [z] => if pocketV z = .non then none else some (if w = "put" then .act "move" [pocketV z, .int 5] else if w = "take" then .act "move" [.int 5, pocketV z] else .act w [pocketV z])
  | _ => none
theorem pocketF_no {w z : Str} (h : pocketV z = .non) : pocketRowF w [z] = none := if_pos h
theorem pocketF_yes {w z : Str} (h : ¬ pocketV z = .non) : pocketRowF w [z] = some (if w = "put" then .act "move" [pocketV z, .int 5] else if w = "take" then .act "move" [.int 5, pocketV z] else .act w [pocketV z]) := if_neg h
abbrev rfs (p h : Addr) (m : Int) : List (Str × V) := [("_pacts", .ref p), ("_pact", .ref h), ("_many", .int m)]
def sp_pocket_row : Sp := fun vs H Q _ => ∃ (r W : Addr) (w0 : Str) (ws : List Str), vs = [.ref r, .ref W] ∧ H W = some (.lst ((w0 :: ws).map V.str)) ∧ ws.length ≤ 10000 ∧ StepOut (pocketRowF w0 ws) H Q
theorem ok_RowReader_p_pocket_row (T : Txt K mg a) : FnOk P w K mg base CX0 3 a.f_RowReader_p_pocket_row a.d_RowReader_p_pocket_row ["self", "words"] sp_pocket_row := by
  refine T.F_RowReader_p_pocket_row.ok sc_RowReader_p_pocket_row (fun vs H Q E h => ?_) (fun cdv A outer s H vs Q E hr h => ?_)
  · obtain ⟨r, W, w0, ws, rfl, _⟩ := h
    rfl
  · obtain ⟨r, W, w0, ws, rfl, hW, hl, o1, o2⟩ := h
    refine ⟨_, (pss_cons (ps_if (PW.pt (pw_or (pt_cmpR op_ne (pe_callB call_len_seq (by rfl) T.z_len (by decide +kernel) (pa_cons (pv 1) pa_nil)) pe_int (nomark _)) (pw_or1 (pt_cmpR op_isN (pe_call (ok_pocket_of T) (hr.mono (by decide)) rfl T.g_pocket_of T.k_pocket_of T.B_pocket_of .nil pass0 (pa_cons (pe_ix ix_list (pv 1) pe_int (fun _ _ => rfl)) pa_nil)) pe_non (nomark _))))) (pss_one (ps_ret pe_non)) pss_nil)
      (pss_cons (ps_set (i := 2) sc_RowReader_p_pocket_row.nd rfl (Or.inl rfl) (pe_call (ok_pocket_of T) (hr.mono (by decide)) rfl T.g_pocket_of T.k_pocket_of T.B_pocket_of .nil pass0 (pa_cons (pe_ix ix_list (pv 1) pe_int (fun _ _ => rfl)) pa_nil)))
      (pss_cons (ps_if (pt_cmpR op_eq (pe_ix ix_list (pv 1) pe_int (fun _ _ => rfl)) pe_str (nomark _)) (pss_one (ps_ret (pe_tup (pa_cons pe_str (pa_cons (pv 2) (pa_cons (pe_glob (v := .int 5) rfl T.v_SHELF ⟨_, rfl⟩) pa_nil)))))) pss_nil)
      (pss_cons (ps_if (pt_cmpR op_eq (pe_ix ix_list (pv 1) pe_int (fun _ _ => rfl)) pe_str (nomark _)) (pss_one (ps_ret (pe_tup (pa_cons pe_str (pa_cons (pe_glob (v := .int 5) rfl T.v_SHELF ⟨_, rfl⟩) (pa_cons (pv 2) pa_nil)))))) pss_nil)
      (pss_one (ps_ret (pe_tup (pa_cons (pe_ix ix_list (pv 1) pe_int (fun _ _ => rfl)) (pa_cons (pv 2) pa_nil))))))))), ?_⟩
    have two : ws.length = 1 → ∃ z, ws = [z] := fun e => by
      match ws, e with
      | [z], _ => exact ⟨z, rfl⟩
    refine ⟨_, rfl, _, _, rfl, .inl (SqL.of hW), ?_⟩
    refine ⟨rfl, _, rfl, ?_⟩
    refine iteNI (fun n => ?_) (fun e => ?_)
    · refine o1 ?_ H (Same.refl H)
      match ws with
      | [] => rfl
      | [z] => exact absurd rfl n
      | _ :: _ :: _ => rfl
    obtain ⟨z, rfl⟩ := two (by simp at e; omega)
    refine ⟨_, rfl, _, _, _, _, rfl, rfl, SqL.of hW, at_of (j := 1) rfl rfl, z, rfl, ?_⟩
    refine ⟨rfl, _, rfl, ?_⟩
    refine iteD (fun n => ?_) (fun n => ?_)
    · exact o1 (pocketF_no n) H (Same.refl H)
    have good := pocketF_yes (w := w0) n
    have fin : ∀ (t : Addr) (hd : Str) (vs : List V), H t = none → (if w0 = "put" then Stp.act "move" [pocketV z, .int 5] else if w0 = "take" then .act "move" [.int 5, pocketV z] else .act w0 [pocketV z]) = .act hd vs → Q (.ref t) (upd H t (.tup (.str hd :: vs))) := fun t hd vs ht e => o2 _ (good.trans (congrArg some e)) t _ ((Same.refl H).upd ht) upd_same
    refine ⟨_, rfl, _, _, _, _, rfl, rfl, SqL.of hW, at_of (j := 1) rfl rfl, z, rfl, ?_⟩
    refine ⟨_, rfl, _, _, _, _, rfl, rfl, SqL.of hW, at_of (j := 0) rfl rfl, ?_⟩
    refine ⟨rfl, _, rfl, ?_⟩
    refine iteSS (fun e => ?_) (fun n1 => ?_)
    · exact ⟨_, rfl, by show 3 ≤ sizeLine; decide, fun t ht => fin t "move" _ ht (if_pos e)⟩
    refine ⟨_, rfl, _, _, _, _, rfl, rfl, SqL.of hW, at_of (j := 0) rfl rfl, ?_⟩
    refine ⟨rfl, _, rfl, ?_⟩
    refine iteSS (fun e => ?_) (fun n2 => ?_)
    · exact ⟨_, rfl, by show 3 ≤ sizeLine; decide, fun t ht => fin t "move" _ ht ((if_neg n1).trans (if_pos e))⟩
    refine ⟨_, rfl, _, _, _, _, rfl, rfl, SqL.of hW, at_of (j := 0) rfl rfl, ?_⟩
    exact ⟨_, rfl, by show 2 ≤ sizeLine; decide, fun t ht => fin t w0 _ ht ((if_neg n1).trans (if_neg n2))⟩
def useF (r : List Str) : Option Stp := match r with
  | [z] => if placeV z = .non then none else some (.act "use" [placeV z])
  | _ => none
theorem useF_no {z : Str} (h : placeV z = .non) : useF [z] = none := if_pos h
theorem useF_yes {z : Str} (h : ¬ placeV z = .non) : useF [z] = some (.act "use" [placeV z]) := if_neg h
def sp_use : Sp := fun vs H Q _ => ∃ (r W : Addr) (w0 : Str) (ws : List Str), vs = [.ref r, .ref W] ∧ H W = some (.lst ((w0 :: ws).map V.str)) ∧ ws.length ≤ 10000 ∧ StepOut (useF ws) H Q
theorem ok_RowReader_p_use (T : Txt K mg a) : FnOk P w K mg base CX0 3 a.f_RowReader_p_use a.d_RowReader_p_use ["self", "words"] sp_use := by
  refine T.F_RowReader_p_use.ok sc_RowReader_p_use (fun vs H Q E h => ?_) (fun cdv A outer s H vs Q E hr h => ?_)
  · obtain ⟨r, W, w0, ws, rfl, _⟩ := h
    rfl
  · obtain ⟨r, W, w0, ws, rfl, hW, hl, o1, o2⟩ := h
    refine ⟨_, (pss_cons (ps_if (PW.pt (pw_or (pt_cmpR op_ne (pe_callB call_len_seq (by rfl) T.z_len (by decide +kernel) (pa_cons (pv 1) pa_nil)) pe_int (nomark _)) (pw_or1 (pt_cmpR op_isN (pe_call (ok_place_of T) (hr.mono (by decide)) rfl T.g_place_of T.k_place_of T.B_place_of .nil pass0 (pa_cons (pe_ix ix_list (pv 1) pe_int (fun _ _ => rfl)) pa_nil)) pe_non (nomark _))))) (pss_one (ps_ret pe_non)) pss_nil)
      (pss_one (ps_ret (pe_tup (pa_cons pe_str (pa_cons (pe_call (ok_place_of T) (hr.mono (by decide)) rfl T.g_place_of T.k_place_of T.B_place_of .nil pass0 (pa_cons (pe_ix ix_list (pv 1) pe_int (fun _ _ => rfl)) pa_nil)) pa_nil)))))), ?_⟩
    have two : ws.length = 1 → ∃ z, ws = [z] := fun e => by
      match ws, e with
      | [z], _ => exact ⟨z, rfl⟩
    refine ⟨_, rfl, _, _, rfl, .inl (SqL.of hW), ?_⟩
    refine ⟨rfl, _, rfl, ?_⟩
    refine iteNI (fun n => ?_) (fun e => ?_)
    · refine o1 ?_ H (Same.refl H)
      match ws with
      | [] => rfl
      | [z] => exact absurd rfl n
      | _ :: _ :: _ => rfl
    obtain ⟨z, rfl⟩ := two (by simp at e; omega)
    refine ⟨_, rfl, _, _, _, _, rfl, rfl, SqL.of hW, at_of (j := 1) rfl rfl, z, rfl, ?_⟩
    refine ⟨rfl, _, rfl, ?_⟩
    refine iteD (fun n => ?_) (fun n => ?_)
    · exact o1 (useF_no n) H (Same.refl H)
    refine ⟨_, rfl, _, _, _, _, rfl, rfl, SqL.of hW, at_of (j := 1) rfl rfl, z, rfl, ?_⟩
    refine ⟨by show 2 ≤ sizeLine; decide, fun t ht => ?_⟩
    exact o2 _ (useF_yes n) t _ ((Same.refl H).upd ht) upd_same
def moveF (r : List Str) : Option Stp := match r with
  | [y, z] => if pocketV y = .non ∨ pocketV z = .non ∨ pocketV y = pocketV z then none else some (.act "move" [pocketV y, pocketV z])
  | _ => none
theorem pocket_shape (w : Str) : pocketV w = .non ∨ ∃ j : Nat, pocketV w = .int j := by
  unfold pocketV
  rcases place_shape w with e | ⟨j, e, _⟩
  · rw [e]; exact .inl (ite_self V.non)
  · rw [e]
    by_cases h : V.int (j : Int) = V.int 5
    · rw [if_pos h]; exact .inl rfl
    · rw [if_neg h]; exact .inr ⟨j, rfl⟩
theorem pocket_non (w : Str) : eqV (pocketV w) .non = decide (V.non = pocketV w) := by
  rcases pocket_shape w with e | ⟨j, e⟩
  · rw [e]; rfl
  · rw [e, decide_eq_false (fun q => nomatch q)]; rfl
theorem pocket_flat (w : Str) : flatV (pocketV w) = true := by
  unfold pocketV
  rcases place_shape w with e | ⟨j, e, _⟩
  · rw [e]; split <;> rfl
  · rw [e]; split <;> rfl
theorem pockets_flat (ws : List Str) : (ws.map pocketV).all flatV = true := by
  rw [List.all_map]
  exact List.all_eq_true.mpr fun w _ => pocket_flat w
def sp_move : Sp := fun vs H Q _ => ∃ (r W : Addr) (w0 : Str) (ws : List Str), vs = [.ref r, .ref W] ∧ H W = some (.lst ((w0 :: ws).map V.str)) ∧ ws.length ≤ 10000 ∧ StepOut (moveF ws) H Q
theorem ok_RowReader_p_move (T : Txt K mg a) : FnOk P w K mg base CX0 3 a.f_RowReader_p_move a.d_RowReader_p_move ["self", "words"] sp_move := by
  refine T.F_RowReader_p_move.ok sc_RowReader_p_move (fun vs H Q E h => ?_) (fun cdv A outer s H vs Q E hr h => ?_)
  · obtain ⟨r, W, w0, ws, rfl, _⟩ := h
    rfl
  · obtain ⟨r, W, w0, ws, rfl, hW, hl, o1, o2⟩ := h
    refine ⟨_, (pss_cons (ps_setLc (i := 2) (own := [("word", 3)]) (g := gName 3) (te := tCall sp_pocket [] (fun _ _ _ => False) (tCons (tVar 3) tNil)) (tt := tYes) rfl sc_RowReader_p_move.nd rfl rfl (sw_true rfl rfl rfl (by decide +kernel)) (pi_list (pe_slice sl_list (pv 1) (po_some pe_int) po_none)) (blkOk_by (own := [("word", 3)]) (N := ["self", "words", "pockets", "word"]) (sc := defScope s_RowReader_p_move) (by decide +kernel)) (fun _ _ _ _ _ => pg_name (i := 3) sc_RowReader_p_move.nd rfl (Or.inl rfl)) (fun _ _ _ _ _ => pts_nil) (fun _ _ _ _ _ => by exact (pe_call (ok_pocket_of T) (hr.mono (by decide)) rfl T.g_pocket_of T.k_pocket_of T.B_pocket_of .nil pass0 (pa_cons (pv 3) pa_nil))))
      (pss_cons (ps_if (PW.pt (pw_or (pt_cmpR op_ne (pe_callB call_len_seq (by rfl) T.z_len (by decide +kernel) (pa_cons (pv 2) pa_nil)) pe_int (nomark _)) (pw_or (pt_cmpR op_in_seq pe_non (pv 2) (by rfl)) (pw_or1 (pt_cmpR op_eq (pe_ix ix_list (pv 2) pe_int (fun _ _ => rfl)) (pe_ix ix_list (pv 2) pe_int (fun _ _ => rfl)) (nomark _)))))) (pss_one (ps_ret pe_non)) pss_nil)
      (pss_one (ps_ret (pe_tup (pa_cons pe_str (pa_cons (pe_ix ix_list (pv 2) pe_int (fun _ _ => rfl)) (pa_cons (pe_ix ix_list (pv 2) pe_int (fun _ _ => rfl)) pa_nil)))))))), ?_⟩
    have ec : cutV ((w0 :: ws).map V.str) (some 1) none = ws.map V.str := cutV_tail _
    refine ⟨_, rfl, 1, rfl, W, _, rfl, SqL.of hW, fun D hD => ?_⟩
    rw [ec]
    have s1 : Same H (upd H D (.lst (ws.map V.str))) := (Same.refl H).upd hD
    have hD1 : (upd H D (.lst (ws.map V.str))) D = some (.lst (ws.map V.str)) := upd_same
    generalize (upd H D (.lst (ws.map V.str))) = H1 at s1 hD1 ⊢
    refine ⟨D, rfl, ⟨_, SqL.of hD1⟩, fun L hL => ?_⟩
    refine lc_list (K := K) (a := D) (xs := ws.map V.str) (fun i H2 => Blk (H2 = upd H1 L (.lst ((ws.take i).map pocketV)))) (Blk.of rfl) (fun i H2 _ hB => ?_) ?_ ?_
    · obtain rfl := hB.out
      exact SqL.of ((upd_ne (ne_of_none hD1 hL)).trans hD1)
    · intro i y H2 hi hB
      obtain rfl := hB.out
      obtain ⟨z, hz, rfl⟩ := strs_get hi
      have hil := get_lt hz
      refine ⟨rfl, ?_⟩
      dsimp only [tYes]
      refine iteT ?_
      refine ⟨_, rfl, z, rfl, ?_⟩
      refine ⟨_, upd_same, by rw [List.length_map, List.length_take]; exact small (by omega), Blk.of ?_⟩
      rw [upd_upd, take_snoc hz, List.map_append]
      rfl
    · intro H2 hB
      obtain rfl := hB.out
      rw [List.length_map, List.take_length]
      have s2 : Same H (upd H1 L (.lst (ws.map pocketV))) := s1.upd (s1.free hL)
      have hL2 : (upd H1 L (.lst (ws.map pocketV))) L = some (.lst (ws.map pocketV)) := upd_same
      generalize (upd H1 L (.lst (ws.map pocketV))) = H2 at s2 hL2 ⊢
      refine ⟨_, rfl, _, _, rfl, .inl (SqL.of hL2), ?_⟩
      refine ⟨rfl, _, rfl, ?_⟩
      rw [List.length_map]
      refine iteNI (fun n => ?_) (fun e => ?_)
      · refine o1 ?_ H2 s2
        match ws with
        | [] => rfl
        | [_] => rfl
        | [_, _] => exact absurd rfl n
        | _ :: _ :: _ :: _ => rfl
      obtain ⟨y, z, rfl⟩ : ∃ y z, ws = [y, z] := by
        match ws, (show ws.length = 2 by omega) with
        | [y, z], _ => exact ⟨y, z, rfl⟩
      refine ⟨_, rfl, _, _, rfl, .inl (SqL.of hL2), rfl, pockets_flat _, ?_⟩
      refine ⟨_, rfl, ?_⟩
      rw [if_neg Bool.false_ne_true]
      have ei : inV .non ([y, z].map pocketV) = (decide (V.non = pocketV y) || decide (V.non = pocketV z)) := by
        show (eqV (pocketV y) .non || (eqV (pocketV z) .non || false)) = _
        rw [pocket_non, pocket_non, Bool.or_false]
      rw [ei]
      refine iteB (fun c => iteT (o1 (if_pos ?_) H2 s2)) (fun c => ?_)
      · rw [Bool.or_eq_true, decide_eq_true_eq, decide_eq_true_eq] at c
        rcases c with c | c
        · exact .inl c.symm
        · exact .inr (.inl c.symm)
      rw [Bool.or_eq_false_iff, decide_eq_false_iff_not, decide_eq_false_iff_not] at c
      have a0 : atI ([y, z].map pocketV) 0 = some (pocketV y) := rfl
      have a1 : atI ([y, z].map pocketV) 1 = some (pocketV z) := rfl
      refine ⟨_, rfl, _, _, _, _, rfl, rfl, SqL.of hL2, a0, ?_⟩
      refine ⟨_, rfl, _, _, _, _, rfl, rfl, SqL.of hL2, a1, ?_⟩
      obtain ⟨j, ej⟩ := (pocket_shape y).resolve_left fun q => c.1 q.symm
      obtain ⟨k, ek⟩ := (pocket_shape z).resolve_left fun q => c.2 q.symm
      have eqd : rEq (pocketV y) (pocketV z) H2 = rEq (.int j) (.int k) H2 := by rw [ej, ek]
      rw [eqd]
      refine ⟨rfl, _, rfl, ?_⟩
      refine iteII (fun e => ?_) (fun n => ?_)
      · refine o1 (if_pos (.inr (.inr ?_))) H2 s2
        rw [ej, ek, e]
      refine ⟨_, rfl, _, _, _, _, rfl, rfl, SqL.of hL2, a0, ?_⟩
      refine ⟨_, rfl, _, _, _, _, rfl, rfl, SqL.of hL2, a1, ?_⟩
      refine ⟨by show 3 ≤ sizeLine; decide, fun t ht => ?_⟩
      refine o2 _ (if_neg ?_) t _ (s2.upd (s2.free ht)) upd_same
      rintro (q | q | q)
      · exact c.1 q.symm
      · exact c.2 q.symm
      · rw [ej, ek] at q
        exact n (V.int.inj q)

open My (Hr)
/-! ### the number of a row -/
def digB (c : Nat) : Bool := decide (48 ≤ c) && decide (c ≤ 57)
theorem le_0 (c : Nat) : (!decide ((⟨#[c]⟩ : Str).cps.toList < ("0" : Str).cps.toList)) = decide (48 ≤ c) := by
  have e : ("0" : Str).cps.toList = [48] := by decide +kernel
  rw [e]
  show (!decide (([c] : List Nat) < [48])) = _
  rw [decide_eq_decide.mpr (one_lt c 48)]
  by_cases h : c < 48
  · rw [decide_eq_true h, decide_eq_false (by omega)]; rfl
  · rw [decide_eq_false h, decide_eq_true (by omega)]; rfl
theorem le_9 (c : Nat) : (!decide (("9" : Str).cps.toList < (⟨#[c]⟩ : Str).cps.toList)) = decide (c ≤ 57) := by
  have e : ("9" : Str).cps.toList = [57] := by decide +kernel
  rw [e]
  show (!decide (([57] : List Nat) < [c])) = _
  rw [decide_eq_decide.mpr (one_lt 57 c)]
  by_cases h : 57 < c
  · rw [decide_eq_true h, decide_eq_false (by omega)]; rfl
  · rw [decide_eq_false h, decide_eq_true (by omega)]; rfl
def numT (n : Nat) : Str := Str.ofString (toString ((n : Nat) : Int))
def numOf (many : Nat) (w : Str) : Option Nat :=
  if 1 ≤ w.length ∧ w.length ≤ (numT many).length ∧ w.cps.toList.all digB = true ∧ numT (NumText.digitsVal w.cps.toList) = w ∧ NumText.digitsVal w.cps.toList < many then some (NumText.digitsVal w.cps.toList) else none
structure RdrAt (C : Addr) (H : Hp) (r p h : Addr) (many : Nat) (x : Hr) : Prop where
  ob : ∃ dx, H r = some (.ins C dx (rfs p h (many : Nat)))
  pt : HrAt H h x
  few : many ≤ 10000
theorem RdrAt.same {C : Addr} {H H' : Hp} {r p h : Addr} {many : Nat} {x : Hr} (o : RdrAt C H r p h many x) (s : Same H H') : RdrAt C H' r p h many x :=
  ⟨by obtain ⟨dx, e⟩ := o.ob; exact ⟨dx, s _ _ e⟩, o.pt.same s, o.few⟩
theorem rfs_m {p h : Addr} {m : Int} : (rfs p h m).lookup ("_many" : Str) = some (.int m) := by kernel_rfl
theorem rfs_t {p h : Addr} {m : Int} : (rfs p h m).lookup ("_pact" : Str) = some (.ref h) := by kernel_rfl
theorem rfs_p {p h : Addr} {m : Int} : (rfs p h m).lookup ("_pacts" : Str) = some (.ref p) := by kernel_rfl
theorem numT_len {n : Nat} (h : n ≤ 10000) : (numT n).length ≤ 21 := by
  have e : ((n : Nat) : Int).natAbs.log2 < 20 := by
    rw [Int.natAbs_natCast]
    by_cases h0 : n = 0
    · subst h0; decide
    · have : n.log2 < 14 := (Nat.log2_lt h0).mpr (by omega)
      omega
  have := PySem.int_text_length_le (k := 20) (by decide) e
  unfold numT
  rw [PySem.ofString_length]
  exact this
theorem numT_log {n : Nat} (h : n ≤ 10000) : ((n : Nat) : Int).natAbs.log2 < 1920 := by
  rw [Int.natAbs_natCast]
  by_cases h0 : n = 0
  · subst h0; decide
  · have : n.log2 < 14 := (Nat.log2_lt h0).mpr (by omega)
    omega
theorem all_dig (l : List Nat) : (l.map digB).all id = l.all digB := by rw [List.all_map]; rfl
theorem val_log {w : Str} (h : w.cps.toList.all digB = true) (hl : w.length ≤ 21) : ((NumText.digitsVal w.cps.toList : Nat) : Int).natAbs.log2 < 1920 := by
  have key : ∀ (cs : List Nat) (acc : Nat), cs.all digB = true → cs.foldl (fun acc c => acc * 10 + (c - 48)) acc < (acc + 1) * 10 ^ cs.length := by
    intro cs
    induction cs with
    | nil => intro acc _; simp
    | cons c r ih =>
      intro acc h
      rw [List.all_cons, Bool.and_eq_true] at h
      have hc : c ≤ 57 := by have := h.1; unfold digB at this; simp at this; omega
      have := ih (acc * 10 + (c - 48)) h.2
      rw [List.foldl_cons, List.length_cons, Nat.pow_succ]
      refine Nat.lt_of_lt_of_le this ?_
      have e : (acc + 1) * (10 ^ r.length * 10) = ((acc + 1) * 10) * 10 ^ r.length := by rw [Nat.mul_comm (10 ^ r.length) 10, Nat.mul_assoc]
      rw [e]
      exact Nat.mul_le_mul_right _ (by omega)
  have hk := key w.cps.toList 0 h
  have hz : w.cps.toList.length ≤ 21 := by rw [Array.length_toList]; exact hl
  have hp : (10 : Nat) ^ w.cps.toList.length ≤ 10 ^ 21 := Nat.pow_le_pow_right (by decide) hz
  have hv : NumText.digitsVal w.cps.toList < 2 ^ 100 := by
    have h1 : (10 : Nat) ^ 21 < 2 ^ 100 := by decide +kernel
    unfold NumText.digitsVal
    omega
  rw [Int.natAbs_natCast]
  by_cases h0 : NumText.digitsVal w.cps.toList = 0
  · rw [h0]; decide
  · have : (NumText.digitsVal w.cps.toList).log2 < 100 := (Nat.log2_lt h0).mpr hv
    omega
def sp_row_number (C : Addr) : Sp := fun vs H Q _ => ∃ (r p h : Addr) (many : Nat) (x : Hr) (w : Str), vs = [.ref r, .str w] ∧ RdrAt C H r p h many x ∧ w.length ≤ sizeLine ∧ ∀ H', Same H H' → Q (match numOf many w with | some n => .int (n : Nat) | none => .non) H'
theorem ok_RowReader_p_row_number (T : Txt K mg a) : FnOk P w K mg base CX0 1 a.f_RowReader_p_row_number a.d_RowReader_p_row_number ["self", "word"] (sp_row_number a.c_RowReader) := by
  refine T.F_RowReader_p_row_number.ok sc_RowReader_p_row_number (fun vs H Q E h => ?_) (fun cdv A outer s H vs Q E hr h => ?_)
  · obtain ⟨r, p, h, many, x, w, rfl, _⟩ := h
    rfl
  · obtain ⟨r, p, h, many, x, w, rfl, rd, hl, kk⟩ := h
    refine ⟨_, (pss_cons (ps_if (pt_not (pt_chain op_le op_le pe_int (pe_callB call_len_str (by rfl) T.z_len (by decide +kernel) (pa_cons (pv 1) pa_nil)) (pe_callB call_len_str (by rfl) T.z_len (by decide +kernel) (pa_cons (pe_callTy call_str_int (by rfl) T.z_str (by decide +kernel) (pa_cons (pe_fld (pv 0) rfl) pa_nil)) pa_nil)))) (pss_one (ps_ret pe_non)) pss_nil)
      (pss_cons (ps_if (PW.pt (pw_or (pt_not (pt_val (pe_callB (cr_all rfl) (by rfl) T.z_all (by decide +kernel) (pa_cons (pe_lc (own := [("sign", 2)]) (g := gName 2) (tt := tYes) rfl sc_RowReader_p_row_number.nd (pi_str (pv 1)) (blkOk_by (own := [("sign", 2)]) (N := ["self", "word", "sign"]) (sc := defScope s_RowReader_p_row_number) (by decide +kernel)) (fun _ _ _ _ _ => pg_name (i := 2) sc_RowReader_p_row_number.nd rfl (Or.inl rfl)) (fun _ _ _ _ _ => pts_nil) (fun _ _ _ _ _ => by exact (pe_chain op_le_str op_le_str pe_str (pv 2) pe_str))) pa_nil)))) (pw_or1 (pt_cmpR op_ne (pe_callTy call_str_int (by rfl) T.z_str (by decide +kernel) (pa_cons (pe_callTy call_int_str (by rfl) T.z_int (by decide +kernel) (pa_cons (pv 1) pa_nil)) pa_nil)) (pv 1) (nomark _))))) (pss_one (ps_ret pe_non)) pss_nil)
      (pss_one (ps_ret (pe_ifExp (pt_cmpR op_lt (pe_callTy call_int_str (by rfl) T.z_int (by decide +kernel) (pa_cons (pv 1) pa_nil)) (pe_fld (pv 0) rfl) (nomark _)) (pe_callTy call_int_str (by rfl) T.z_int (by decide +kernel) (pa_cons (pv 1) pa_nil)) pe_non))))), ?_⟩
    have few := rd.few
    obtain ⟨dx, er⟩ := rd.ob
    have no : ¬ (1 ≤ w.length ∧ w.length ≤ (numT many).length ∧ w.cps.toList.all digB = true ∧ numT (NumText.digitsVal w.cps.toList) = w ∧ NumText.digitsVal w.cps.toList < many) → ∀ H', Same H H' → Q .non H' := fun n H' s => by
      have := kk H' s
      unfold numOf at this
      rw [if_neg n] at this
      exact this
    refine ⟨_, rfl, _, rfl, hl, ?_⟩
    refine ⟨_, _, rfl, rfl, _, rfl, ?_⟩
    refine iteD (fun h1 => ?_) (fun h1 => ?_)
    · have nl := numT_len few
      refine ⟨_, rfl, _, _, _, _, _, rfl, er, T.cl_RowReader, T.n_RowReader__many, rfs_m, _, rfl, numT_log few, _, rfl, Nat.le_trans (show (numT many).length ≤ 21 from nl) (by rw [sizeLine_eq]; decide), ?_⟩
      refine ⟨_, _, rfl, rfl, _, rfl, ?_⟩
      refine iteB (fun h2 => ?_) (fun h2 => ?_)
      · refine no (fun z => ?_) H (Same.refl H)
        rw [decide_eq_true (show ((w.length : Nat) : Int) ≤ (((Str.ofString (toString ((many : Nat) : Int))).length : Nat) : Int) from Int.ofNat_le.mpr z.2.1)] at h2
        cases h2
      have h2' : w.length ≤ (numT many).length := by
        by_cases z : ((w.length : Nat) : Int) ≤ (((Str.ofString (toString ((many : Nat) : Int))).length : Nat) : Int)
        · exact Int.ofNat_le.mp z
        · rw [decide_eq_false z] at h2
          cases h2
      have w21 : w.length ≤ 21 := by omega
      refine ⟨_, rfl, w, rfl, fun D hD => ?_⟩
      refine lc_it walk_str (fun i H1 => Blk (H1 = upd H D (.lst (((w.cps.toList.take i).map digB).map V.bl)) ∧ i ≤ w.cps.size)) (Blk.of ⟨rfl, by omega⟩) (fun i H1 _ hB => trivial) ?_ ?_
      · intro i y H1 H2 hi hB hy
        obtain ⟨rfl, hi2⟩ := hB.out
        obtain ⟨rfl, c, hc, rfl⟩ := hy
        have hc2 : w.cps.toList[i]? = some c := by rw [Array.getElem?_toList]; exact hc
        refine ⟨rfl, ?_⟩
        dsimp only [tYes]
        refine iteT ?_
        refine ⟨_, rfl, _, _, rfl, rfl, _, rfl, ?_⟩
        rw [le_0]
        have hw2 : w.cps.size ≤ 21 := w21
        have fin : ∀ b : Bool, b = digB c → ∃ acc, upd H D (.lst (((w.cps.toList.take i).map digB).map V.bl)) D = some (.lst acc) ∧ acc.length < sizeLine ∧
            Blk (upd (upd H D (.lst (((w.cps.toList.take i).map digB).map V.bl))) D (.lst (acc ++ [.bl b])) = upd H D (.lst (((w.cps.toList.take (i + 1)).map digB).map V.bl)) ∧ i + 1 ≤ w.cps.size) := by
          rintro b rfl
          refine ⟨_, upd_same, ?_, Blk.of ⟨?_, by omega⟩⟩
          · rw [List.length_map, List.length_map, List.length_take]
            exact small (by omega)
          · rw [upd_upd, take_snoc hc2, List.map_append, List.map_append]
            rfl
        refine iteD (fun ha => ?_) (fun ha => ?_)
        · refine ⟨_, _, rfl, rfl, ?_⟩
          rw [le_9]
          refine fin _ ?_
          unfold digB
          rw [decide_eq_true ha]
          rfl
        · refine fin false ?_
          unfold digB
          rw [decide_eq_false ha]
          rfl
      · intro H1 hB
        obtain ⟨rfl, _⟩ := hB.out
        have sD : Same H (upd H D (.lst (((w.cps.toList.take w.cps.size).map digB).map V.bl))) := (Same.refl H).upd hD
        have erD := sD _ _ er
        refine ⟨D, _, rfl, SqL.of upd_same, _, rfl, ?_⟩
        have el : w.cps.toList.take w.cps.size = w.cps.toList := by rw [← Array.length_toList, List.take_length]
        generalize upd H D (.lst (((w.cps.toList.take w.cps.size).map digB).map V.bl)) = HD at sD erD
        rw [el, all_dig]
        refine iteB (fun h3 => ?_) (fun h3 => ?_)
        · exact no (fun z => by rw [z.2.2.1] at h3; cases h3) _ sD
        have h3' : w.cps.toList.all digB = true := by
          cases e : w.cps.toList.all digB with
          | true => rfl
          | false => rw [e] at h3; cases h3
        have ne : w.cps.toList ≠ [] := fun q => by
          have : w.cps.toList.length = 0 := by rw [q]; rfl
          rw [Array.length_toList] at this
          have h1' : (1 : Int) ≤ (w.cps.size : Int) := h1
          omega
        have ad : NumText.AllDigits w.cps.toList := fun c hc => by
          have := List.all_eq_true.mp h3' c hc
          unfold digB at this
          simpa using this
        have rd0 : intText? w = some ((NumText.digitsVal w.cps.toList : Nat) : Int) := intText_digits ad ne (by omega)
        have lg := val_log h3' w21
        refine ⟨_, rfl, w, _, rfl, rd0, by omega, _, rfl, lg, ?_⟩
        refine ⟨_, rfl, rfl, _, rfl, ?_⟩
        refine iteNSS (fun n => no (fun z => n z.2.2.2.1) _ sD) (fun e4 => ?_)
        refine ⟨_, rfl, w, _, rfl, rd0, by omega, ?_⟩
        refine ⟨_, rfl, _, _, _, _, _, rfl, erD, T.cl_RowReader, T.n_RowReader__many, rfs_m, _, _, rfl, rfl, _, rfl, ?_⟩
        refine iteD (fun h5 => ?_) (fun h5 => ?_)
        · refine ⟨_, rfl, w, _, rfl, rd0, by omega, ?_⟩
          have := kk _ sD
          unfold numOf at this
          rw [if_pos ⟨by exact Int.ofNat_le.mp h1, h2', h3', e4, Int.ofNat_lt.mp h5⟩] at this
          exact this
        · exact no (fun z => h5 (Int.ofNat_lt.mpr z.2.2.2.2)) _ sD
    · refine ⟨_, rfl, ?_⟩
      refine iteT (no (fun z => h1 ?_) H (Same.refl H))
      exact Int.ofNat_le.mpr z.1

open My (Hr)
theorem rfs_make {p h : Addr} {m : Int} : putF "_many" (.int m) (putF "_pact" (.ref h) (putF "_pacts" (.ref p) [])) = rfs p h m := by kernel_rfl
theorem PactsAt.keep {C : Addr} {H H' : Hp} {p pl hl : Addr} {as : List Addr} {ps : List My.Pr} {R : List Addr} (h : PactsAt C H p pl hl as ps) (k : Keeps R H H') (n : NoTup H R) (np : p ∉ R) (nl : pl ∉ R) : PactsAt C H' p pl hl as ps := by
  obtain ⟨⟨dx, e⟩, e1, e3⟩ := h
  exact ⟨⟨dx, k _ _ e np⟩, k _ _ e1 nl, e3.keepN k n⟩
theorem CrewAt.keep {H H' : Hp} {hl : Addr} {has : List Addr} {hs : List Hr} {R : List Addr} (h : CrewAt H hl has hs) (k : Keeps R H H') (n : NoTup H R) (nl : hl ∉ R) : CrewAt H' hl has hs := ⟨k _ _ h.lh nl, Crew.keep h.hs k n⟩
theorem NoTup.ins {H : Hp} {x C dx : Addr} {fs : List (Str × V)} (h : H x = some (.ins C dx fs)) : NoTup H [x] := NoTup.one h (fun _ e => by cases e) fun _ _ e => by cases e
theorem off_ins {H : Hp} {x C dx y : Addr} {fs : List (Str × V)} {o : HO} (h : H x = some (.ins C dx fs)) (hy : H y = some o) (n : o ≠ .ins C dx fs) : y ∉ [x] := fun q => by
  simp at q
  subst q
  rw [hy] at h
  exact n (Option.some.inj h)
def sp_Rinit (C CP : Addr) : Sp := fun vs H Q _ => ∃ (r dx p pl hl : Addr) (as has : List Addr) (ps : List My.Pr) (hs : List Hr) (w : Str) (x : Hr) (many : Nat), vs = [.ref r, .ref p, .str w, .int (many : Nat)] ∧ H r = some (.ins C dx []) ∧ PactsAt CP H p pl hl as ps ∧ CrewAt H hl has hs ∧ crewOf w hs = some x ∧ many ≤ 10000 ∧
  ∀ (h : Addr) (H' : Hp), RdrAt C H' r p h many x → Keeps [r] H H' → Q .non H'
theorem ok_RowReader_init (T : Txt K mg a) : FnOk P w K mg base CX0 2 a.f_RowReader_init a.d_RowReader_init ["self", "pacts", "name", "many"] (sp_Rinit a.c_RowReader a.c_Pacts) := by
  refine T.F_RowReader_init.ok sc_RowReader_init (fun vs H Q E h => ?_) (fun cdv A outer s H vs Q E hr h => ?_)
  · obtain ⟨r, dx, p, pl, hl, as, has, ps, hs, w, x, many, rfl, _⟩ := h
    rfl
  · obtain ⟨r, dx, p, pl, hl, as, has, ps, hs, w, x, many, rfl, er, pa, cr, hx, few, kk⟩ := h
    refine ⟨_, (pss_cons (ps_fld (pv 0) (pv 1) rfl)
      (pss_cons (ps_fld (pv 0) (pe_meth (pv 1) T.cl_Pacts T.m_Pacts_pact (ok_Pacts_pact T) (hr.mono (by decide)) T.B_Pacts_pact .nil pass0 (pa_cons (pv 2) pa_nil)) rfl)
      (pss_one (ps_fld (pv 0) (pv 3) rfl)))), ?_⟩
    obtain ⟨dp, ep⟩ := pa.ob
    have c0 := T.cl_RowReader
    refine ⟨_, rfl, _, rfl, _, _, _, _, rfl, er, c0, T.n_RowReader__pacts, by show 0 < 1000; decide, ?_⟩
    have k1 : Keeps [r] H (upd H r (.ins a.c_RowReader dx (putF "_pacts" (.ref p) []))) := (Keeps.refl [r] H).upd (.inl (by simp))
    have er1 : (upd H r (.ins a.c_RowReader dx (putF "_pacts" (.ref p) []))) r = some (.ins a.c_RowReader dx (putF "_pacts" (.ref p) [])) := upd_same
    generalize (upd H r (.ins a.c_RowReader dx (putF "_pacts" (.ref p) []))) = H1 at k1 er1
    have nt := NoTup.ins er
    have op := off_ins er ep (by intro q; injection q with _ _ q; cases q)
    have pa1 := pa.keep k1 nt op (off_ins er pa.lp (by intro q; cases q))
    have cr1 := cr.keep k1 nt (off_ins er cr.lh (by intro q; cases q))
    refine ⟨_, rfl, p, dp, _, rfl, k1 _ _ ep op, pfs_no4, _, rfl, p, pl, hl, as, has, ps, hs, w, x, rfl, pa1, cr1, hx, fun h hh => ?_⟩
    refine ⟨_, rfl, _, _, _, _, rfl, er1, c0, T.n_RowReader__pact, by show 1 < 1000; decide, ?_⟩
    refine ⟨_, rfl, _, rfl, _, _, _, _, rfl, upd_same, c0, T.n_RowReader__many, by show 2 < 1000; decide, ?_⟩
    show Q .non _
    have k2 := ((Keeps.refl [r] H1).upd (o := .ins a.c_RowReader dx (putF "_pact" (.ref h) (putF "_pacts" (.ref p) []))) (.inl (by simp : r ∈ [r]))).upd (o := .ins a.c_RowReader dx (putF "_many" (.int (many : Nat)) (putF "_pact" (.ref h) (putF "_pacts" (.ref p) [])))) (.inl (by simp : r ∈ [r]))
    refine kk h _ ⟨⟨dx, ?_⟩, hh.keep k2 (NoTup.ins er1), few⟩ (k1.trans k2)
    rw [upd_same]
    rfl
/-! ### rows that jump and end -/
def jumpF (w : Str) (at_ many : Nat) (r : List Str) : Option Stp := match r with
  | [z] => match numOf many z with
    | some n => if w = "go" ∧ n ≤ at_ then none else some (.act w [.int (n : Nat)])
    | none => none
  | _ => none
def sp_jump (C : Addr) : Sp := fun vs H Q _ => ∃ (r p h W : Addr) (many i : Nat) (x : Hr) (w0 : Str) (ws : List Str), vs = [.ref r, .int (i : Nat), .ref W] ∧ RdrAt C H r p h many x ∧ H W = some (.lst ((w0 :: ws).map V.str)) ∧ ws.length ≤ 10000 ∧ (∀ z, z ∈ ws → z.length ≤ sizeLine) ∧ 
  StepOut (jumpF w0 i many ws) H Q
theorem ok_RowReader_p_jump (T : Txt K mg a) : FnOk P w K mg base CX0 3 a.f_RowReader_p_jump a.d_RowReader_p_jump ["self", "at", "words"] (sp_jump a.c_RowReader) := by
  refine T.F_RowReader_p_jump.ok sc_RowReader_p_jump (fun vs H Q E h => ?_) (fun cdv A outer s H vs Q E hr h => ?_)
  · obtain ⟨r, p, h, W, many, i, x, w0, ws, rfl, _⟩ := h
    rfl
  · obtain ⟨r, p, h, W, many, i, x, w0, ws, rfl, rd, hW, hl, hz, o1, o2⟩ := h
    refine ⟨_, (pss_cons (ps_set (i := 3) sc_RowReader_p_jump.nd rfl (Or.inl rfl) (pe_ifExp (pt_cmpR op_eq (pe_callB call_len_seq (by rfl) T.z_len (by decide +kernel) (pa_cons (pv 2) pa_nil)) pe_int (nomark _)) (pe_meth (pv 0) T.cl_RowReader T.m_RowReader_p_row_number (ok_RowReader_p_row_number T) (hr.mono (by decide)) T.B_RowReader_p_row_number .nil pass0 (pa_cons (pe_ix ix_list (pv 2) pe_int (fun _ _ => rfl)) pa_nil)) pe_non))
      (pss_cons (ps_if (PW.pt (pw_or (pt_cmpR op_isN (pv 3) pe_non (nomark _)) (pw_or1 (PW.pt (pw_and (pt_cmpR op_eq (pe_ix ix_list (pv 2) pe_int (fun _ _ => rfl)) pe_str (nomark _)) (pw_and1 (pt_cmpR op_le (pv 3) (pv 1) (nomark _)))))))) (pss_one (ps_ret pe_non)) pss_nil)
      (pss_one (ps_ret (pe_tup (pa_cons (pe_ix ix_list (pv 2) pe_int (fun _ _ => rfl)) (pa_cons (pv 3) pa_nil))))))), ?_⟩
    obtain ⟨dx, er⟩ := rd.ob
    refine ⟨_, rfl, _, _, rfl, .inl (SqL.of hW), ?_⟩
    refine ⟨rfl, _, rfl, ?_⟩
    refine iteII (fun e => ?_) (fun n => ?_)
    · obtain ⟨z, rfl⟩ : ∃ z, ws = [z] := by
        match ws, (show ws.length = 1 by simp at e; omega) with
        | [z], _ => exact ⟨z, rfl⟩
      have pn : (rfs p h (many : Nat)).lookup ("_row_number" : Str) = none := by kernel_rfl
      refine ⟨_, rfl, r, dx, _, rfl, er, pn, _, rfl, _, _, _, _, rfl, rfl, SqL.of hW, at_of (j := 1) rfl rfl, r, p, h, many, x, z, rfl, rd, hz z (by simp), fun H1 s1 => ?_⟩
      have hW1 := s1 _ _ hW
      cases e2 : numOf many z with
      | none =>
        have m : jumpF w0 i many [z] = none := by unfold jumpF; simp only [e2]
        refine ⟨_, rfl, rfl, _, rfl, ?_⟩
        refine iteT ?_
        exact o1 m H1 s1
      | some n =>
        refine ⟨_, rfl, rfl, _, rfl, ?_⟩
        refine iteF ?_
        refine ⟨_, rfl, _, _, _, _, rfl, rfl, SqL.of hW1, at_of (j := 0) rfl rfl, ?_⟩
        refine ⟨rfl, _, rfl, ?_⟩
        have fin : ¬ (w0 = "go" ∧ n ≤ i) → ∀ (t : Addr), H1 t = none → Q (.ref t) (upd H1 t (.tup [.str w0, .int (n : Nat)])) := fun c t ht => by
          have m : jumpF w0 i many [z] = some (.act w0 [.int (n : Nat)]) := by
            unfold jumpF
            simp only [e2]
            exact if_neg c
          exact o2 _ m t _ (s1.upd ((s1.free ht))) upd_same
        refine iteSS (fun eg => ?_) (fun ng => ?_)
        · refine ⟨_, rfl, _, rfl, _, _, rfl, rfl, _, rfl, ?_⟩
          refine iteD (fun c => ?_) (fun c => ?_)
          · have m : jumpF w0 i many [z] = none := by
              unfold jumpF
              simp only [e2]
              exact if_pos ⟨eg, Int.ofNat_le.mp c⟩
            exact o1 m H1 s1
          · refine ⟨_, rfl, _, _, _, _, rfl, rfl, SqL.of hW1, at_of (j := 0) rfl rfl, ?_⟩
            refine ⟨_, rfl, by show 2 ≤ sizeLine; decide, fun t ht => fin (fun q => c (Int.ofNat_le.mpr q.2)) t ht⟩
        · refine ⟨_, rfl, _, _, _, _, rfl, rfl, SqL.of hW1, at_of (j := 0) rfl rfl, ?_⟩
          refine ⟨_, rfl, by show 2 ≤ sizeLine; decide, fun t ht => fin (fun q => ng q.1) t ht⟩
    · have m : jumpF w0 i many ws = none := by
        match ws, n with
        | [], _ => rfl
        | [z], n => exact absurd rfl n
        | _ :: _ :: _, _ => rfl
      refine ⟨_, rfl, rfl, _, rfl, ?_⟩
      refine iteT ?_
      exact o1 m H (Same.refl H)
def endF (w : Str) (r : List Str) : Option Stp := match r with
  | [] => some (.act "end" [.str w, .non])
  | z :: _ => if pocketV z = .non then none else some (.act "end" [.str w, pocketV z])
def sp_end : Sp := fun vs H Q _ => ∃ (r W : Addr) (w : Str) (ws : List Str), vs = [.ref r, .str w, .ref W] ∧ H W = some (.lst (ws.map V.str)) ∧ ws.length ≤ 10000 ∧ StepOut (endF w ws) H Q
theorem ok_RowReader_p_end (T : Txt K mg a) : FnOk P w K mg base CX0 3 a.f_RowReader_p_end a.d_RowReader_p_end ["self", "word", "pockets"] sp_end := by
  refine T.F_RowReader_p_end.ok sc_RowReader_p_end (fun vs H Q E h => ?_) (fun cdv A outer s H vs Q E hr h => ?_)
  · obtain ⟨r, W, w, ws, rfl, _⟩ := h
    rfl
  · obtain ⟨r, W, w, ws, rfl, hW, hl, o1, o2⟩ := h
    refine ⟨_, (pss_cons (ps_if (pt_not (pt_truth (pv 2) (by intro _; rfl))) (pss_one (ps_ret (pe_tup (pa_cons pe_str (pa_cons (pv 1) (pa_cons pe_non pa_nil)))))) pss_nil)
      (pss_cons (ps_set (i := 3) sc_RowReader_p_end.nd rfl (Or.inl rfl) (pe_call (ok_pocket_of T) (hr.mono (by decide)) rfl T.g_pocket_of T.k_pocket_of T.B_pocket_of .nil pass0 (pa_cons (pe_ix ix_list (pv 2) pe_int (fun _ _ => rfl)) pa_nil)))
      (pss_one (ps_ret (pe_ifExp (pt_cmpR op_isN (pv 3) pe_non (nomark _)) pe_non (pe_tup (pa_cons pe_str (pa_cons (pv 1) (pa_cons (pv 3) pa_nil))))))))), ?_⟩
    refine ⟨_, rfl, _, .inl ⟨_, SqL.of hW, rfl⟩, ?_⟩
    match ws, hl, hW, o1, o2 with
    | [], _, hW, _, o2 =>
      refine iteT ?_
      refine ⟨_, rfl, by show 3 ≤ sizeLine; decide, fun t ht => ?_⟩
      exact o2 _ rfl t _ ((Same.refl H).upd ht) upd_same
    | z :: r, _, hW, o1, o2 =>
      refine iteF ?_
      refine ⟨_, rfl, _, _, _, _, rfl, rfl, SqL.of hW, at_of (j := 0) rfl rfl, z, rfl, ?_⟩
      refine ⟨_, rfl, rfl, _, rfl, ?_⟩
      refine iteD (fun n => ?_) (fun n => ?_)
      · exact o1 (if_pos n) H (Same.refl H)
      · refine ⟨_, rfl, _, rfl, by show 3 ≤ sizeLine; decide, fun t ht => ?_⟩
        exact o2 _ (if_neg n) t _ ((Same.refl H).upd ht) upd_same
def doneF (gives : Bool) (r : List Str) : Option Stp := if r.length = (if gives = true then 1 else 0) then endF "" r else none
def sp_done (C : Addr) : Sp := fun vs H Q _ => ∃ (r p h W : Addr) (many : Nat) (x : Hr) (w0 : Str) (ws : List Str), vs = [.ref r, .ref W] ∧ RdrAt C H r p h many x ∧ H W = some (.lst ((w0 :: ws).map V.str)) ∧ ws.length ≤ 9999 ∧ StepOut (doneF x.gives ws) H Q
theorem ok_RowReader_p_done (T : Txt K mg a) : FnOk P w K mg base CX0 4 a.f_RowReader_p_done a.d_RowReader_p_done ["self", "words"] (sp_done a.c_RowReader) := by
  refine T.F_RowReader_p_done.ok sc_RowReader_p_done (fun vs H Q E h => ?_) (fun cdv A outer s H vs Q E hr h => ?_)
  · obtain ⟨r, p, h, W, many, x, w0, ws, rfl, _⟩ := h
    rfl
  · obtain ⟨r, p, h, W, many, x, w0, ws, rfl, rd, hW, hl, out⟩ := h
    refine ⟨_, (pss_cons (ps_if (pt_cmpR op_ne (pe_callB call_len_seq (by rfl) T.z_len (by decide +kernel) (pa_cons (pv 1) pa_nil)) (pe_ifExp (pt_val (pe_ix ix_tup (pe_fld (pv 0) rfl) pe_int (fun _ _ => rfl))) pe_int pe_int) (nomark _)) (pss_one (ps_ret pe_non)) pss_nil)
      (pss_one (ps_ret (pe_meth (pv 0) T.cl_RowReader T.m_RowReader_p_end (ok_RowReader_p_end T) (hr.mono (by decide)) T.B_RowReader_p_end .nil pass0 (pa_cons pe_str (pa_cons (pe_slice sl_list (pv 1) (po_some pe_int) po_none) pa_nil)))))), ?_⟩
    obtain ⟨dx, er⟩ := rd.ob
    obtain ⟨tk, th, eh, _, _⟩ := id rd.pt
    refine ⟨_, rfl, _, _, rfl, .inl (SqL.of hW), ?_⟩
    refine ⟨_, rfl, _, _, _, _, _, rfl, er, T.cl_RowReader, T.n_RowReader__pact, rfs_t, _, _, _, _, rfl, rfl, SqT.of eh, rfl, _, rfl, ?_⟩
    have pn : (rfs p h (many : Nat)).lookup ("_end" : Str) = none := by kernel_rfl
    have el : (((w0 :: ws).map V.str).length : Int) = (ws.length : Int) + 1 := by simp
    rw [el]
    have bad : ¬ ws.length = (if x.gives = true then 1 else 0) → Q .non H := fun n => out.1 (if_neg n) H (Same.refl H)
    have good : ws.length = (if x.gives = true then 1 else 0) → ∀ D H', H' D = some (.lst (ws.map V.str)) → Same H H' → sp_end [.ref r, .str "", .ref D] H' Q E0 := fun e D H' hD s => by
      refine ⟨r, D, "", ws, rfl, hD, by omega, ?_⟩
      have o2 := out.from s
      unfold doneF at o2
      rw [if_pos e] at o2
      exact o2
    have ec : cutV ((w0 :: ws).map V.str) (some 1) none = ws.map V.str := cutV_tail _
    cases hg : x.gives with
    | true =>
      rw [hg] at bad good
      refine iteT ?_
      refine ⟨rfl, _, rfl, ?_⟩
      refine iteNI (fun n => bad (fun q => n ?_)) (fun e => ?_)
      · have : ws.length = 1 := q
        omega
      refine ⟨_, rfl, r, dx, _, rfl, er, pn, ?_⟩
      refine ⟨_, rfl, 1, rfl, W, _, rfl, SqL.of hW, fun D hD => ?_⟩
      rw [ec]
      exact good (show ws.length = 1 by omega) D _ upd_same ((Same.refl H).upd hD)
    | false =>
      rw [hg] at bad good
      refine iteF ?_
      refine ⟨rfl, _, rfl, ?_⟩
      refine iteNI (fun n => bad (fun q => n ?_)) (fun e => ?_)
      · have : ws.length = 0 := q
        omega
      refine ⟨_, rfl, r, dx, _, rfl, er, pn, ?_⟩
      refine ⟨_, rfl, 1, rfl, W, _, rfl, SqL.of hW, fun D hD => ?_⟩
      rw [ec]
      exact good (show ws.length = 0 by omega) D _ upd_same ((Same.refl H).upd hD)

open My (Hr wd)
/-! ### errors in rows -/
structure RdrP (C CP : Addr) (H : Hp) (r p h : Addr) (many : Nat) (x : Hr) (ps : List My.Pr) (hs : List Hr) : Prop where
  rd : RdrAt C H r p h many x
  pa : ∃ (pl hl : Addr) (as has : List Addr), PactsAt CP H p pl hl as ps ∧ CrewAt H hl has hs
  sd : x.side = 0 ∨ x.side = 1
  ok : My.CrewOk ps hs
theorem RdrP.same {C CP : Addr} {H H' : Hp} {r p h : Addr} {many : Nat} {x : Hr} {ps : List My.Pr} {hs : List Hr} (o : RdrP C CP H r p h many x ps hs) (s : Same H H') : RdrP C CP H' r p h many x ps hs :=
  ⟨o.rd.same s, let ⟨pl, hl, as, has, a, b⟩ := o.pa; ⟨pl, hl, as, has, a.same s, b.same s⟩, o.sd, o.ok⟩
def sp_laden2 (CN C : Addr) : Sp := fun vs H Q E => sp_laden C vs H Q E ∨ sp_askX CN C vs H Q E
theorem ok_Pacts_laden2 (T : Txt K mg a) : FnOk P w K mg base (L2.CX P w) 4 a.f_Pacts_laden a.d_Pacts_laden ["self", "word", "side"] (sp_laden2 a.c_NoWord a.c_Pacts) := (ok_Pacts_laden T).orX (ok_Pacts_ladenX T)
def tb_laden (K : PySem.W.Frag) (CN C : Addr) (W : WX) : TS := tRet (tMethNAt C "laden" 2 (sp_laden2 CN C) (WE W) (tFld K (tVar 0) "_pacts") (tCons (tVar 1) tNil) (tCons (tOp (rIxT K) (tFld K (tVar 0) "_pact") (tC (.int 1))) tNil))
def ts_none : Addr → Value → Option Addr → TS := fun _ _ _ => tRet (tC .non)
def ladenO (ps : List My.Pr) (i : Int) (w : Str) : Option Bool := (pairOf i w ps).map fun q => q.2.2
def obV : Option Bool → V
  | some b => .bl b
  | none => .non
theorem pfs_no2 {pl hl : Addr} : (pfs pl hl).lookup ("laden" : Str) = none := by kernel_rfl
def sp_Rladen (C CP : Addr) : Sp := fun vs H Q _ => ∃ (r p h : Addr) (many : Nat) (x : Hr) (ps : List My.Pr) (hs : List Hr) (w : Str), vs = [.ref r, .str w] ∧ RdrP C CP H r p h many x ps hs ∧ w.length ≤ 40000 ∧ ∀ H', Same H H' → Q (obV (ladenO ps x.side w)) H'
theorem ok_RowReader_p_laden (T : Txt K mg a) : FnOk P w K mg base CX0 5 a.f_RowReader_p_laden a.d_RowReader_p_laden ["self", "word"] (sp_Rladen a.c_RowReader a.c_Pacts) := by
  refine T.F_RowReader_p_laden.ok sc_RowReader_p_laden (fun vs H Q E h => ?_) (fun cdv A outer s H vs Q E hr h => ?_)
  · obtain ⟨r, p, h, many, x, ps, hs, w, rfl, _⟩ := h
    rfl
  · obtain ⟨r, p, h, many, x, ps, hs, w, rfl, rp, hw, kk⟩ := h
    refine ⟨_, (pss_one (ps_try_only (tb := tb_laden K a.c_NoWord a.c_Pacts) (ts := ts_none) (Wout := fun _ _ _ _ => False) rfl rfl ⟨rfl, by decide, Or.inl T.g_NoWord⟩ takes0 (fun W pn xe tk _ => (pss_one (ps_ret (pe_methNAt (ks := ["side"]) (pe_fld (pv 0) rfl) T.cl_Pacts T.m_Pacts_laden (ok_Pacts_laden2 T) (hr.mono (by decide)) T.KN_Pacts_laden_2 (fun σ => passAt tk σ) (pa_cons (pv 1) pa_nil) (pk_cons (pe_ix ix_tup (pe_fld (pv 0) rfl) pe_int (fun _ _ => rfl)) pk_nil))))) (fun z oz cls d pn hz hf => (pss_one (ps_ret pe_non))))), ?_⟩
    obtain ⟨dx, er⟩ := rp.rd.ob
    obtain ⟨tk, th, eh, _, _⟩ := id rp.rd.pt
    obtain ⟨pl, hl, as, has, pa, cr⟩ := rp.pa
    obtain ⟨dp, ep⟩ := pa.ob
    refine ⟨_, rfl, _, _, _, _, _, rfl, er, T.cl_RowReader, T.n_RowReader__pacts, rfs_p, p, dp, _, rfl, ep, pfs_no2, ?_⟩
    refine ⟨_, rfl, _, rfl, _, _, _, _, _, rfl, er, T.cl_RowReader, T.n_RowReader__pact, rfs_t, _, _, _, _, rfl, rfl, SqT.of eh, rfl, rfl, ?_⟩
    cases e : pairOf x.side w ps with
    | some q =>
      refine .inl ⟨p, pl, hl, as, ps, w, x.side, q, rfl, pa, rp.sd, e, fun H' s' => ?_⟩
      have := kk H' s'
      rw [show obV (ladenO ps x.side w) = .bl q.2.2 by unfold ladenO; rw [e]; rfl] at this
      exact this
    | none =>
      refine .inr ⟨p, pl, hl, as, ps, w, x.side, rfl, pa, rp.sd, e, hw, fun d H' s' hd he => ?_⟩
      have := kk H' s'
      rw [show obV (ladenO ps x.side w) = .non by unfold ladenO; rw [e]; rfl] at this
      exact ⟨true, T.fe_WW, fun _ z hz => this, fun q => nomatch q⟩
theorem cutV_from (xs : List V) (i : Nat) : cutV xs (some (i : Int)) none = xs.drop i := by
  have e : HT.sIx xs.length 0 (some (i : Int)) = min i xs.length := by
    exact HT.sIx_nat _ _ i
  have e2 : HT.sIx xs.length xs.length none = xs.length := rfl
  unfold cutV
  rw [e, e2]
  rcases Nat.le_total i xs.length with h | h
  · rw [Nat.min_eq_left h]
    exact List.take_of_length_le (by rw [List.length_drop]; omega)
  · rw [Nat.min_eq_right h, List.drop_eq_nil_of_le h, List.drop_eq_nil_of_le (Nat.le_refl _)]
    exact List.take_nil
theorem cutV_mid (xs : List V) (i j : Nat) : cutV xs (some (i : Int)) (some (j : Int)) = (xs.drop i).take (j - i) := by
  have e : ∀ (d k : Nat), HT.sIx xs.length d (some (k : Int)) = min k xs.length := fun d k => HT.sIx_nat _ _ k
  unfold cutV
  rw [e, e]
  rcases Nat.le_total i xs.length with h | h
  · rw [Nat.min_eq_left h]
    rcases Nat.le_total j xs.length with h2 | h2
    · rw [Nat.min_eq_left h2]
    · rw [Nat.min_eq_right h2, List.take_of_length_le (by rw [List.length_drop]; omega), List.take_of_length_le (by rw [List.length_drop]; omega)]
  · rw [Nat.min_eq_right h, List.drop_eq_nil_of_le h, List.drop_eq_nil_of_le (Nat.le_refl _), List.take_nil, List.take_nil]
theorem cutV_two (x y : V) (r : List V) : cutV (x :: y :: r) (some 2) none = r := cutV_from (x :: y :: r) 2
def throwF (ps : List My.Pr) (i : Int) (r : List Str) : Option Stp := match r with
  | [] => none
  | z :: r2 => match ladenO ps i z with
    | none => none
    | some b => if r2.length = (if b = true then 1 else 0) then endF z r2 else none
def sp_throw (C CP : Addr) : Sp := fun vs H Q _ => ∃ (r p h W : Addr) (many : Nat) (x : Hr) (ps : List My.Pr) (hs : List Hr) (w0 : Str) (ws : List Str), vs = [.ref r, .ref W] ∧ RdrP C CP H r p h many x ps hs ∧ H W = some (.lst ((w0 :: ws).map V.str)) ∧ ws.length ≤ 9999 ∧ (∀ z, z ∈ ws → z.length ≤ 40000) ∧ StepOut (throwF ps x.side ws) H Q
theorem ok_RowReader_p_throw (T : Txt K mg a) : FnOk P w K mg base CX0 6 a.f_RowReader_p_throw a.d_RowReader_p_throw ["self", "words"] (sp_throw a.c_RowReader a.c_Pacts) := by
  refine T.F_RowReader_p_throw.ok sc_RowReader_p_throw (fun vs H Q E h => ?_) (fun cdv A outer s H vs Q E hr h => ?_)
  · obtain ⟨r, p, h, W, many, x, ps, hs, w0, ws, rfl, _⟩ := h
    rfl
  · obtain ⟨r, p, h, W, many, x, ps, hs, w0, ws, rfl, rp, hW, hl, hz, o1, o2⟩ := h
    refine ⟨_, (pss_cons (ps_set (i := 2) sc_RowReader_p_throw.nd rfl (Or.inl rfl) (pe_ifExp (pt_cmpR op_gt (pe_callB call_len_seq (by rfl) T.z_len (by decide +kernel) (pa_cons (pv 1) pa_nil)) pe_int (nomark _)) (pe_meth (pv 0) T.cl_RowReader T.m_RowReader_p_laden (ok_RowReader_p_laden T) (hr.mono (by decide)) T.B_RowReader_p_laden .nil pass0 (pa_cons (pe_ix ix_list (pv 1) pe_int (fun _ _ => rfl)) pa_nil)) pe_non))
      (pss_cons (ps_if (PW.pt (pw_or (pt_cmpR op_isN (pv 2) pe_non (nomark _)) (pw_or1 (pt_cmpR op_ne (pe_callB call_len_seq (by rfl) T.z_len (by decide +kernel) (pa_cons (pv 1) pa_nil)) (pe_ifExp (pt_val (pv 2)) pe_int pe_int) (nomark _))))) (pss_one (ps_ret pe_non)) pss_nil)
      (pss_one (ps_ret (pe_meth (pv 0) T.cl_RowReader T.m_RowReader_p_end (ok_RowReader_p_end T) (hr.mono (by decide)) T.B_RowReader_p_end .nil pass0 (pa_cons (pe_ix ix_list (pv 1) pe_int (fun _ _ => rfl)) (pa_cons (pe_slice sl_list (pv 1) (po_some pe_int) po_none) pa_nil))))))), ?_⟩
    obtain ⟨dx, er⟩ := rp.rd.ob
    have l1 : (rfs p h (many : Nat)).lookup ("_laden" : Str) = none := by kernel_rfl
    have l2 : (rfs p h (many : Nat)).lookup ("_end" : Str) = none := by kernel_rfl
    refine ⟨_, rfl, _, _, rfl, .inl (SqL.of hW), _, _, rfl, rfl, _, rfl, ?_⟩
    match ws, hl, hz, hW, o1, o2 with
    | [], _, _, hW, o1, _ =>
      refine iteD (fun q => absurd (show (1 : Int) < 1 from q) (by decide)) (fun _ => ?_)
      refine ⟨_, rfl, rfl, _, rfl, ?_⟩
      exact iteT (o1 rfl H (Same.refl H))
    | z :: r2, hl, hz, hW, o1, o2 =>
      refine iteD (fun _ => ?_) (fun n => absurd (show (1 : Int) < (((w0 :: z :: r2).map V.str).length : Nat) by simp; omega) n)
      refine ⟨_, rfl, r, dx, _, rfl, er, l1, _, rfl, _, _, _, _, rfl, rfl, SqL.of hW, at_of (j := 1) rfl rfl, r, p, h, many, x, ps, hs, z, rfl, rp, hz z (by simp), fun H1 s1 => ?_⟩
      have hW1 := s1 _ _ hW
      have er1 := s1 _ _ er
      cases e : ladenO ps x.side z with
      | none =>
        refine ⟨_, rfl, rfl, _, rfl, ?_⟩
        refine iteT (o1 ?_ H1 s1)
        unfold throwF
        simp only [e]
      | some b =>
        refine ⟨_, rfl, rfl, _, rfl, ?_⟩
        refine iteF ?_
        refine ⟨_, rfl, _, _, rfl, .inl (SqL.of hW1), ?_⟩
        have el : (((w0 :: z :: r2).map V.str).length : Int) = (r2.length : Int) + 2 := by simp; omega
        rw [el]
        have eF : throwF ps x.side (z :: r2) = if r2.length = (if b = true then 1 else 0) then endF z r2 else none := by unfold throwF; simp only [e]
        rw [eF] at o1 o2
        have bad : ¬ r2.length = (if b = true then 1 else 0) → Q .non H1 := fun n => o1 (if_neg n) H1 s1
        have ec : cutV ((w0 :: z :: r2).map V.str) (some 2) none = r2.map V.str := cutV_two _ _ _
        have good : r2.length = (if b = true then 1 else 0) → (tRet (tMeth a.c_RowReader "_end" sp_end [] E0 (tVar 0) (tCons (tOp (rIxL K) (tVar 1) (tC (.int 1))) (tCons (tSl (rSlL K) (tVar 1) (tPart (tC (.int 2))) tNoPart) tNil)))) { nx := fun _ H => Q .non H, rt := Q } (List.set (L2.start [Str.ofString "self", Str.ofString "words", Str.ofString "laden"] [V.ref r, V.ref W]) 2 (some (obV (some b)))) H1 := fun n => by
          rw [if_pos n] at o1 o2
          refine ⟨_, rfl, r, dx, _, rfl, er1, l2, ?_⟩
          refine ⟨_, rfl, _, _, _, _, rfl, rfl, SqL.of hW1, at_of (j := 1) rfl rfl, ?_⟩
          refine ⟨_, rfl, 2, rfl, W, _, rfl, SqL.of hW1, fun D hD => ?_⟩
          rw [ec]
          have sD : Same H (upd H1 D (.lst (r2.map V.str))) := s1.upd (s1.free hD)
          exact ⟨r, D, z, r2, rfl, upd_same, by simp at hl; omega, StepOut.from ⟨o1, o2⟩ sD⟩
        cases b with
        | true =>
          refine ⟨_, rfl, _, rfl, ?_⟩
          refine iteT ?_
          refine ⟨rfl, _, rfl, ?_⟩
          refine iteNI (fun n => bad fun q => n ?_) (fun q => ?_)
          · have : r2.length = 1 := q
            omega
          · exact good (show r2.length = 1 by omega)
        | false =>
          refine ⟨_, rfl, _, rfl, ?_⟩
          refine iteF ?_
          refine ⟨rfl, _, rfl, ?_⟩
          refine iteNI (fun n => bad fun q => n ?_) (fun q => ?_)
          · have : r2.length = 0 := q
            omega
          · exact good (show r2.length = 0 by omega)

open My (Hr wd)
/-! ### what a call hands over -/
def sp_pact2 (CN C : Addr) : Sp := fun vs H Q E => sp_Ppact C vs H Q E ∨ sp_pactX CN C vs H Q E
theorem ok_Pacts_pact2 (T : Txt K mg a) : FnOk P w K mg base (L2.CX P w) 3 a.f_Pacts_pact a.d_Pacts_pact ["self", "name"] (sp_pact2 a.c_NoHelper a.c_Pacts) := ((ok_Pacts_pact T).mono (by decide)).orX (ok_Pacts_pactX T)
def tb_called (K : PySem.W.Frag) (CN C : Addr) (W : WX) : TS := tRet (tMethAt C "pact" (sp_pact2 CN C) (WE W) (tFld K (tVar 0) "_pacts") (tCons (tVar 1) tNil))
def sp_called (C CP : Addr) : Sp := fun vs H Q _ => ∃ (r p h : Addr) (many : Nat) (x : Hr) (ps : List My.Pr) (hs : List Hr) (w : Str), vs = [.ref r, .str w] ∧ RdrP C CP H r p h many x ps hs ∧ w.length ≤ 40000 ∧
  (crewOf w hs = none → ∀ H', Same H H' → Q .non H') ∧ (∀ y, crewOf w hs = some y → ∀ (t : Addr) (H' : Hp), Same H H' → HrAt H' t y → Q (.ref t) H')
theorem ok_RowReader_p_called (T : Txt K mg a) : FnOk P w K mg base CX0 4 a.f_RowReader_p_called a.d_RowReader_p_called ["self", "name"] (sp_called a.c_RowReader a.c_Pacts) := by
  refine T.F_RowReader_p_called.ok sc_RowReader_p_called (fun vs H Q E h => ?_) (fun cdv A outer s H vs Q E hr h => ?_)
  · obtain ⟨r, p, h, many, x, ps, hs, w, rfl, _⟩ := h
    rfl
  · obtain ⟨r, p, h, many, x, ps, hs, w, rfl, rp, hw, k1, k2⟩ := h
    refine ⟨_, (pss_one (ps_try_only (tb := tb_called K a.c_NoHelper a.c_Pacts) (ts := ts_none) (Wout := fun _ _ _ _ => False) rfl rfl ⟨rfl, by decide, Or.inl T.g_NoHelper⟩ takes0 (fun W pn xe tk _ => (pss_one (ps_ret (pe_methAt (pe_fld (pv 0) rfl) T.cl_Pacts T.m_Pacts_pact (ok_Pacts_pact2 T) (hr.mono (by decide)) T.B_Pacts_pact (fun σ => passAt tk σ) (pa_cons (pv 1) pa_nil))))) (fun z oz cls d pn hz hf => (pss_one (ps_ret pe_non))))), ?_⟩
    obtain ⟨dx, er⟩ := rp.rd.ob
    obtain ⟨pl, hl, as, has, pa, cr⟩ := rp.pa
    obtain ⟨dp, ep⟩ := pa.ob
    refine ⟨_, rfl, _, _, _, _, _, rfl, er, T.cl_RowReader, T.n_RowReader__pacts, rfs_p, p, dp, _, rfl, ep, pfs_no4, _, rfl, ?_⟩
    cases e : crewOf w hs with
    | some y => exact .inl ⟨p, pl, hl, as, has, ps, hs, w, y, rfl, pa, cr, e, fun t ht => k2 y e t H (Same.refl H) ht⟩
    | none =>
      refine .inr ⟨p, pl, hl, as, has, ps, hs, w, rfl, pa, cr, e, hw, fun d H' s' hd he => ?_⟩
      exact ⟨true, T.fe_HH, fun _ z hz => k1 e H' s', fun q => nomatch q⟩
def toV (r : List Str) : V := match r with
  | [k, z] => if k = "to" then pocketV z else .non
  | _ => .non
def sp_to : Sp := fun vs H Q _ => ∃ (r W : Addr) (ws : List Str), vs = [.ref r, .ref W] ∧ H W = some (.lst (ws.map V.str)) ∧ Q (toV ws) H
theorem ok_RowReader_p_to (T : Txt K mg a) : FnOk P w K mg base CX0 3 a.f_RowReader_p_to a.d_RowReader_p_to ["self", "words"] sp_to := by
  refine T.F_RowReader_p_to.ok sc_RowReader_p_to (fun vs H Q E h => ?_) (fun cdv A outer s H vs Q E hr h => ?_)
  · obtain ⟨r, W, ws, rfl, _⟩ := h
    rfl
  · obtain ⟨r, W, ws, rfl, hW, kk⟩ := h
    refine ⟨_, (pss_one (ps_ret (pe_ifExp (PW.pt (pw_and (pt_cmpR op_eq (pe_callB call_len_seq (by rfl) T.z_len (by decide +kernel) (pa_cons (pv 1) pa_nil)) pe_int (nomark _)) (pw_and1 (pt_cmpR op_eq (pe_ix ix_list (pv 1) pe_int (fun _ _ => rfl)) pe_str (nomark _))))) (pe_call (ok_pocket_of T) (hr.mono (by decide)) rfl T.g_pocket_of T.k_pocket_of T.B_pocket_of .nil pass0 (pa_cons (pe_ix ix_list (pv 1) pe_int (fun _ _ => rfl)) pa_nil)) pe_non))), ?_⟩
    refine ⟨_, rfl, _, _, rfl, .inl (SqL.of hW), rfl, _, rfl, ?_⟩
    rw [List.length_map]
    refine iteII (fun e => ?_) (fun n => ?_)
    · obtain ⟨k, z, rfl⟩ : ∃ k z, ws = [k, z] := by
        match ws, (show ws.length = 2 by omega) with
        | [k, z], _ => exact ⟨k, z, rfl⟩
      refine ⟨_, rfl, _, _, _, _, rfl, rfl, SqL.of hW, at_of (j := 0) rfl rfl, rfl, _, rfl, ?_⟩
      refine iteSS (fun e1 => ?_) (fun n1 => ?_)
      · refine ⟨_, rfl, _, _, _, _, rfl, rfl, SqL.of hW, at_of (j := 1) rfl rfl, z, rfl, ?_⟩
        rw [show toV [k, z] = pocketV z from if_pos e1] at kk
        exact kk
      · rw [show toV [k, z] = .non from if_neg n1] at kk
        exact kk
    · have e : toV ws = .non := by
        match ws, n with
        | [], _ => rfl
        | [_], _ => rfl
        | [_, _], n => exact absurd rfl n
        | _ :: _ :: _ :: _, _ => rfl
      rw [e] at kk
      exact kk
theorem Objs.keepT {α : Type} {f : α → HO} {H H' : Hp} {R as : List Addr} {xs : List α} (ht : ∀ x, ∃ ys, f x = .tup ys) (o : Objs H as f xs) (k : Keeps R H H') (n : NoTup H R) : Objs H' as f xs :=
  ⟨o.len, fun i h x e1 e2 => by
    have e3 := o.at_ i h x e1 e2
    obtain ⟨ys, e⟩ := ht x
    exact k _ _ e3 fun q => (n _ q ys).1 (e3.trans (congrArg some e))⟩
/-- of options all or none -/
def seqO {α : Type} : List (Option α) → Option (List α)
  | [] => some []
  | none :: _ => none
  | some x :: r => (seqO r).map (x :: ·)
theorem seqO_some {α : Type} : ∀ (ys : List α), seqO (ys.map some) = some ys
  | [] => rfl
  | y :: r => by rw [List.map_cons, seqO, seqO_some r]; rfl
theorem seqO_none {α : Type} : ∀ {l : List (Option α)}, none ∈ l → seqO l = none
  | none :: _, _ => rfl
  | some x :: r, h => by
    rw [seqO, seqO_none (by simpa using h)]
    rfl
def handAt (takes ws : List Str) (i : Nat) : Option (V × Bool) := match takes[i]?, ws[2 * i]?, ws[2 * i + 1]? with
  | some t, some k, some z => if t = "given" then (if k = "give" ∧ pocketV z ≠ .non then some (pocketV z, true) else none) else (if k = "lend" ∧ placeV z ≠ .non then some (placeV z, false) else none)
  | _, _, _ => none
def handF (takes ws : List Str) : Option (List (V × Bool)) := if ws.length = 2 * takes.length then seqO ((List.range takes.length).map (handAt takes ws)) else none
def sp_handed : Sp := fun vs H Q _ => ∃ (r W tk : Addr) (ws takes : List Str), vs = [.ref r, .ref W, .ref tk] ∧ H W = some (.lst (ws.map V.str)) ∧ TupF H tk (takes.map V.str) ∧ takes.length ≤ 1000 ∧
  (handF takes ws = none → ∀ H', Same H H' → Q .non H') ∧ (∀ ho, handF takes ws = some ho → ∀ (t : Addr) (as : List Addr) (H' : Hp), Same H H' → TupF H' t (as.map V.ref) → Objs H' as hoO ho → Q (.ref t) H')
theorem ok_RowReader_p_handed (T : Txt K mg a) : FnOk P w K mg base CX0 3 a.f_RowReader_p_handed a.d_RowReader_p_handed ["self", "words", "takes"] sp_handed := by
  refine T.F_RowReader_p_handed.ok sc_RowReader_p_handed (fun vs H Q E h => ?_) (fun cdv A outer s H vs Q E hr h => ?_)
  · obtain ⟨r, W, tk, ws, takes, rfl, _⟩ := h
    rfl
  · obtain ⟨r, W, tk, ws, takes, rfl, hW, hT, few, k1, k2⟩ := h
    refine ⟨_, (pss_cons (ps_if (pt_cmpR op_ne (pe_callB call_len_seq (by rfl) T.z_len (by decide +kernel) (pa_cons (pv 1) pa_nil)) (pe_op op_mul pe_int (pe_callB call_len_seq (by rfl) T.z_len (by decide +kernel) (pa_cons (pv 2) pa_nil))) (nomark _)) (pss_one (ps_ret pe_non)) pss_nil)
      (pss_cons (ps_set (i := 3) sc_RowReader_p_handed.nd rfl (Or.inl rfl) (pe_lst pa_nil))
      (pss_cons (ps_for PassesOwn.never rfl (pi_enumT (by rfl) T.z_enumerate (pa_cons (pv 2) pa_nil)) (pg_tup rfl (pgs_cons (pg_name (i := 4) sc_RowReader_p_handed.nd rfl (Or.inl rfl)) (pgs_cons (pg_name (i := 5) sc_RowReader_p_handed.nd rfl (Or.inl rfl)) pgs_nil))) (pss_cons (ps_set (i := 6) sc_RowReader_p_handed.nd rfl (Or.inl rfl) (pe_cmpR op_eq (pv 5) pe_str (nomark _)))
      (pss_cons (ps_set (i := 7) sc_RowReader_p_handed.nd rfl (Or.inl rfl) (pe_ifExp (pt_val (pv 6)) (pe_call (ok_pocket_of T) (hr.mono (by decide)) rfl T.g_pocket_of T.k_pocket_of T.B_pocket_of .nil pass0 (pa_cons (pe_ix ix_list (pv 1) (pe_op op_add (pe_op op_mul pe_int (pv 4)) pe_int) (fun _ _ => rfl)) pa_nil)) (pe_call (ok_place_of T) (hr.mono (by decide)) rfl T.g_place_of T.k_place_of T.B_place_of .nil pass0 (pa_cons (pe_ix ix_list (pv 1) (pe_op op_add (pe_op op_mul pe_int (pv 4)) pe_int) (fun _ _ => rfl)) pa_nil))))
      (pss_cons (ps_if (PW.pt (pw_or (pt_cmpR op_ne (pe_ix ix_list (pv 1) (pe_op op_mul pe_int (pv 4)) (fun _ _ => rfl)) (pe_ifExp (pt_val (pv 6)) pe_str pe_str) (nomark _)) (pw_or1 (pt_cmpR op_isN (pv 7) pe_non (nomark _))))) (pss_one (ps_ret pe_non)) pss_nil)
      (pss_one (ps_expr (pe_bm PySem.F.plainAttrs_list PySem.F.slot_list_append PySem.F.type_list_append mt_append (pv 3) (pa_cons (pe_tup (pa_cons (pv 7) (pa_cons (pv 6) pa_nil))) pa_nil))))))))
      (pss_one (ps_ret (pe_callTy call_tupleF (by rfl) T.z_tuple (by decide +kernel) (pa_cons (pv 3) pa_nil))))))), ?_⟩
    obtain ⟨ob, hob, eT⟩ := id hT
    refine ⟨_, rfl, _, _, rfl, .inl (SqL.of hW), _, rfl, _, _, rfl, .inr hT.seq, _, _, rfl, rfl, .inl ⟨by decide, by decide⟩, rfl, _, rfl, ?_⟩
    rw [List.length_map, List.length_map]
    refine iteNI (fun n => k1 (if_neg fun q => n (by omega)) H (Same.refl H)) (fun e => ?_)
    have el : ws.length = 2 * takes.length := by omega
    refine ⟨by show 0 ≤ sizeLine; decide, fun L hL => ?_⟩
    have hL1 : (upd H L (.lst [])) L = some (.lst []) := upd_same
    have s1 : Same H (upd H L (.lst [])) := (Same.refl H).upd hL
    show gName 3 (.ref L) _ (upd H L (.lst [])) _
    generalize (upd H L (.lst [])) = H1 at s1 hL1 ⊢
    refine ⟨_, rfl, tk, _, rfl, (hT.same s1).seq, ?_⟩
    refine for_it (walk_enumT (K := K) (a := tk) (xs := takes.map V.str)) (fun i σ H2 => Blk (∃ (v4 v5 v6 v7 : Option V) (as : List Addr) (ho : List (V × Bool)), σ = [some (.ref r), some (.ref W), some (.ref tk), some (.ref L), v4, v5, v6, v7] ∧ Same H H2 ∧
      H2 L = some (.lst (as.map V.ref)) ∧ Objs H2 as hoO ho ∧ as.length = i ∧ (List.range i).map (handAt takes ws) = ho.map some)) ?_ ?_ ?_ ?_
    · exact Blk.of ⟨_, _, _, _, [], [], rfl, s1, hL1, ⟨rfl, fun i h x e _ => by cases e⟩, rfl, rfl⟩
    · intro i σ H2 _ hB
      obtain ⟨v4, v5, v6, v7, as, ho, _, s2, _⟩ := hB.out
      exact (hT.same s2).seq
    · intro i y σ H2 H3 hi hB hy
      obtain ⟨v4, v5, v6, v7, as, ho, rfl, s2, hL2, ao, al, eq⟩ := hB.out
      obtain ⟨Tt, u, v, rfl, hTt, rfl, hu, hv⟩ := hy
      obtain rfl := Option.some.inj hu
      obtain ⟨t, ht, rfl⟩ := strs_get hv
      have hil := get_lt ht
      have sT : Same H2 (upd H2 Tt (.tup [.int (i : Nat), .str t])) := (Same.refl H2).upd hTt
      have hT2 : (upd H2 Tt (.tup [.int (i : Nat), .str t])) Tt = some (.tup [.int (i : Nat), .str t]) := upd_same
      generalize (upd H2 Tt (.tup [.int (i : Nat), .str t])) = H3 at sT hT2 ⊢
      have s3 := s2.trans sT
      have hW3 := s3 _ _ hW
      have hL3 := sT _ _ hL2
      refine ⟨Tt, _, rfl, SqT.of hT2, rfl, _, _, rfl, _, _, rfl, rfl, ?_⟩
      obtain ⟨k, hk⟩ : ∃ k, ws[2 * i]? = some k := ⟨_, List.getElem?_eq_getElem (by omega)⟩
      obtain ⟨z, hz⟩ : ∃ z, ws[2 * i + 1]? = some z := ⟨_, List.getElem?_eq_getElem (by omega)⟩
      have ak : atI (ws.map V.str) (2 * (i : Int)) = some (.str k) := at_of (j := 2 * i) (by omega) (by rw [List.getElem?_map, hk]; rfl)
      have az : atI (ws.map V.str) (2 * (i : Int) + 1) = some (.str z) := at_of (j := 2 * i + 1) (by omega) (by rw [List.getElem?_map, hz]; rfl)
      refine ⟨_, rfl, rfl, _, rfl, ?_⟩
      have bad : handAt takes ws i = none → Q .non H3 := fun n => k1 (by
        unfold handF
        rw [if_pos el]
        refine seqO_none ?_
        rw [← n]
        exact List.mem_map_of_mem (List.mem_range.mpr hil)) H3 s3
      have step : ∀ (v : V) (g : Bool) (t2 : Addr), handAt takes ws i = some (v, g) → H3 t2 = none →
          ((upd H3 t2 (.tup [v, .bl g])) L = some (.lst (as.map V.ref))) ∧ Same H (upd (upd H3 t2 (.tup [v, .bl g])) L (.lst (as.map V.ref ++ [.ref t2]))) ∧ (upd (upd H3 t2 (.tup [v, .bl g])) L (.lst (as.map V.ref ++ [.ref t2]))) L = some (.lst ((as ++ [t2]).map V.ref)) ∧
          Objs (upd (upd H3 t2 (.tup [v, .bl g])) L (.lst (as.map V.ref ++ [.ref t2]))) (as ++ [t2]) hoO (ho ++ [(v, g)]) ∧ (as ++ [t2]).length = i + 1 ∧ (List.range (i + 1)).map (handAt takes ws) = (ho ++ [(v, g)]).map some := fun v g t2 e h2 => by
        have nL : L ≠ t2 := ne_of_none hL3 h2
        have hL4 : (upd H3 t2 (.tup [v, .bl g])) L = some (.lst (as.map V.ref)) := (upd_ne nL).trans hL3
        have k : Keeps [L] H3 (upd (upd H3 t2 (.tup [v, .bl g])) L (.lst (as.map V.ref ++ [.ref t2]))) := ((Keeps.refl [L] H3).upd (.inr h2)).upd (.inl (by simp))
        refine ⟨hL4, (s3.upd (s3.free h2)).upd hL, by rw [upd_same, List.map_append]; rfl, ?_, by simp [al], by rw [List.range_succ, List.map_append, List.map_append, eq]; simp [e]⟩
        refine ((ao.same sT).keepT (fun q => ⟨_, rfl⟩) k (NoTup.lst hL3)).snoc ?_
        rw [upd_ne nL.symm, upd_same]
        first | done | rfl
      by_cases hg : t = "given"
      · have dg : decide (V.str t = V.str "given") = true := decide_eq_true (congrArg V.str hg)
        rw [dg]
        refine ⟨true, rfl, ?_⟩
        refine iteT ?_
        refine ⟨_, rfl, _, rfl, _, _, rfl, rfl, .inl ⟨by decide, by decide⟩, _, _, rfl, rfl, _, _, _, _, rfl, rfl, SqL.of hW3, az, z, rfl, ?_⟩
        refine ⟨_, rfl, _, rfl, _, _, rfl, rfl, .inl ⟨by decide, by decide⟩, _, _, _, _, rfl, rfl, SqL.of hW3, ak, ?_⟩
        refine ⟨_, rfl, true, rfl, ?_⟩
        refine iteT ?_
        refine ⟨rfl, _, rfl, ?_⟩
        refine iteNSS (fun n => ?_) (fun ek => ?_)
        · refine bad ?_
          unfold handAt
          rw [ht, hk, hz]
          simp only
          rw [if_pos hg]
          exact if_neg fun q => n q.1
        refine ⟨_, rfl, rfl, _, rfl, ?_⟩
        refine iteD (fun c => ?_) (fun c => ?_)
        · refine bad ?_
          unfold handAt
          rw [ht, hk, hz]
          simp only
          rw [if_pos hg]
          exact if_neg fun q => q.2 c
        have good : handAt takes ws i = some (pocketV z, true) := by
          unfold handAt
          rw [ht, hk, hz]
          simp only
          rw [if_pos hg]
          exact if_pos ⟨ek, c⟩
        refine ⟨_, rfl, .inl ⟨rfl, _, SqL.of hL3⟩, _, rfl, _, rfl, by show 2 ≤ sizeLine; decide, fun t2 ht2 => ?_⟩
        obtain ⟨q1, q2, q3, q4, q5, q6⟩ := step _ _ t2 good ht2
        exact ⟨L, _, _, rfl, rfl, q1, by rw [List.length_map]; exact small (by omega), Blk.of ⟨_, _, _, _, _, _, rfl, q2, q3, q4, q5, q6⟩⟩
      · have dg : decide (V.str t = V.str "given") = false := decide_eq_false fun q => hg (V.str.inj q)
        rw [dg]
        refine ⟨false, rfl, ?_⟩
        refine iteF ?_
        refine ⟨_, rfl, _, rfl, _, _, rfl, rfl, .inl ⟨by decide, by decide⟩, _, _, rfl, rfl, _, _, _, _, rfl, rfl, SqL.of hW3, az, z, rfl, ?_⟩
        refine ⟨_, rfl, _, rfl, _, _, rfl, rfl, .inl ⟨by decide, by decide⟩, _, _, _, _, rfl, rfl, SqL.of hW3, ak, ?_⟩
        refine ⟨_, rfl, false, rfl, ?_⟩
        refine iteF ?_
        refine ⟨rfl, _, rfl, ?_⟩
        refine iteNSS (fun n => ?_) (fun ek => ?_)
        · refine bad ?_
          unfold handAt
          rw [ht, hk, hz]
          simp only
          rw [if_neg hg]
          exact if_neg fun q => n q.1
        refine ⟨_, rfl, rfl, _, rfl, ?_⟩
        refine iteD (fun c => ?_) (fun c => ?_)
        · refine bad ?_
          unfold handAt
          rw [ht, hk, hz]
          simp only
          rw [if_neg hg]
          exact if_neg fun q => q.2 c
        have good : handAt takes ws i = some (placeV z, false) := by
          unfold handAt
          rw [ht, hk, hz]
          simp only
          rw [if_neg hg]
          exact if_pos ⟨ek, c⟩
        refine ⟨_, rfl, .inl ⟨rfl, _, SqL.of hL3⟩, _, rfl, _, rfl, by show 2 ≤ sizeLine; decide, fun t2 ht2 => ?_⟩
        obtain ⟨q1, q2, q3, q4, q5, q6⟩ := step _ _ t2 good ht2
        exact ⟨L, _, _, rfl, rfl, q1, by rw [List.length_map]; exact small (by omega), Blk.of ⟨_, _, _, _, _, _, rfl, q2, q3, q4, q5, q6⟩⟩
    · intro σ H2 hB
      obtain ⟨v4, v5, v6, v7, as, ho, rfl, s2, hL2, ao, al, eq⟩ := hB.out
      rw [List.length_map] at eq
      have e : handF takes ws = some ho := by
        unfold handF
        rw [if_pos el, eq]
        exact seqO_some ho
      refine ⟨_, rfl, L, _, rfl, SqL.of hL2, fun t2 ob2 ht2 hd2 => ?_⟩
      have s4 := s2.upd (o := .frz ob2 (.tup (as.map V.ref))) (s2.free ht2)
      exact k2 ho e t2 as _ s4 ⟨ob2, hd2, upd_same⟩ (ao.same ((Same.refl H2).upd ht2))

open My (Hr wd)
/-! ### what a call catches -/
theorem erase_first : ∀ {es : List Str} {w : Str} {j : Nat}, es[j]? = some w → (∀ m : Nat, m < j → es[m]? ≠ some w) → es.eraseIdx j = es.erase w
  | [], w, j, h, _ => by simp at h
  | e :: r, w, 0, h, _ => by
    obtain rfl := Option.some.inj (show some e = some w from h)
    simp
  | e :: r, w, j + 1, h, no => by
    have ne : e ≠ w := fun q => no 0 (by omega) (congrArg some q)
    have ih := erase_first (es := r) (w := w) (j := j) h fun m hm => no (m + 1) (by omega)
    rw [List.eraseIdx_cons_succ, ih, List.erase_cons_tail (by simpa using ne)]
theorem first_at {es : List Str} {w : Str} (h : w ∈ es) : ∃ j : Nat, es[j]? = some w ∧ ∀ m : Nat, m < j → es[m]? ≠ some w := by
  induction es with
  | nil => cases h
  | cons e r ih =>
    by_cases q : e = w
    · exact ⟨0, congrArg some q, fun m hm => absurd hm (by omega)⟩
    · obtain ⟨j, h1, h2⟩ := ih (by simpa [Ne.symm q] using h)
      refine ⟨j + 1, h1, fun m hm => ?_⟩
      cases m with
      | zero => exact fun z => q (Option.some.inj z)
      | succ m => exact h2 m (by omega)
def catchF (ps : List My.Pr) (i : Int) (many : Nat) : List Str → List Str → Option (List (Str × V × Nat))
  | _, [] => some []
  | _, [_] => none
  | _, [_, _] => none
  | es, k :: w :: z :: r =>
    if k = "on" ∧ w ∈ es then
      if ladenO ps i w = some true then
        match r with
        | [] => none
        | n :: r2 => match numOf many n with
          | none => none
          | some m => if pocketV z = .non then none else (catchF ps i many (es.erase w) r2).map ((w, pocketV z, m) :: ·)
      else match numOf many z with
        | none => none
        | some m => if ladenO ps i w = some false ∧ pocketV z = .non then (catchF ps i many (es.erase w) r).map ((w, pocketV z, m) :: ·) else none
    else none
termination_by _ ws => ws.length
decreasing_by all_goals simp_wf; all_goals (try subst_vars); all_goals (try simp); all_goals omega
section
variable {ps : List My.Pr} {i : Int} {many : Nat} {es : List Str} {k w z n : Str} {r r2 : List Str}
theorem catch_no (h : ¬ (k = "on" ∧ w ∈ es)) : catchF ps i many es (k :: w :: z :: r) = none := by
  rw [catchF.eq_def]
  exact if_neg h
theorem catch_l0 (h : k = "on" ∧ w ∈ es) (l : ladenO ps i w = some true) : catchF ps i many es [k, w, z] = none := by
  rw [catchF.eq_def]
  exact (if_pos h).trans (if_pos l)
theorem catch_l1 (h : k = "on" ∧ w ∈ es) (l : ladenO ps i w = some true) : catchF ps i many es (k :: w :: z :: n :: r2) = (match numOf many n with
    | none => none
    | some m => if pocketV z = .non then none else (catchF ps i many (es.erase w) r2).map ((w, pocketV z, m) :: ·)) := by
  rw [catchF.eq_def]
  exact (if_pos h).trans (if_pos l)
theorem catch_e (h : k = "on" ∧ w ∈ es) (l : ¬ ladenO ps i w = some true) : catchF ps i many es (k :: w :: z :: r) = (match numOf many z with
    | none => none
    | some m => if ladenO ps i w = some false ∧ pocketV z = .non then (catchF ps i many (es.erase w) r).map ((w, pocketV z, m) :: ·) else none) := by
  rw [catchF.eq_def]
  exact (if_pos h).trans (if_neg l)
end
theorem errs_laden {i : Int} {ps : List My.Pr} {y : Hr} (hi : i = 0 ∨ i = 1) (hs : y.side = 0 ∨ y.side = 1) (hth : ∀ t, t ∈ y.throws → t ∈ ps.map (My.wd y.side)) : ∀ t, t ∈ errs i ps y → ∃ b, ladenO ps i t = some b := by
  intro t ht
  have key : t ∈ ps.map (My.wd i) := by
    by_cases e : y.side = i
    · rw [errs_own e] at ht
      rw [← e]
      exact hth t ht
    · rw [errs_other e] at ht
      obtain ⟨u, hu, rfl⟩ := List.mem_map.mp ht
      obtain ⟨q, hq⟩ := pairOf_mem (hth u hu)
      have ei : 1 - y.side = i := by omega
      rw [hq]
      refine List.mem_map.mpr ⟨q, List.mem_of_find?_eq_some hq, ?_⟩
      show wd i q = wd (1 - y.side) q
      rw [ei]
  obtain ⟨q, hq⟩ := pairOf_mem key
  exact ⟨q.2.2, by unfold ladenO; rw [hq]; rfl⟩
theorem pfs_no5 {pl hl : Addr} : (pfs pl hl).lookup ("errors" : Str) = none := by kernel_rfl
def sp_catches (C CP : Addr) : Sp := fun vs H Q _ => ∃ (r p h W : Addr) (many : Nat) (x y : Hr) (ps : List My.Pr) (hs : List Hr) (w : Str) (ws : List Str), vs = [.ref r, .str w, .ref W] ∧ RdrP C CP H r p h many x ps hs ∧ crewOf w hs = some y ∧ H W = some (.lst (ws.map V.str)) ∧ ws.length ≤ 9999 ∧ (∀ z, z ∈ ws → z.length ≤ 9998) ∧
  (y.side = 0 ∨ y.side = 1) ∧ (∀ t, t ∈ y.throws → t ∈ ps.map (My.wd y.side)) ∧ y.throws.length ≤ 10000 ∧
  (catchF ps x.side many (errs x.side ps y) ws = none → ∀ H', Same H H' → Q .non H') ∧ (∀ cs, catchF ps x.side many (errs x.side ps y) ws = some cs → ∀ (t : Addr) (cas : List Addr) (H' : Hp), Same H H' → TupF H' t (cas.map V.ref) → Objs H' cas caO cs → Q (.ref t) H')
theorem ok_RowReader_p_catches (T : Txt K mg a) : FnOk P w K mg base CX0 6 a.f_RowReader_p_catches a.d_RowReader_p_catches ["self", "name", "words"] (sp_catches a.c_RowReader a.c_Pacts) := by
  refine T.F_RowReader_p_catches.ok sc_RowReader_p_catches (fun vs H Q E h => ?_) (fun cdv A outer s H vs Q E hr h => ?_)
  · obtain ⟨r, p, h, W, many, x, y, ps, hs, w, ws, rfl, _⟩ := h
    rfl
  · obtain ⟨r, p, h, W, many, x, y, ps, hs, w, ws, rfl, rp, hy, hW, hl, hz, ysd, yth, yfew, k1, k2⟩ := h
    refine ⟨_, (pss_cons (ps_set (i := 3) sc_RowReader_p_catches.nd rfl (Or.inl rfl) (pe_methN (ks := ["side"]) (pe_fld (pv 0) rfl) T.cl_Pacts T.m_Pacts_errors (ok_Pacts_errors T) (hr.mono (by decide)) T.KN_Pacts_errors_2 (pass0) (pa_cons (pv 1) pa_nil) (pk_cons (pe_ix ix_tup (pe_fld (pv 0) rfl) pe_int (fun _ _ => rfl)) pk_nil)))
      (pss_cons (ps_set (i := 4) sc_RowReader_p_catches.nd rfl (Or.inl rfl) (pe_lst pa_nil))
      (pss_cons (ps_while PassesOwn.never (pt_truth (pv 2) (by intro _; rfl)) (pss_cons (ps_if (PW.pt (pw_or (pt_cmpR op_lt (pe_callB call_len_seq (by rfl) T.z_len (by decide +kernel) (pa_cons (pv 2) pa_nil)) pe_int (nomark _)) (pw_or (pt_cmpR op_ne (pe_ix ix_list (pv 2) pe_int (fun _ _ => rfl)) pe_str (nomark _)) (pw_or1 (pt_cmpR op_notIn_seq (pe_ix ix_list (pv 2) pe_int (fun _ _ => rfl)) (pv 3) (by rfl)))))) (pss_one (ps_ret pe_non)) pss_nil)
      (pss_cons (ps_expr (pe_bm PySem.F.plainAttrs_list PySem.F.slot_list_remove PySem.F.type_list_remove mt_removeS (pv 3) (pa_cons (pe_ix ix_list (pv 2) pe_int (fun _ _ => rfl)) pa_nil)))
      (pss_cons (ps_set (i := 5) sc_RowReader_p_catches.nd rfl (Or.inl rfl) (pe_meth (pv 0) T.cl_RowReader T.m_RowReader_p_laden (ok_RowReader_p_laden T) (hr.mono (by decide)) T.B_RowReader_p_laden .nil pass0 (pa_cons (pe_ix ix_list (pv 2) pe_int (fun _ _ => rfl)) pa_nil)))
      (pss_cons (ps_set (i := 6) sc_RowReader_p_catches.nd rfl (Or.inl rfl) (pe_call (ok_pocket_of T) (hr.mono (by decide)) rfl T.g_pocket_of T.k_pocket_of T.B_pocket_of .nil pass0 (pa_cons (pe_ix ix_list (pv 2) pe_int (fun _ _ => rfl)) pa_nil)))
      (pss_cons (ps_set (i := 7) sc_RowReader_p_catches.nd rfl (Or.inl rfl) (pe_ifExp (pt_val (pv 5)) pe_int pe_int))
      (pss_cons (ps_set (i := 8) sc_RowReader_p_catches.nd rfl (Or.inl rfl) (pe_ifExp (pt_cmpR op_ge (pe_callB call_len_seq (by rfl) T.z_len (by decide +kernel) (pa_cons (pv 2) pa_nil)) (pv 7) (nomark _)) (pe_meth (pv 0) T.cl_RowReader T.m_RowReader_p_row_number (ok_RowReader_p_row_number T) (hr.mono (by decide)) T.B_RowReader_p_row_number .nil pass0 (pa_cons (pe_ix ix_list (pv 2) (pe_op op_sub (pv 7) pe_int) (fun _ _ => rfl)) pa_nil)) pe_non))
      (pss_cons (ps_if (PW.pt (pw_or (pt_cmpR op_isN (pv 8) pe_non (nomark _)) (pw_or1 (pt_cmpR op_ne (pv 5) (pe_cmpR op_notN (pv 6) pe_non (nomark _)) (nomark _))))) (pss_one (ps_ret pe_non)) pss_nil)
      (pss_cons (ps_expr (pe_bm PySem.F.plainAttrs_list PySem.F.slot_list_append PySem.F.type_list_append mt_append (pv 4) (pa_cons (pe_tup (pa_cons (pe_ix ix_list (pv 2) pe_int (fun _ _ => rfl)) (pa_cons (pv 6) (pa_cons (pv 8) pa_nil)))) pa_nil)))
      (pss_one (ps_set (i := 2) sc_RowReader_p_catches.nd rfl (Or.inl rfl) (pe_slice sl_list (pv 2) (po_some (pv 7)) po_none))))))))))))
      (pss_one (ps_ret (pe_callTy call_tupleF (by rfl) T.z_tuple (by decide +kernel) (pa_cons (pv 4) pa_nil))))))), ?_⟩
    obtain ⟨dx, er⟩ := rp.rd.ob
    obtain ⟨tk, th, eh, _, _⟩ := id rp.rd.pt
    obtain ⟨pl, hl2, as, has, pa, cr⟩ := rp.pa
    obtain ⟨dp, ep⟩ := pa.ob
    refine ⟨_, rfl, _, _, _, _, _, rfl, er, T.cl_RowReader, T.n_RowReader__pacts, rfs_p, p, dp, _, rfl, ep, pfs_no5, _, rfl, _, rfl, _, _, _, _, _, rfl, er, T.cl_RowReader, T.n_RowReader__pact, rfs_t, _, _, _, _, rfl, rfl, SqT.of eh, rfl, rfl, ?_⟩
    refine ⟨p, pl, hl2, as, has, ps, hs, w, x.side, y, rfl, pa, cr, hy, ysd, yth, yfew, fun E1 H1 nE1 hE1 s1 => ?_⟩
    refine ⟨by show 0 ≤ sizeLine; decide, fun L hL => ?_⟩
    have sL : Same H1 (upd H1 L (.lst [])) := (Same.refl H1).upd hL
    have hL2 : (upd H1 L (.lst [])) L = some (.lst []) := upd_same
    have hE2 := sL _ _ hE1
    have s2 := s1.trans sL
    have nL0 : H L = none := s1.free hL
    have nEL : E1 ≠ L := ne_of_none hE1 hL
    show gName 4 (.ref L) _ (upd H1 L (.lst [])) _
    generalize (upd H1 L (.lst [])) = H2 at s2 hL2 hE2 ⊢
    have few : (errs x.side ps y).length ≤ 10000 := by
      unfold errs
      split
      · exact yfew
      · rw [List.length_map]; exact yfew
    refine ⟨fun m σ H3 => ∃ (v5 v6 v7 v8 : Option V) (W3 : Addr) (rest es : List Str) (cas : List Addr) (cs : List (Str × V × Nat)), σ = [some (.ref r), some (.str w), some (.ref W3), some (.ref E1), some (.ref L), v5, v6, v7, v8] ∧ m = rest.length ∧ Same H H3 ∧
      H3 W3 = some (.lst (rest.map V.str)) ∧ W3 ≠ E1 ∧ W3 ≠ L ∧ H3 E1 = some (.lst (es.map V.str)) ∧ H3 L = some (.lst (cas.map V.ref)) ∧ Objs H3 cas caO cs ∧ cas.length + rest.length ≤ 9999 ∧ es.length ≤ 10000 ∧ (∀ t, t ∈ es → ∃ b, ladenO ps x.side t = some b) ∧ (∀ z, z ∈ rest → z.length ≤ 9998) ∧
      catchF ps x.side many (errs x.side ps y) ws = (catchF ps x.side many es rest).map (cs ++ ·), ⟨ws.length, _, _, _, _, W, ws, errs x.side ps y, [], [], rfl, rfl, s2, s2 _ _ hW, ne_of_none hW nE1, ne_of_none hW nL0, hE2, hL2, ⟨rfl, fun i h x e _ => by cases e⟩, by simpa using hl, few, errs_laden rp.sd ysd yth, hz, by simp⟩, ?_⟩
    rintro m σ H3 ⟨v5, v6, v7, v8, W3, rest, es, cas, cs, rfl, rfl, s3, hW3, nWE, nWL, hE3, hL3, co, size, few2, told, lens, eq⟩
    refine ⟨_, rfl, _, .inl ⟨_, SqL.of hW3, rfl⟩, ?_⟩
    match rest, hW3, size, lens, eq with
    | [], hW3, size, lens, eq =>
      refine iteF ?_
      have e : catchF ps x.side many (errs x.side ps y) ws = some cs := by
        rw [eq]
        simp [catchF]
      refine ⟨_, rfl, L, _, rfl, SqL.of hL3, fun t2 ob2 ht2 hd2 => ?_⟩
      exact k2 cs e t2 cas _ (s3.upd (s3.free ht2)) ⟨ob2, hd2, upd_same⟩ (co.same ((Same.refl H3).upd ht2))
    | k :: rest, hW3, size, lens, eq =>
      refine iteT ?_
      refine ⟨fun σ H4 => Blk (∃ (v5 v6 v7 v8 : Option V) (W3 : Addr) (rest2 es : List Str) (cas : List Addr) (cs : List (Str × V × Nat)), σ = [some (.ref r), some (.str w), some (.ref W3), some (.ref E1), some (.ref L), v5, v6, v7, v8] ∧ rest2.length < (k :: rest).length ∧ Same H H4 ∧
      H4 W3 = some (.lst (rest2.map V.str)) ∧ W3 ≠ E1 ∧ W3 ≠ L ∧ H4 E1 = some (.lst (es.map V.str)) ∧ H4 L = some (.lst (cas.map V.ref)) ∧ Objs H4 cas caO cs ∧ cas.length + rest2.length ≤ 9999 ∧ es.length ≤ 10000 ∧ (∀ t, t ∈ es → ∃ b, ladenO ps x.side t = some b) ∧ (∀ z, z ∈ rest2 → z.length ≤ 9998) ∧
      catchF ps x.side many (errs x.side ps y) ws = (catchF ps x.side many es rest2).map (cs ++ ·)), fun σ' H' hB => ?_, ?_⟩
      · obtain ⟨v5, v6, v7, v8, W3, rest2, es, cas, cs, e1, e2, e3⟩ := hB.out
        exact ⟨rest2.length, e2, v5, v6, v7, v8, W3, rest2, es, cas, cs, e1, rfl, e3⟩
      have bad : catchF ps x.side many es (k :: rest) = none → ∀ H', Same H H' → Q .non H' := fun n H' s' => k1 (by rw [eq, n]; rfl) H' s'
      refine ⟨_, rfl, _, _, rfl, .inl (SqL.of hW3), _, _, rfl, rfl, _, rfl, ?_⟩
      rw [List.length_map]
      refine iteD (fun c => ?_) (fun c => ?_)
      · refine bad ?_ H3 s3
        match rest, c with
        | [], _ => simp [catchF]
        | [_], _ => simp [catchF]
        | _ :: _ :: _, c => exact absurd (show ((_ : Int) < 3) from c) (by simp; omega)
      obtain ⟨w1, z, r3, rfl⟩ : ∃ w1 z r3, rest = w1 :: z :: r3 := by
        match rest, c with
        | [], c => exact absurd (show (((1 : Nat) : Int) < 3) by decide) c
        | [_], c => exact absurd (show (((2 : Nat) : Int) < 3) by decide) c
        | w1 :: z :: r3, _ => exact ⟨w1, z, r3, rfl⟩
      refine ⟨_, rfl, _, _, _, _, rfl, rfl, SqL.of hW3, at_of (j := 0) rfl rfl, rfl, _, rfl, ?_⟩
      refine iteNSS (fun n => ?_) (fun ek => ?_)
      · refine bad ?_ H3 s3
        exact catch_no fun q => n q.1
      refine ⟨_, rfl, _, _, _, _, rfl, rfl, SqL.of hW3, at_of (j := 1) rfl rfl, _, rfl, _, _, rfl, .inl (SqL.of hE3), rfl, flat_str _, ?_⟩
      refine ⟨_, rfl, ?_⟩
      rw [if_pos rfl, inV_str]
      refine iteB (fun c1 => ?_) (fun c1 => ?_)
      · refine bad (catch_no fun q => ?_) H3 s3
        rw [decide_eq_true q.2] at c1
        cases c1
      have mem : w1 ∈ es := by
        by_cases q : w1 ∈ es
        · exact q
        · rw [decide_eq_false q] at c1
          cases c1
      obtain ⟨j, hj, hno⟩ := first_at mem
      have cond : k = "on" ∧ w1 ∈ es := ⟨ek, mem⟩
      refine ⟨_, rfl, .inl ⟨rfl, _, SqL.of hE3⟩, _, rfl, _, _, _, _, rfl, rfl, SqL.of hW3, at_of (j := 1) rfl rfl, E1, es, w1, j, rfl, rfl, hE3, hj, hno, ?_⟩
      rw [erase_first hj hno]
      have kE : Keeps [E1] H3 (upd H3 E1 (.lst ((es.erase w1).map V.str))) := (Keeps.refl [E1] H3).upd (.inl (by simp))
      have nt := NoTup.lst hE3
      have nE0 : H E1 = none := nE1
      have s4 : Same H (upd H3 E1 (.lst ((es.erase w1).map V.str))) := s3.upd nE0
      have hE4 : (upd H3 E1 (.lst ((es.erase w1).map V.str))) E1 = some (.lst ((es.erase w1).map V.str)) := upd_same
      have hW4 : (upd H3 E1 (.lst ((es.erase w1).map V.str))) W3 = some (.lst ((k :: w1 :: z :: r3).map V.str)) := (upd_ne nWE).trans hW3
      have hL4 : (upd H3 E1 (.lst ((es.erase w1).map V.str))) L = some (.lst (cas.map V.ref)) := (upd_ne nEL.symm).trans hL3
      have co4 : Objs (upd H3 E1 (.lst ((es.erase w1).map V.str))) cas caO cs := co.keepT (fun q => ⟨_, rfl⟩) kE nt
      generalize (upd H3 E1 (.lst ((es.erase w1).map V.str))) = H4 at s4 hE4 hW4 hL4 co4 ⊢
      have rp4 := rp.same s4
      obtain ⟨dx4, er4⟩ := rp4.rd.ob
      have l1 : (rfs p h (many : Nat)).lookup ("_laden" : Str) = none := by kernel_rfl
      have l2 : (rfs p h (many : Nat)).lookup ("_row_number" : Str) = none := by kernel_rfl
      have lw : w1.length ≤ 9998 := lens w1 (by simp)
      refine ⟨_, rfl, r, dx4, _, rfl, er4, l1, _, rfl, _, _, _, _, rfl, rfl, SqL.of hW4, at_of (j := 1) rfl rfl, r, p, h, many, x, ps, hs, w1, rfl, rp4, by omega, fun H5 s5 => ?_⟩
      have hW5 := s5 _ _ hW4
      have hE5 := s5 _ _ hE4
      have hL5 := s5 _ _ hL4
      have co5 := co4.same s5
      have s50 := s4.trans s5
      refine ⟨_, rfl, _, _, _, _, rfl, rfl, SqL.of hW5, at_of (j := 2) rfl rfl, z, rfl, ?_⟩
      obtain ⟨b, eb⟩ := told w1 mem
      cases b with
      | true =>
        rw [eb]
        refine ⟨_, rfl, _, rfl, ?_⟩
        refine iteT ?_
        refine ⟨_, rfl, _, _, rfl, .inl (SqL.of hW5), _, rfl, _, _, rfl, rfl, _, rfl, ?_⟩
        rw [List.length_map]
        refine iteD (fun c => ?_) (fun c => ?_)
        · obtain ⟨n, r4, rfl⟩ : ∃ n r4, r3 = n :: r4 := by
            match r3, c with
            | [], c => exact absurd (show ((4 : Int) ≤ ((3 : Nat) : Int)) from c) (by decide)
            | n :: r4, _ => exact ⟨n, r4, rfl⟩
          have rp5 := rp4.same s5
          obtain ⟨dx5, er5⟩ := rp5.rd.ob
          have ln : n.length ≤ 9998 := lens n (by simp)
          refine ⟨_, rfl, r, dx5, _, rfl, er5, l2, _, rfl, _, rfl, _, _, rfl, rfl, _, _, _, _, rfl, rfl, SqL.of hW5, at_of (j := 3) rfl rfl, r, p, h, many, x, n, rfl, rp5.rd, by rw [sizeLine_eq]; omega, fun H6 s6 => ?_⟩
          have s60 := s50.trans s6
          cases e2 : numOf many n with
          | none =>
            refine ⟨_, rfl, rfl, _, rfl, ?_⟩
            refine iteT (bad ?_ H6 s60)
            rw [catch_l1 cond eb, e2]
          | some m =>
            refine ⟨_, rfl, rfl, _, rfl, ?_⟩
            refine iteF ?_
            refine ⟨_, rfl, _, rfl, rfl, ?_⟩
            refine ⟨rfl, _, rfl, ?_⟩
            by_cases hp : pocketV z = .non
            · rw [decide_eq_true hp, decide_eq_false (show ¬ obV (some true) = V.bl (!true) from fun q => by cases q)]
              refine iteT (bad ?_ H6 s60)
              rw [catch_l1 cond eb, e2]
              exact if_pos hp
            · rw [decide_eq_false hp, decide_eq_true (show obV (some true) = V.bl (!false) from rfl)]
              refine iteF ?_
              have eq2 : catchF ps x.side many es (k :: w1 :: z :: n :: r4) = (catchF ps x.side many (es.erase w1) r4).map ((w1, pocketV z, m) :: ·) := by
                rw [catch_l1 cond eb, e2]
                exact if_neg hp
              have hW6 := s6 _ _ hW5
              have hE6 := s6 _ _ hE5
              have hL6 := s6 _ _ hL5
              have co6 := co5.same s6
              refine ⟨_, rfl, .inl ⟨rfl, _, SqL.of hL6⟩, _, rfl, _, _, _, _, rfl, rfl, SqL.of hW6, at_of (j := 1) rfl rfl, _, rfl, _, rfl, by show 3 ≤ sizeLine; decide, fun t2 ht2 => ?_⟩
              have sT : Same H6 (upd H6 t2 (caO (w1, pocketV z, m))) := (Same.refl H6).upd ht2
              have hT7 : (upd H6 t2 (caO (w1, pocketV z, m))) t2 = some (caO (w1, pocketV z, m)) := upd_same
              show tNil _ (upd H6 t2 (caO (w1, pocketV z, m))) _
              generalize (upd H6 t2 (caO (w1, pocketV z, m))) = H7 at sT hT7 ⊢
              have hW7 := sT _ _ hW6
              have hE7 := sT _ _ hE6
              have hL7 := sT _ _ hL6
              have co7 := co6.same sT
              have s7 := s60.trans sT
              have nT : t2 ≠ L := fun q => by
                subst q
                rw [hL7] at hT7
                cases hT7
              have kL : Keeps [L] H7 (upd H7 L (.lst (cas.map V.ref ++ [.ref t2]))) := (Keeps.refl [L] H7).upd (.inl (by simp))
              have co8 : Objs (upd H7 L (.lst (cas.map V.ref ++ [.ref t2]))) (cas ++ [t2]) caO (cs ++ [(w1, pocketV z, m)]) := (co7.keepT (fun q => ⟨_, rfl⟩) kL (NoTup.lst hL7)).snoc ((upd_ne nT).trans hT7)
              have hW8 : (upd H7 L (.lst (cas.map V.ref ++ [.ref t2]))) W3 = some (.lst ((k :: w1 :: z :: n :: r4).map V.str)) := (upd_ne nWL).trans hW7
              have hE8 : (upd H7 L (.lst (cas.map V.ref ++ [.ref t2]))) E1 = some (.lst ((es.erase w1).map V.str)) := (upd_ne nEL).trans hE7
              have hL8 : (upd H7 L (.lst (cas.map V.ref ++ [.ref t2]))) L = some (.lst ((cas ++ [t2]).map V.ref)) := by rw [upd_same, List.map_append]; rfl
              have s8 : Same H (upd H7 L (.lst (cas.map V.ref ++ [.ref t2]))) := s7.upd nL0
              refine ⟨L, _, _, rfl, rfl, hL7, by rw [List.length_map]; exact small (by omega), ?_⟩
              generalize (upd H7 L (.lst (cas.map V.ref ++ [.ref t2]))) = H8 at co8 hW8 hE8 hL8 s8 ⊢
              refine ⟨_, rfl, _, rfl, 4, rfl, W3, _, rfl, SqL.of hW8, fun D hD => ?_⟩
              rw [show cutV ((k :: w1 :: z :: n :: r4).map V.str) (some 4) none = r4.map V.str from cutV_from ((k :: w1 :: z :: n :: r4).map V.str) 4]
              have sD : Same H8 (upd H8 D (.lst (r4.map V.str))) := (Same.refl H8).upd hD
              refine Blk.of ⟨_, _, _, _, D, r4, es.erase w1, cas ++ [t2], cs ++ [(w1, pocketV z, m)], rfl, by simp; omega, s8.trans sD, upd_same, (ne_of_none hE8 hD).symm, (ne_of_none hL8 hD).symm, sD _ _ hE8, sD _ _ hL8, co8.same sD, ?_, ?_, fun t ht => told t (List.mem_of_mem_erase ht), fun z' hz' => lens z' (by simp [hz']), ?_⟩
              · simp at size ⊢; omega
              · exact Nat.le_trans List.length_erase_le few2
              · rw [eq, eq2]
                cases catchF ps x.side many (es.erase w1) r4 with
                | none => rfl
                | some q => simp
        · obtain rfl : r3 = [] := by
            match r3, c with
            | [], _ => rfl
            | n :: r4, c => exact absurd (show (4 : Int) ≤ (((k :: w1 :: z :: n :: r4).length : Nat) : Int) by simp; omega) c
          refine ⟨_, rfl, rfl, _, rfl, ?_⟩
          refine iteT (bad ?_ H5 s50)
          exact catch_l0 cond eb
      | false =>
        rw [eb]
        refine ⟨_, rfl, _, rfl, ?_⟩
        refine iteF ?_
        refine ⟨_, rfl, _, _, rfl, .inl (SqL.of hW5), _, rfl, _, _, rfl, rfl, _, rfl, ?_⟩
        rw [List.length_map]
        refine iteD (fun c => ?_) (fun c => ?_)
        · have nl : ¬ ladenO ps x.side w1 = some true := fun q => by rw [eb] at q; cases q
          have rp5 := rp4.same s5
          obtain ⟨dx5, er5⟩ := rp5.rd.ob
          have ln : z.length ≤ 9998 := lens z (by simp)
          refine ⟨_, rfl, r, dx5, _, rfl, er5, l2, _, rfl, _, rfl, _, _, rfl, rfl, _, _, _, _, rfl, rfl, SqL.of hW5, at_of (j := 2) rfl rfl, r, p, h, many, x, z, rfl, rp5.rd, by rw [sizeLine_eq]; omega, fun H6 s6 => ?_⟩
          have s60 := s50.trans s6
          cases e2 : numOf many z with
          | none =>
            refine ⟨_, rfl, rfl, _, rfl, ?_⟩
            refine iteT (bad ?_ H6 s60)
            rw [catch_e cond nl, e2]
          | some m =>
            refine ⟨_, rfl, rfl, _, rfl, ?_⟩
            refine iteF ?_
            refine ⟨_, rfl, _, rfl, rfl, ?_⟩
            refine ⟨rfl, _, rfl, ?_⟩
            by_cases hp : pocketV z = .non
            · rw [decide_eq_true hp, decide_eq_true (show obV (some false) = V.bl (!true) from rfl)]
              refine iteF ?_
              have eq2 : catchF ps x.side many es (k :: w1 :: z :: r3) = (catchF ps x.side many (es.erase w1) r3).map ((w1, pocketV z, m) :: ·) := by
                rw [catch_e cond nl, e2]
                exact if_pos ⟨eb, hp⟩
              have hW6 := s6 _ _ hW5
              have hE6 := s6 _ _ hE5
              have hL6 := s6 _ _ hL5
              have co6 := co5.same s6
              refine ⟨_, rfl, .inl ⟨rfl, _, SqL.of hL6⟩, _, rfl, _, _, _, _, rfl, rfl, SqL.of hW6, at_of (j := 1) rfl rfl, _, rfl, _, rfl, by show 3 ≤ sizeLine; decide, fun t2 ht2 => ?_⟩
              have sT : Same H6 (upd H6 t2 (caO (w1, pocketV z, m))) := (Same.refl H6).upd ht2
              have hT7 : (upd H6 t2 (caO (w1, pocketV z, m))) t2 = some (caO (w1, pocketV z, m)) := upd_same
              show tNil _ (upd H6 t2 (caO (w1, pocketV z, m))) _
              generalize (upd H6 t2 (caO (w1, pocketV z, m))) = H7 at sT hT7 ⊢
              have hW7 := sT _ _ hW6
              have hE7 := sT _ _ hE6
              have hL7 := sT _ _ hL6
              have co7 := co6.same sT
              have s7 := s60.trans sT
              have nT : t2 ≠ L := fun q => by
                subst q
                rw [hL7] at hT7
                cases hT7
              have kL : Keeps [L] H7 (upd H7 L (.lst (cas.map V.ref ++ [.ref t2]))) := (Keeps.refl [L] H7).upd (.inl (by simp))
              have co8 : Objs (upd H7 L (.lst (cas.map V.ref ++ [.ref t2]))) (cas ++ [t2]) caO (cs ++ [(w1, pocketV z, m)]) := (co7.keepT (fun q => ⟨_, rfl⟩) kL (NoTup.lst hL7)).snoc ((upd_ne nT).trans hT7)
              have hW8 : (upd H7 L (.lst (cas.map V.ref ++ [.ref t2]))) W3 = some (.lst ((k :: w1 :: z :: r3).map V.str)) := (upd_ne nWL).trans hW7
              have hE8 : (upd H7 L (.lst (cas.map V.ref ++ [.ref t2]))) E1 = some (.lst ((es.erase w1).map V.str)) := (upd_ne nEL).trans hE7
              have hL8 : (upd H7 L (.lst (cas.map V.ref ++ [.ref t2]))) L = some (.lst ((cas ++ [t2]).map V.ref)) := by rw [upd_same, List.map_append]; rfl
              have s8 : Same H (upd H7 L (.lst (cas.map V.ref ++ [.ref t2]))) := s7.upd nL0
              refine ⟨L, _, _, rfl, rfl, hL7, by rw [List.length_map]; exact small (by omega), ?_⟩
              generalize (upd H7 L (.lst (cas.map V.ref ++ [.ref t2]))) = H8 at co8 hW8 hE8 hL8 s8 ⊢
              refine ⟨_, rfl, _, rfl, 3, rfl, W3, _, rfl, SqL.of hW8, fun D hD => ?_⟩
              rw [show cutV ((k :: w1 :: z :: r3).map V.str) (some 3) none = r3.map V.str from cutV_from ((k :: w1 :: z :: r3).map V.str) 3]
              have sD : Same H8 (upd H8 D (.lst (r3.map V.str))) := (Same.refl H8).upd hD
              refine Blk.of ⟨_, _, _, _, D, r3, es.erase w1, cas ++ [t2], cs ++ [(w1, pocketV z, m)], rfl, by simp; omega, s8.trans sD, upd_same, (ne_of_none hE8 hD).symm, (ne_of_none hL8 hD).symm, sD _ _ hE8, sD _ _ hL8, co8.same sD, ?_, ?_, fun t ht => told t (List.mem_of_mem_erase ht), fun z' hz' => lens z' (by simp [hz']), ?_⟩
              · simp at size ⊢; omega
              · exact Nat.le_trans List.length_erase_le few2
              · rw [eq, eq2]
                cases catchF ps x.side many (es.erase w1) r3 with
                | none => rfl
                | some q => simp
            · rw [decide_eq_false hp, decide_eq_false (show ¬ obV (some false) = V.bl (!false) from fun q => by cases q)]
              refine iteT (bad ?_ H6 s60)
              rw [catch_e cond nl, e2]
              exact if_neg fun q => hp q.2
        · exact absurd (show (3 : Int) ≤ (((k :: w1 :: z :: r3).length : Nat) : Int) by simp; omega) c

open My (Hr wd)
/-! ### a call -/
def callF (hs : List Hr) (ps : List My.Pr) (i : Int) (many : Nat) (r : List Str) : Option Stp := match r with
  | [] => none
  | n :: r2 => match crewOf n hs with
    | none => none
    | some y => match handF y.takes (r2.take (2 * y.takes.length)) with
      | none => none
      | some ho => if y.gives = (!decide (toV ((r2.drop (2 * y.takes.length)).take 2) = .non)) then
          (catchF ps i many (errs i ps y) (r2.drop (2 * y.takes.length + (if y.gives = true then 2 else 0)))).map fun cs => .call n ho (toV ((r2.drop (2 * y.takes.length)).take 2)) cs
        else none
theorem crew_mem {n : Str} {hs : List Hr} {y : Hr} (h : crewOf n hs = some y) : y ∈ hs ∧ y.name = n := ⟨List.mem_of_find?_eq_some h, by simpa using List.find?_some h⟩
theorem pact_parts {x : Hr} (h : My.pactB x = true) : (x.side = 0 ∨ x.side = 1) ∧ x.takes.length ≤ 3 ∧ x.throws.length ≤ 4 := by
  unfold My.pactB at h
  simp only [Bool.and_eq_true] at h
  obtain ⟨⟨⟨_, h2⟩, h3⟩, h4⟩ := h
  unfold My.takesB at h3
  unfold My.throwsB at h4
  unfold My.sideB at h2
  simp at h2 h3 h4
  exact ⟨h2, h3.1, h4.1⟩
def sp_call (C CP : Addr) : Sp := fun vs H Q _ => ∃ (r p h W : Addr) (many : Nat) (x : Hr) (ps : List My.Pr) (hs : List Hr) (w0 : Str) (ws : List Str), vs = [.ref r, .ref W] ∧ RdrP C CP H r p h many x ps hs ∧ H W = some (.lst ((w0 :: ws).map V.str)) ∧ ws.length ≤ 9990 ∧ (∀ z, z ∈ ws → z.length ≤ 9998) ∧ StepOut (callF hs ps x.side many ws) H Q
theorem ok_RowReader_p_call (T : Txt K mg a) : FnOk P w K mg base CX0 7 a.f_RowReader_p_call a.d_RowReader_p_call ["self", "words"] (sp_call a.c_RowReader a.c_Pacts) := by
  refine T.F_RowReader_p_call.ok sc_RowReader_p_call (fun vs H Q E h => ?_) (fun cdv A outer s H vs Q E hr h => ?_)
  · obtain ⟨r, p, h, W, many, x, ps, hs, w0, ws, rfl, _⟩ := h
    rfl
  · obtain ⟨r, p, h, W, many, x, ps, hs, w0, ws, rfl, rp, hW, hl, hz, o1, o2⟩ := h
    refine ⟨_, (pss_cons (ps_set (i := 2) sc_RowReader_p_call.nd rfl (Or.inl rfl) (pe_ifExp (pt_cmpR op_gt (pe_callB call_len_seq (by rfl) T.z_len (by decide +kernel) (pa_cons (pv 1) pa_nil)) pe_int (nomark _)) (pe_meth (pv 0) T.cl_RowReader T.m_RowReader_p_called (ok_RowReader_p_called T) (hr.mono (by decide)) T.B_RowReader_p_called .nil pass0 (pa_cons (pe_ix ix_list (pv 1) pe_int (fun _ _ => rfl)) pa_nil)) pe_non))
      (pss_cons (ps_if (pt_cmpR op_isN (pv 2) pe_non (nomark _)) (pss_one (ps_ret pe_non)) pss_nil)
      (pss_cons (ps_asg (pv 2) (pg_tup (by rfl) (pgs_cons (pg_name (i := 3) sc_RowReader_p_call.nd rfl (Or.inl rfl)) (pgs_cons (pg_name (i := 4) sc_RowReader_p_call.nd rfl (Or.inl rfl)) (pgs_cons (pg_name (i := 5) sc_RowReader_p_call.nd rfl (Or.inl rfl)) (pgs_cons (pg_name (i := 6) sc_RowReader_p_call.nd rfl (Or.inl rfl)) (pgs_cons (pg_name (i := 4) sc_RowReader_p_call.nd rfl (Or.inl rfl)) pgs_nil)))))))
      (pss_cons (ps_set (i := 7) sc_RowReader_p_call.nd rfl (Or.inl rfl) (pe_op op_add pe_int (pe_op op_mul pe_int (pe_callB call_len_seq (by rfl) T.z_len (by decide +kernel) (pa_cons (pv 5) pa_nil)))))
      (pss_cons (ps_set (i := 8) sc_RowReader_p_call.nd rfl (Or.inl rfl) (pe_meth (pv 0) T.cl_RowReader T.m_RowReader_p_handed (ok_RowReader_p_handed T) (hr.mono (by decide)) T.B_RowReader_p_handed .nil pass0 (pa_cons (pe_slice sl_list (pv 1) (po_some pe_int) (po_some (pv 7))) (pa_cons (pv 5) pa_nil))))
      (pss_cons (ps_set (i := 9) sc_RowReader_p_call.nd rfl (Or.inl rfl) (pe_meth (pv 0) T.cl_RowReader T.m_RowReader_p_to (ok_RowReader_p_to T) (hr.mono (by decide)) T.B_RowReader_p_to .nil pass0 (pa_cons (pe_slice sl_list (pv 1) (po_some (pv 7)) (po_some (pe_op op_add (pv 7) pe_int))) pa_nil)))
      (pss_cons (ps_if (PW.pt (pw_or (pt_cmpR op_isN (pv 8) pe_non (nomark _)) (pw_or1 (pt_cmpR op_ne (pv 6) (pe_cmpR op_notN (pv 9) pe_non (nomark _)) (nomark _))))) (pss_one (ps_ret pe_non)) pss_nil)
      (pss_cons (ps_set (i := 10) sc_RowReader_p_call.nd rfl (Or.inl rfl) (pe_meth (pv 0) T.cl_RowReader T.m_RowReader_p_catches (ok_RowReader_p_catches T) (hr.mono (by decide)) T.B_RowReader_p_catches .nil pass0 (pa_cons (pv 3) (pa_cons (pe_ifExp (pt_val (pv 6)) (pe_slice sl_list (pv 1) (po_some (pe_op op_add (pv 7) pe_int)) po_none) (pe_slice sl_list (pv 1) (po_some (pv 7)) po_none)) pa_nil))))
      (pss_one (ps_ret (pe_ifExp (pt_cmpR op_isN (pv 10) pe_non (nomark _)) pe_non (pe_tup (pa_cons pe_str (pa_cons (pv 3) (pa_cons (pv 8) (pa_cons (pv 9) (pa_cons (pv 10) pa_nil))))))))))))))))), ?_⟩
    obtain ⟨dx, er⟩ := rp.rd.ob
    have l1 : (rfs p h (many : Nat)).lookup ("_called" : Str) = none := by kernel_rfl
    have l2 : (rfs p h (many : Nat)).lookup ("_handed" : Str) = none := by kernel_rfl
    have l3 : (rfs p h (many : Nat)).lookup ("_to" : Str) = none := by kernel_rfl
    have l4 : (rfs p h (many : Nat)).lookup ("_catches" : Str) = none := by kernel_rfl
    refine ⟨_, rfl, _, _, rfl, .inl (SqL.of hW), _, _, rfl, rfl, _, rfl, ?_⟩
    match ws, hl, hz, hW, o1, o2 with
    | [], _, _, hW, o1, _ =>
      refine iteD (fun q => absurd (show (1 : Int) < 1 from q) (by decide)) (fun _ => ?_)
      refine ⟨_, rfl, rfl, _, rfl, ?_⟩
      exact iteT (o1 rfl H (Same.refl H))
    | n :: r2, hl, hz, hW, o1, o2 =>
      refine iteD (fun _ => ?_) (fun q => absurd (show (1 : Int) < (((w0 :: n :: r2).map V.str).length : Nat) by simp; omega) q)
      have hn := hz n (by simp)
      refine ⟨_, rfl, r, dx, _, rfl, er, l1, _, rfl, _, _, _, _, rfl, rfl, SqL.of hW, at_of (j := 1) rfl rfl, r, p, h, many, x, ps, hs, n, rfl, rp, by omega, fun e H1 s1 => ?_, fun y ey t H1 s1 ht => ?_⟩
      · refine ⟨_, rfl, rfl, _, rfl, ?_⟩
        refine iteT (o1 ?_ H1 s1)
        unfold callF
        simp only [e]
      · refine ⟨_, rfl, rfl, _, rfl, ?_⟩
        refine iteF ?_
        obtain ⟨ym, yn⟩ := crew_mem ey
        obtain ⟨yp, yth⟩ := rp.ok.one y ym
        obtain ⟨ysd, y3, y4⟩ := pact_parts yp
        obtain ⟨tk, th, eh, ttk, tth⟩ := id ht
        refine ⟨_, rfl, t, _, rfl, SqT.of eh, rfl, ?_⟩
        refine ⟨_, _, rfl, _, _, rfl, _, _, rfl, _, _, rfl, _, _, rfl, rfl, ?_⟩
        refine ⟨_, rfl, _, _, rfl, .inr ttk.seq, _, _, rfl, rfl, .inl ⟨by decide, by decide⟩, _, _, rfl, rfl, ?_⟩
        have eb : (2 : Int) + 2 * (((y.takes.map V.str).length : Nat) : Int) = ((2 + 2 * y.takes.length : Nat) : Int) := by rw [List.length_map]; omega
        show gName 7 (V.int ((2 : Int) + 2 * (((y.takes.map V.str).length : Nat) : Int))) _ _ _
        rw [eb]
        have hW1 := s1 _ _ hW
        have rp1 := rp.same s1
        obtain ⟨dx1, er1⟩ := rp1.rd.ob
        refine ⟨_, rfl, r, dx1, _, rfl, er1, l2, ?_⟩
        refine ⟨_, rfl, 2, rfl, _, rfl, _, rfl, W, _, rfl, SqL.of hW1, fun D hD => ?_⟩
        have ec : cutV ((w0 :: n :: r2).map V.str) (some 2) (some ((2 + 2 * y.takes.length : Nat) : Int)) = (r2.take (2 * y.takes.length)).map V.str := by
          have := cutV_mid ((w0 :: n :: r2).map V.str) 2 (2 + 2 * y.takes.length)
          rw [show 2 + 2 * y.takes.length - 2 = 2 * y.takes.length by omega] at this
          rw [List.map_take]
          exact this
        rw [ec]
        have sD : Same H1 (upd H1 D (.lst ((r2.take (2 * y.takes.length)).map V.str))) := (Same.refl H1).upd hD
        have hD1 : (upd H1 D (.lst ((r2.take (2 * y.takes.length)).map V.str))) D = some (.lst ((r2.take (2 * y.takes.length)).map V.str)) := upd_same
        show tCons (tVar 5) tNil _ (upd H1 D (.lst ((r2.take (2 * y.takes.length)).map V.str))) _
        generalize (upd H1 D (.lst ((r2.take (2 * y.takes.length)).map V.str))) = H2 at sD hD1 ⊢
        have s2 := s1.trans sD
        have ec2 : cutV ((w0 :: n :: r2).map V.str) (some ((2 + 2 * y.takes.length : Nat) : Int)) (some (((2 + 2 * y.takes.length : Nat) : Int) + 2)) = ((r2.drop (2 * y.takes.length)).take 2).map V.str := by
          have := cutV_mid ((w0 :: n :: r2).map V.str) (2 + 2 * y.takes.length) (2 + 2 * y.takes.length + 2)
          rw [show 2 + 2 * y.takes.length + 2 - (2 + 2 * y.takes.length) = 2 by omega] at this
          rw [List.map_take, List.map_drop]
          refine Eq.trans ?_ (this.trans ?_)
          · rfl
          · rw [show 2 + 2 * y.takes.length = 2 * y.takes.length + 1 + 1 by omega]
            rfl
        refine ⟨_, rfl, r, D, tk, _, y.takes, rfl, hD1, ttk.same sD, by omega, fun e H3 s3 => ?_, fun ho e t3 as3 H3 s3 hT3 ao3 => ?_⟩
        · have s30 := s2.trans s3
          obtain ⟨dx3, er3⟩ := (rp.same s30).rd.ob
          refine ⟨_, rfl, r, dx3, _, rfl, er3, l3, _, rfl, _, rfl, _, rfl, _, rfl, _, _, rfl, rfl, _, rfl, W, _, rfl, SqL.of (s30 _ _ hW), fun D2 hD2 => ?_⟩
          rw [ec2]
          refine ⟨r, D2, _, rfl, upd_same, ?_⟩
          refine ⟨_, rfl, rfl, _, rfl, ?_⟩
          refine iteT (o1 ?_ _ (s30.upd (s30.free hD2)))
          unfold callF
          simp only [ey, e]
        · have s30 := s2.trans s3
          obtain ⟨dx3, er3⟩ := (rp.same s30).rd.ob
          refine ⟨_, rfl, r, dx3, _, rfl, er3, l3, _, rfl, _, rfl, _, rfl, _, rfl, _, _, rfl, rfl, _, rfl, W, _, rfl, SqL.of (s30 _ _ hW), fun D2 hD2 => ?_⟩
          rw [ec2]
          refine ⟨r, D2, _, rfl, upd_same, ?_⟩
          refine ⟨_, rfl, rfl, _, rfl, ?_⟩
          refine iteF ?_
          have s4 := s30.upd (o := .lst (((r2.drop (2 * y.takes.length)).take 2).map V.str)) (s30.free hD2)
          have s34 : Same H3 (upd H3 D2 (.lst (((r2.drop (2 * y.takes.length)).take 2).map V.str))) := (Same.refl H3).upd hD2
          generalize (upd H3 D2 (.lst (((r2.drop (2 * y.takes.length)).take 2).map V.str))) = H4 at s4 s34 ⊢
          have eF : callF hs ps x.side many (n :: r2) = if y.gives = (!decide (toV ((r2.drop (2 * y.takes.length)).take 2) = .non)) then
              (catchF ps x.side many (errs x.side ps y) (r2.drop (2 * y.takes.length + (if y.gives = true then 2 else 0)))).map fun cs => .call n ho (toV ((r2.drop (2 * y.takes.length)).take 2)) cs
            else none := by
            unfold callF
            simp only [ey, e]
          refine ⟨_, rfl, _, rfl, rfl, rfl, _, rfl, ?_⟩
          by_cases hg : y.gives = (!decide (toV ((r2.drop (2 * y.takes.length)).take 2) = .non))
          · rw [decide_eq_true (congrArg V.bl hg)]
            refine iteF ?_
            obtain ⟨dx4, er4⟩ := (rp.same s4).rd.ob
            refine ⟨_, rfl, r, dx4, _, rfl, er4, l4, _, rfl, _, rfl, ?_⟩
            cases hgv : y.gives with
            | true =>
              refine ⟨true, rfl, ?_⟩
              refine iteT ?_
              have ec3 : cutV ((w0 :: n :: r2).map V.str) (some (((2 + 2 * y.takes.length : Nat) : Int) + 2)) none = (r2.drop (2 * y.takes.length + 2)).map V.str := by
                have := cutV_from ((w0 :: n :: r2).map V.str) (2 + 2 * y.takes.length + 2)
                rw [List.map_drop]
                refine Eq.trans ?_ (this.trans ?_)
                · rfl
                · rw [show 2 + 2 * y.takes.length + 2 = 2 * y.takes.length + 2 + 1 + 1 by omega]
                  rfl
              refine ⟨_, rfl, _, rfl, _, _, rfl, rfl, _, rfl, W, _, rfl, SqL.of (s4 _ _ hW), fun D3 hD3 => ?_⟩
              rw [ec3]
              have s5 := s4.upd (o := .lst ((r2.drop (2 * y.takes.length + 2)).map V.str)) (s4.free hD3)
              have s35 : Same H3 (upd H4 D3 (.lst ((r2.drop (2 * y.takes.length + 2)).map V.str))) := s34.trans ((Same.refl H4).upd hD3)
              have hD5 : (upd H4 D3 (.lst ((r2.drop (2 * y.takes.length + 2)).map V.str))) D3 = some (.lst ((r2.drop (2 * y.takes.length + 2)).map V.str)) := upd_same
              generalize (upd H4 D3 (.lst ((r2.drop (2 * y.takes.length + 2)).map V.str))) = H5 at s5 s35 hD5 ⊢
              have ey2 : crewOf y.name hs = some y := by rw [yn]; exact ey
              refine ⟨r, p, h, D3, many, x, y, ps, hs, y.name, _, rfl, rp.same s5, ey2, hD5, by rw [List.length_drop]; simp at hl; omega, fun z' hz' => hz z' (List.mem_cons_of_mem _ (List.mem_of_mem_drop hz')), ysd, yth, by omega, fun e3 H6 s6 => ?_, fun cs e3 t6 cas H6 s6 hT6 co6 => ?_⟩
              · refine ⟨_, rfl, rfl, _, rfl, ?_⟩
                refine iteT (o1 ?_ H6 (s5.trans s6))
                rw [eF, if_pos hg]
                simp only [hgv]
                show Option.map _ (catchF ps x.side many (errs x.side ps y) (r2.drop (2 * y.takes.length + 2))) = none
                rw [e3]
                rfl
              · refine ⟨_, rfl, rfl, _, rfl, ?_⟩
                refine iteF ?_
                refine ⟨_, rfl, _, rfl, _, rfl, _, rfl, by show 5 ≤ sizeLine; decide, fun t7 ht7 => ?_⟩
                have s67 : Same H6 (upd H6 t7 (.tup [.str "call", .str y.name, .ref t3, toV ((r2.drop (2 * y.takes.length)).take 2), .ref t6])) := (Same.refl H6).upd ht7
                refine o2 (.call n ho (toV ((r2.drop (2 * y.takes.length)).take 2)) cs) ?_ t7 _ ((s5.trans s6).trans s67) ?_
                · rw [eF, if_pos hg]
                  simp only [hgv]
                  show Option.map _ (catchF ps x.side many (errs x.side ps y) (r2.drop (2 * y.takes.length + 2))) = _
                  rw [e3]
                  rfl
                · have sB := (s35.trans s6).trans s67
                  refine ⟨t3, t6, as3, cas, ?_, hT3.same sB, hT6.same s67, ao3.same sB, co6.same s67⟩
                  rw [← yn]
                  exact upd_same
            | false =>
              refine ⟨false, rfl, ?_⟩
              refine iteF ?_
              have ec3 : cutV ((w0 :: n :: r2).map V.str) (some (((2 + 2 * y.takes.length : Nat) : Int))) none = (r2.drop (2 * y.takes.length)).map V.str := by
                have := cutV_from ((w0 :: n :: r2).map V.str) (2 + 2 * y.takes.length)
                rw [List.map_drop]
                refine Eq.trans ?_ (this.trans ?_)
                · rfl
                · rw [show 2 + 2 * y.takes.length = 2 * y.takes.length + 1 + 1 by omega]
                  rfl
              refine ⟨_, rfl, _, rfl, _, rfl, W, _, rfl, SqL.of (s4 _ _ hW), fun D3 hD3 => ?_⟩
              rw [ec3]
              have s5 := s4.upd (o := .lst ((r2.drop (2 * y.takes.length)).map V.str)) (s4.free hD3)
              have s35 : Same H3 (upd H4 D3 (.lst ((r2.drop (2 * y.takes.length)).map V.str))) := s34.trans ((Same.refl H4).upd hD3)
              have hD5 : (upd H4 D3 (.lst ((r2.drop (2 * y.takes.length)).map V.str))) D3 = some (.lst ((r2.drop (2 * y.takes.length)).map V.str)) := upd_same
              generalize (upd H4 D3 (.lst ((r2.drop (2 * y.takes.length)).map V.str))) = H5 at s5 s35 hD5 ⊢
              have ey2 : crewOf y.name hs = some y := by rw [yn]; exact ey
              refine ⟨r, p, h, D3, many, x, y, ps, hs, y.name, _, rfl, rp.same s5, ey2, hD5, by rw [List.length_drop]; simp at hl; omega, fun z' hz' => hz z' (List.mem_cons_of_mem _ (List.mem_of_mem_drop hz')), ysd, yth, by omega, fun e3 H6 s6 => ?_, fun cs e3 t6 cas H6 s6 hT6 co6 => ?_⟩
              · refine ⟨_, rfl, rfl, _, rfl, ?_⟩
                refine iteT (o1 ?_ H6 (s5.trans s6))
                rw [eF, if_pos hg]
                simp only [hgv]
                show Option.map _ (catchF ps x.side many (errs x.side ps y) (r2.drop (2 * y.takes.length))) = none
                rw [e3]
                rfl
              · refine ⟨_, rfl, rfl, _, rfl, ?_⟩
                refine iteF ?_
                refine ⟨_, rfl, _, rfl, _, rfl, _, rfl, by show 5 ≤ sizeLine; decide, fun t7 ht7 => ?_⟩
                have s67 : Same H6 (upd H6 t7 (.tup [.str "call", .str y.name, .ref t3, toV ((r2.drop (2 * y.takes.length)).take 2), .ref t6])) := (Same.refl H6).upd ht7
                refine o2 (.call n ho (toV ((r2.drop (2 * y.takes.length)).take 2)) cs) ?_ t7 _ ((s5.trans s6).trans s67) ?_
                · rw [eF, if_pos hg]
                  simp only [hgv]
                  show Option.map _ (catchF ps x.side many (errs x.side ps y) (r2.drop (2 * y.takes.length))) = _
                  rw [e3]
                  rfl
                · have sB := (s35.trans s6).trans s67
                  refine ⟨t3, t6, as3, cas, ?_, hT3.same sB, hT6.same s67, ao3.same sB, co6.same s67⟩
                  rw [← yn]
                  exact upd_same
          · rw [decide_eq_false fun q => hg (V.bl.inj q)]
            refine iteT (o1 ?_ H4 s4)
            rw [eF, if_neg hg]

open My (Hr)
def pockRows : List Str := ["make", "free", "clear", "forget", "put", "take"]
def rowF (hs : List Hr) (ps : List My.Pr) (x : Hr) (at_ many : Nat) (w : Str) (r : List Str) : Option Stp :=
  if w ∈ pockRows then pocketRowF w r else if w = "use" then useF r else if w = "move" then moveF r else if w = "pick" ∨ w = "go" then jumpF w at_ many r else
  if w = "throw" then throwF ps x.side r else if w = "done" then doneF x.gives r else if w = "call" then callF hs ps x.side many r else none
def sp_step (C CP : Addr) : Sp := fun vs H Q _ => ∃ (r p h W : Addr) (many i : Nat) (x : Hr) (ps : List My.Pr) (hs : List Hr) (w0 : Str) (ws : List Str), vs = [.ref r, .int (i : Nat), .ref W] ∧ RdrP C CP H r p h many x ps hs ∧ H W = some (.lst ((w0 :: ws).map V.str)) ∧ ws.length ≤ 9990 ∧ (∀ z, z ∈ ws → z.length ≤ 9998) ∧
  StepOut (rowF hs ps x i many w0 ws) H Q
theorem ok_RowReader_step (T : Txt K mg a) : FnOk P w K mg base CX0 8 a.f_RowReader_step a.d_RowReader_step ["self", "at", "words"] (sp_step a.c_RowReader a.c_Pacts) := by
  refine T.F_RowReader_step.ok sc_RowReader_step (fun vs H Q E h => ?_) (fun cdv A outer s H vs Q E hr h => ?_)
  · obtain ⟨r, p, h, W, many, i, x, ps, hs, w0, ws, rfl, _⟩ := h
    rfl
  · obtain ⟨r, p, h, W, many, i, x, ps, hs, w0, ws, rfl, rp, hW, hl, hz, out⟩ := h
    refine ⟨_, (pss_cons (ps_set (i := 3) sc_RowReader_step.nd rfl (Or.inl rfl) (pe_ix ix_list (pv 2) pe_int (fun _ _ => rfl)))
      (pss_cons (ps_if (pt_cmpR op_in_seq (pv 3) (pe_glob (v := .ref a.t_POCKET_ROWS) rfl T.v_POCKET_ROWS rfl) (by rfl)) (pss_one (ps_ret (pe_meth (pv 0) T.cl_RowReader T.m_RowReader_p_pocket_row (ok_RowReader_p_pocket_row T) (hr.mono (by decide)) T.B_RowReader_p_pocket_row .nil pass0 (pa_cons (pv 2) pa_nil)))) pss_nil)
      (pss_cons (ps_if (pt_cmpR op_eq (pv 3) pe_str (nomark _)) (pss_one (ps_ret (pe_meth (pv 0) T.cl_RowReader T.m_RowReader_p_use (ok_RowReader_p_use T) (hr.mono (by decide)) T.B_RowReader_p_use .nil pass0 (pa_cons (pv 2) pa_nil)))) pss_nil)
      (pss_cons (ps_if (pt_cmpR op_eq (pv 3) pe_str (nomark _)) (pss_one (ps_ret (pe_meth (pv 0) T.cl_RowReader T.m_RowReader_p_move (ok_RowReader_p_move T) (hr.mono (by decide)) T.B_RowReader_p_move .nil pass0 (pa_cons (pv 2) pa_nil)))) pss_nil)
      (pss_cons (ps_if (pt_cmpR op_in_seq (pv 3) (pe_tup (pa_cons pe_str (pa_cons pe_str pa_nil))) (by rfl)) (pss_one (ps_ret (pe_meth (pv 0) T.cl_RowReader T.m_RowReader_p_jump (ok_RowReader_p_jump T) (hr.mono (by decide)) T.B_RowReader_p_jump .nil pass0 (pa_cons (pv 1) (pa_cons (pv 2) pa_nil))))) pss_nil)
      (pss_cons (ps_if (pt_cmpR op_eq (pv 3) pe_str (nomark _)) (pss_one (ps_ret (pe_meth (pv 0) T.cl_RowReader T.m_RowReader_p_throw (ok_RowReader_p_throw T) (hr.mono (by decide)) T.B_RowReader_p_throw .nil pass0 (pa_cons (pv 2) pa_nil)))) pss_nil)
      (pss_cons (ps_if (pt_cmpR op_eq (pv 3) pe_str (nomark _)) (pss_one (ps_ret (pe_meth (pv 0) T.cl_RowReader T.m_RowReader_p_done (ok_RowReader_p_done T) (hr.mono (by decide)) T.B_RowReader_p_done .nil pass0 (pa_cons (pv 2) pa_nil)))) pss_nil)
      (pss_cons (ps_if (pt_cmpR op_eq (pv 3) pe_str (nomark _)) (pss_one (ps_ret (pe_meth (pv 0) T.cl_RowReader T.m_RowReader_p_call (ok_RowReader_p_call T) (hr.mono (by decide)) T.B_RowReader_p_call .nil pass0 (pa_cons (pv 2) pa_nil)))) pss_nil)
      (pss_one (ps_ret pe_non)))))))))), ?_⟩
    have rd := rp.rd
    have hz2 : ∀ z, z ∈ ws → z.length ≤ sizeLine := fun z q => Nat.le_trans (hz z q) (by rw [sizeLine_eq]; decide)
    obtain ⟨dx, er⟩ := rd.ob
    have tP : ∀ H, SqT K H a.t_POCKET_ROWS (pockRows.map V.str) := T.q_POCKET_ROWS
    have l1 : (rfs p h (many : Nat)).lookup ("_pocket_row" : Str) = none := by kernel_rfl
    have l2 : (rfs p h (many : Nat)).lookup ("_use" : Str) = none := by kernel_rfl
    have l3 : (rfs p h (many : Nat)).lookup ("_jump" : Str) = none := by kernel_rfl
    have l5 : (rfs p h (many : Nat)).lookup ("_move" : Str) = none := by kernel_rfl
    have l6 : (rfs p h (many : Nat)).lookup ("_throw" : Str) = none := by kernel_rfl
    have l7 : (rfs p h (many : Nat)).lookup ("_call" : Str) = none := by kernel_rfl
    have l4 : (rfs p h (many : Nat)).lookup ("_done" : Str) = none := by kernel_rfl
    refine ⟨_, rfl, _, _, _, _, rfl, rfl, SqL.of hW, at_of (j := 0) rfl rfl, ?_⟩
    refine ⟨_, rfl, _, _, rfl, .inr (tP H), rfl, flat_str _, ?_⟩
    refine ⟨_, rfl, ?_⟩
    rw [if_neg Bool.false_ne_true, inV_str]
    unfold rowF at out
    refine iteD (fun c => ?_) (fun c => ?_)
    · rw [if_pos c] at out
      exact ⟨_, rfl, r, dx, _, rfl, er, l1, _, rfl, r, W, w0, ws, rfl, hW, by omega, out⟩
    rw [if_neg c] at out
    refine ⟨_, rfl, rfl, _, rfl, ?_⟩
    refine iteSS (fun e => ?_) (fun e => ?_)
    · rw [if_pos e] at out
      exact ⟨_, rfl, r, dx, _, rfl, er, l2, _, rfl, r, W, w0, ws, rfl, hW, by omega, out⟩
    rw [if_neg e] at out
    refine ⟨_, rfl, rfl, _, rfl, ?_⟩
    refine iteSS (fun e => ?_) (fun e => ?_)
    · rw [if_pos e] at out
      exact ⟨_, rfl, r, dx, _, rfl, er, l5, _, rfl, r, W, w0, ws, rfl, hW, by omega, out⟩
    rw [if_neg e] at out
    refine ⟨_, rfl, by show 2 ≤ sizeLine; decide, fun t ht => ?_⟩
    have sT : Same H (upd H t (.tup ((["pick", "go"] : List Str).map V.str))) := (Same.refl H).upd ht
    have hT : (upd H t (.tup ((["pick", "go"] : List Str).map V.str))) t = some (.tup ((["pick", "go"] : List Str).map V.str)) := upd_same
    show rIn _ false (.str w0) (.ref t) (upd H t (.tup ((["pick", "go"] : List Str).map V.str))) _
    generalize (upd H t (.tup ((["pick", "go"] : List Str).map V.str))) = H1 at sT hT ⊢
    refine ⟨_, _, rfl, .inr (SqT.of hT), rfl, flat_str _, ?_⟩
    refine ⟨_, rfl, ?_⟩
    rw [if_neg Bool.false_ne_true, inV_str]
    have er1 := sT _ _ er
    have hW1 := sT _ _ hW
    have rd1 := rd.same sT
    have out1 := out.from sT
    have mem : w0 ∈ (["pick", "go"] : List Str) ↔ (w0 = "pick" ∨ w0 = "go") := by simp
    refine iteD (fun c2 => ?_) (fun c2 => ?_)
    · rw [if_pos (mem.mp c2)] at out1
      exact ⟨_, rfl, r, dx, _, rfl, er1, l3, _, rfl, _, rfl, r, p, h, W, many, i, x, w0, ws, rfl, rd1, hW1, by omega, hz2, out1⟩
    rw [if_neg (fun q => c2 (mem.mpr q))] at out1
    refine ⟨_, rfl, rfl, _, rfl, ?_⟩
    have rp1 := rp.same sT
    refine iteSS (fun e => ?_) (fun e => ?_)
    · rw [if_pos e] at out1
      exact ⟨_, rfl, r, dx, _, rfl, er1, l6, _, rfl, r, p, h, W, many, x, ps, hs, w0, ws, rfl, rp1, hW1, by omega, (fun z q => Nat.le_trans (hz z q) (by decide)), out1⟩
    rw [if_neg e] at out1
    refine ⟨_, rfl, rfl, _, rfl, ?_⟩
    refine iteSS (fun e => ?_) (fun e => ?_)
    · rw [if_pos e] at out1
      exact ⟨_, rfl, r, dx, _, rfl, er1, l4, _, rfl, r, p, h, W, many, x, w0, ws, rfl, rd1, hW1, by omega, out1⟩
    rw [if_neg e] at out1
    refine ⟨_, rfl, rfl, _, rfl, ?_⟩
    refine iteSS (fun e => ?_) (fun e => ?_)
    · rw [if_pos e] at out1
      exact ⟨_, rfl, r, dx, _, rfl, er1, l7, _, rfl, r, p, h, W, many, x, ps, hs, w0, ws, rfl, rp1, hW1, hl, hz, out1⟩
    rw [if_neg e] at out1
    exact out1.1 rfl H1 (Same.refl H1)

open My (Hr)
/-! ### a body that is none -/
def sp_nobody (C : Addr) : Sp := fun vs H Q _ => ∃ (e : Addr) (w : Str) (n : Int), vs = [.ref e, .str w, .int n] ∧ H e = some (exo e C none) ∧ w.length ≤ 40000 ∧ n.natAbs.log2 < 1920 ∧
  ∀ (d : Addr) (H' : Hp), H d = none → d ≠ e → H' e = some (exo e C (some d)) → H' d = some (exd d [("at", .int n), ("name", .str w)]) → Keeps [e] H H' → Q .non H'
theorem ok_NoBody_init (T : Txt K mg a) : FnOk P w K mg base CX0 1 a.f_NoBody_init a.d_NoBody_init ["self", "name", "at"] (sp_nobody a.c_NoBody) := by
  refine T.F_NoBody_init.ok sc_NoBody_init (fun vs H Q E h => ?_) (fun cdv A outer s H vs Q E hr h => ?_)
  · obtain ⟨e, w, n, rfl, _⟩ := h
    rfl
  · obtain ⟨e, w, n, rfl, he, hw, hn, kk⟩ := h
    refine ⟨_, (pss_cons (ps_expr (pe_midInit T.md_PactError (by rfl) T.g_PactError (pa_cons (pv 0) (pa_cons (pe_joined (.cons pe_str (.cons (pe_fmt (pv 1)) (.cons pe_str (.cons (pe_fmt (pv 2)) .nil))))) pa_nil))))
      (pss_cons (ps_ost (pv 0) (pv 1) rfl)
      (pss_one (ps_ost (pv 0) (pv 2) rfl)))), ?_⟩
    have tl := PyProof.Rows.int_text_len_1921 hn
    refine ⟨_, rfl, _, rfl, by rw [sizeLine_eq]; decide +kernel, ?_⟩
    refine ⟨_, rfl, .inl ⟨w, rfl, by rw [sizeLine_eq]; omega, ?_⟩⟩
    have e0 : (Str.empty ++ "no body of " : Str).length = 11 := by decide +kernel
    have e1 : (": wrong at " : Str).length = 11 := by decide +kernel
    refine ⟨_, rfl, by rw [strLen_append, e0, sizeLine_eq]; omega, ?_⟩
    refine ⟨_, rfl, by rw [strLen_append, strLen_append, e0, e1, sizeLine_eq]; omega, ?_⟩
    refine ⟨_, rfl, .inr ⟨n, rfl, hn, ?_⟩⟩
    refine ⟨_, rfl, by rw [strLen_append, strLen_append, strLen_append, e0, e1, sizeLine_eq]; omega, ?_⟩
    refine ⟨e, a.c_NoBody, _, rfl, by show 1 ≤ 1000; decide, T.x_NoBody, he, ?_⟩
    refine ⟨_, rfl, _, rfl, e, a.c_NoBody, rfl, T.x_NoBody, T.n_NoBody_name, .inl ⟨he, fun d hd nd => ?_⟩⟩
    have e2 : (upd (upd H d (exd d [("name", .str w)])) e (exo e a.c_NoBody (some d))) d = some (exd d [("name", .str w)]) := by rw [upd_ne nd, upd_same]
    have e3 : (upd (upd H d (exd d [("name", .str w)])) e (exo e a.c_NoBody (some d))) e = some (exo e a.c_NoBody (some d)) := upd_same
    have k1 : Keeps [e] H (upd (upd H d (exd d [("name", .str w)])) e (exo e a.c_NoBody (some d))) := ((Keeps.refl [e] H).upd (.inr hd)).upd (.inl (by simp))
    generalize (upd (upd H d (exd d [("name", .str w)])) e (exo e a.c_NoBody (some d))) = H1 at e2 e3 k1 ⊢
    refine ⟨_, rfl, _, rfl, e, a.c_NoBody, rfl, T.x_NoBody, T.n_NoBody_at, .inr ⟨d, _, e3, e2, by show 1 ≤ 900; decide, ?_⟩⟩
    exact kk d _ hd nd (by rw [upd_ne nd.symm]; exact e3) upd_same (k1.upd (.inr hd))
def OutB (CN : Addr) (R : List Addr) (w : Str) (n : Int) (H : Hp) (E : XK) : Prop := ∀ (d : Addr) (H' : Hp), Keeps R H H' → H d = none → H' d = some (.xd [("at", .int n), ("name", .str w)]) → E (.ref CN) (some d) H'
theorem outB_from {CN : Addr} {R R' : List Addr} {w : Str} {n : Int} {H H1 : Hp} {E : XK} (k : ∀ (H2 : Hp), Keeps R' H1 H2 → Keeps R H H2) (f : ∀ x, H1 x = none → H x = none) (h : OutB CN R w n H E) : OutB CN R' w n H1 E := fun d H' kp hd e => h d H' (k H' kp) (f d hd) e
theorem mk_nobody {C : Addr} {H : Hp} {R : List Addr} {w : Str} {n : Int} {E : XK} {σ : L2.St} {tk : TA} (hw : w.length ≤ 40000) (hn : n.natAbs.log2 < 1920)
    (ht : ∀ Q : List V → Hp → Prop, Q [.str w, .int n] H → tk σ H Q) (kk : OutB C R w n H E) :
    tMkO C (sp_nobody C) [] tk σ H (fun cls d H' => E cls d H') := by
  refine ht _ ⟨by show 2 ≤ 1000; decide, fun e he => ?_⟩
  refine ⟨e, w, n, rfl, upd_same, hw, hn, fun d H2 hd nde h1 h2 kp => ⟨rfl, d, _, h1, h2, ?_, ?_⟩⟩
  · exact (upd_ne nde).symm.trans hd
  · have hd1 : H d = none := (upd_ne nde).symm.trans hd
    refine kk d _ (fun c o ec nr => ?_) hd1 upd_same
    have n1 : c ≠ e := ne_of_none ec he
    have n2 : c ≠ d := ne_of_none ec hd1
    rw [upd_ne n2, del_ne n1]
    exact kp c o ((upd_ne n1).trans ec) (by simp [n1])

open My (Hr)
/-! ### rows read -/
def rowAt (hs : List Hr) (ps : List My.Pr) (x : Hr) (i many : Nat) (line : Str) : Option Stp := match My.cut 32 line with
  | w :: r => rowF hs ps x i many w r
  | [] => none
def rowX (hs : List Hr) (ps : List My.Pr) (x : Hr) (most many i : Nat) (line : Str) : Option Stp := if i = most then none else rowAt hs ps x i many line
def FirstBad (hs : List Hr) (ps : List My.Pr) (x : Hr) (most : Nat) (lines : List Str) (i : Nat) : Prop := (∃ l, lines[i]? = some l ∧ rowX hs ps x most lines.length i l = none) ∧ ∀ (j : Nat) (l : Str), j < i → lines[j]? = some l → rowX hs ps x most lines.length j l ≠ none
def AllGood (hs : List Hr) (ps : List My.Pr) (x : Hr) (most : Nat) (lines : List Str) : Prop := ∀ (j : Nat) (l : Str), lines[j]? = some l → rowX hs ps x most lines.length j l ≠ none
def LastIs (hs : List Hr) (ps : List My.Pr) (x : Hr) (most : Nat) (lines : List Str) (b : Bool) : Prop := ∃ l st, lines[lines.length - 1]? = some l ∧ rowX hs ps x most lines.length (lines.length - 1) l = some st ∧ st.ends = b
/-- the steps of the rows, each where it stands -/
def StepsAt (hs : List Hr) (ps : List My.Pr) (x : Hr) (most : Nat) (lines : List Str) (H : Hp) (ts : List Addr) : Prop := ts.length = lines.length ∧ ∀ (j : Nat) (l : Str), lines[j]? = some l → ∃ st tt, rowX hs ps x most lines.length j l = some st ∧ ts[j]? = some tt ∧ StpAt H tt st
theorem StpAt.keepT {H H' : Hp} {R : List Addr} {t : Addr} {st : Stp} (h : StpAt H t st) (k : Keeps R H H') (n : NoTup H R) : StpAt H' t st := by
  have off : ∀ {a : Addr} {ys : List V}, H a = some (.tup ys) → H' a = some (.tup ys) := fun {a ys} e => k _ _ e fun q => (n _ q ys).1 e
  have offF : ∀ {a : Addr} {ys : List V}, TupF H a ys → TupF H' a ys := fun {a ys} ⟨o, ho, e⟩ => ⟨o, ho, k _ _ e fun q => (n _ q ys).2 o e⟩
  cases st with
  | act hd vs => exact off h
  | call nm ho to cs =>
    obtain ⟨a1, a2, a3, a4, e1, e2, e3, e4, e5⟩ := h
    exact ⟨a1, a2, a3, a4, off e1, offF e2, offF e3, e4.keepT (fun q => ⟨_, rfl⟩) k n, e5.keepT (fun q => ⟨_, rfl⟩) k n⟩
def Stp.head : Stp → Str
  | .act hd _ => hd
  | .call _ _ _ _ => "call"
theorem Stp.ends_iff (st : Stp) : st.ends = true ↔ st.head = "end" := by
  cases st with
  | act hd vs => exact decide_eq_true_iff
  | call a b c d => exact ⟨fun q => (by cases q), fun q => absurd (show ("call" : Str) = "end" from q) (by decide +kernel)⟩
theorem StpAt.tup {H : Hp} {t : Addr} {st : Stp} (h : StpAt H t st) : ∃ vs, H t = some (.tup (.str st.head :: vs)) := by
  cases st with
  | act hd vs => exact ⟨_, h⟩
  | call nm ho to cs =>
    obtain ⟨a1, a2, a3, a4, e1, _⟩ := h
    exact ⟨_, e1⟩
def sp_read_rows (CB CP : Addr) : Sp := fun vs H Q E => ∃ (p pl hl L : Addr) (as has : List Addr) (ps : List My.Pr) (hs : List Hr) (w : Str) (x : Hr) (lines : List Str) (most : Nat), vs = [.ref p, .str w, .ref L, .int (most : Nat)] ∧ PactsAt CP H p pl hl as ps ∧ CrewAt H hl has hs ∧ My.CrewOk ps hs ∧ crewOf w hs = some x ∧ w.length ≤ 1000 ∧
  H L = some (.lst (lines.map V.str)) ∧ lines ≠ [] ∧ lines.length ≤ 10000 ∧ (∀ l, l ∈ lines → l.length ≤ 9990) ∧
  (∀ i, FirstBad hs ps x most lines i → OutB CB [] w (i : Nat) H E) ∧ (AllGood hs ps x most lines → LastIs hs ps x most lines false → OutB CB [] w ((lines.length - 1 : Nat) : Int) H E) ∧
  (AllGood hs ps x most lines → LastIs hs ps x most lines true → ∀ (t : Addr) (ts : List Addr) (H' : Hp), Same H H' → TupF H' t (ts.map V.ref) → StepsAt hs ps x most lines H' ts → Q (.ref t) H')
theorem blank_eq : (" " : Str) = ⟨#[32]⟩ := by decide +kernel
theorem brk_eq : ("\n" : Str) = ⟨#[10]⟩ := by decide +kernel
theorem keeps_same {H H1 H2 : Hp} {p : Addr} (s : Same H H1) (k : Keeps [p] H1 H2) (hp : H p = none) : Same H H2 := fun c o e => k c o (s c o e) (by
  intro z
  simp at z
  subst z
  rw [hp] at e
  cases e)
theorem ok_read_rows (T : Txt K mg a) : FnOk P w K mg base (L2.CX P w) 9 a.f_read_rows a.d_read_rows ["pacts", "name", "texts", "most"] (sp_read_rows a.c_NoBody a.c_Pacts) := by
  refine T.F_read_rows.okX sc_read_rows (fun vs H Q E h => ?_) (fun cdv A outer s H vs Q E hr h => ?_)
  · obtain ⟨p, pl, hl, L, as, has, ps, hs, w, x, lines, most, rfl, _⟩ := h
    rfl
  · obtain ⟨p, pl, hl, L, as, has, ps, hs, w, x, lines, most, rfl, pa, cr, cok, hx, hw, hL, ne, few, fine, kb, ke, kg⟩ := h
    refine ⟨_, (pss_cons (ps_set (i := 4) sc_read_rows.nd rfl (Or.inl rfl) (pe_make T.mk_RowReader (ok_RowReader_init T) (hr.mono (by decide)) rfl T.g_RowReader T.B_RowReader_init .nil pass0 (pa_cons (pv 0) (pa_cons (pv 1) (pa_cons (pe_callB call_len_seq (by rfl) T.z_len (by decide +kernel) (pa_cons (pv 2) pa_nil)) pa_nil)))))
      (pss_cons (ps_set (i := 5) sc_read_rows.nd rfl (Or.inl rfl) (pe_lst pa_nil))
      (pss_cons (ps_for (passes_of rfl) rfl (pi_enum (by rfl) T.z_enumerate (pa_cons (pv 2) pa_nil)) (pg_tup rfl (pgs_cons (pg_name (i := 6) sc_read_rows.nd rfl (Or.inl rfl)) (pgs_cons (pg_name (i := 7) sc_read_rows.nd rfl (Or.inl rfl)) pgs_nil))) (pss_cons (ps_set (i := 8) sc_read_rows.nd rfl (Or.inl rfl) (pe_meth (pv 4) T.cl_RowReader T.m_RowReader_step (ok_RowReader_step T) (hr.mono (by decide)) T.B_RowReader_step .nil pass0 (pa_cons (pv 6) (pa_cons (pe_split (pv 7) pe_str) pa_nil))))
      (pss_cons (ps_if (PW.pt (pw_or (pt_cmpR op_eq (pv 6) (pv 3) (nomark _)) (pw_or1 (pt_cmpR op_isN (pv 8) pe_non (nomark _))))) (pss_one (ps_raise rfl (W := fun cls d _ H => E cls d H) (takes_of rfl rfl rfl rfl) (pmk_oex T.x_NoBody T.xi_NoBody T.xt_NoBody (ok_NoBody_init T) (hr.mono (by decide)) T.B_NoBody_init .nil pass0 (by rfl) T.g_NoBody (pa_cons (pv 1) (pa_cons (pv 6) pa_nil))))) pss_nil)
      (pss_one (ps_expr (pe_bm PySem.F.plainAttrs_list PySem.F.slot_list_append PySem.F.type_list_append mt_append (pv 5) (pa_cons (pv 8) pa_nil)))))))
      (pss_cons (ps_if (pt_cmpR op_ne (pe_ix ix_tup (pe_ix ix_list (pv 5) (pe_un un_neg pe_int) (fun _ _ => rfl)) pe_int (fun _ _ => rfl)) pe_str (nomark _)) (pss_one (ps_raise rfl (W := fun cls d _ H => E cls d H) (takes_of rfl rfl rfl rfl) (pmk_oex T.x_NoBody T.xi_NoBody T.xt_NoBody (ok_NoBody_init T) (hr.mono (by decide)) T.B_NoBody_init .nil pass0 (by rfl) T.g_NoBody (pa_cons (pv 1) (pa_cons (pe_op op_sub (pe_callB call_len_seq (by rfl) T.z_len (by decide +kernel) (pa_cons (pv 5) pa_nil)) pe_int) pa_nil))))) pss_nil)
      (pss_one (ps_ret (pe_callTy call_tupleF (by rfl) T.z_tuple (by decide +kernel) (pa_cons (pv 5) pa_nil)))))))), ?_⟩
    refine ⟨_, rfl, _, rfl, _, rfl, _, _, rfl, .inl (SqL.of hL), fun r dx nr ndx nex => ?_⟩
    have el : ((lines.map V.str).length : Int) = ((lines.length : Nat) : Int) := by rw [List.length_map]
    rw [el]
    have s1 : Same H (upd (upd H dx (.own r)) r (.ins a.c_RowReader dx [])) := ((Same.refl H).upd ndx).upd nr
    have er1 : (upd (upd H dx (.own r)) r (.ins a.c_RowReader dx [])) r = some (.ins a.c_RowReader dx []) := upd_same
    show sp_Rinit _ _ _ (upd (upd H dx (.own r)) r (.ins a.c_RowReader dx [])) _ _
    generalize (upd (upd H dx (.own r)) r (.ins a.c_RowReader dx [])) = H1 at s1 er1 ⊢
    refine ⟨r, dx, p, pl, hl, as, has, ps, hs, w, x, lines.length, rfl, er1, pa.same s1, cr.same s1, hx, few, fun h H2 rd kp => ⟨rfl, ?_⟩⟩
    have s2 : Same H H2 := keeps_same s1 kp nr
    have rp2 : RdrP a.c_RowReader a.c_Pacts H2 r p h lines.length x ps hs := ⟨rd, ⟨pl, hl, as, has, pa.same s2, cr.same s2⟩, (pact_parts (cok.one x (crew_mem hx).1).1).1, cok⟩
    refine ⟨by show 0 ≤ sizeLine; decide, fun S hS => ?_⟩
    have hLS : L ≠ S := ne_of_none (s2 _ _ hL) hS
    have s3 : Same H (upd H2 S (.lst [])) := s2.upd (s2.free hS)
    have rd3 : RdrP a.c_RowReader a.c_Pacts (upd H2 S (.lst [])) r p h lines.length x ps hs := rp2.same ((Same.refl H2).upd hS)
    have hS3 : (upd H2 S (.lst [])) S = some (.lst []) := upd_same
    have hS0 : H S = none := s2.free hS
    show gName 5 (.ref S) _ (upd H2 S (.lst [])) _
    generalize (upd H2 S (.lst [])) = H3 at s3 rd3 hS3 ⊢
    have hL3 := s3 _ _ hL
    refine ⟨_, rfl, L, _, rfl, SqL.of hL3, ?_⟩
    refine for_it (walk_enum (K := K) (a := L) (xs := lines.map V.str)) (fun i σ H4 => Blk (∃ (v6 v7 v8 : Option V) (ts : List Addr), σ = [some (.ref p), some (.str w), some (.ref L), some (.int (most : Nat)), some (.ref r), some (.ref S), v6, v7, v8] ∧ Same H H4 ∧ RdrP a.c_RowReader a.c_Pacts H4 r p h lines.length x ps hs ∧
      H4 S = some (.lst (ts.map V.ref)) ∧ ts.length = i ∧ (∀ (j : Nat) (l : Str), j < i → lines[j]? = some l → rowX hs ps x most lines.length j l ≠ none) ∧
      (∀ (j : Nat) (l : Str), j < i → lines[j]? = some l → ∃ st tt, rowX hs ps x most lines.length j l = some st ∧ ts[j]? = some tt ∧ StpAt H4 tt st))) ?_ ?_ ?_ ?_
    · exact Blk.of ⟨_, _, _, [], rfl, s3, rd3, hS3, rfl, fun j l hj => absurd hj (Nat.not_lt_zero j), fun j l hj => absurd hj (Nat.not_lt_zero j)⟩
    · intro i σ H4 _ hB
      obtain ⟨v6, v7, v8, ts, _, s4, _⟩ := hB.out
      exact SqL.of (s4 _ _ hL)
    · intro i y σ H4 H5 hi hB hy
      obtain ⟨v6, v7, v8, ts, rfl, s4, rd4, hS4, tl, good, last⟩ := hB.out
      obtain ⟨Tt, u, v, rfl, hT, rfl, hu, hv⟩ := hy
      obtain rfl := Option.some.inj hu
      obtain ⟨line, hline, rfl⟩ := strs_get hv
      have hil := get_lt hline
      have ll := fine line (List.mem_of_getElem? hline)
      have sT : Same H4 (upd H4 Tt (.tup [.int (i : Nat), .str line])) := (Same.refl H4).upd hT
      have hT2 : (upd H4 Tt (.tup [.int (i : Nat), .str line])) Tt = some (.tup [.int (i : Nat), .str line]) := upd_same
      show _
      generalize (upd H4 Tt (.tup [.int (i : Nat), .str line])) = H5 at sT hT2 ⊢
      have rd5 := rd4.same sT
      have s5 := s4.trans sT
      have hS5 := sT _ _ hS4
      refine ⟨Tt, _, rfl, SqT.of hT2, rfl, _, _, rfl, _, _, rfl, rfl, ?_⟩
      obtain ⟨dr, er5⟩ := rd5.rd.ob
      have pn : (rfs p h (lines.length : Nat)).lookup ("step" : Str) = none := by kernel_rfl
      have zl := sizeLine_eq
      refine ⟨_, rfl, r, dr, _, rfl, er5, pn, _, rfl, _, rfl, ⟨_, rfl⟩, line, " ", rfl, rfl, by decide +kernel, by omega, fun W hW => ?_⟩
      rw [blank_eq]
      have hws2 : (upd H5 W (.lst ((My.cut 32 line).map V.str))) W = some (.lst ((My.cut 32 line).map V.str)) := upd_same
      have sW : Same H5 (upd H5 W (.lst ((My.cut 32 line).map V.str))) := (Same.refl H5).upd hW
      show sp_step _ _ _ (upd H5 W (.lst ((My.cut 32 line).map V.str))) _ E0
      generalize (upd H5 W (.lst ((My.cut 32 line).map V.str))) = H6 at hws2 sW ⊢
      have rd6 := rd5.same sW
      have s6 := s5.trans sW
      have hS6 := sW _ _ hS5
      obtain ⟨w0, ws, ew⟩ : ∃ w0 ws, My.cut 32 line = w0 :: ws := by
        cases e : My.cut 32 line with
        | nil => exact absurd e (My.cut_ne (by decide) line)
        | cons a b => exact ⟨a, b, rfl⟩
      have er : rowAt hs ps x i lines.length line = rowF hs ps x i lines.length w0 ws := by unfold rowAt; rw [ew]
      have many := My.cut_many (c := 32) (by decide) line
      have lens : ∀ z, z ∈ My.cut 32 line → z.length ≤ line.length := fun z hz => My.cut_len (by decide) hz
      rw [ew] at hws2 many lens
      rw [List.length_cons] at many
      have bad : rowX hs ps x most lines.length i line = none → OutB a.c_NoBody [] w (i : Nat) H E := fun e => kb i ⟨⟨line, hline, e⟩, good⟩
      have raise : ∀ (H7 : Hp) (v8' : V), Same H H7 → rowX hs ps x most lines.length i line = none →
          tMkO a.c_NoBody (sp_nobody a.c_NoBody) [] (tCons (tVar 1) (tCons (tVar 6) tNil)) [some (.ref p), some (.str w), some (.ref L), some (.int (most : Nat)), some (.ref r), some (.ref S), some (.int (i : Nat)), some (.str line), some v8'] H7 (fun cls d H' => E cls d H') := fun H7 v8' s7 e => by
        refine mk_nobody (R := []) (w := w) (n := (i : Nat)) (by omega) (numT_log (by omega)) ?_ (outB_from (R := []) (H := H) (fun H8 k => Keeps.trans (fun c o z _ => s7 c o z) k) (fun z e => s7.free e) (bad e))
        intro Q q
        exact ⟨_, rfl, _, rfl, q⟩
      refine ⟨r, p, h, W, lines.length, i, x, ps, hs, w0, ws, rfl, rd6, hws2, by omega, fun z hz => by have := lens z (List.mem_cons_of_mem _ hz); omega, fun e H7 s7 => ?_, fun b e t H7 s7 hst => ?_⟩
      · have e' : rowX hs ps x most lines.length i line = none := by
          unfold rowX
          split
          · rfl
          · rw [er, e]
        refine ⟨_, rfl, _, rfl, rfl, _, rfl, ?_⟩
        refine iteII (fun _ => iteT (raise H7 .non (s6.trans s7) e')) (fun _ => ?_)
        refine ⟨_, rfl, rfl, _, rfl, ?_⟩
        exact iteT (raise H7 .non (s6.trans s7) e')
      · obtain ⟨vs, hT7⟩ := hst.tup
        refine ⟨_, rfl, _, rfl, rfl, _, rfl, ?_⟩
        refine iteII (fun em => iteT (raise H7 (.ref t) (s6.trans s7) (if_pos (by exact Int.ofNat.inj em)))) (fun nm => ?_)
        have er2 : rowX hs ps x most lines.length i line = some b := by
          unfold rowX
          rw [if_neg (fun q => nm (by rw [q])), er, e]
        refine ⟨_, rfl, rfl, _, rfl, ?_⟩
        refine iteF ?_
        have hS7 := s7 _ _ hS6
        have nS7 : t ≠ S := fun q => by subst q; rw [hS7] at hT7; cases hT7
        have kS : Keeps [S] H7 (upd H7 S (.lst (ts.map V.ref ++ [.ref t]))) := (Keeps.refl [S] H7).upd (.inl (by simp))
        refine ⟨_, rfl, .inl ⟨rfl, _, SqL.of hS7⟩, _, rfl, S, _, _, rfl, rfl, hS7, by rw [List.length_map]; exact small (by omega), ?_⟩
        refine Blk.of ⟨_, _, _, ts ++ [t], rfl, (s6.trans s7).upd hS0, ?_, ?_, by simp [tl], fun j l hj hl' => ?_, fun j l hj hl' => ?_⟩
        · have rp7 := rd6.same s7
          obtain ⟨dr7, er7⟩ := rp7.rd.ob
          obtain ⟨pl7, hl7, as7, has7, pa7, cr7⟩ := rp7.pa
          have nt7 := NoTup.lst hS7
          obtain ⟨dp7, ep7⟩ := pa7.ob
          have oS : ∀ {y : Addr} {o : HO}, H y = some o → y ∉ [S] := fun {y o} e q => by
            simp at q
            subst q
            rw [hS0] at e
            cases e
          exact ⟨⟨⟨dr7, by rw [upd_ne (ne_of er7 hS7 (by intro q; cases q))]; exact er7⟩, rp7.rd.pt.keep kS nt7, few⟩,
            ⟨pl, hl, as, has, pa.same ((s6.trans s7).upd hS0), cr.same ((s6.trans s7).upd hS0)⟩, rp7.sd, cok⟩
        · rw [upd_same, List.map_append]
          rfl
        · by_cases q : j < i
          · exact good j l q hl'
          · obtain rfl : j = i := by omega
            rw [hline] at hl'
            obtain rfl := Option.some.inj hl'
            rw [er2]
            simp
        · by_cases q : j < i
          · obtain ⟨st, tt, q1, q2, q3⟩ := last j l q hl'
            exact ⟨st, tt, q1, by rw [List.getElem?_append_left (by omega)]; exact q2, (q3.same (((sT.trans sW).trans s7))).keepT kS (NoTup.lst hS7)⟩
          · obtain rfl : j = i := by omega
            rw [hline] at hl'
            obtain rfl := Option.some.inj hl'
            exact ⟨b, t, er2, by rw [List.getElem?_append_right (by omega), tl]; simp, hst.keepT kS (NoTup.lst hS7)⟩
    · intro σ H4 hB
      obtain ⟨v6, v7, v8, ts, rfl, s4, rd4, hS4, tl, good, last⟩ := hB.out
      rw [List.length_map] at tl good last
      have pos : 0 < lines.length := List.length_pos_iff.mpr ne
      obtain ⟨l, hl1⟩ : ∃ l, lines[lines.length - 1]? = some l := ⟨_, List.getElem?_eq_getElem (by omega)⟩
      obtain ⟨st, t, hl2, ht, hst⟩ := last (lines.length - 1) l (by omega) hl1
      obtain ⟨vs, hT⟩ := hst.tup
      have all : AllGood hs ps x most lines := fun j z hz => good j z (get_lt hz) hz
      have lst : LastIs hs ps x most lines st.ends := ⟨l, st, hl1, hl2, rfl⟩
      have hend : st.head = "end" ↔ st.ends = true := st.ends_iff.symm
      generalize hb : st.ends = b at lst hend
      generalize st.head = hd at hT hend
      have at1 : atI (ts.map V.ref) (-1) = some (.ref t) := by
        unfold atI ixN
        rw [List.length_map, tl]
        rw [if_neg (by omega), if_pos (by omega)]
        show (ts.map V.ref)[((-1 : Int) + (lines.length : Int)).toNat]? = _
        rw [show ((-1 : Int) + (lines.length : Int)).toNat = lines.length - 1 by omega, List.getElem?_map, ht]
        rfl
      refine ⟨_, rfl, _, rfl, _, _, _, _, rfl, rfl, SqL.of hS4, at1, ?_⟩
      refine ⟨_, _, _, _, rfl, rfl, SqT.of hT, at_of (j := 0) rfl rfl, ?_⟩
      refine ⟨rfl, _, rfl, ?_⟩
      refine iteNSS (fun n => ?_) (fun e => ?_)
      · have bf : b = false := by
          cases b with
          | true => exact absurd (hend.mpr rfl) n
          | false => rfl
        subst bf
        have eq : ((ts.map V.ref).length : Int) - 1 = ((lines.length - 1 : Nat) : Int) := by rw [List.length_map, tl]; omega
        refine mk_nobody (R := []) (w := w) (n := ((lines.length - 1 : Nat) : Int)) (by omega) (numT_log (by omega)) ?_ (outB_from (R := []) (H := H) (fun H8 k => Keeps.trans (fun c o z _ => s4 c o z) k) (fun z e => s4.free e) (ke all lst))
        intro QQ q
        refine ⟨_, rfl, _, rfl, _, _, rfl, .inl (SqL.of hS4), _, _, rfl, rfl, ?_⟩
        show QQ [.str w, .int (((ts.map V.ref).length : Int) - 1)] H4
        rw [eq]
        exact q
      · have bt : b = true := hend.mp e
        subst bt
        refine ⟨_, rfl, S, _, rfl, SqL.of hS4, fun t2 ob ht2 hob2 => ?_⟩
        exact kg all lst t2 ts _ (s4.upd (s4.free ht2)) ⟨ob, hob2, upd_same⟩ ⟨tl, fun j l' hj => by
          obtain ⟨st', tt, q1, q2, q3⟩ := last j l' (get_lt hj) hj
          exact ⟨st', tt, q1, q2, q3.same ((Same.refl H4).upd ht2)⟩⟩

open My (Hr)
/-! ### bodies in rows -/
abbrev bfs (text : Str) (L N t : Addr) : List (Str × V) := [("text", .str text), ("many", .int 0), ("statements", .non), ("texts", .ref L), ("numbers", .ref N), ("steps", .ref t)]
abbrev bfs5 (text : Str) (L N : Addr) : List (Str × V) := [("text", .str text), ("many", .int 0), ("statements", .non), ("texts", .ref L), ("numbers", .ref N)]
abbrev bfs3 (text : Str) : List (Str × V) := [("text", .str text), ("many", .int 0), ("statements", .non)]
theorem bfs3_make {text : Str} : putF "statements" .non (putF "many" (.int 0) (putF "text" (.str text) [])) = bfs3 text := by kernel_rfl
abbrev bfs4 (text : Str) (L : Addr) : List (Str × V) := [("text", .str text), ("many", .int 0), ("statements", .non), ("texts", .ref L)]
theorem bfs4_make {text : Str} {L : Addr} : putF "texts" (.ref L) (bfs3 text) = bfs4 text L := by kernel_rfl
theorem bfs5_make {text : Str} {L N : Addr} : putF "numbers" (.ref N) (bfs4 text L) = bfs5 text L N := by kernel_rfl
theorem bfs_make {text : Str} {L N t : Addr} : putF "steps" (.ref t) (bfs5 text L N) = bfs text L N t := by kernel_rfl
/-- what the making of a body comes to -/
structure BodyOut (CB C CP : Addr) (b dx : Addr) (w text : Str) (hs : List Hr) (ps : List My.Pr) (x : Hr) (H : Hp) (Q : Hp → Prop) (E : XK) : Prop where
  rows : Txt.startswith text "(" = false
  bad : ∀ i, FirstBad hs ps x 200 (My.cut 10 text) i → OutB CB [b] w (i : Nat) H E
  noend : AllGood hs ps x 200 (My.cut 10 text) → LastIs hs ps x 200 (My.cut 10 text) false → OutB CB [b] w (((My.cut 10 text).length - 1 : Nat) : Int) H E
  good : AllGood hs ps x 200 (My.cut 10 text) → LastIs hs ps x 200 (My.cut 10 text) true → ∀ (L N t : Addr) (ts : List Addr) (H' : Hp), H' b = some (.ins C dx (bfs text L N t)) → H' L = some (.lst ((My.cut 10 text).map V.str)) →
    H' N = some (.lst ((List.range (My.cut 10 text).length).map fun i => V.int (i : Nat))) → TupF H' t (ts.map V.ref) → StepsAt hs ps x 200 (My.cut 10 text) H' ts → Keeps [b] H H' → Q H'
def sp_BodyInit (CB C CP : Addr) : Sp := fun vs H Q E => ∃ (b dx p pl hl : Addr) (as has : List Addr) (ps : List My.Pr) (hs : List Hr) (w text : Str) (x : Hr), vs = [.ref b, .ref p, .str w, .str text] ∧ H b = some (.ins C dx []) ∧ PactsAt CP H p pl hl as ps ∧ CrewAt H hl has hs ∧ My.CrewOk ps hs ∧ crewOf w hs = some x ∧ w.length ≤ 1000 ∧ text.length ≤ 9000 ∧
  BodyOut CB C CP b dx w text hs ps x H (fun H' => Q .non H') E
theorem ok_Body_init (T : Txt K mg a) : FnOk P w K mg base (L2.CX P w) 10 a.f_Body_init a.d_Body_init ["self", "pacts", "name", "text"] (sp_BodyInit a.c_NoBody a.c_Body a.c_Pacts) := by
  refine T.F_Body_init.okX sc_Body_init (fun vs H Q E h => ?_) (fun cdv A outer s H vs Q E hr h => ?_)
  · obtain ⟨b, dx, p, pl, hl, as, has, ps, hs, w, text, x, rfl, _⟩ := h
    rfl
  · obtain ⟨b, dx, p, pl, hl, as, has, ps, hs, w, text, x, rfl, eb, pa, cr, cok, hx, hw, htl, out⟩ := h
    refine ⟨_, (pss_cons (ps_fld (pv 0) (pv 3) rfl)
      (pss_cons (ps_fld (pv 0) pe_int rfl)
      (pss_cons (ps_fld (pv 0) pe_non rfl)
      (C8.pss_cut (ps_if (pt_val (pe_bm PySem.F.plainAttrs_str PySem.F.slot_str_startswith PySem.F.type_str_startswith mt_startswith (pv 3) (pa_cons pe_str pa_nil))) (pss_cons (ps_never)
      (pss_cons (ps_never)
      (pss_one (ps_never)))) (pss_cons (ps_fld (pv 0) (pe_split (pv 3) pe_str) rfl)
      (pss_cons (ps_fld (pv 0) (pe_listRg rfl (by rfl) T.z_list (prg_1 (by rfl) T.z_range (pe_callB call_len_seq (by rfl) T.z_len (by decide +kernel) (pa_cons (pe_fld (pv 0) rfl) pa_nil)))) rfl)
      (pss_one (ps_set (i := 4) sc_Body_init.nd rfl (Or.inl rfl) (pe_glob (v := .int 200) rfl T.v_MOST_ROWS ⟨_, rfl⟩))))))
      (pss_one (ps_fld (pv 0) (pe_call (ok_read_rows T) (hr.mono (by decide)) rfl T.g_read_rows T.k_read_rows T.B_read_rows .nil (passes_call (W := fun cls d _ H => E cls d H) (takes_of rfl rfl rfl rfl) (fun _ _ _ _ z => z)) (pa_cons (pv 1) (pa_cons (pv 2) (pa_cons (pe_fld (pv 0) rfl) (pa_cons (pv 4) pa_nil))))) rfl)))))), ?_⟩
    have c0 := T.cl_Body
    refine ⟨_, rfl, _, rfl, _, _, _, _, rfl, eb, c0, T.n_Body_text, by show 0 < 1000; decide, ?_⟩
    refine ⟨_, rfl, _, _, _, _, rfl, upd_same, c0, T.n_Body_many, by show 1 < 1000; decide, ?_⟩
    refine ⟨_, rfl, _, _, _, _, rfl, upd_same, c0, T.n_Body_statements, by show 2 < 1000; decide, ?_⟩
    have k3 : Keeps [b] H (upd (upd (upd H b (.ins a.c_Body dx (putF "text" (.str text) []))) b (.ins a.c_Body dx (putF "many" (.int 0) (putF "text" (.str text) [])))) b (.ins a.c_Body dx (putF "statements" .non (putF "many" (.int 0) (putF "text" (.str text) []))))) :=
      (((Keeps.refl [b] H).upd (.inl (by simp))).upd (.inl (by simp))).upd (.inl (by simp))
    have e3 : (upd (upd (upd H b (.ins a.c_Body dx (putF "text" (.str text) []))) b (.ins a.c_Body dx (putF "many" (.int 0) (putF "text" (.str text) [])))) b (.ins a.c_Body dx (putF "statements" .non (putF "many" (.int 0) (putF "text" (.str text) []))))) b = some (.ins a.c_Body dx (bfs3 text)) := upd_same
    have f3 : ∀ z, (upd (upd (upd H b (.ins a.c_Body dx (putF "text" (.str text) []))) b (.ins a.c_Body dx (putF "many" (.int 0) (putF "text" (.str text) [])))) b (.ins a.c_Body dx (putF "statements" .non (putF "many" (.int 0) (putF "text" (.str text) []))))) z = none → H z = none := fun z hz => by
      rcases k3.fresh hz with q | q
      · simp at q
        subst q
        rw [upd_same] at hz
        cases hz
      · exact q
    show C8.tCut _ _ _ _ (upd (upd (upd H b (.ins a.c_Body dx (putF "text" (.str text) []))) b (.ins a.c_Body dx (putF "many" (.int 0) (putF "text" (.str text) [])))) b (.ins a.c_Body dx (putF "statements" .non (putF "many" (.int 0) (putF "text" (.str text) [])))))
    generalize (upd (upd (upd H b (.ins a.c_Body dx (putF "text" (.str text) []))) b (.ins a.c_Body dx (putF "many" (.int 0) (putF "text" (.str text) [])))) b (.ins a.c_Body dx (putF "statements" .non (putF "many" (.int 0) (putF "text" (.str text) []))))) = H3 at k3 e3 f3 ⊢
    obtain ⟨dp, ep⟩ := pa.ob
    have nt := NoTup.ins eb
    have op := off_ins eb ep (by intro q; injection q with _ _ q; cases q)
    have opl := off_ins eb pa.lp (by intro q; cases q)
    have ohl := off_ins eb cr.lh (by intro q; cases q)
    have zl := sizeLine_eq
    refine ⟨fun σ H4 => Blk (Txt.startswith text "(" = false ∧ ∃ L N : Addr, σ = [some (.ref b), some (.ref p), some (.str w), some (.str text), some (.int 200)] ∧ H4 b = some (.ins a.c_Body dx (bfs5 text L N)) ∧ H4 L = some (.lst ((My.cut 10 text).map V.str)) ∧
      H4 N = some (.lst ((List.range (My.cut 10 text).length).map fun i => V.int (i : Nat))) ∧ Keeps [b] H H4 ∧ ∀ z, H4 z = none → H z = none), ?_, ?_⟩
    · refine ⟨_, rfl, rfl, text, "(", rfl, rfl, _, rfl, ?_⟩
      refine iteB (fun st => ?_) (fun st => ?_)
      · rw [out.rows] at st
        cases st
      · refine ⟨_, rfl, ⟨_, rfl⟩, text, "\n", rfl, rfl, by decide +kernel, by omega, fun L hL => ?_⟩
        rw [brk_eq]
        show tVar 0 _ (upd H3 L (.lst ((My.cut 10 text).map V.str))) _
        have nbL : b ≠ L := ne_of_none e3 hL
        have eL : (upd H3 L (.lst ((My.cut 10 text).map V.str))) b = some (.ins a.c_Body dx (bfs3 text)) := (upd_ne nbL).trans e3
        refine ⟨_, rfl, _, _, _, _, rfl, eL, c0, T.n_Body_texts, by show 3 < 1000; decide, ?_⟩
        have k4 : Keeps [b] H (upd (upd H3 L (.lst ((My.cut 10 text).map V.str))) b (.ins a.c_Body dx (putF "texts" (.ref L) (bfs3 text)))) := (k3.upd (.inr (f3 L hL))).upd (.inl (by simp))
        have e4 : (upd (upd H3 L (.lst ((My.cut 10 text).map V.str))) b (.ins a.c_Body dx (putF "texts" (.ref L) (bfs3 text)))) b = some (.ins a.c_Body dx (bfs4 text L)) := upd_same
        have l4 : (upd (upd H3 L (.lst ((My.cut 10 text).map V.str))) b (.ins a.c_Body dx (putF "texts" (.ref L) (bfs3 text)))) L = some (.lst ((My.cut 10 text).map V.str)) := by rw [upd_ne nbL.symm]; exact upd_same
        have f4 : ∀ z, (upd (upd H3 L (.lst ((My.cut 10 text).map V.str))) b (.ins a.c_Body dx (putF "texts" (.ref L) (bfs3 text)))) z = none → H z = none := fun z hz => by
          rcases k4.fresh hz with q | q
          · simp at q
            subst q
            rw [upd_same] at hz
            cases hz
          · exact q
        generalize (upd (upd H3 L (.lst ((My.cut 10 text).map V.str))) b (.ins a.c_Body dx (putF "texts" (.ref L) (bfs3 text)))) = H4 at k4 e4 l4 f4 ⊢
        have cm := My.cut_many (c := 10) (by decide) text
        refine ⟨_, rfl, _, _, _, _, _, rfl, e4, c0, T.n_Body_texts, rfl, _, _, rfl, .inl (SqL.of l4), _, rfl, ?_⟩
        have rgE : rgV 0 (((My.cut 10 text).map V.str).length : Int) = (List.range (My.cut 10 text).length).map fun i => V.int (i : Nat) := by
          unfold rgV
          rw [List.length_map]
          congr 1
          funext i
          rw [Int.zero_add]
        refine ⟨RgOk.of_le (by decide) (by rw [List.length_map]; omega) (by decide) (by omega), fun N hN => ?_⟩
        have nbN : b ≠ N := ne_of_none e4 hN
        have nLN : L ≠ N := ne_of_none l4 hN
        refine ⟨_, rfl, _, _, _, _, rfl, (upd_ne nbN).trans e4, c0, T.n_Body_numbers, by show 4 < 1000; decide, ?_⟩
        refine Blk.of ⟨st, L, N, rfl, upd_same, by rw [upd_ne nbL.symm, upd_ne nLN]; exact l4, by rw [upd_ne nbN.symm, upd_same, rgE], (k4.upd (.inr (f4 N hN))).upd (.inl (by simp)), fun z hz => ?_⟩
        have nzb : z ≠ b := fun q => by subst q; rw [upd_same] at hz; cases hz
        rw [upd_ne nzb] at hz
        have nzN : z ≠ N := fun q => by subst q; rw [upd_same] at hz; cases hz
        rw [upd_ne nzN] at hz
        exact f4 z hz
    · intro σ H4 hB
      obtain ⟨st, L, N, rfl, e5, hL, hN, k5, f5⟩ := hB.out
      have cm := My.cut_many (c := 10) (by decide) text
      have pa5 := pa.keep k5 nt op opl
      have cr5 := cr.keep k5 nt ohl
      have from5 : ∀ n : Int, OutB a.c_NoBody [b] w n H E → OutB a.c_NoBody [] w n H4 E := fun n ko => outB_from (fun H5 k => k5.trans (k.mono (by simp))) f5 ko
      refine ⟨_, rfl, _, rfl, _, rfl, _, _, _, _, _, rfl, e5, c0, T.n_Body_texts, rfl, _, rfl, p, pl, hl, L, as, has, ps, hs, w, x, My.cut 10 text, 200, rfl, pa5, cr5, cok, hx, hw, hL, My.cut_ne (by decide) text, by omega, fun l hl' => ?_,
        fun i fb => from5 _ (out.bad i fb), fun al la => from5 _ (out.noend al la), fun al la t ts H5 s5 hts hst => ?_⟩
      · have := My.cut_len (c := 10) (by decide) hl'
        omega
      · refine ⟨_, rfl, _, _, _, _, rfl, s5 _ _ e5, c0, T.n_Body_steps, by show 5 < 1000; decide, ?_⟩
        have nbL : L ≠ b := off_ins e5 hL (by intro q; cases q) ∘ (by intro q; simp [q])
        have nbN : N ≠ b := off_ins e5 hN (by intro q; cases q) ∘ (by intro q; simp [q])
        have kb : Keeps [b] H5 (upd H5 b (.ins a.c_Body dx (putF "steps" (.ref t) (bfs5 text L N)))) := (Keeps.refl [b] H5).upd (.inl (by simp))
        have ntb : NoTup H5 [b] := NoTup.ins (s5 _ _ e5)
        have hts2 : TupF (upd H5 b (.ins a.c_Body dx (putF "steps" (.ref t) (bfs5 text L N)))) t (ts.map V.ref) := let ⟨o, ho, e⟩ := hts; ⟨o, ho, kb _ _ e fun q => (ntb _ q _).2 o e⟩
        refine out.good al la L N t ts _ upd_same (by rw [upd_ne nbL]; exact s5 _ _ hL) (by rw [upd_ne nbN]; exact s5 _ _ hN) hts2 ⟨hst.1, fun j l hj => ?_⟩ (Keeps.upd (fun c o e n => s5 _ _ (k5 c o e n)) (.inl (by simp)))
        obtain ⟨st', tt, q1, q2, q3⟩ := hst.2 j l hj
        exact ⟨st', tt, q1, q2, q3.keepT kb ntb⟩

open My (Hr dS onV valS putS)
/-! ### sides made -/
def OutH (CN : Addr) (R : List Addr) (w : Str) (H : Hp) (E : XK) : Prop := ∀ (d : Addr) (H' : Hp), Keeps R H H' → H d = none → H' d = some (.xd [("name", .str w)]) → E (.ref CN) (some d) H'
theorem outH_from {CN : Addr} {R R' : List Addr} {w : Str} {H H1 : Hp} {E : XK} (k : ∀ (H2 : Hp), Keeps R' H1 H2 → Keeps R H H2) (f : ∀ x, H1 x = none → H x = none) (h : OutH CN R w H E) : OutH CN R' w H1 E := fun d H' kp hd e => h d H' (k H' kp) (f d hd) e
theorem mk_nohelper {C : Addr} {H : Hp} {R : List Addr} {w : Str} {E : XK} {σ : L2.St} {tk : TA} (hw : w.length ≤ 40000)
    (ht : ∀ Q : List V → Hp → Prop, Q [.str w] H → tk σ H Q) (kk : OutH C R w H E) :
    tMkO C (sp_who C) [] tk σ H (fun cls d H' => E cls d H') := by
  refine ht _ ⟨by show 1 ≤ 1000; decide, fun e he => ?_⟩
  refine ⟨e, w, rfl, upd_same, hw, fun d H2 hd nde h1 h2 kp => ⟨rfl, d, _, h1, h2, ?_, ?_⟩⟩
  · exact (upd_ne nde).symm.trans hd
  · have hd1 : H d = none := (upd_ne nde).symm.trans hd
    refine kk d _ (fun c o ec nr => ?_) hd1 upd_same
    have n1 : c ≠ e := ne_of_none ec he
    have n2 : c ≠ d := ne_of_none ec hd1
    rw [upd_ne n2, del_ne n1]
    exact kp c o ((upd_ne n1).trans ec) (by simp [n1])
def BodyIs (hs : List Hr) (ps : List My.Pr) (x : Hr) (text : Str) (o : Option Int) : Prop :=
  Txt.startswith text "(" = false ∧ (∀ i, FirstBad hs ps x 200 (My.cut 10 text) i → o = some ((i : Nat) : Int)) ∧
    (AllGood hs ps x 200 (My.cut 10 text) → LastIs hs ps x 200 (My.cut 10 text) false → o = some (((My.cut 10 text).length - 1 : Nat) : Int)) ∧ (AllGood hs ps x 200 (My.cut 10 text) → LastIs hs ps x 200 (My.cut 10 text) true → o = none)
structure BodyAt (C : Addr) (hs : List Hr) (ps : List My.Pr) (x : Hr) (H : Hp) (b : Addr) (text : Str) : Prop where
  ex : ∃ (dx L N t : Addr) (ts : List Addr), H b = some (.ins C dx (bfs text L N t)) ∧ H L = some (.lst ((My.cut 10 text).map V.str)) ∧ H N = some (.lst ((List.range (My.cut 10 text).length).map fun i => V.int (i : Nat))) ∧ TupF H t (ts.map V.ref) ∧ StepsAt hs ps x 200 (My.cut 10 text) H ts
theorem StepsAt.keepT {hs : List Hr} {ps : List My.Pr} {x : Hr} {most : Nat} {lines : List Str} {H H' : Hp} {ts R : List Addr} (h : StepsAt hs ps x most lines H ts) (k : Keeps R H H') (n : NoTup H R) : StepsAt hs ps x most lines H' ts :=
  ⟨h.1, fun j l hj => let ⟨st, tt, q1, q2, q3⟩ := h.2 j l hj; ⟨st, tt, q1, q2, q3.keepT k n⟩⟩
theorem StepsAt.same {hs : List Hr} {ps : List My.Pr} {x : Hr} {most : Nat} {lines : List Str} {H H' : Hp} {ts : List Addr} (h : StepsAt hs ps x most lines H ts) (s : Same H H') : StepsAt hs ps x most lines H' ts :=
  ⟨h.1, fun j l hj => let ⟨st, tt, q1, q2, q3⟩ := h.2 j l hj; ⟨st, tt, q1, q2, q3.same s⟩⟩
abbrev sfs (p : Addr) (i : Int) (BD DP : Addr) : List (Str × V) := [("_pacts", .ref p), ("_number", .int i), ("_bodies", .ref BD), ("_parsed", .ref DP)]
structure SideAt (C CB : Addr) (hs : List Hr) (ps : List My.Pr) (H : Hp) (s dx p BD DP : Addr) (i : Int) (tx : List (Str × Str)) (bs : List (Str × Addr)) : Prop where
  ob : H s = some (.ins C dx (sfs p i BD DP))
  bd : H BD = some (.dK (dS (onV V.str tx)))
  dp : H DP = some (.dK (dS (onV V.ref bs)))
  bo : ∀ e, e ∈ bs → ∃ text x, valS tx e.1 = some text ∧ crewOf e.1 hs = some x ∧ BodyAt CB hs ps x H e.2 text
theorem BodyAt.same {C : Addr} {hs : List Hr} {ps : List My.Pr} {x : Hr} {H H' : Hp} {b : Addr} {text : Str} (h : BodyAt C hs ps x H b text) (s : Same H H') : BodyAt C hs ps x H' b text := by
  obtain ⟨dx, L, N, t, ts, e1, e2, e3, e4, e5⟩ := h.ex
  exact ⟨dx, L, N, t, ts, s _ _ e1, s _ _ e2, s _ _ e3, e4.same s, e5.same s⟩
theorem BodyAt.put {C : Addr} {hs : List Hr} {ps : List My.Pr} {x : Hr} {H : Hp} {b D : Addr} {text : Str} {ks : List (L2.Key × V)} {o : HO} (h : BodyAt C hs ps x H b text) (hD : H D = some (.dK ks)) : BodyAt C hs ps x (upd H D o) b text := by
  obtain ⟨dx, L, N, t, ts, e1, e2, e3, e4, e5⟩ := h.ex
  have k : Keeps [D] H (upd H D o) := (Keeps.refl [D] H).upd (.inl (by simp))
  have n : NoTup H [D] := NoTup.one hD (fun _ e => by cases e) fun _ _ e => by cases e
  have e4' : TupF (upd H D o) t (ts.map V.ref) := let ⟨q, hq, e⟩ := e4; ⟨q, hq, k _ _ e fun z => (n _ z _).2 q e⟩
  exact ⟨dx, L, N, t, ts, by rw [upd_ne (ne_of e1 hD (by intro q; cases q))]; exact e1, by rw [upd_ne (ne_of e2 hD (by intro q; cases q))]; exact e2, by rw [upd_ne (ne_of e3 hD (by intro q; cases q))]; exact e3, e4', e5.keepT k n⟩
theorem crew_find {ps : List My.Pr} {hs : List Hr} (ok : My.CrewOk ps hs) {i : Nat} {x : Hr} (h : hs[i]? = some x) : crewOf x.name hs = some x := by
  refine find_first (P := fun z : Hr => z.name = x.name) (k := i) (fun j z hj e c => ?_) h rfl
  have := My.nin_take (f := fun z : Hr => z.name) ok.names h
  exact this (List.mem_map.mpr ⟨z, List.mem_of_getElem? (i := j) (by rw [List.getElem?_take, if_pos hj]; exact e), c⟩)
def amiss (ns ks : List Str) (n : Str) : Prop := n ∉ ns ∨ n ∉ ks
def namesOf (i : Int) (hs : List Hr) : List Str := (ofSide i hs).map (·.name)
def sp_SideInit (CN CH C CB CP : Addr) : Sp := fun vs H Q E => ∃ (s dx p pl hl D : Addr) (as has : List Addr) (ps : List My.Pr) (hs : List Hr) (i : Int) (tx : List (Str × Str)), vs = [.ref s, .ref p, .int i, .ref D] ∧ H s = some (.ins C dx []) ∧ PactsAt CP H p pl hl as ps ∧ CrewAt H hl has hs ∧ My.CrewOk ps hs ∧
  H D = some (.dK (dS (onV V.str tx))) ∧ (tx.map (·.1)).Nodup ∧ tx.length ≤ 20 ∧ (∀ e, e ∈ tx → e.1.length ≤ 1000 ∧ e.2.length ≤ 9000) ∧
  (∀ (ys : List Str) (k : Nat) (n : Str), ys.Perm (namesOf i hs ++ tx.map (·.1)) → PyProof.Rows.sortedS ys = true → ys[k]? = some n → amiss (namesOf i hs) (tx.map (·.1)) n → (∀ j z, j < k → ys[j]? = some z → ¬ amiss (namesOf i hs) (tx.map (·.1)) z) → OutH CH [s] n H E) ∧
  ((∀ n, n ∈ namesOf i hs ++ tx.map (·.1) → ¬ amiss (namesOf i hs) (tx.map (·.1)) n) → ∃ at_ : Hr → Option Int, (∀ x, x ∈ ofSide i hs → ∃ text, valS tx x.name = some text ∧ BodyIs hs ps x text (at_ x)) ∧
    (∀ (k : Nat) (x : Hr) (n : Int), (ofSide i hs)[k]? = some x → at_ x = some n → (∀ (j : Nat) (z : Hr), j < k → (ofSide i hs)[j]? = some z → at_ z = none) → OutB CN [s] x.name n H E) ∧
    ((∀ x, x ∈ ofSide i hs → at_ x = none) → ∀ (BD DP : Addr) (bs : List (Str × Addr)) (H' : Hp), SideAt C CB hs ps H' s dx p BD DP i tx bs → H BD = none → H DP = none → bs.map (·.1) = namesOf i hs → Keeps [s] H H' → Q .non H'))
theorem sfs_make {p BD DP : Addr} {i : Int} : putF "_parsed" (.ref DP) (putF "_bodies" (.ref BD) (putF "_number" (.int i) (putF "_pacts" (.ref p) []))) = sfs p i BD DP := by kernel_rfl
theorem ok_Side_init (T : Txt K mg a) : FnOk P w K mg base (L2.CX P w) 12 a.f_Side_init a.d_Side_init ["self", "pacts", "number", "bodies"] (sp_SideInit a.c_NoBody a.c_NoHelper a.c_Side a.c_Body a.c_Pacts) := by
  refine T.F_Side_init.okX sc_Side_init (fun vs H Q E h => ?_) (fun cdv A outer s H vs Q E hr h => ?_)
  · obtain ⟨s, dx, p, pl, hl, D, as, has, ps, hs, i, tx, rfl, _⟩ := h
    rfl
  · obtain ⟨s, dx, p, pl, hl, D, as, has, ps, hs, i, tx, rfl, es, pa, cr, cok, hD, nd, few, small_, ka, kb⟩ := h
    refine ⟨_, (pss_cons (ps_fld (pv 0) (pv 1) rfl)
      (pss_cons (ps_fld (pv 0) (pv 2) rfl)
      (pss_cons (ps_fld (pv 0) (pe_callTy call_dictD (by rfl) T.z_dict (by decide +kernel) (pa_cons (pv 3) pa_nil)) rfl)
      (pss_cons (ps_set (i := 4) sc_Side_init.nd rfl (Or.inl rfl) (pe_meth (pv 1) T.cl_Pacts T.m_Pacts_names (ok_Pacts_names T) (hr.mono (by decide)) T.B_Pacts_names .nil pass0 (pa_cons (pv 2) pa_nil)))
      (pss_cons (ps_for (passes_of rfl) rfl (pi_list (pe_callB cr_sortedS (by rfl) T.z_sorted (by decide +kernel) (pa_cons (pe_lst (StX.pa_star (pv 4) (pa_starD rfl (pe_fld (pv 0) rfl) pa_nil))) pa_nil))) (pg_name (i := 5) sc_Side_init.nd rfl (Or.inl rfl)) (pss_one (ps_if (PW.pt (pw_or (pt_cmpR op_notIn_seq (pv 5) (pv 4) (by rfl)) (pw_or1 (pt_cmp (pc_dnotin (hu_of hr) (pv 5) (pe_fld (pv 0) rfl)))))) (pss_one (ps_raise rfl (W := fun cls d _ H => E cls d H) (takes_of rfl rfl rfl rfl) (pmk_oex T.x_NoHelper T.xi_NoHelper T.xt_NoHelper (ok_NoHelper_init T) (hr.mono (by decide)) T.B_NoHelper_init .nil pass0 (by rfl) T.g_NoHelper (pa_cons (pv 5) pa_nil)))) pss_nil)))
      (pss_cons (ps_fld (pv 0) pe_dnewK rfl)
      (pss_one (ps_for (passes_of rfl) rfl (pi_list (pv 4)) (pg_name (i := 5) sc_Side_init.nd rfl (Or.inl rfl)) (pss_one (ps_dput (hu_of hr) (pe_fld (pv 0) rfl) (pv 5) (pe_make T.mk_Body (ok_Body_init T) (hr.mono (by decide)) rfl T.g_Body T.B_Body_init .nil (passes_call (W := fun cls d _ H => E cls d H) (takes_of rfl rfl rfl rfl) (fun _ _ _ _ z => z)) (pa_cons (pv 1) (pa_cons (pv 5) (pa_cons (pe_dget (hu_of hr) (pe_fld (pv 0) rfl) (pv 5) (fun _ _ => rfl)) pa_nil)))) rfl)))))))))), ?_⟩
    have c0 := T.cl_Side
    refine ⟨_, rfl, _, rfl, _, _, _, _, rfl, es, c0, T.n_Side__pacts, by show 0 < 1000; decide, ?_⟩
    refine ⟨_, rfl, _, rfl, _, _, _, _, rfl, upd_same, c0, T.n_Side__number, by show 1 < 1000; decide, ?_⟩
    have k2 : Keeps [s] H (upd (upd H s (.ins a.c_Side dx (putF "_pacts" (.ref p) []))) s (.ins a.c_Side dx (putF "_number" (.int i) (putF "_pacts" (.ref p) [])))) := ((Keeps.refl [s] H).upd (.inl (by simp))).upd (.inl (by simp))
    have e2 : (upd (upd H s (.ins a.c_Side dx (putF "_pacts" (.ref p) []))) s (.ins a.c_Side dx (putF "_number" (.int i) (putF "_pacts" (.ref p) [])))) s = some (.ins a.c_Side dx (putF "_number" (.int i) (putF "_pacts" (.ref p) []))) := upd_same
    have nt := NoTup.ins es
    obtain ⟨dp, ep⟩ := pa.ob
    have op := off_ins es ep (by intro q; injection q with _ _ q; cases q)
    have opl := off_ins es pa.lp (by intro q; cases q)
    have ohl := off_ins es cr.lh (by intro q; cases q)
    have oD := off_ins es hD (by intro q; cases q)
    generalize (upd (upd H s (.ins a.c_Side dx (putF "_pacts" (.ref p) []))) s (.ins a.c_Side dx (putF "_number" (.int i) (putF "_pacts" (.ref p) [])))) = H2 at k2 e2 ⊢
    refine ⟨_, rfl, D, _, rfl, .inl (k2 _ _ hD oD), fun BD hBD => ?_⟩
    have nsB : s ≠ BD := ne_of_none e2 hBD
    refine ⟨_, rfl, _, _, _, _, rfl, (upd_ne nsB).trans e2, c0, T.n_Side__bodies, by show 2 < 1000; decide, ?_⟩
    have fB : BD ∈ [s] ∨ H BD = none := k2.fresh hBD
    have k3 : Keeps [s] H (upd (upd H2 BD (.dK (dS (onV V.str tx)))) s (.ins a.c_Side dx (putF "_bodies" (.ref BD) (putF "_number" (.int i) (putF "_pacts" (.ref p) []))))) := (k2.upd fB).upd (.inl (by simp))
    have e3 : (upd (upd H2 BD (.dK (dS (onV V.str tx)))) s (.ins a.c_Side dx (putF "_bodies" (.ref BD) (putF "_number" (.int i) (putF "_pacts" (.ref p) []))))) s = some (.ins a.c_Side dx (putF "_bodies" (.ref BD) (putF "_number" (.int i) (putF "_pacts" (.ref p) [])))) := upd_same
    have b3 : (upd (upd H2 BD (.dK (dS (onV V.str tx)))) s (.ins a.c_Side dx (putF "_bodies" (.ref BD) (putF "_number" (.int i) (putF "_pacts" (.ref p) []))))) BD = some (.dK (dS (onV V.str tx))) := by rw [upd_ne nsB.symm]; exact upd_same
    generalize (upd (upd H2 BD (.dK (dS (onV V.str tx)))) s (.ins a.c_Side dx (putF "_bodies" (.ref BD) (putF "_number" (.int i) (putF "_pacts" (.ref p) []))))) = H3 at k3 e3 b3 ⊢
    have pa3 := pa.keep k3 nt op opl
    have cr3 := cr.keep k3 nt ohl
    have few8 := crew_many cok
    refine ⟨_, rfl, p, dp, _, rfl, k3 _ _ ep op, pfs_nm, _, rfl, p, pl, hl, as, has, ps, hs, i, rfl, pa3, cr3, by omega, fun N H4 hN hN4 s4 => ?_⟩
    have e4 := s4 _ _ e3
    have b4 := s4 _ _ b3
    have k4 : Keeps [s] H H4 := fun c o z n => s4 _ _ (k3 c o z n)
    refine ⟨_, rfl, N, _, rfl, .inr (SqL.of hN4), ?_⟩
    have nfew : (namesOf i hs).length ≤ 8 := by
      unfold namesOf
      rw [List.length_map]
      exact Nat.le_trans (ofSide_le i hs) few8
    have eqk : (((ofSide i hs).map (·.name)).map V.str ++ (((dS (onV V.str tx)).map fun kv : L2.Key × V => kV kv.1) ++ [])) = (namesOf i hs ++ tx.map (·.1)).map V.str := by
      rw [My.keys_dS, My.keys_onV, List.append_nil, List.map_append]
      rfl
    refine ⟨_, rfl, _, _, _, _, _, rfl, e4, c0, T.n_Side__bodies, rfl, BD, _, rfl, .inl b4, ?_⟩
    dsimp (config := { proj := false }) only [tNil]
    rw [eqk]
    refine ⟨by rw [List.length_map, List.length_append, List.length_map, sizeLine_eq]; omega, fun Y hY => ?_⟩
    refine ⟨Y, namesOf i hs ++ tx.map (·.1), rfl, SqL.of upd_same, by rw [List.length_append, List.length_map]; omega, fun ys Z perm srt hZ => ?_⟩
    have sY : Same H4 (upd H4 Y (.lst ((namesOf i hs ++ tx.map (·.1)).map V.str))) := (Same.refl H4).upd hY
    have sZ : Same H4 (upd (upd H4 Y (.lst ((namesOf i hs ++ tx.map (·.1)).map V.str))) Z (.lst (ys.map V.str))) := sY.upd (sY.free hZ)
    have z5 : (upd (upd H4 Y (.lst ((namesOf i hs ++ tx.map (·.1)).map V.str))) Z (.lst (ys.map V.str))) Z = some (.lst (ys.map V.str)) := upd_same
    generalize (upd (upd H4 Y (.lst ((namesOf i hs ++ tx.map (·.1)).map V.str))) Z (.lst (ys.map V.str))) = H5 at sZ z5 ⊢
    have k5 : Keeps [s] H H5 := fun c o z n => sZ _ _ (k4 c o z n)
    have e5 := sZ _ _ e4
    have b5 := sZ _ _ b4
    have n5 := sZ _ _ hN4
    have f5 : ∀ z, H5 z = none → H z = none := fun z hz => by
      rcases k5.fresh hz with q | q
      · simp at q
        subst q
        rw [e5] at hz
        cases hz
      · exact q
    refine ⟨Z, rfl, ⟨_, SqL.of z5⟩, ?_⟩
    refine for_list (K := K) (a := Z) (xs := ys.map V.str) (fun k σ H6 => Blk (∃ v5 : Option V, σ = [some (.ref s), some (.ref p), some (.int i), some (.ref D), some (.ref N), v5] ∧ H6 = H5 ∧ ∀ j z, j < k → ys[j]? = some z → ¬ amiss (namesOf i hs) (tx.map (·.1)) z)) ?_ ?_ ?_ ?_
    · exact Blk.of ⟨_, rfl, rfl, fun j z hj => absurd hj (Nat.not_lt_zero j)⟩
    · intro k σ H6 _ hB
      obtain ⟨v5, _, rfl, _⟩ := hB.out
      exact SqL.of z5
    · intro k y σ H6 hy hB
      obtain ⟨v5, rfl, rfl, no⟩ := hB.out
      obtain ⟨n, hn, rfl⟩ := strs_get hy
      have nin : n ∈ namesOf i hs ++ tx.map (·.1) := perm.mem_iff.mp (List.mem_of_getElem? hn)
      have ln : n.length ≤ 1000 := by
        rcases List.mem_append.mp nin with q | q
        · obtain ⟨x, hx, rfl⟩ := List.mem_map.mp q
          have := name_len (pactB_out (cok.one x (List.mem_filter.mp hx).1).1).1
          omega
        · obtain ⟨e, he, rfl⟩ := List.mem_map.mp q
          exact (small_ e he).1
      have raise : amiss (namesOf i hs) (tx.map (·.1)) n → tMkO a.c_NoHelper (sp_who a.c_NoHelper) [] (tCons (tVar 5) tNil) [some (.ref s), some (.ref p), some (.int i), some (.ref D), some (.ref N), some (.str n)] H6 (fun cls d H' => E cls d H') := fun am => by
        refine mk_nohelper (R := []) (w := n) (by omega) ?_ (outH_from (R := [s]) (H := H) (fun H8 k => k5.trans (k.mono (by simp))) f5 (ka ys k n perm srt hn am no))
        intro QQ q
        exact ⟨_, rfl, q⟩
      refine ⟨_, rfl, _, rfl, _, _, rfl, .inl (SqL.of n5), rfl, flat_str _, ?_⟩
      refine ⟨_, rfl, ?_⟩
      rw [if_pos rfl, inV_str]
      by_cases hin : n ∈ namesOf i hs
      · rw [decide_eq_true (show n ∈ (ofSide i hs).map (·.name) from hin)]
        refine iteF ?_
        refine ⟨_, rfl, _, rfl, _, _, _, _, _, rfl, e5, c0, T.n_Side__bodies, rfl, BD, _, rfl, .inl ⟨_, .inr n, .inl b5, rfl, rfl⟩, _, rfl, ?_⟩
        rw [My.val_dS, My.val_in, My.keys_onV]
        by_cases hk : n ∈ tx.map (·.1)
        · rw [decide_eq_true hk]
          refine iteF ?_
          refine Blk.of ⟨_, rfl, rfl, fun j z hj hz => ?_⟩
          by_cases q : j < k
          · exact no j z q hz
          · obtain rfl : j = k := by omega
            rw [hn] at hz
            obtain rfl := Option.some.inj hz
            exact fun am => am.elim (fun w => w hin) fun w => w hk
        · rw [decide_eq_false hk]
          exact iteT (raise (.inr hk))
      · rw [decide_eq_false (show n ∉ (ofSide i hs).map (·.name) from hin)]
        exact iteT (iteT (raise (.inl hin)))
    · intro σ H6 hB
      obtain ⟨v5, rfl, rfl, no⟩ := hB.out
      have fine : ∀ n, n ∈ namesOf i hs ++ tx.map (·.1) → ¬ amiss (namesOf i hs) (tx.map (·.1)) n := fun n hn => by
        obtain ⟨j, hj, ej⟩ := List.getElem_of_mem (perm.mem_iff.mpr hn)
        refine no j n (by rw [List.length_map]; exact hj) (by rw [List.getElem?_eq_getElem hj, ej])
      obtain ⟨at_, hat, hbad, hok⟩ := kb fine
      refine fun DP hDP => ?_
      have nsP : s ≠ DP := ne_of_none e5 hDP
      have hP0 : H DP = none := f5 _ hDP
      have nBP : BD ≠ DP := ne_of_none b5 hDP
      have nNP : N ≠ DP := ne_of_none n5 hDP
      have nBs : BD ≠ s := off_ins e5 b5 (by intro q; cases q) ∘ (by intro q; simp [q])
      have nNs : N ≠ s := off_ins e5 n5 (by intro q; cases q) ∘ (by intro q; simp [q])
      refine ⟨_, rfl, _, _, _, _, rfl, (upd_ne nsP).trans e5, c0, T.n_Side__parsed, by show 3 < 1000; decide, ?_⟩
      have k7 : Keeps [s] H (upd (upd H6 DP (.dK [])) s (.ins a.c_Side dx (putF "_parsed" (.ref DP) (putF "_bodies" (.ref BD) (putF "_number" (.int i) (putF "_pacts" (.ref p) [])))))) := (k5.upd (.inr (f5 _ hDP))).upd (.inl (by simp))
      have e7 : (upd (upd H6 DP (.dK [])) s (.ins a.c_Side dx (putF "_parsed" (.ref DP) (putF "_bodies" (.ref BD) (putF "_number" (.int i) (putF "_pacts" (.ref p) [])))))) s = some (.ins a.c_Side dx (sfs p i BD DP)) := upd_same
      have b7 : (upd (upd H6 DP (.dK [])) s (.ins a.c_Side dx (putF "_parsed" (.ref DP) (putF "_bodies" (.ref BD) (putF "_number" (.int i) (putF "_pacts" (.ref p) [])))))) BD = some (.dK (dS (onV V.str tx))) := by rw [upd_ne nBs, upd_ne nBP]; exact b5
      have n7 : (upd (upd H6 DP (.dK [])) s (.ins a.c_Side dx (putF "_parsed" (.ref DP) (putF "_bodies" (.ref BD) (putF "_number" (.int i) (putF "_pacts" (.ref p) [])))))) N = some (.lst ((namesOf i hs).map V.str)) := by rw [upd_ne nNs, upd_ne nNP]; exact n5
      have p7 : (upd (upd H6 DP (.dK [])) s (.ins a.c_Side dx (putF "_parsed" (.ref DP) (putF "_bodies" (.ref BD) (putF "_number" (.int i) (putF "_pacts" (.ref p) [])))))) DP = some (.dK []) := by rw [upd_ne nsP.symm]; exact upd_same
      generalize (upd (upd H6 DP (.dK [])) s (.ins a.c_Side dx (putF "_parsed" (.ref DP) (putF "_bodies" (.ref BD) (putF "_number" (.int i) (putF "_pacts" (.ref p) [])))))) = H7 at k7 e7 b7 n7 p7 ⊢
      refine ⟨_, rfl, N, rfl, ⟨_, SqL.of n7⟩, ?_⟩
      refine for_list (K := K) (a := N) (xs := (namesOf i hs).map V.str) (fun k σ H8 => Blk (∃ (v5 : Option V) (bs : List (Str × Addr)), σ = [some (.ref s), some (.ref p), some (.int i), some (.ref D), some (.ref N), v5] ∧ Keeps [s] H H8 ∧ SideAt a.c_Side a.c_Body hs ps H8 s dx p BD DP i tx bs ∧
        bs.map (·.1) = (namesOf i hs).take k ∧ H8 N = some (.lst ((namesOf i hs).map V.str)) ∧ ∀ (j : Nat) (z : Hr), j < k → (ofSide i hs)[j]? = some z → at_ z = none)) ?_ ?_ ?_ ?_
      · exact Blk.of ⟨_, [], rfl, k7, ⟨e7, b7, p7, fun e he => by cases he⟩, rfl, n7, fun j z hj => absurd hj (Nat.not_lt_zero j)⟩
      · intro k σ H8 _ hB
        obtain ⟨_, _, _, _, _, _, n8, _⟩ := hB.out
        exact SqL.of n8
      · intro k y σ H8 hy hB
        obtain ⟨v5, bs, rfl, k8, sd, bk, n8, fineb⟩ := hB.out
        obtain ⟨n, hn, rfl⟩ := strs_get hy
        obtain ⟨x, hx, rfl⟩ : ∃ x, (ofSide i hs)[k]? = some x ∧ x.name = n := by
          unfold namesOf at hn
          rw [List.getElem?_map] at hn
          exact Option.map_eq_some_iff.mp hn
        have xm := List.mem_of_getElem? hx
        have xh : x ∈ hs := (List.mem_filter.mp xm).1
        obtain ⟨jx, hjx, ejx⟩ := List.getElem_of_mem xh
        have fx : crewOf x.name hs = some x := crew_find cok (by rw [List.getElem?_eq_getElem hjx, ejx])
        obtain ⟨text, htx, bi⟩ := hat x xm
        have ln := name_len (pactB_out (cok.one x xh).1).1
        have lt := (small_ _ (My.val_mem htx)).2
        refine ⟨_, rfl, _, rfl, _, rfl, _, _, _, _, _, rfl, sd.ob, c0, T.n_Side__bodies, rfl, _, rfl, BD, .str text, rfl, .inl ⟨_, .inr x.name, .inl sd.bd, rfl, by rw [My.val_dS, My.valS_onV, htx]; rfl⟩, fun b db nb ndb neb => ?_⟩
        have s9 : Same H8 (upd (upd H8 db (.own b)) b (.ins a.c_Body db [])) := ((Same.refl H8).upd ndb).upd nb
        have eb9 : (upd (upd H8 db (.own b)) b (.ins a.c_Body db [])) b = some (.ins a.c_Body db []) := upd_same
        have f9 : ∀ z, (upd (upd H8 db (.own b)) b (.ins a.c_Body db [])) z = none → H8 z = none := fun z hz => s9.free hz
        show sp_BodyInit _ _ _ _ (upd (upd H8 db (.own b)) b (.ins a.c_Body db [])) _ E
        generalize (upd (upd H8 db (.own b)) b (.ins a.c_Body db [])) = H9 at s9 eb9 f9 ⊢
        have k9 : Keeps [s] H H9 := fun c o z n => s9 _ _ (k8 c o z n)
        have f8 : ∀ z, H8 z = none → H z = none := fun z hz => by
          rcases k8.fresh hz with q | q
          · simp at q
            subst q
            rw [sd.ob] at hz
            cases hz
          · exact q
        have out : ∀ n : Int, at_ x = some n → OutB a.c_NoBody [b] x.name n H9 E := fun n hn => outB_from (R := [s]) (H := H) (fun H2 k2 c o hc hs' => k2 c o (k9 c o hc hs') (by
          have n1 := ne_of_none (k8 c o hc hs') nb
          simp [n1])) (fun z hz => f8 z (f9 z hz)) (hbad k x n hx hn (fun j z hj hz => fineb j z hj hz))
        refine ⟨b, db, p, pl, hl, as, has, ps, hs, x.name, text, x, rfl, eb9, pa.keep k9 nt op opl, cr.keep k9 nt ohl, cok, fx, by omega, lt, ⟨bi.1, fun m fb => out _ (bi.2.1 m fb), fun al la => out _ (bi.2.2.1 al la),
          fun al la L N' t ts H10 eb hL hN' hts hst kp => ⟨rfl, ?_⟩⟩⟩
        have ax : at_ x = none := bi.2.2.2 al la
        have s10 : Same H8 H10 := keeps_same s9 kp nb
        have e10 := s10 _ _ sd.ob
        have d10 := s10 _ _ sd.dp
        have b10 := s10 _ _ sd.bd
        have n10 := s10 _ _ n8
        have bl : bs.length ≤ 8 := by
          have := congrArg List.length bk
          rw [List.length_map, List.length_take] at this
          omega
        refine ⟨_, rfl, _, _, _, _, _, rfl, e10, c0, T.n_Side__parsed, rfl, _, rfl, DP, _, rfl, L2.DPut.k (k := .inr x.name) d10 (by show (dS (onV V.ref bs)).length < _; unfold dS onV; rw [List.length_map, List.length_map]; exact small (by omega)), ?_⟩
        rw [My.put_dS, My.put_onV]
        have nk : x.name ∉ bs.map (·.1) := by
          rw [bk]
          unfold namesOf
          rw [← List.map_take]
          exact My.nin_take (f := fun z : Hr => z.name) (cok.names.sublist (List.Sublist.map _ List.filter_sublist)) hx
        have pe : putS bs x.name b = bs ++ [(x.name, b)] := by unfold putS; rw [if_neg nk]
        rw [pe]
        have ndS : s ≠ DP := ne_of e10 d10 (by intro q; cases q)
        have nnD : N ≠ DP := ne_of n10 d10 (by intro q; cases q)
        refine Blk.of ⟨_, bs ++ [(x.name, b)], rfl, (Keeps.trans k8 (fun c o z _ => s10 c o z)).upd (.inr hP0), ⟨by rw [upd_ne ndS]; exact e10, by rw [upd_ne nBP]; exact b10, upd_same, fun e he => ?_⟩, ?_, by rw [upd_ne nnD]; exact n10, fun j z hj hz => ?_⟩
        · rcases List.mem_append.mp he with q | q
          · obtain ⟨t2, x2, h2, h4, h3⟩ := sd.bo e q
            exact ⟨t2, x2, h2, h4, (h3.same s10).put d10⟩
          · obtain rfl := List.mem_singleton.mp q
            exact ⟨text, x, htx, fx, BodyAt.put ⟨db, L, N', t, ts, eb, hL, hN', hts, hst⟩ d10⟩
        · rw [List.map_append, bk, take_snoc hn]
          rfl
        · by_cases q : j < k
          · exact fineb j z q hz
          · obtain rfl : j = k := by omega
            rw [hx] at hz
            obtain rfl := Option.some.inj hz
            exact ax
      · intro σ H8 hB
        obtain ⟨v5, bs, rfl, k8, sd, bk, n8, fineb⟩ := hB.out
        rw [List.length_map] at bk fineb
        rw [List.take_length] at bk
        have all : ∀ x, x ∈ ofSide i hs → at_ x = none := fun x hx => by
          obtain ⟨j, hj, ej⟩ := List.getElem_of_mem hx
          refine fineb j x (by unfold namesOf; rw [List.length_map]; exact hj) (by rw [List.getElem?_eq_getElem hj, ej])
        exact hok all BD DP bs H8 sd (fB.resolve_left (by simpa using fun q => nsB (Eq.symm q))) hP0 bk k8

open My (Hr dS onV valS putS)
/-! ### sides asked -/
def sp_parsed (C CB : Addr) : Sp := fun vs H Q _ => ∃ (s dx p BD DP : Addr) (i : Int) (tx : List (Str × Str)) (bs : List (Str × Addr)) (hs : List Hr) (ps : List My.Pr) (n : Str) (b : Addr), vs = [.ref s, .str n] ∧ SideAt C CB hs ps H s dx p BD DP i tx bs ∧ valS bs n = some b ∧ Q (.ref b) H
theorem sfs_no1 {p BD DP : Addr} {i : Int} : (sfs p i BD DP).lookup ("parsed" : Str) = none := by kernel_rfl
theorem ok_Side_parsed (T : Txt K mg a) : FnOk P w K mg base CX0 1 a.f_Side_parsed a.d_Side_parsed ["self", "name"] (sp_parsed a.c_Side a.c_Body) := by
  refine T.F_Side_parsed.ok sc_Side_parsed (fun vs H Q E h => ?_) (fun cdv A outer s H vs Q E hr h => ?_)
  · obtain ⟨s, dx, p, BD, DP, i, tx, bs, hs, ps, n, b, rfl, _⟩ := h
    rfl
  · obtain ⟨s, dx, p, BD, DP, i, tx, bs, hs, ps, n, b, rfl, sd, hb, kk⟩ := h
    refine ⟨_, (pss_cons (ps_if (pt_cmp (pc_dnotin (hu_of hr) (pv 1) (pe_fld (pv 0) rfl))) (pss_one ps_never) pss_nil)
      (pss_one (ps_ret (pe_dget (hu_of hr) (pe_fld (pv 0) rfl) (pv 1) (fun _ _ => rfl))))), ?_⟩
    have c0 := T.cl_Side
    have kin : n ∈ bs.map (·.1) := List.mem_map.mpr ⟨(n, b), My.val_mem hb, rfl⟩
    refine ⟨_, rfl, _, rfl, _, _, _, _, _, rfl, sd.ob, c0, T.n_Side__parsed, rfl, DP, _, rfl, .inl ⟨_, .inr n, .inl sd.dp, rfl, rfl⟩, _, rfl, ?_⟩
    rw [My.val_dS, My.val_in, My.keys_onV, decide_eq_true kin]
    refine iteF ?_
    exact ⟨_, rfl, _, _, _, _, _, rfl, sd.ob, c0, T.n_Side__parsed, rfl, _, rfl, DP, .ref b, rfl, .inl ⟨_, .inr n, .inl sd.dp, rfl, by rw [My.val_dS, My.valS_onV, hb]; rfl⟩, kk⟩
def sp_Sbody (C CB : Addr) : Sp := fun vs H Q _ => ∃ (s dx p BD DP : Addr) (i : Int) (tx : List (Str × Str)) (bs : List (Str × Addr)) (hs : List Hr) (ps : List My.Pr) (x : Hr) (n text : Str) (b : Addr), vs = [.ref s, .str n] ∧ SideAt C CB hs ps H s dx p BD DP i tx bs ∧ valS bs n = some b ∧ BodyAt CB hs ps x H b text ∧ Q (.str text) H
theorem ok_Side_body (T : Txt K mg a) : FnOk P w K mg base CX0 2 a.f_Side_body a.d_Side_body ["self", "name"] (sp_Sbody a.c_Side a.c_Body) := by
  refine T.F_Side_body.ok sc_Side_body (fun vs H Q E h => ?_) (fun cdv A outer s H vs Q E hr h => ?_)
  · obtain ⟨s, dx, p, BD, DP, i, tx, bs, hs, ps, x, n, text, b, rfl, _⟩ := h
    rfl
  · obtain ⟨s, dx, p, BD, DP, i, tx, bs, hs, ps, x, n, text, b, rfl, sd, hb, bo, kk⟩ := h
    refine ⟨_, (pss_one (ps_ret (pe_fld (pe_meth (pv 0) T.cl_Side T.m_Side_parsed (ok_Side_parsed T) (hr.mono (by decide)) T.B_Side_parsed .nil pass0 (pa_cons (pv 1) pa_nil)) rfl))), ?_⟩
    obtain ⟨db, L, N, t, ts, e1, e2, e3, e4, e5⟩ := bo.ex
    refine ⟨_, rfl, s, dx, _, rfl, sd.ob, sfs_no1, _, rfl, s, dx, p, BD, DP, i, tx, bs, hs, ps, n, b, rfl, sd, hb, ?_⟩
    exact ⟨_, _, _, _, _, rfl, e1, T.cl_Body, T.n_Body_text, rfl, kk⟩
def sp_Srows (C CB : Addr) : Sp := fun vs H Q _ => ∃ (s dx p BD DP : Addr) (i : Int) (tx : List (Str × Str)) (bs : List (Str × Addr)) (hs : List Hr) (ps : List My.Pr) (x : Hr) (n text : Str) (b : Addr), vs = [.ref s, .str n] ∧ SideAt C CB hs ps H s dx p BD DP i tx bs ∧ valS bs n = some b ∧ BodyAt CB hs ps x H b text ∧
  ∀ R, H R = none → Q (.ref R) (upd H R (.lst ((My.cut 10 text).map V.str)))
theorem ok_Side_rows (T : Txt K mg a) : FnOk P w K mg base CX0 2 a.f_Side_rows a.d_Side_rows ["self", "name"] (sp_Srows a.c_Side a.c_Body) := by
  refine T.F_Side_rows.ok sc_Side_rows (fun vs H Q E h => ?_) (fun cdv A outer s H vs Q E hr h => ?_)
  · obtain ⟨s, dx, p, BD, DP, i, tx, bs, hs, ps, x, n, text, b, rfl, _⟩ := h
    rfl
  · obtain ⟨s, dx, p, BD, DP, i, tx, bs, hs, ps, x, n, text, b, rfl, sd, hb, bo, kk⟩ := h
    refine ⟨_, (pss_one (ps_ret (pe_callTy call_list_of (by rfl) T.z_list (by decide +kernel) (pa_cons (pe_fld (pe_meth (pv 0) T.cl_Side T.m_Side_parsed (ok_Side_parsed T) (hr.mono (by decide)) T.B_Side_parsed .nil pass0 (pa_cons (pv 1) pa_nil)) rfl) pa_nil)))), ?_⟩
    obtain ⟨db, L, N, t, ts, e1, e2, e3, e4, e5⟩ := bo.ex
    refine ⟨_, rfl, s, dx, _, rfl, sd.ob, sfs_no1, _, rfl, s, dx, p, BD, DP, i, tx, bs, hs, ps, n, b, rfl, sd, hb, ?_⟩
    exact ⟨_, _, _, _, _, rfl, e1, T.cl_Body, T.n_Body_texts, rfl, L, _, rfl, .inl (SqL.of e2), fun R hR => kk R hR⟩
def sp_Snum (C CB : Addr) : Sp := fun vs H Q _ => ∃ (s dx p BD DP : Addr) (i : Int) (tx : List (Str × Str)) (bs : List (Str × Addr)) (hs : List Hr) (ps : List My.Pr), vs = [.ref s] ∧ SideAt C CB hs ps H s dx p BD DP i tx bs ∧ Q (.int i) H
theorem ok_Side_number (T : Txt K mg a) : FnOk P w K mg base CX0 1 a.f_Side_number a.d_Side_number ["self"] (sp_Snum a.c_Side a.c_Body) := by
  refine T.F_Side_number.ok sc_Side_number (fun vs H Q E h => ?_) (fun cdv A outer s H vs Q E hr h => ?_)
  · obtain ⟨s, dx, p, BD, DP, i, tx, bs, hs, ps, rfl, _⟩ := h
    rfl
  · obtain ⟨s, dx, p, BD, DP, i, tx, bs, hs, ps, rfl, sd, kk⟩ := h
    refine ⟨_, (pss_one (ps_ret (pe_fld (pv 0) rfl))), ?_⟩
    exact ⟨_, rfl, _, _, _, _, _, rfl, sd.ob, T.cl_Side, T.n_Side__number, rfl, kk⟩
def sp_Spacts (C CB : Addr) : Sp := fun vs H Q _ => ∃ (s dx p BD DP : Addr) (i : Int) (tx : List (Str × Str)) (bs : List (Str × Addr)) (hs : List Hr) (ps : List My.Pr), vs = [.ref s] ∧ SideAt C CB hs ps H s dx p BD DP i tx bs ∧ Q (.ref p) H
theorem ok_Side_pacts (T : Txt K mg a) : FnOk P w K mg base CX0 1 a.f_Side_pacts a.d_Side_pacts ["self"] (sp_Spacts a.c_Side a.c_Body) := by
  refine T.F_Side_pacts.ok sc_Side_pacts (fun vs H Q E h => ?_) (fun cdv A outer s H vs Q E hr h => ?_)
  · obtain ⟨s, dx, p, BD, DP, i, tx, bs, hs, ps, rfl, _⟩ := h
    rfl
  · obtain ⟨s, dx, p, BD, DP, i, tx, bs, hs, ps, rfl, sd, kk⟩ := h
    refine ⟨_, (pss_one (ps_ret (pe_fld (pv 0) rfl))), ?_⟩
    exact ⟨_, rfl, _, _, _, _, _, rfl, sd.ob, T.cl_Side, T.n_Side__pacts, rfl, kk⟩

open My (Hr dS onV valS putS)
/-! ### places of rows -/
def sp_norow (C : Addr) : Sp := fun vs H Q _ => ∃ (e : Addr) (n : Int), vs = [.ref e, .int n] ∧ H e = some (exo e C none) ∧ n.natAbs.log2 < 1920 ∧
  ∀ (d : Addr) (H' : Hp), H d = none → d ≠ e → H' e = some (exo e C (some d)) → H' d = some (exd d [("at", .int n)]) → Keeps [e] H H' → Q .non H'
theorem ok_NoRow_init (T : Txt K mg a) : FnOk P w K mg base CX0 1 a.f_NoRow_init a.d_NoRow_init ["self", "at"] (sp_norow a.c_NoRow) := by
  refine T.F_NoRow_init.ok sc_NoRow_init (fun vs H Q E h => ?_) (fun cdv A outer s H vs Q E hr h => ?_)
  · obtain ⟨e, n, rfl, _⟩ := h
    rfl
  · obtain ⟨e, n, rfl, he, hn, kk⟩ := h
    refine ⟨_, (pss_cons (ps_expr (pe_midInit T.md_PactError (by rfl) T.g_PactError (pa_cons (pv 0) (pa_cons (pe_joined (.cons pe_str (.cons (pe_fmt (pv 1)) .nil))) pa_nil))))
      (pss_one (ps_ost (pv 0) (pv 1) rfl))), ?_⟩
    have tl := PyProof.Rows.int_text_len_1921 hn
    refine ⟨_, rfl, _, rfl, by rw [sizeLine_eq]; decide +kernel, ?_⟩
    refine ⟨_, rfl, .inr ⟨n, rfl, hn, ?_⟩⟩
    have e0 : (Str.empty ++ "no such row: " : Str).length = 13 := by decide +kernel
    refine ⟨_, rfl, by rw [strLen_append, e0, sizeLine_eq]; omega, ?_⟩
    refine ⟨e, a.c_NoRow, _, rfl, by show 1 ≤ 1000; decide, T.x_NoRow, he, ?_⟩
    refine ⟨_, rfl, _, rfl, e, a.c_NoRow, rfl, T.x_NoRow, T.n_NoRow_at, .inl ⟨he, fun d hd nd => ?_⟩⟩
    refine kk d _ hd nd upd_same ?_ ?_
    · rw [upd_ne nd, upd_same]
    · exact ((Keeps.refl [e] H).upd (.inr hd)).upd (.inl (by simp))
def OutR (CN : Addr) (n : Int) (H : Hp) (E : XK) : Prop := ∀ (d : Addr) (H' : Hp), Same H H' → H d = none → H' d = some (.xd [("at", .int n)]) → E (.ref CN) (some d) H'
theorem mk_norow {C : Addr} {H H1 : Hp} {n : Int} {E : XK} {σ : L2.St} {tk : TA} (s1 : Same H H1) (hn : n.natAbs.log2 < 1920) (ht : ∀ Q : List V → Hp → Prop, Q [.int n] H1 → tk σ H1 Q) (kk : OutR C n H E) :
    tMkO C (sp_norow C) [] tk σ H1 (fun cls d H' => E cls d H') := by
  refine ht _ ⟨by show 1 ≤ 1000; decide, fun e he => ?_⟩
  refine ⟨e, n, rfl, upd_same, hn, fun d H2 hd nde h1 h2 kp => ⟨rfl, d, _, h1, h2, ?_, ?_⟩⟩
  · exact (upd_ne nde).symm.trans hd
  · have hd1 : H1 d = none := (upd_ne nde).symm.trans hd
    refine kk d _ (fun c o ec => ?_) (s1.free hd1) upd_same
    have e1 := s1 _ _ ec
    have n1 : c ≠ e := ne_of_none e1 he
    have n2 : c ≠ d := ne_of_none e1 hd1
    rw [upd_ne n2, del_ne n1]
    exact kp c o ((upd_ne n1).trans e1) (by simp [n1])
def sp_Splace (C CB : Addr) : Sp := fun vs H Q _ => ∃ (s dx p BD DP : Addr) (i : Int) (tx : List (Str × Str)) (bs : List (Str × Addr)) (hs : List Hr) (ps : List My.Pr) (x : Hr) (n text : Str) (b : Addr) (k : Nat), vs = [.ref s, .str n, .int (k : Nat)] ∧ SideAt C CB hs ps H s dx p BD DP i tx bs ∧ valS bs n = some b ∧ BodyAt CB hs ps x H b text ∧
  k < (My.cut 10 text).length ∧ ∀ H', Same H H' → Q (.int (k : Nat)) H'
theorem ok_Side_place (T : Txt K mg a) : FnOk P w K mg base CX0 3 a.f_Side_place a.d_Side_place ["self", "name", "row"] (sp_Splace a.c_Side a.c_Body) := by
  refine T.F_Side_place.ok sc_Side_place (fun vs H Q E h => ?_) (fun cdv A outer s H vs Q E hr h => ?_)
  · obtain ⟨s, dx, p, BD, DP, i, tx, bs, hs, ps, x, n, text, b, k, rfl, _⟩ := h
    rfl
  · obtain ⟨s, dx, p, BD, DP, i, tx, bs, hs, ps, x, n, text, b, k, rfl, sd, hb, bo, hk, kk⟩ := h
    refine ⟨_, (pss_cons (ps_set (i := 3) sc_Side_place.nd rfl (Or.inl rfl) (pe_fld (pe_meth (pv 0) T.cl_Side T.m_Side_parsed (ok_Side_parsed T) (hr.mono (by decide)) T.B_Side_parsed .nil pass0 (pa_cons (pv 1) pa_nil)) rfl))
      (pss_cons (ps_if (PW.pt (pw_or (pt_not (pt_val (pe_call (ok_is_whole T) (hr.mono (by decide)) rfl T.g_is_whole T.k_is_whole T.B_is_whole .nil pass0 (pa_cons (pv 2) pa_nil)))) (pw_or1 (pt_not (pt_chain op_le op_lt pe_int (pv 2) (pe_callB call_len_seq (by rfl) T.z_len (by decide +kernel) (pa_cons (pv 3) pa_nil))))))) (pss_one ps_never) pss_nil)
      (pss_one (ps_ret (pe_ix ix_list (pv 3) (pv 2) (fun _ _ => rfl)))))), ?_⟩
    obtain ⟨db, L, N, t, ts, e1, e2, e3, e4, e5⟩ := bo.ex
    refine ⟨_, rfl, s, dx, _, rfl, sd.ob, sfs_no1, _, rfl, s, dx, p, BD, DP, i, tx, bs, hs, ps, n, b, rfl, sd, hb, ?_⟩
    refine ⟨_, _, _, _, _, rfl, e1, T.cl_Body, T.n_Body_numbers, rfl, ?_⟩
    refine ⟨_, rfl, _, rfl, _, rfl, ?_⟩
    refine iteF ?_
    refine ⟨_, rfl, _, _, rfl, rfl, _, rfl, ?_⟩
    rw [decide_eq_true (show (0 : Int) ≤ (k : Int) by omega)]
    refine iteT ?_
    refine ⟨_, rfl, _, _, rfl, .inl (SqL.of e3), _, _, rfl, rfl, _, rfl, ?_⟩
    rw [decide_eq_true (show (k : Int) < ((((List.range (My.cut 10 text).length).map fun i => V.int (i : Nat)).length : Nat) : Int) by rw [List.length_map, List.length_range]; omega)]
    refine iteF ?_
    refine ⟨_, rfl, _, rfl, _, _, _, _, rfl, rfl, SqL.of e3, at_of (j := k) rfl (by rw [List.getElem?_map, List.getElem?_range hk]; rfl), ?_⟩
    exact kk H (Same.refl H)
def sp_SplaceX (CN C CB : Addr) : Sp := fun vs H _ E => ∃ (s dx p BD DP : Addr) (i : Int) (tx : List (Str × Str)) (bs : List (Str × Addr)) (hs : List Hr) (ps : List My.Pr) (x : Hr) (n text : Str) (b : Addr) (k : Int), vs = [.ref s, .str n, .int k] ∧ SideAt C CB hs ps H s dx p BD DP i tx bs ∧ valS bs n = some b ∧ BodyAt CB hs ps x H b text ∧
  (k < 0 ∨ ((My.cut 10 text).length : Int) ≤ k) ∧ k.natAbs.log2 < 1920 ∧ OutR CN k H E
theorem ok_Side_placeX (T : Txt K mg a) : FnOk P w K mg base (L2.CX P w) 3 a.f_Side_place a.d_Side_place ["self", "name", "row"] (sp_SplaceX a.c_NoRow a.c_Side a.c_Body) := by
  refine T.F_Side_place.okX sc_Side_place (fun vs H Q E h => ?_) (fun cdv A outer s H vs Q E hr h => ?_)
  · obtain ⟨s, dx, p, BD, DP, i, tx, bs, hs, ps, x, n, text, b, k, rfl, _⟩ := h
    rfl
  · obtain ⟨s, dx, p, BD, DP, i, tx, bs, hs, ps, x, n, text, b, k, rfl, sd, hb, bo, hk, hl, kk⟩ := h
    refine ⟨_, (pss_cons (ps_set (i := 3) sc_Side_place.nd rfl (Or.inl rfl) (pe_fld (pe_meth (pv 0) T.cl_Side T.m_Side_parsed (ok_Side_parsed T) (hr.mono (by decide)) T.B_Side_parsed .nil pass0 (pa_cons (pv 1) pa_nil)) rfl))
      (pss_cons (ps_if (PW.pt (pw_or (pt_not (pt_val (pe_call (ok_is_whole T) (hr.mono (by decide)) rfl T.g_is_whole T.k_is_whole T.B_is_whole .nil pass0 (pa_cons (pv 2) pa_nil)))) (pw_or1 (pt_not (pt_chain op_le op_lt pe_int (pv 2) (pe_callB call_len_seq (by rfl) T.z_len (by decide +kernel) (pa_cons (pv 3) pa_nil))))))) (pss_one (ps_raise rfl (W := fun cls d _ H => E cls d H) (takes_of rfl rfl rfl rfl) (pmk_oex T.x_NoRow T.xi_NoRow T.xt_NoRow (ok_NoRow_init T) (hr.mono (by decide)) T.B_NoRow_init .nil pass0 (by rfl) T.g_NoRow (pa_cons (pv 2) pa_nil)))) pss_nil)
      (pss_one (ps_ret (pe_ix ix_list (pv 3) (pv 2) (fun _ _ => rfl)))))), ?_⟩
    obtain ⟨db, L, N, t, ts, e1, e2, e3, e4, e5⟩ := bo.ex
    refine ⟨_, rfl, s, dx, _, rfl, sd.ob, sfs_no1, _, rfl, s, dx, p, BD, DP, i, tx, bs, hs, ps, n, b, rfl, sd, hb, ?_⟩
    refine ⟨_, _, _, _, _, rfl, e1, T.cl_Body, T.n_Body_numbers, rfl, ?_⟩
    have raise : tMkO a.c_NoRow (sp_norow a.c_NoRow) [] (tCons (tVar 2) tNil) [some (.ref s), some (.str n), some (.int k), some (.ref N)] H (fun cls d H' => E cls d H') := mk_norow (Same.refl H) hl (fun QQ q => ⟨_, rfl, q⟩) kk
    refine ⟨_, rfl, _, rfl, _, rfl, ?_⟩
    refine iteF ?_
    refine ⟨_, rfl, _, _, rfl, rfl, _, rfl, ?_⟩
    by_cases h0 : (0 : Int) ≤ k
    · rw [decide_eq_true h0]
      refine iteT ?_
      refine ⟨_, rfl, _, _, rfl, .inl (SqL.of e3), _, _, rfl, rfl, _, rfl, ?_⟩
      rw [decide_eq_false (show ¬ k < ((((List.range (My.cut 10 text).length).map fun i => V.int (i : Nat)).length : Nat) : Int) by rw [List.length_map, List.length_range]; omega)]
      refine iteT ?_
      exact raise
    · rw [decide_eq_false h0]
      refine iteF ?_
      refine ⟨_, rfl, ?_⟩
      exact iteT raise

/-! ### names and words drawn -/
def SeekG (sp found : List Str) (i : Nat) (x : Str) : Prop := My.nameB x = true ∧ (x ∉ found ∨ ((∀ j, j + 1 < i → ∀ s, sp[j]? = some s → s ∈ found) ∧ (∀ s, 0 < i → sp[i - 1]? = some s → x = s)))
theorem SeekG.first {sp found : List Str} {x : Str} (h : My.nameB x = true) : SeekG sp found 0 x := ⟨h, .inr ⟨fun j h => absurd h (by omega), fun s h => absurd h (by omega)⟩⟩
theorem SeekG.keep {sp found : List Str} {i : Nat} {x : Str} (h : SeekG sp found i x) (n : x ∉ found) : SeekG sp found (i + 1) x := ⟨h.1, .inl n⟩
theorem SeekG.next {sp found : List Str} {i : Nat} {x s : Str} (h : SeekG sp found i x) (nm : ∀ s, s ∈ sp → My.nameB s = true) (n : x ∈ found) (hs : sp[i]? = some s) : SeekG sp found (i + 1) s := by
  refine ⟨nm s (List.mem_of_getElem? hs), .inr ⟨fun j hj t ht => ?_, fun t _ ht => ?_⟩⟩
  · rcases h.2 with h2 | ⟨h2, h3⟩
    · exact absurd n h2
    · by_cases e : j + 1 < i
      · exact h2 j e t ht
      · obtain rfl : i = j + 1 := by omega
        have := h3 t (by omega) (by simpa using ht)
        exact this ▸ n
  · have : i + 1 - 1 = i := by omega
    rw [this, hs] at ht
    exact (Option.some.inj ht)
theorem SeekG.done {sp found : List Str} {x : Str} (h : SeekG sp found sp.length x) (nd : sp.Nodup) (hl : found.length + 1 < sp.length) : My.nameB x = true ∧ x ∉ found := by
  refine ⟨h.1, ?_⟩
  rcases h.2 with h2 | ⟨h2, _⟩
  · exact h2
  · exfalso
    have hle : (sp.take (sp.length - 1)).length ≤ found.length := My.len_le (nd.sublist (List.take_sublist _ _)) fun s hs => by
      obtain ⟨j, hj⟩ := List.getElem?_of_mem hs
      have hj2 : j < sp.length - 1 := by
        have := (List.getElem?_eq_some_iff.mp hj).1
        rw [List.length_take] at this
        omega
      rw [List.getElem?_take, if_pos hj2] at hj
      exact h2 j (by omega) s hj
    rw [List.length_take] at hle
    omega
def sp12 : List Str := ["qa", "qb", "qc", "qd", "qe", "qf", "qg", "qh", "qi", "qj", "qk", "ql"]
theorem sp12_nd : sp12.Nodup := by decide +kernel
theorem sp12_nm : ∀ s, s ∈ sp12 → My.nameB s = true := by decide +kernel
theorem log_small {n : Nat} (h : n ≤ 100000) : ((n : Nat) : Int).natAbs.log2 < 9000 := by
  rw [Int.natAbs_natCast]
  by_cases h0 : n = 0
  · subst h0; decide
  · have : n.log2 < 17 := (Nat.log2_lt h0).mpr (by omega)
    omega
def sp_names : Sp := fun vs H Q _ => ∃ (b g l M : Addr) (n m : Int) (menu : List Str), vs = [.ref b, .int m, .ref M] ∧ BoxAt H b g l n ∧ 0 ≤ n ∧ n < 8000000 ∧ 0 ≤ m ∧ m ≤ 10 ∧ H M = some (.lst (menu.map V.str)) ∧ M ∉ [b, g] ∧ menu ≠ [] ∧ menu.length ≤ 1000 ∧ (∀ s, s ∈ menu → My.nameB s = true) ∧
  ∀ (p : Addr) (ns : List Str) (n' : Int) (H' : Hp), H p = none → H' p = some (.lst (ns.map V.str)) → (ns.length : Int) = m → (∀ s, s ∈ ns → My.nameB s = true) → ns.Nodup → n ≤ n' → n' ≤ n + 12 * m → BoxAt H' b g l n' → Keeps [b, g] H H' → Q (.ref p) H'
theorem ok_names (T : Txt K mg a) : FnOk P w K mg base CX0 4 a.f_names a.d_names ["_law_box_here", "_law_many", "_law_menu"] sp_names := by
  refine T.F_names.ok sc_names (fun vs H Q E h => ?_) (fun cdv A outer s H vs Q E hr h => ?_)
  · obtain ⟨b, g, l, M, n, m, menu, rfl, _⟩ := h
    rfl
  · obtain ⟨b, g, l, M, n, m, menu, rfl, bx, n0, n1, m0, m1, hM, oM, mne, mfew, mnm, kk⟩ := h
    refine ⟨_, (pss_cons (ps_set (i := 3) sc_names.nd rfl (Or.inr rfl) pe_str)
      (pss_cons (ps_set (i := 4) sc_names.nd rfl (Or.inl rfl) (pe_lst pa_nil))
      (pss_cons (ps_for PassesOwn.never rfl (pi_range1 (by rfl) T.z_range (pa_cons (pv 1) pa_nil)) (pg_name (i := 5) sc_names.nd rfl (Or.inl rfl)) (pss_cons (ps_set (i := 6) sc_names.nd rfl (Or.inl rfl) (pe_ix ix_list (pv 2) (pe_call (ok_take T) (hr.mono (by decide)) rfl T.g_take T.k_take T.B_take .nil pass0 (pa_cons (pv 0) (pa_cons (pe_callB call_len_seq (by rfl) T.z_len (by decide +kernel) (pa_cons (pv 2) pa_nil)) pa_nil))) (fun _ _ => rfl)))
      (C8.pss_cut (ps_if (pt_cmpR op_eq (pe_call (ok_take T) (hr.mono (by decide)) rfl T.g_take T.k_take T.B_take .nil pass0 (pa_cons (pv 0) (pa_cons pe_int pa_nil))) pe_int (nomark _)) (pss_cons (ps_set (i := 7) sc_names.nd rfl (Or.inl rfl) (pe_op op_add pe_int (pe_call (ok_take T) (hr.mono (by decide)) rfl T.g_take T.k_take T.B_take .nil pass0 (pa_cons (pv 0) (pa_cons (pe_ix ix_list (pe_lst (pa_cons pe_int (pa_cons pe_int (pa_cons pe_int pa_nil)))) (pe_call (ok_take T) (hr.mono (by decide)) rfl T.g_take T.k_take T.B_take .nil pass0 (pa_cons (pv 0) (pa_cons pe_int pa_nil))) (fun _ _ => rfl)) pa_nil)))))
      (pss_one (ps_set (i := 6) sc_names.nd rfl (Or.inl rfl) (pe_join pe_str (pe_lc (own := [("_law_j", 9)]) (g := gName 9) (tt := tYes) rfl sc_names.nd (pi_range1 (by rfl) T.z_range (pa_cons (pv 7) pa_nil)) (blkOk_by (own := [("_law_j", 9)]) (N := ["_law_box_here", "_law_many", "_law_menu", "_law_letters", "_law_found", "_law_k", "_law_word", "_law_size", "_law_spare", "_law_j"]) (sc := defScope s_names) (by decide +kernel)) (fun _ _ _ _ _ => pg_name (i := 9) sc_names.nd rfl (Or.inl rfl)) (fun _ _ _ _ _ => pts_nil) (fun _ _ _ _ _ => by exact (pe_ix ix_str (pv 3) (pe_call (ok_take T) (hr.mono (by decide)) rfl T.g_take T.k_take T.B_take .nil pass0 (pa_cons (pv 0) (pa_cons pe_int pa_nil))) (fun _ _ => rfl)))))))) pss_nil)
      (pss_cons (ps_for PassesOwn.never rfl (pi_list (pe_lst (pa_cons pe_str (pa_cons pe_str (pa_cons pe_str (pa_cons pe_str (pa_cons pe_str (pa_cons pe_str (pa_cons pe_str (pa_cons pe_str (pa_cons pe_str (pa_cons pe_str (pa_cons pe_str (pa_cons pe_str pa_nil)))))))))))))) (pg_name (i := 8) sc_names.nd rfl (Or.inl rfl)) (pss_one (ps_if (pt_cmpR op_in_seq (pv 6) (pv 4) (by rfl)) (pss_one (ps_set (i := 6) sc_names.nd rfl (Or.inl rfl) (pv 8))) pss_nil)))
      (pss_one (ps_expr (pe_bm PySem.F.plainAttrs_list PySem.F.slot_list_append PySem.F.type_list_append mt_append (pv 4) (pa_cons (pv 6) pa_nil))))))))
      (pss_one (ps_ret (pv 4)))))), ?_⟩
    refine ⟨by show 0 ≤ sizeLine; decide, fun F hF => ?_⟩
    refine ⟨_, rfl, m, rfl, by omega, by omega, ?_⟩
    have hF0 : F ∉ [b, g, l] := offbox3 bx hF
    have hF2 : F ∉ [b, g] := offbox bx hF
    refine for_range (lo := 0) (n := m.toNat) (fun i σ H1 => Blk (∃ (v5 v6 v7 v8 v9 : Option V) (ns : List Str) (n1 : Int), σ = [some (.ref b), some (.int m), some (.ref M), some (.str "abcdefghijklmnopqrstuvwxyz"), some (.ref F), v5, v6, v7, v8, v9] ∧ ns.length = i ∧ (∀ s, s ∈ ns → My.nameB s = true) ∧ ns.Nodup ∧ n ≤ n1 ∧ n1 ≤ n + 12 * i ∧
      H1 F = some (.lst (ns.map V.str)) ∧ BoxAt H1 b g l n1 ∧ Keeps [b, g] H H1)) ?_ ?_ ?_
    · exact Blk.of ⟨_, _, _, _, _, [], n, rfl, rfl, fun s hs => by simp at hs, List.nodup_nil, by omega, by omega, upd_same, bx.upd hF, (Keeps.refl [b, g] H).upd (.inr hF)⟩
    · intro i σ H1 hi hB
      obtain ⟨v5, v6, v7, v8, v9, ns, n2, rfl, rfl, hnm, hnd, hn1, hn2, h1, bx1, kp1⟩ := hB.out
      have hM1 := kp1 _ _ hM oM
      have eml : ((menu.map V.str).length : Int) = (menu.length : Int) := by rw [List.length_map]
      have mpos : 0 < menu.length := List.length_pos_iff.mpr mne
      refine ⟨_, rfl, _, rfl, _, rfl, M, _, rfl, .inl (SqL.of hM1), ?_⟩
      rw [eml]
      refine ⟨b, g, l, n2, _, rfl, bx1, by omega, by omega, by omega, log_small (by omega), fun k H2 k0 k1 bx2 kp2 => ?_⟩
      obtain ⟨kn, rfl⟩ : ∃ c : Nat, k = c := ⟨k.toNat, by omega⟩
      have hk : kn < menu.length := by omega
      have hmk : menu[kn]? = some menu[kn] := List.getElem?_eq_getElem hk
      have nx := mnm _ (List.mem_of_getElem? hmk)
      generalize menu[kn] = x at hmk nx
      have hM2 := kp2 _ _ hM1 oM
      have h2 := kp2 _ _ h1 hF2
      refine ⟨_, _, _, _, rfl, rfl, SqL.of hM2, at_of (j := kn) rfl (by rw [List.getElem?_map, hmk]; rfl), ?_⟩
      refine ⟨fun σ H3 => Blk (∃ (x : Str) (n4 : Int) (v7 v9 : Option V), σ = [some (.ref b), some (.int m), some (.ref M), some (.str "abcdefghijklmnopqrstuvwxyz"), some (.ref F), some (.int (0 + (ns.length : Nat))), some (.str x), v7, v8, v9] ∧ My.nameB x = true ∧ n2 ≤ n4 ∧ n4 ≤ n2 + 12 ∧ H3 F = some (.lst (ns.map V.str)) ∧ BoxAt H3 b g l n4 ∧ Keeps [b, g] H H3), ?_, ?_⟩
      · refine ⟨_, rfl, b, g, l, _, 2, rfl, bx2, by omega, by omega, by decide, by decide, fun c H3 c0 c1 bx3 kp3 => ?_⟩
        have h3 := kp3 _ _ h2 hF2
        refine ⟨rfl, _, rfl, ?_⟩
        refine iteD (fun _ => ?_) (fun _ => ?_)
        · refine ⟨_, rfl, by show 3 ≤ sizeLine; decide, fun L hL => ?_⟩
          have bxL := bx3.upd (o := .lst [.int 1, .int 3, .int 8]) hL
          have h3L : (upd H3 L (.lst [.int 1, .int 3, .int 8])) F = some (.lst (ns.map V.str)) := (upd_ne (ne_of_none h3 hL)).trans h3
          have hLL : (upd H3 L (.lst [.int 1, .int 3, .int 8])) L = some (.lst [.int 1, .int 3, .int 8]) := upd_same
          have oL := offbox bx3 hL
          have k0L : Keeps [b, g] H (upd H3 L (.lst [.int 1, .int 3, .int 8])) := ((kp1.trans kp2).trans kp3).upd (((kp1.trans kp2).trans kp3).fresh hL)
          refine ⟨_, rfl, b, g, l, _, 3, rfl, bxL, by omega, by omega, by decide, by decide, fun c2 H4 d0 d1 bx4 kp4 => ?_⟩
          have hL4 := kp4 _ _ hLL oL
          have h4 := kp4 _ _ h3L hF2
          obtain ⟨z, hz, z0, z1⟩ : ∃ z : Int, atI [V.int 1, .int 3, .int 8] c2 = some (.int z) ∧ 0 < z ∧ z ≤ 8 := by
            have : c2 = 0 ∨ c2 = 1 ∨ c2 = 2 := by omega
            rcases this with rfl | rfl | rfl
            · exact ⟨_, rfl, by decide, by decide⟩
            · exact ⟨_, rfl, by decide, by decide⟩
            · exact ⟨_, rfl, by decide, by decide⟩
          have z2 : z.natAbs.log2 < 9000 := by
            have : z = 1 ∨ z = 2 ∨ z = 3 ∨ z = 4 ∨ z = 5 ∨ z = 6 ∨ z = 7 ∨ z = 8 := by omega
            rcases this with rfl | rfl | rfl | rfl | rfl | rfl | rfl | rfl <;> decide
          refine ⟨_, _, _, _, rfl, rfl, SqL.of hL4, hz, ?_⟩
          refine ⟨b, g, l, _, z, rfl, bx4, by omega, by omega, z0, z2, fun sz H5 s0 s1 bx5 kp5 => ?_⟩
          have h5 := kp5 _ _ h4 hF2
          have k05 : Keeps [b, g] H H5 := (k0L.trans kp4).trans kp5
          refine ⟨_, _, rfl, rfl, ?_⟩
          refine ⟨⟨_, rfl⟩, ?_⟩
          refine ⟨_, rfl, 1 + sz, rfl, by omega, by omega, fun D hD => ?_⟩
          have hD0 : D ∉ [b, g] := offbox bx5 hD
          have hDH : H D = none := by
            rcases k05.fresh hD with q | q
            · exact absurd q hD0
            · exact q
          have nFD : F ≠ D := ne_of_none h5 hD
          refine lc_range (lo := 0) (n := (1 + sz).toNat) (fun i H6 => Blk (∃ cs : List Nat, cs.length = i ∧ cs.all My.letter = true ∧ H6 D = some (.lst ((cs.map sign).map V.str)) ∧ H6 F = some (.lst (ns.map V.str)) ∧ BoxAt H6 b g l (n2 + 1 + 1 + 1 + 1 + i) ∧ Keeps [b, g] H H6)) ?_ ?_ ?_
          · refine Blk.of ⟨[], rfl, rfl, upd_same, (upd_ne nFD).trans h5, ?_, k05.upd (.inr hDH)⟩
            have e : n2 + 1 + 1 + 1 + 1 + ((0 : Nat) : Int) = n2 + 1 + 1 + 1 + 1 := by omega
            rw [e]
            exact bx5.upd hD
          · intro i H6 hi6 hB
            obtain ⟨cs, rfl, hl, h6, hF6, bx6, kp6⟩ := hB.out
            refine ⟨rfl, ?_⟩
            dsimp only [tYes]
            refine iteT ?_
            refine ⟨_, rfl, _, rfl, b, g, l, _, 26, rfl, bx6, by omega, by omega, by decide, by decide, fun j H7 j0 j1 bx7 kp7 => ?_⟩
            obtain ⟨c, hc, lc⟩ := abc_ix j0 j1
            refine ⟨_, _, _, rfl, rfl, abc_len, hc, ?_⟩
            have h7 := kp7 _ _ h6 hD0
            have hF7 := kp7 _ _ hF6 hF2
            refine ⟨_, h7, ?_, Blk.of ⟨cs ++ [c], by rw [List.length_append]; rfl, by rw [List.all_append, hl]; simpa using lc, ?_, (upd_ne nFD).trans hF7, ?_, ?_⟩⟩
            · rw [List.length_map, List.length_map]
              exact small (by omega)
            · rw [upd_same, List.map_append, List.map_append]
              rfl
            · have e : n2 + 1 + 1 + 1 + 1 + ((cs.length + 1 : Nat) : Int) = n2 + 1 + 1 + 1 + 1 + (cs.length : Int) + 1 := by omega
              rw [e]
              exact box_put bx7 fun q => offbox3 bx5 hD q
            · exact (kp6.trans kp7).upd (.inr hDH)
          · intro H6 hB
            obtain ⟨cs, hcl, hl, h6, hF6, bx6, kp6⟩ := hB.out
            refine ⟨_, D, cs.map sign, rfl, rfl, .inl (SqL.of h6), ?_, ?_⟩
            · have e : ((cs.map sign).map (·.length)).sum = cs.length := by
                rw [List.map_map]
                clear h6 hl hcl
                induction cs with
                | nil => rfl
                | cons x r ih => rw [List.map_cons, List.sum_cons, ih]; show 1 + r.length = _; rw [List.length_cons]; omega
              rw [e, List.length_map]
              have : ("" : Str).length = 0 := by decide +kernel
              rw [this]
              omega
            · rw [join_signs]
              exact Blk.of ⟨_, _, _, _, rfl, name_of (by omega) (by omega) hl, by omega, by omega, hF6, bx6, kp6⟩
        · exact Blk.of ⟨x, _, _, _, rfl, nx, by omega, by omega, h3, bx3, (kp1.trans kp2).trans kp3⟩
      · rintro σ H3 hB
        obtain ⟨x, n4, v7', v9', rfl, nx, hn5, hn6, h3, bx3, kp3⟩ := hB.out
        refine ⟨by show 12 ≤ sizeLine; decide, fun L hL => ?_⟩
        have nFL : F ≠ L := ne_of_none h3 hL
        refine ⟨L, rfl, ⟨_, SqL.of upd_same⟩, ?_⟩
        refine for_list (K := K) (a := L) (xs := sp12.map V.str) (fun i σ H4 => Blk (∃ (v8 : Option V) (x : Str), σ = [some (.ref b), some (.int m), some (.ref M), some (.str "abcdefghijklmnopqrstuvwxyz"), some (.ref F), some (.int (0 + (ns.length : Nat))), some (.str x), v7', v8, v9'] ∧ SeekG sp12 ns i x ∧ H4 = upd H3 L (.lst (sp12.map V.str)))) ?_ ?_ ?_ ?_
        · exact Blk.of ⟨_, x, rfl, SeekG.first nx, rfl⟩
        · intro i σ H4 _ hB
          obtain ⟨v5, x, rfl, _, rfl⟩ := hB.out
          exact SqL.of upd_same
        · intro i y σ H4 hy hB
          obtain ⟨v5, x, rfl, sk, rfl⟩ := hB.out
          obtain ⟨s, hs, rfl⟩ := strs_get hy
          refine ⟨_, rfl, _, rfl, F, _, rfl, .inl (SqL.of ((upd_ne nFL).trans h3)), rfl, flat_str _, _, rfl, ?_⟩
          rw [if_neg Bool.false_ne_true, inV_str]
          refine iteD (fun hm => ?_) (fun hm => ?_)
          · exact ⟨_, rfl, Blk.of ⟨_, s, rfl, sk.next sp12_nm hm hs, rfl⟩⟩
          · exact Blk.of ⟨_, x, rfl, sk.keep hm, rfl⟩
        · intro σ H4 hB
          obtain ⟨v5, x, rfl, sk, rfl⟩ := hB.out
          obtain ⟨nx2, nin⟩ := sk.done sp12_nd (by show ns.length + 1 < 12; omega)
          refine ⟨_, rfl, .inl ⟨rfl, _, SqL.of ((upd_ne nFL).trans h3)⟩, _, rfl, F, _, _, rfl, rfl, (upd_ne nFL).trans h3, by rw [List.length_map]; exact small (by omega), ?_⟩
          refine Blk.of ⟨_, _, _, _, _, ns ++ [x], n4, rfl, by rw [List.length_append]; rfl, ?_, ?_, by omega, by omega, ?_, ?_, ?_⟩
          · intro s hs
            rcases List.mem_append.mp hs with e | e
            · exact hnm s e
            · simp at e; subst e; exact nx2
          · rw [List.nodup_append]
            exact ⟨hnd, by simp, fun a ha b hb => by simp at hb; subst hb; exact fun e => nin (e ▸ ha)⟩
          · rw [upd_same, List.map_append]; rfl
          · exact box_put (bx3.upd hL) hF0
          · refine (kp3.upd (.inr ?_)).upd (.inr hF)
            rcases kp3.fresh hL with q | q
            · exact absurd q (offbox bx3 hL)
            · exact q
    · intro σ H1 hB
      obtain ⟨v5, v6, v7, v8, v9, ns, n2, rfl, hl, hnm, hnd, hn1, hn2, h1, bx1, kp1⟩ := hB.out
      exact ⟨_, rfl, kk F ns _ H1 hF h1 (by omega) hnm hnd (by omega) (by omega) bx1 kp1⟩
def sp_unlike : Sp := fun vs H Q _ => ∃ (b g l L : Addr) (n m : Int) (xs : List Str), vs = [.ref b, .int m, .ref L] ∧ BoxAt H b g l n ∧ 0 ≤ n ∧ n < 8000000 ∧ H L = some (.lst (xs.map V.str)) ∧ xs.length ≤ 1000 ∧ 0 ≤ m ∧ m ≤ xs.length ∧
  ∀ (p : Addr) (ys : List Str) (n' : Int) (H' : Hp), H p = none → H' p = some (.lst (ys.map V.str)) → (ys.length : Int) = m → (∀ y, y ∈ ys → y ∈ xs) → (xs.Nodup → ys.Nodup) → n ≤ n' → n' ≤ n + m → BoxAt H' b g l n' → Keeps [b, g] H H' → Q (.ref p) H'
theorem erase_map {α β : Type} (f : α → β) : ∀ (l : List α) (n : Nat), (l.map f).eraseIdx n = (l.eraseIdx n).map f
  | [], _ => rfl
  | _ :: _, 0 => rfl
  | a :: r, n + 1 => by
    rw [List.map_cons, List.eraseIdx_cons_succ, List.eraseIdx_cons_succ, List.map_cons, erase_map f r n]
theorem ok_unlike (T : Txt K mg a) : FnOk P w K mg base CX0 3 a.f_unlike a.d_unlike ["_law_box_here", "_law_many", "_law_pool"] sp_unlike := by
  refine T.F_unlike.ok sc_unlike (fun vs H Q E h => ?_) (fun cdv A outer s H vs Q E hr h => ?_)
  · obtain ⟨b, g, l, L, n, m, xs, rfl, _⟩ := h
    rfl
  · obtain ⟨b, g, l, L, n, m, xs, rfl, bx, n0, n1, hL, hz, m0, m1, kk⟩ := h
    refine ⟨_, (pss_cons (ps_set (i := 3) sc_unlike.nd rfl (Or.inl rfl) (pe_callTy call_list_of (by rfl) T.z_list (by decide +kernel) (pa_cons (pv 2) pa_nil)))
      (pss_cons (ps_set (i := 4) sc_unlike.nd rfl (Or.inl rfl) (pe_lst pa_nil))
      (pss_cons (ps_for PassesOwn.never rfl (pi_range1 (by rfl) T.z_range (pa_cons (pv 1) pa_nil)) (pg_name (i := 5) sc_unlike.nd rfl (Or.inl rfl)) (pss_one (ps_expr (pe_bm PySem.F.plainAttrs_list PySem.F.slot_list_append PySem.F.type_list_append mt_append (pv 4) (pa_cons (pe_bm PySem.F.plainAttrs_list PySem.F.slot_list_pop PySem.F.type_list_pop mt_popAt (pv 3) (pa_cons (pe_call (ok_take T) (hr.mono (by decide)) rfl T.g_take T.k_take T.B_take .nil pass0 (pa_cons (pv 0) (pa_cons (pe_callB call_len_seq (by rfl) T.z_len (by decide +kernel) (pa_cons (pv 3) pa_nil)) pa_nil))) pa_nil)) pa_nil)))))
      (pss_one (ps_ret (pv 4)))))), ?_⟩
    refine ⟨_, rfl, L, _, rfl, .inl (SqL.of hL), fun p hp => ?_⟩
    refine ⟨by show 0 ≤ sizeLine; decide, fun D hD => ?_⟩
    have npD : p ≠ D := ne_of_none upd_same hD
    have hpo := offbox bx hp
    have hpo3 := offbox3 bx hp
    have bx1 := bx.upd (o := .lst (xs.map V.str)) hp
    have hDo := offbox bx1 hD
    have hDo3 := offbox3 bx1 hD
    have hD0 : H D = none := (upd_ne npD.symm).symm.trans hD
    have bx2 := bx1.upd (o := .lst []) hD
    refine ⟨_, rfl, m, rfl, by omega, by omega, ?_⟩
    refine for_range (lo := 0) (n := m.toNat) (fun i σ H3 => Blk (∃ (v5 : Option V) (zs ys : List Str), σ = [some (.ref b), some (.int m), some (.ref L), some (.ref p), some (.ref D), v5] ∧ zs.length + i = xs.length ∧ ys.length = i ∧ (∀ y, y ∈ ys → y ∈ xs) ∧ (∀ z, z ∈ zs → z ∈ xs) ∧ (ys ++ zs).Perm xs ∧
      H3 p = some (.lst (zs.map V.str)) ∧ H3 D = some (.lst (ys.map V.str)) ∧ BoxAt H3 b g l (n + i) ∧ Keeps [b, g] H H3)) ?_ ?_ ?_
    · refine Blk.of ⟨_, xs, [], rfl, rfl, rfl, fun y hy => by simp at hy, fun z hz => hz, List.Perm.refl _, (upd_ne npD).trans upd_same, upd_same, ?_, ((Keeps.refl [b, g] H).upd (.inr hp)).upd (.inr hD0)⟩
      rw [show n + ((0 : Nat) : Int) = n by omega]
      exact bx2
    · intro i σ H3 hi hB
      obtain ⟨v5, zs, ys, rfl, hzl, rfl, hys, hzs, hpm, h3p, h3D, bx3, k03⟩ := hB.out
      have elz : (((zs.map V.str).length : Nat) : Int) = (zs.length : Int) := by rw [List.length_map]
      refine ⟨_, rfl, .inl ⟨rfl, _, SqL.of h3D⟩, ?_⟩
      refine ⟨_, rfl, .inl ⟨rfl, _, SqL.of h3p⟩, ?_⟩
      refine ⟨_, rfl, _, rfl, p, _, rfl, .inl (SqL.of h3p), ?_⟩
      rw [elz]
      refine ⟨b, g, l, _, _, rfl, bx3, by omega, by omega, by omega, log_small (by omega), fun j H4 j0 j1 bx4 kp4 => ?_⟩
      have h4p := kp4 _ _ h3p hpo
      have h4D := kp4 _ _ h3D hDo
      obtain ⟨jn, rfl⟩ : ∃ m : Nat, j = m := ⟨j.toNat, by omega⟩
      have hj : jn < zs.length := by omega
      have hzj : zs[jn]? = some zs[jn] := List.getElem?_eq_getElem hj
      have hmem := List.mem_of_getElem? hzj
      generalize zs[jn] = z at hzj hmem
      refine ⟨p, _, _, jn, .str z, rfl, rfl, h4p, by omega, by omega, seqIndex_of (by omega) (by rw [List.length_map]; omega), by rw [List.getElem?_map, hzj]; rfl, ?_⟩
      have e1 : (zs.map V.str).eraseIdx jn = (zs.eraseIdx jn).map V.str := erase_map V.str zs jn
      rw [e1]
      refine ⟨D, _, _, rfl, rfl, (upd_ne npD.symm).trans h4D, by rw [List.length_map]; exact small (by omega), Blk.of ⟨_, zs.eraseIdx jn, ys ++ [z], rfl, ?_, by rw [List.length_append]; rfl, ?_, ?_, ?_, ?_, ?_, ?_, ?_⟩⟩
      · rw [List.length_eraseIdx, if_pos hj]
        omega
      · intro y hy
        rcases List.mem_append.mp hy with e | e
        · exact hys y e
        · simp at e; subst e; exact hzs _ hmem
      · intro y hy
        exact hzs y (List.mem_of_mem_eraseIdx hy)
      · refine List.Perm.trans ?_ hpm
        rw [List.append_assoc]
        refine List.Perm.append_left _ ?_
        obtain ⟨hl2, e2⟩ := List.getElem?_eq_some_iff.mp hzj
        rw [List.eraseIdx_eq_take_drop_succ]
        have p := (List.perm_middle (a := z) (l₁ := zs.take jn) (l₂ := zs.drop (jn + 1))).symm
        have e3 : zs.take jn ++ z :: zs.drop (jn + 1) = zs := by
          rw [← e2, List.getElem_cons_drop hl2, List.take_append_drop]
        rw [e3] at p
        exact p
      · rw [upd_ne npD, upd_same]
      · rw [upd_same, List.map_append]; rfl
      · have e : n + ((ys.length + 1 : Nat) : Int) = n + (ys.length : Int) + 1 := by omega
        rw [e]
        exact box_put (box_put bx4 hpo3) hDo3
      · exact ((k03.trans kp4).upd (.inr hp)).upd (.inr hD0)
    · intro σ H3 hB
      obtain ⟨v5, zs, ys, rfl, hzl, hyl, hys, hzs, hpm, h3p, h3D, bx3, k03⟩ := hB.out
      exact ⟨_, rfl, kk D ys _ H3 hD0 h3D (by omega) hys (fun nd => (List.nodup_append.mp (hpm.nodup_iff.mpr nd)).1) (by omega) (by omega) bx3 k03⟩

open My (Hr)
/-! ### helpers that are drawn -/
theorem AllAt.append {α : Type} {R : Addr → α → Prop} {as bs : List Addr} {xs ys : List α} (o : AllAt R as xs) (q : AllAt R bs ys) : AllAt R (as ++ bs) (xs ++ ys) := by
  refine ⟨by rw [List.length_append, List.length_append, o.len, q.len], fun i h x e1 e2 => ?_⟩
  by_cases hi : i < as.length
  · rw [List.getElem?_append_left hi] at e1
    rw [List.getElem?_append_left (by rw [← o.len]; exact hi)] at e2
    exact o.at_ i h x e1 e2
  · rw [List.getElem?_append_right (by omega)] at e1
    rw [List.getElem?_append_right (by rw [← o.len]; omega), ← o.len] at e2
    exact q.at_ _ h x e1 e2
theorem AllAt.drop {α : Type} {R : Addr → α → Prop} {as : List Addr} {xs : List α} (o : AllAt R as xs) (n : Nat) : AllAt R (as.drop n) (xs.drop n) := by
  refine ⟨by rw [List.length_drop, List.length_drop, o.len], fun i h x e1 e2 => ?_⟩
  rw [List.getElem?_drop] at e1 e2
  exact o.at_ _ h x e1 e2
theorem AllAt.one {α : Type} {R : Addr → α → Prop} {h : Addr} {x : α} (e : R h x) : AllAt R [h] [x] := AllAt.nil.snoc e
/-- a text that may be told -/
def WOk (s : Str) : Prop := s.length ≤ 20 ∧ PyData.strOk s = true
theorem letters_ok {s : Str} (h : s.cps.toList.all My.letter = true) : PyData.strOk s = true := by
  unfold PyData.strOk
  rw [← Array.all_toList]
  refine List.all_eq_true.mpr fun c hc => ?_
  have h4 := (List.all_eq_true.mp h) c hc
  unfold My.letter at h4
  simp only [Bool.and_eq_true, decide_eq_true_eq] at h4
  exact decide_eq_true (by omega)
theorem name_wok {s : Str} (h : My.nameB s = true) : WOk s := ⟨by have := name_len h; omega, letters_ok (nameB_out h).2.2⟩
structure HrOk (x : Hr) : Prop where
  nm : WOk x.name
  tl : x.takes.length ≤ 8
  tk : ∀ t, t ∈ x.takes → WOk t
  hl : x.throws.length ≤ 8
  th : ∀ t, t ∈ x.throws → WOk t
def rLenK (K : PySem.W.Frag) : List V → Hp → VK → Prop := fun xs H Q => ∃ p ys, xs = [V.ref p] ∧ (SqL K H p ys ∨ SqT K H p ys) ∧ Q (.int ys.length) H
theorem drop_le {α : Type} {xs : List α} {n : Nat} {x : α} (h : x ∈ xs.drop n) : x ∈ xs := List.mem_of_mem_drop h
theorem box_notup {b g l : Addr} {n : Int} {H : Hp} (bx : BoxAt H b g l n) : NoTup H [b, g] := by
  obtain ⟨gs, ls, cur, e1, e2, _⟩ := bx
  intro x hx ys
  simp at hx
  rcases hx with rfl | rfl
  · rw [e1]; exact ⟨fun e => (by cases e), fun o e => (by cases e)⟩
  · rw [e2]; exact ⟨fun e => (by cases e), fun o e => (by cases e)⟩
/-- the words of a side, as they are read off the pairs: the comprehension's own name in slot sl -/
theorem words_comp {K : PySem.W.Frag} {L : Addr} {as : List Addr} {ps : List My.Pr} {H1 : Hp} {i : Int} {te : TE} {σ : L2.St} {D : Addr} {Qd : Hp → Prop} {sl : Nat} (ob : Objs H1 as prO ps) (hL : H1 L = some (.lst (as.map V.ref))) (hD : H1 D = none) (hz : ps.length ≤ 1000)
    (hw : ∀ x : Option V, wipe ((wipe σ [sl]).set sl x) [sl] = wipe σ [sl])
    (ht : ∀ (h : Addr) (q : My.Pr) (H2 : Hp) (R : VK), H2 h = some (prO q) → R (.str (My.wd i q)) H2 → te ((wipe σ [sl]).set sl (some (.ref h))) H2 R)
    (hd : ∀ H2 : Hp, Same H1 H2 → H2 D = some (.lst ((ps.map (My.wd i)).map V.str)) → Qd H2) :
    ∃ W : Nat → Nat → Hp → Prop, (∃ m, W 0 m (upd H1 D (.lst []))) ∧ ∀ i m H, W i m H →
      ((Itl K L).stop i H ∧ Qd H) ∨ ((Itl K L).go i H ∧ ∃ Nx : Hp → Prop, (∀ H', Nx H' → ∃ m', m' < m ∧ W (i + 1) m' H') ∧ ∀ x H', (Itl K L).yld i H x H' → gName sl x (wipe σ [sl]) H' fun σ2 H2 => wipe σ2 [sl] = wipe σ [sl] ∧ tYes σ2 H2 fun b H3 =>
        if b = true then te σ2 H3 fun y H4 => ∃ acc, H4 D = some (.lst acc) ∧ acc.length < sizeLine ∧ Nx (upd H4 D (.lst (acc ++ [y]))) else Nx H3) := by
  have nLD : L ≠ D := ne_of_none hL hD
  have asl := ob.len
  refine lc_list (K := K) (a := L) (xs := as.map V.ref) (fun k H2 => Blk (H2 = upd H1 D (.lst (((ps.take k).map (My.wd i)).map V.str)))) (Blk.of rfl) (fun k H2 _ hB => ?_) ?_ ?_
  · obtain rfl := hB.out
    exact SqL.of ((upd_ne nLD).trans hL)
  · intro k y H2 hy hB
    obtain rfl := hB.out
    obtain ⟨h, hh, rfl⟩ := refs_get hy
    obtain ⟨q, hq, hq2⟩ := ob.get hh
    have hk := get_lt hq
    refine ⟨hw _, ?_⟩
    dsimp only [tYes]
    refine iteT ?_
    refine ht h q _ _ ((upd_ne (ne_of_none hq2 hD)).trans hq2) ⟨_, upd_same, by rw [List.length_map, List.length_map, List.length_take]; exact small (by omega), Blk.of ?_⟩
    rw [upd_upd, take_snoc hq, List.map_append, List.map_append]
    rfl
  · intro H2 hB
    obtain rfl := hB.out
    have e : ps.take (as.map V.ref).length = ps := by rw [List.length_map, asl, List.take_length]
    rw [e]
    exact hd _ ((Same.refl H1).upd hD) upd_same
def cap (i : Int) (k : Nat) (s : Int) : Nat := if s < i then 4 else if s = i then k else 0
/-- the helpers so far, and the names that are left -/
structure Mo (ps : List My.Pr) (hs : List Hr) (ns : List Str) (c : Int → Nat) : Prop where
  nd : (hs.map (·.name) ++ ns).Nodup
  ok : ∀ x, x ∈ hs → My.pactB x = true ∧ ∀ t, t ∈ x.throws → t ∈ ps.map (My.wd x.side)
  few : ∀ s : Int, (hs.filter fun z => decide (z.side = s)).length ≤ c s
theorem ins_perm {hs : List Hr} {x : Hr} (n : Nat) : (hs.take n ++ [x] ++ hs.drop n).Perm (x :: hs) := by
  have h : (hs.take n ++ [x] ++ hs.drop n).Perm (x :: (hs.take n ++ hs.drop n)) := by
    rw [List.append_assoc]
    exact List.perm_middle
  rw [List.take_append_drop] at h
  exact h
theorem Mo.insert {ps : List My.Pr} {hs : List Hr} {nl : List Str} {i : Int} {k : Nat} {x : Hr} (m : Mo ps hs (nl ++ [x.name]) (cap i k)) (n : Nat) (hi : x.side = i) (b : My.pactB x = true) (ht : ∀ t, t ∈ x.throws → t ∈ ps.map (My.wd x.side)) : Mo ps (hs.take n ++ [x] ++ hs.drop n) nl (cap i (k + 1)) := by
  have p := ins_perm (hs := hs) (x := x) n
  refine ⟨?_, fun z hz => ?_, fun s => ?_⟩
  · have p2 : ((hs.take n ++ [x] ++ hs.drop n).map (·.name) ++ nl).Perm (hs.map (·.name) ++ (nl ++ [x.name])) := by
      refine ((p.map (·.name)).append_right nl).trans ?_
      rw [List.map_cons, ← List.append_assoc]
      exact (List.perm_append_comm (l₁ := [x.name])).trans (List.Perm.refl _)
    exact p2.nodup_iff.mpr m.nd
  · rcases List.mem_cons.mp (p.mem_iff.mp hz) with rfl | e
    · exact ⟨b, ht⟩
    · exact m.ok z e
  · have l := (p.filter fun z => decide (z.side = s)).length_eq
    rw [l]
    have f := m.few s
    unfold cap at f ⊢
    by_cases c : x.side = s
    · rw [List.filter_cons, if_pos (by simp [c]), List.length_cons]
      subst hi
      rw [if_neg (by omega), if_pos c.symm] at f ⊢
      omega
    · rw [List.filter_cons, if_neg (by simp [c])]
      subst hi
      by_cases d : s < x.side
      · rw [if_pos d] at f ⊢
        exact f
      · rw [if_neg d, if_neg fun q => c q.symm] at f ⊢
        exact f
theorem Mo.mono {ps : List My.Pr} {hs : List Hr} {ns : List Str} {c d : Int → Nat} (m : Mo ps hs ns c) (h : ∀ s, c s ≤ d s) : Mo ps hs ns d := ⟨m.nd, m.ok, fun s => Nat.le_trans (m.few s) (h s)⟩
theorem Mo.crew {ps : List My.Pr} {hs : List Hr} {ns : List Str} {i : Int} {k : Nat} (m : Mo ps hs ns (cap i k)) (hk : k ≤ 4) : My.CrewOk ps hs := ⟨m.ok, (List.nodup_append.mp m.nd).1, fun s => Nat.le_trans (m.few s) (by
  unfold cap
  split
  · omega
  · split <;> omega)⟩
theorem words_nodup {ps : List My.Pr} (ok : My.PairsOk ps) {i : Int} (hi : i = 0 ∨ i = 1) : (ps.map (My.wd i)).Nodup := by
  rcases hi with rfl | rfl
  · exact ok.nears
  · exact ok.fars
theorem Same.keeps {R : List Addr} {H H' : Hp} (s : Same H H') : Keeps R H H' := fun c o e _ => s c o e
theorem lent_wok : ∀ t, t ∈ (["lent", "given"] : List Str) → WOk t := by
  intro t ht
  have : t = "lent" ∨ t = "given" := by simpa using ht
  rcases this with rfl | rfl
  · exact ⟨by decide +kernel, by decide +kernel⟩
  · exact ⟨by decide +kernel, by decide +kernel⟩
theorem log_le {n : Nat} (h : n ≤ 100000) : ((n : Nat) : Int).natAbs.log2 < 9000 := by
  rw [Int.natAbs_natCast]
  by_cases h0 : n = 0
  · subst h0; decide
  · have : n.log2 < 17 := (Nat.log2_lt h0).mpr (by omega)
    omega
/-! ### a deal -/
structure DealSt (H0 H : Hp) (b g l L N F : Addr) (as : List Addr) (ps : List My.Pr) (n : Int) (has : List Addr) (hs : List Hr) (ns : List Str) (tot : Nat) : Prop where
  bx : BoxAt H b g l n
  hF : H F = some (.lst (has.map V.ref))
  cr : Crew H has hs
  hN : H N = some (.lst (ns.map V.str))
  nl : ns.length + hs.length = tot
  nm : ∀ s, s ∈ ns → My.nameB s = true
  hL : H L = some (.lst (as.map V.ref))
  ob : Objs H as prO ps
  kp : Keeps [b, g] H0 H
theorem DealSt.box {H0 H H' : Hp} {b g l L N F : Addr} {as : List Addr} {ps : List My.Pr} {n n' : Int} {has : List Addr} {hs : List Hr} {ns : List Str} {tot : Nat} (s : DealSt H0 H b g l L N F as ps n has hs ns tot)
    (bx : BoxAt H' b g l n') (k : Keeps [b, g] H H') (o : ∀ x, x ∈ [L, N, F] → x ∉ [b, g]) : DealSt H0 H' b g l L N F as ps n' has hs ns tot :=
  ⟨bx, k _ _ s.hF (o F (by simp)), Crew.keep s.cr k (box_notup s.bx), k _ _ s.hN (o N (by simp)), s.nl, s.nm, k _ _ s.hL (o L (by simp)), s.ob.keepN k (box_notup s.bx), s.kp.trans k⟩
theorem DealSt.same {H0 H H' : Hp} {b g l L N F : Addr} {as : List Addr} {ps : List My.Pr} {n : Int} {has : List Addr} {hs : List Hr} {ns : List Str} {tot : Nat} (s : DealSt H0 H b g l L N F as ps n has hs ns tot)
    (k : Same H H') : DealSt H0 H' b g l L N F as ps n has hs ns tot :=
  ⟨s.bx.same k, k _ _ s.hF, Crew.same s.cr k, k _ _ s.hN, s.nl, s.nm, k _ _ s.hL, s.ob.same k, s.kp.trans (Same.keeps k)⟩
/-- a deal at t: its pairs at L, its pacts at F -/
structure DealAt (H : Hp) (t L F : Addr) (as has : List Addr) (ps : List My.Pr) (hs : List Hr) : Prop where
  tp : H t = some (.tup [.ref L, .ref F])
  hL : H L = some (.lst (as.map V.ref))
  ob : Objs H as prO ps
  hF : H F = some (.lst (has.map V.ref))
  cr : Crew H has hs
theorem DealAt.same {H H' : Hp} {t L F : Addr} {as has : List Addr} {ps : List My.Pr} {hs : List Hr} (d : DealAt H t L F as has ps hs) (s : Same H H') : DealAt H' t L F as has ps hs := ⟨s _ _ d.tp, s _ _ d.hL, d.ob.same s, s _ _ d.hF, Crew.same d.cr s⟩
def sp_any_deal : Sp := fun vs H Q _ => ∃ (b g l : Addr) (n : Int), vs = [.ref b, .int 4] ∧ BoxAt H b g l n ∧ 0 ≤ n ∧ n < 6000000 ∧
  ∀ (t L F : Addr) (as has : List Addr) (ps : List My.Pr) (hs : List Hr) (n' : Int) (H' : Hp), H t = none → H L = none → H F = none → DealAt H' t L F as has ps hs → My.PairsOk ps → My.CrewOk ps hs → (∀ i : Int, i = 0 ∨ i = 1 → ∃ x, x ∈ hs ∧ x.side = i) → n ≤ n' → n' ≤ n + 1000 → BoxAt H' b g l n' → Keeps [b, g] H H' → Q (.ref t) H'
theorem ok_any_deal (T : Txt K mg a) : FnOk P w K mg base CX0 5 a.f_any_deal a.d_any_deal ["_law_box_here", "_law_limit"] sp_any_deal := by
  refine T.F_any_deal.ok sc_any_deal (fun vs H Q E h => ?_) (fun cdv A outer s H vs Q E hr h => ?_)
  · obtain ⟨b, g, l, n, rfl, _⟩ := h
    rfl
  · obtain ⟨b, g, l, n, rfl, bx, n0, n1, kk⟩ := h
    refine ⟨_, (pss_cons (ps_set (i := 2) sc_any_deal.nd rfl (Or.inl rfl) (pe_call (ok_take T) (hr.mono (by decide)) rfl T.g_take T.k_take T.B_take .nil pass0 (pa_cons (pv 0) (pa_cons pe_int pa_nil))))
      (pss_cons (ps_set (i := 3) sc_any_deal.nd rfl (Or.inr rfl) (pe_call (ok_names T) (hr.mono (by decide)) rfl T.g_names T.k_names T.B_names .nil pass0 (pa_cons (pv 0) (pa_cons (pv 2) (pa_cons (pe_lst (pa_cons pe_str (pa_cons pe_str (pa_cons pe_str (pa_cons pe_str (pa_cons pe_str pa_nil)))))) pa_nil)))))
      (pss_cons (ps_set (i := 4) sc_any_deal.nd rfl (Or.inr rfl) (pe_call (ok_names T) (hr.mono (by decide)) rfl T.g_names T.k_names T.B_names .nil pass0 (pa_cons (pv 0) (pa_cons (pv 2) (pa_cons (pe_lst (pa_cons pe_str (pa_cons pe_str (pa_cons pe_str (pa_cons pe_str (pa_cons pe_str pa_nil)))))) pa_nil)))))
      (pss_cons (ps_setLc (i := 5) (own := [("_law_k", 9)]) (g := gName 9) (te := tTup (tCons (tOp (rIxL K) (tVar 3) (tVar 9)) (tCons (tOp (rIxL K) (tVar 4) (tVar 9)) (tCons (tOp rEq (tCall sp_take [] (fun _ _ _ => False) (tCons (tVar 0) (tCons (tC (.int 2)) tNil))) (tC (.int 1))) tNil)))) (tt := tYes) rfl sc_any_deal.nd rfl rfl (sw_true rfl rfl rfl (by decide +kernel)) (pi_range1 (by rfl) T.z_range (pa_cons (pv 2) pa_nil)) (blkOk_by (own := [("_law_k", 9)]) (N := ["_law_box_here", "_law_limit", "_law_many", "_law_near", "_law_far", "_law_pairs", "_law_names_here", "_law_pacts", "_law_team", "_law_k", "_law_throws", "_law_takes", "_law_pact_here", "_law_pair", "_law_j"]) (sc := defScope s_any_deal) (by decide +kernel)) (fun _ _ _ _ _ => pg_name (i := 9) sc_any_deal.nd rfl (Or.inl rfl)) (fun _ _ _ _ _ => pts_nil) (fun _ _ _ _ _ => by exact (pe_tup (pa_cons (pe_ix ix_list (pv 3) (pv 9) (fun _ _ => rfl)) (pa_cons (pe_ix ix_list (pv 4) (pv 9) (fun _ _ => rfl)) (pa_cons (pe_cmpR op_eq (pe_call (ok_take T) (hr.mono (by decide)) rfl T.g_take T.k_take T.B_take .nil pass0 (pa_cons (pv 0) (pa_cons pe_int pa_nil))) pe_int (nomark _)) pa_nil))))))
      (pss_cons (ps_set (i := 6) sc_any_deal.nd rfl (Or.inl rfl) (pe_call (ok_names T) (hr.mono (by decide)) rfl T.g_names T.k_names T.B_names .nil pass0 (pa_cons (pv 0) (pa_cons pe_int (pa_cons (pe_lst (pa_cons pe_str (pa_cons pe_str (pa_cons pe_str (pa_cons pe_str (pa_cons pe_str (pa_cons pe_str (pa_cons pe_str pa_nil)))))))) pa_nil)))))
      (pss_cons (ps_set (i := 7) sc_any_deal.nd rfl (Or.inl rfl) (pe_lst pa_nil))
      (pss_cons (ps_for PassesOwn.never rfl (pi_range1 (by rfl) T.z_range (pa_cons pe_int pa_nil)) (pg_name (i := 8) sc_any_deal.nd rfl (Or.inr rfl)) (pss_one (ps_for PassesOwn.never rfl (pi_range1 (by rfl) T.z_range (pa_cons (pe_op op_add pe_int (pe_call (ok_take T) (hr.mono (by decide)) rfl T.g_take T.k_take T.B_take .nil pass0 (pa_cons (pv 0) (pa_cons (pv 1) pa_nil)))) pa_nil)) (pg_name (i := 9) sc_any_deal.nd rfl (Or.inl rfl)) (pss_cons (ps_set (i := 10) sc_any_deal.nd rfl (Or.inl rfl) (pe_call (ok_unlike T) (hr.mono (by decide)) rfl T.g_unlike T.k_unlike T.B_unlike .nil pass0 (pa_cons (pv 0) (pa_cons (pe_call (ok_take T) (hr.mono (by decide)) rfl T.g_take T.k_take T.B_take .nil pass0 (pa_cons (pv 0) (pa_cons (pe_op op_add (pv 2) pe_int) pa_nil))) (pa_cons (pe_lc (own := [("_law_pair", 13)]) (g := gName 13) (te := tOp (rIxT K) (tVar 13) (tVar 8)) (tt := tYes) rfl sc_any_deal.nd (pi_list (pv 5)) (blkOk_by (own := [("_law_pair", 13)]) (N := ["_law_box_here", "_law_limit", "_law_many", "_law_near", "_law_far", "_law_pairs", "_law_names_here", "_law_pacts", "_law_team", "_law_k", "_law_throws", "_law_takes", "_law_pact_here", "_law_pair", "_law_j"]) (sc := defScope s_any_deal) (by decide +kernel)) (fun _ _ _ _ _ => pg_name (i := 13) sc_any_deal.nd rfl (Or.inl rfl)) (fun _ _ _ _ _ => pts_nil) (fun _ _ _ _ _ => by exact (pe_ix ix_tup (pv 13) (pv 8) (fun _ _ => rfl)))) pa_nil)))))
      (pss_cons (ps_set (i := 11) sc_any_deal.nd rfl (Or.inl rfl) (pe_callTy call_tupleF (by rfl) T.z_tuple (by decide +kernel) (pa_cons (pe_lc (own := [("_law_j", 14)]) (g := gName 14) (te := tOp (rIxL K) (tLst (tCons (tC (.str "lent")) (tCons (tC (.str "given")) tNil))) (tCall sp_take [] (fun _ _ _ => False) (tCons (tVar 0) (tCons (tC (.int 2)) tNil)))) (tt := tYes) rfl sc_any_deal.nd (pi_range1 (by rfl) T.z_range (pa_cons (pe_call (ok_take T) (hr.mono (by decide)) rfl T.g_take T.k_take T.B_take .nil pass0 (pa_cons (pv 0) (pa_cons pe_int pa_nil))) pa_nil)) (blkOk_by (own := [("_law_j", 14)]) (N := ["_law_box_here", "_law_limit", "_law_many", "_law_near", "_law_far", "_law_pairs", "_law_names_here", "_law_pacts", "_law_team", "_law_k", "_law_throws", "_law_takes", "_law_pact_here", "_law_pair", "_law_j"]) (sc := defScope s_any_deal) (by decide +kernel)) (fun _ _ _ _ _ => pg_name (i := 14) sc_any_deal.nd rfl (Or.inl rfl)) (fun _ _ _ _ _ => pts_nil) (fun _ _ _ _ _ => by exact (pe_ix ix_list (pe_lst (pa_cons pe_str (pa_cons pe_str pa_nil))) (pe_call (ok_take T) (hr.mono (by decide)) rfl T.g_take T.k_take T.B_take .nil pass0 (pa_cons (pv 0) (pa_cons pe_int pa_nil))) (fun _ _ => rfl)))) pa_nil)))
      (pss_cons (ps_set (i := 12) sc_any_deal.nd rfl (Or.inl rfl) (pe_tup (pa_cons (pe_bm0 PySem.F.plainAttrs_list PySem.F.slot_list_pop PySem.F.type_list_pop mt_pop (pv 6)) (pa_cons (pv 8) (pa_cons (pv 11) (pa_cons (pe_cmpR op_eq (pe_call (ok_take T) (hr.mono (by decide)) rfl T.g_take T.k_take T.B_take .nil pass0 (pa_cons (pv 0) (pa_cons pe_int pa_nil))) pe_int (nomark _)) (pa_cons (pe_callTy call_tupleF (by rfl) T.z_tuple (by decide +kernel) (pa_cons (pv 10) pa_nil)) pa_nil)))))))
      (pss_one (ps_expr (pe_bm PySem.F.plainAttrs_list PySem.F.slot_list_insert PySem.F.type_list_insert mt_insert (pv 7) (pa_cons (pe_call (ok_take T) (hr.mono (by decide)) rfl T.g_take T.k_take T.B_take .nil pass0 (pa_cons (pv 0) (pa_cons (pe_op op_add (pe_callB call_len_seq (by rfl) T.z_len (by decide +kernel) (pa_cons (pv 7) pa_nil)) pe_int) pa_nil))) (pa_cons (pv 12) pa_nil)))))))))))
      (pss_one (ps_ret (pe_tup (pa_cons (pv 5) (pa_cons (pv 7) pa_nil)))))))))))), ?_⟩
    refine ⟨_, rfl, b, g, l, n, 5, rfl, bx, n0, by omega, by decide, by decide, fun c H1 c0 c1 bx1 kp1 => ?_⟩
    -- the words
    refine ⟨_, rfl, _, rfl, by show 5 ≤ sizeLine; decide, fun M1 hM1 => ?_⟩
    have oM1 := offbox bx1 hM1
    have b1M := bx1.upd (o := .lst [.str "spilt", .str "a", .str "on", .str "lend", .str "e"]) hM1
    have k1M := kp1.upd (o := .lst [.str "spilt", .str "a", .str "on", .str "lend", .str "e"]) (kp1.fresh hM1)
    have e1M : (upd H1 M1 (.lst [.str "spilt", .str "a", .str "on", .str "lend", .str "e"])) M1 = some (.lst [.str "spilt", .str "a", .str "on", .str "lend", .str "e"]) := upd_same
    generalize (upd H1 M1 (.lst [.str "spilt", .str "a", .str "on", .str "lend", .str "e"])) = H1M at b1M k1M e1M ⊢
    refine ⟨b, g, l, M1, _, c, ["spilt", "a", "on", "lend", "e"], rfl, b1M, by omega, by omega, by omega, by omega, e1M, oM1, by simp, by simp, by decide +kernel, fun NR near n2 H2 hNR hNR2 nrl nrm nrd a2 b2 bx2 kp2 => ?_⟩
    have k02 := k1M.trans kp2
    have oNR := offbox b1M hNR
    refine ⟨_, rfl, _, rfl, by show 5 ≤ sizeLine; decide, fun M2 hM2 => ?_⟩
    have oM2 := offbox bx2 hM2
    have b2M := bx2.upd (o := .lst [.str "spilt", .str "a", .str "on", .str "to", .str "late"]) hM2
    have k2M := k02.upd (o := .lst [.str "spilt", .str "a", .str "on", .str "to", .str "late"]) (k02.fresh hM2)
    have e2M : (upd H2 M2 (.lst [.str "spilt", .str "a", .str "on", .str "to", .str "late"])) M2 = some (.lst [.str "spilt", .str "a", .str "on", .str "to", .str "late"]) := upd_same
    have nr2M : (upd H2 M2 (.lst [.str "spilt", .str "a", .str "on", .str "to", .str "late"])) NR = some (.lst (near.map V.str)) := (upd_ne (ne_of_none hNR2 hM2)).trans hNR2
    generalize (upd H2 M2 (.lst [.str "spilt", .str "a", .str "on", .str "to", .str "late"])) = H2M at b2M k2M e2M nr2M ⊢
    refine ⟨b, g, l, M2, _, c, ["spilt", "a", "on", "to", "late"], rfl, b2M, by omega, by omega, by omega, by omega, e2M, oM2, by simp, by simp, by decide +kernel, fun FR far n3 H3 hFR hFR3 frl frm frd a3 b3 bx3 kp3 => ?_⟩
    have k03 := k2M.trans kp3
    have oFR := offbox b2M hFR
    have nr3 := kp3 _ _ nr2M oNR
    refine ⟨_, rfl, c, rfl, by omega, by omega, fun L hL => ?_⟩
    have oL := offbox bx3 hL
    have oL3 := offbox3 bx3 hL
    have hL0 : H L = none := (k03.fresh hL).resolve_left oL
    have nNL : NR ≠ L := ne_of_none nr3 hL
    have nFL : FR ≠ L := ne_of_none hFR3 hL
    refine lc_range (lo := 0) (n := c.toNat) (fun i H4 => Blk (∃ (as : List Addr) (ps : List My.Pr), ps.length = i ∧ ps.map (·.1) = near.take i ∧ ps.map (·.2.1) = far.take i ∧ H4 L = some (.lst (as.map V.ref)) ∧ Objs H4 as prO ps ∧ H4 NR = some (.lst (near.map V.str)) ∧ H4 FR = some (.lst (far.map V.str)) ∧ BoxAt H4 b g l (n3 + i) ∧ Keeps [b, g] H H4)) ?_ ?_ ?_
    · refine Blk.of ⟨[], [], rfl, rfl, rfl, upd_same, Objs.nil, (upd_ne nNL).trans nr3, (upd_ne nFL).trans hFR3, ?_, k03.upd (.inr hL0)⟩
      rw [show n3 + ((0 : Nat) : Int) = n3 by omega]
      exact bx3.upd hL
    · intro i H4 hi hB
      obtain ⟨as, ps, rfl, e1, e2, h4L, ob4, nr4, fr4, bx4, k04⟩ := hB.out
      have hn1 : near[ps.length]? = some near[ps.length] := List.getElem?_eq_getElem (by omega)
      have hf1 : far[ps.length]? = some far[ps.length] := List.getElem?_eq_getElem (by omega)
      generalize near[ps.length] = x at hn1
      generalize far[ps.length] = y at hf1
      refine ⟨rfl, ?_⟩
      dsimp only [tYes]
      refine iteT ?_
      refine ⟨_, rfl, _, rfl, _, _, _, _, rfl, rfl, SqL.of nr4, at_of (j := ps.length) (by omega) (by rw [List.getElem?_map, hn1]; rfl), ?_⟩
      refine ⟨_, rfl, _, rfl, _, _, _, _, rfl, rfl, SqL.of fr4, at_of (j := ps.length) (by omega) (by rw [List.getElem?_map, hf1]; rfl), ?_⟩
      refine ⟨_, rfl, b, g, l, _, 2, rfl, bx4, by omega, by omega, by decide, by decide, fun z H5 z0 z1 bx5 kp5 => ?_⟩
      refine ⟨rfl, by show 3 ≤ sizeLine; decide, fun t ht => ?_⟩
      have k05 := k04.trans kp5
      have h5L := kp5 _ _ h4L oL
      have ob5 := ob4.keepN kp5 (box_notup bx4)
      have nLt : L ≠ t := ne_of_none h5L ht
      have s6 : Same H5 (upd H5 t (.tup [.str x, .str y, .bl (decide (V.int z = V.int 1))])) := (Same.refl H5).upd ht
      have kL : Keeps [L] (upd H5 t (.tup [.str x, .str y, .bl (decide (V.int z = V.int 1))])) (upd (upd H5 t (.tup [.str x, .str y, .bl (decide (V.int z = V.int 1))])) L (.lst (as.map V.ref ++ [.ref t]))) := (Keeps.refl [L] _).upd (.inl (by simp))
      have ntL := NoTup.lst (s6 _ _ h5L)
      refine ⟨_, s6 _ _ h5L, by rw [List.length_map, ob4.len]; exact small (by omega), Blk.of ⟨as ++ [t], ps ++ [(x, y, decide (V.int z = V.int 1))], by rw [List.length_append]; rfl, ?_, ?_, ?_, ?_, ?_, ?_, ?_, ?_⟩⟩
      · rw [List.map_append, e1, take_snoc hn1]; rfl
      · rw [List.map_append, e2, take_snoc hf1]; rfl
      · rw [upd_same, List.map_append]; rfl
      · exact ((ob5.same s6).snoc (by exact upd_same)).keepN kL ntL
      · rw [upd_ne nNL]; exact s6 _ _ (kp5 _ _ nr4 oNR)
      · rw [upd_ne nFL]; exact s6 _ _ (kp5 _ _ fr4 oFR)
      · have e : n3 + ((ps.length + 1 : Nat) : Int) = n3 + (ps.length : Int) + 1 := by omega
        rw [e]
        exact box_put (bx5.upd ht) oL3
      · exact ((k05.upd (k05.fresh ht)).upd (.inr hL0))
    intro H4 hB
    obtain ⟨as, ps, pl, e1, e2, h4L, ob4, _, _, bx4, k04⟩ := hB.out
    have nearl : near.length = c.toNat := by omega
    have farl : far.length = c.toNat := by omega
    rw [← nearl, List.take_length] at e1
    rw [← farl, List.take_length] at e2
    have pok : My.PairsOk ps := ⟨by omega, fun q hq => ⟨nrm _ (by rw [← e1]; exact List.mem_map.mpr ⟨q, hq, rfl⟩), frm _ (by rw [← e2]; exact List.mem_map.mpr ⟨q, hq, rfl⟩)⟩, by rw [e1]; exact nrd, by rw [e2]; exact frd⟩
    have hw : ∀ q, q ∈ ps → WOk q.1 ∧ WOk q.2.1 := fun q hq => ⟨name_wok (pok.nm q hq).1, name_wok (pok.nm q hq).2⟩
    -- the names
    refine ⟨_, rfl, by show 7 ≤ sizeLine; decide, fun M3 hM3 => ?_⟩
    have oM3 := offbox bx4 hM3
    have b4M := bx4.upd (o := .lst [.str "pour", .str "done", .str "to", .str "shelf", .str "b", .str "call", .str "give"]) hM3
    have k4M := k04.upd (o := .lst [.str "pour", .str "done", .str "to", .str "shelf", .str "b", .str "call", .str "give"]) (k04.fresh hM3)
    have e4M : (upd H4 M3 (.lst [.str "pour", .str "done", .str "to", .str "shelf", .str "b", .str "call", .str "give"])) M3 = some (.lst [.str "pour", .str "done", .str "to", .str "shelf", .str "b", .str "call", .str "give"]) := upd_same
    have s4M : Same H4 (upd H4 M3 (.lst [.str "pour", .str "done", .str "to", .str "shelf", .str "b", .str "call", .str "give"])) := (Same.refl H4).upd hM3
    generalize (upd H4 M3 (.lst [.str "pour", .str "done", .str "to", .str "shelf", .str "b", .str "call", .str "give"])) = H4M at b4M k4M e4M s4M ⊢
    refine ⟨b, g, l, M3, _, 8, ["pour", "done", "to", "shelf", "b", "call", "give"], rfl, b4M, by omega, by omega, by omega, by omega, e4M, oM3, by simp, by simp, by decide +kernel, fun N ns n5 H5 hN hN5 nsl nsm nsd a5 b5 bx5 kp5 => ?_⟩
    have k05 := k4M.trans kp5
    have oN := offbox b4M hN
    have oN3 := offbox3 b4M hN
    have nLN : L ≠ N := ne_of_none (s4M _ _ h4L) hN
    have hN0 : H N = none := (k4M.fresh hN).resolve_left oN
    have h5L := kp5 _ _ (s4M _ _ h4L) oL
    have ob5 := (ob4.same s4M).keepN kp5 (box_notup b4M)
    refine ⟨by show 0 ≤ sizeLine; decide, fun F hF => ?_⟩
    have oF := offbox bx5 hF
    have oF3 := offbox3 bx5 hF
    have nNF : N ≠ F := ne_of_none hN5 hF
    have nLF : L ≠ F := ne_of_none h5L hF
    have hF0 : H F = none := (k05.fresh hF).resolve_left oF
    have off : ∀ x, x ∈ [L, N, F] → x ∉ [b, g] := fun x hx => by
      simp at hx
      rcases hx with rfl | rfl | rfl
      · exact oL
      · exact oN
      · exact oF
    have st5 : DealSt H (upd H5 F (.lst [])) b g l L N F as ps n5 [] [] ns 8 := by
      have s5 : Same H5 (upd H5 F (.lst [])) := (Same.refl H5).upd hF
      exact ⟨bx5.same s5, upd_same, AllAt.nil, s5 _ _ hN5, by simp; omega, nsm, s5 _ _ h5L, ob5.same s5, k05.trans (Same.keeps s5)⟩
    generalize (upd H5 F (.lst [])) = H5' at st5 ⊢
    refine ⟨2, rfl, by decide, by decide, ?_⟩
    refine for_range (lo := 0) (n := 2) (fun i σ H6 => Blk (∃ v8 v9 v10 v11 v12 n6 has hs ns, σ = [some (.ref b), some (.int 4), some (.int c), some (.ref NR), some (.ref FR), some (.ref L), some (.ref N), some (.ref F), v8, v9, v10, v11, v12, none, none] ∧ DealSt H H6 b g l L N F as ps n6 has hs ns 8 ∧ n ≤ n6 ∧ n6 ≤ n + 200 + 1 * i + 20 * hs.length ∧ hs.length ≤ 4 * i ∧ Mo ps hs ns (cap (0 + (i : Nat)) 0) ∧ ∀ j : Nat, j < i → ∃ x, x ∈ hs ∧ x.side = (j : Nat))) ?_ ?_ ?_
    · exact Blk.of ⟨_, _, _, _, _, _, _, _, _, rfl, st5, by omega, by simp; omega, by simp, ⟨by simpa using nsd, fun x hx => by simp at hx, fun s => by simp⟩, fun j hj => absurd hj (Nat.not_lt_zero j)⟩
    · intro i σ H6 hi hB
      obtain ⟨v8, v9, v10, v11, v12, n6, has, hs, ns, rfl, st6, a6, b6, l6, mo6, ex6⟩ := hB.out
      have si : (0 : Int) + (i : Nat) = 0 ∨ (0 : Int) + (i : Nat) = 1 := by omega
      generalize esd : (0 : Int) + (i : Nat) = sd at si mo6
      refine ⟨_, rfl, _, rfl, b, g, l, n6, 4, rfl, st6.bx, by omega, by omega, by decide, by decide, fun z H7 z0 z1 bx7 kp7 => ?_⟩
      have st7 := st6.box bx7 kp7 off
      refine ⟨_, _, rfl, rfl, ?_⟩
      refine ⟨1 + z, rfl, by omega, by omega, ?_⟩
      refine for_range (lo := 0) (n := (1 + z).toNat) (fun k σ H8 => Blk (∃ v9 v10 v11 v12 n8 has hs ns, σ = [some (.ref b), some (.int 4), some (.int c), some (.ref NR), some (.ref FR), some (.ref L), some (.ref N), some (.ref F), some (.int sd), v9, v10, v11, v12, none, none] ∧ DealSt H H8 b g l L N F as ps n8 has hs ns 8 ∧ n ≤ n8 ∧ n8 ≤ n + 200 + 1 * (i + 1) + 20 * hs.length ∧ hs.length ≤ 4 * i + k ∧ Mo ps hs ns (cap sd k) ∧
        (∀ j : Nat, j < i → ∃ x, x ∈ hs ∧ x.side = (j : Nat)) ∧ (0 < k → ∃ x, x ∈ hs ∧ x.side = sd))) ?_ ?_ ?_
      · exact Blk.of ⟨_, _, _, _, _, _, _, _, rfl, st7, by omega, by omega, by omega, mo6, ex6, fun q => absurd q (Nat.lt_irrefl 0)⟩
      · intro k σ H8 hk hB
        obtain ⟨v9, v10, v11, v12, n8, has, hs, ns, rfl, st, a8, b8, l8, mo8, ex8, ex8'⟩ := hB.out
        have hs7 : hs.length ≤ 7 := by omega
        have pl4 : ps.length = c.toNat := by have := congrArg List.length e1; rw [List.length_map] at this; omega
        -- throws
        refine ⟨_, rfl, _, rfl, _, rfl, _, _, rfl, rfl, ?_⟩
        refine ⟨b, g, l, n8, c + 1, rfl, st.bx, by omega, by omega, by omega, log_le (n := (c + 1).toNat) (by omega) |> fun q => by rw [show (c + 1 : Int) = (((c + 1).toNat : Nat) : Int) by omega]; exact q, fun m H9 m0 m1 bx9 kp9 => ?_⟩
        have st9 := st.box bx9 kp9 off
        refine ⟨_, rfl, L, rfl, ⟨_, SqL.of st9.hL⟩, fun W hW => ?_⟩
        refine words_comp (i := sd) (sl := 13) st9.ob st9.hL hW (by omega) (fun _ => rfl) (fun h q H2 R hq hR => ⟨_, rfl, _, rfl, _, _, _, _, rfl, rfl, SqT.of hq, wd_at2 si q, hR⟩) fun HB sB hWB => ?_
        have stB := st9.same sB
        refine ⟨b, g, l, W, _, m, ps.map (My.wd sd), rfl, stB.bx, by omega, by omega, hWB, by rw [List.length_map]; omega, m0, by rw [List.length_map]; omega, fun Y ys n10 HC hY hYC yl ym ynd an bn bxC kpC => ?_⟩
        have stC := stB.box bxC kpC off
        have oY := offbox stB.bx hY
        have yl4 : ys.length ≤ 4 := by omega
        have nYN : Y ≠ N := (ne_of_none stB.hN hY).symm
        -- takes
        refine ⟨_, rfl, b, g, l, n10, 4, rfl, stC.bx, by omega, by omega, by decide, by decide, fun m2 H10 m20 m21 bx10 kp10 => ?_⟩
        have st10 := stC.box bx10 kp10 off
        have hY10 := kp10 _ _ hYC oY
        refine ⟨m2, rfl, by omega, by omega, fun D hD => ?_⟩
        have oD := offbox bx10 hD
        have oD3 := offbox3 bx10 hD
        have nYD : Y ≠ D := ne_of_none hY10 hD
        refine lc_range (lo := 0) (n := m2.toNat) (fun j H11 => Blk (∃ (ts : List Str), ts.length = j ∧ (∀ t, t ∈ ts → t ∈ (["lent", "given"] : List Str)) ∧ H11 D = some (.lst (ts.map V.str)) ∧ H11 Y = some (.lst (ys.map V.str)) ∧ DealSt H H11 b g l L N F as ps (n10 + 1 + j) has hs ns 8)) ?_ ?_ ?_
        · refine Blk.of ⟨[], rfl, fun t ht => by simp at ht, upd_same, (upd_ne nYD).trans hY10, ?_⟩
          rw [show n10 + 1 + ((0 : Nat) : Int) = n10 + 1 by omega]
          exact st10.same ((Same.refl H10).upd hD)
        · intro j H11 hj hB
          obtain ⟨ts, rfl, hts, h11D, h11Y, st11⟩ := hB.out
          refine ⟨rfl, ?_⟩
          dsimp only [tYes]
          refine iteT ?_
          refine ⟨by show 2 ≤ sizeLine; decide, fun G hG => ?_⟩
          have nDG : D ≠ G := ne_of_none h11D hG
          have nYG : Y ≠ G := ne_of_none h11Y hG
          have oG := offbox st11.bx hG
          refine ⟨_, rfl, b, g, l, _, 2, rfl, st11.bx.upd hG, by omega, by omega, by decide, by decide, fun z2 H12 z20 z21 bx12 kp12 => ?_⟩
          have hG12 := kp12 _ _ upd_same oG
          have h12D := kp12 _ _ ((upd_ne nDG).trans h11D) oD
          have h12Y := kp12 _ _ ((upd_ne nYG).trans h11Y) oY
          have st12 := (st11.same ((Same.refl H11).upd (o := .lst [.str "lent", .str "given"]) hG)).box bx12 kp12 off
          obtain ⟨t, ht, htm⟩ : ∃ t : Str, atI [V.str "lent", .str "given"] z2 = some (.str t) ∧ t ∈ (["lent", "given"] : List Str) := by
            have : z2 = 0 ∨ z2 = 1 := by omega
            rcases this with rfl | rfl
            · exact ⟨_, rfl, by simp⟩
            · exact ⟨_, rfl, by simp⟩
          refine ⟨_, _, _, _, rfl, rfl, SqL.of hG12, ht, ?_⟩
          have hDn : NoTup H12 [D] := NoTup.lst h12D
          have kD : ∀ o, Keeps [D] H12 (upd H12 D o) := fun o => (Keeps.refl _ H12).upd (.inl (by simp))
          have nDx : ∀ x, x ∈ [L, N, F] → x ≠ D := fun x hx q => by
            subst q
            simp at hx
            rcases hx with rfl | rfl | rfl
            · rw [st10.hL] at hD; cases hD
            · rw [st10.hN] at hD; cases hD
            · rw [st10.hF] at hD; cases hD
          have hD0 : H D = none := (st10.kp.fresh hD).resolve_left oD
          refine ⟨_, h12D, by rw [List.length_map]; exact small (by omega), Blk.of ⟨ts ++ [t], by rw [List.length_append]; rfl, ?_, ?_, (upd_ne nYD).trans h12Y, ?_⟩⟩
          · intro y hy
            rcases List.mem_append.mp hy with e | e
            · exact hts y e
            · simp at e; subst e; exact htm
          · rw [upd_same, List.map_append]; rfl
          · have e : n10 + 1 + ((ts.length + 1 : Nat) : Int) = n10 + 1 + (ts.length : Int) + 1 := by omega
            rw [e]
            exact ⟨box_put bx12 oD3, (upd_ne (nDx F (by simp))).trans st12.hF, Crew.keep st12.cr (kD _) hDn, (upd_ne (nDx N (by simp))).trans st12.hN, st12.nl, st12.nm, (upd_ne (nDx L (by simp))).trans st12.hL, st12.ob.keepN (kD _) hDn, st12.kp.upd (.inr hD0)⟩
        · intro H11 hB
          obtain ⟨ts, htl, hts, h11D, h11Y, st11⟩ := hB.out
          refine ⟨D, _, rfl, SqL.of h11D, fun tk ob1 htk hob1 => ?_⟩
          have sA : Same H11 (upd H11 tk (.frz ob1 (.tup (ts.map V.str)))) := (Same.refl H11).upd htk
          have stA := st11.same sA
          have hYA := sA _ _ h11Y
          have tkA : TupF (upd H11 tk (.frz ob1 (.tup (ts.map V.str)))) tk (ts.map V.str) := ⟨ob1, hob1, upd_same⟩
          generalize (upd H11 tk (.frz ob1 (.tup (ts.map V.str)))) = HA at stA tkA hYA ⊢
          obtain ⟨nl, s, rfl⟩ : ∃ nl s, ns = nl ++ [s] := by
            have hne : ns ≠ [] := fun e => by
              have := st.nl
              rw [e] at this
              simp at this
              omega
            exact ⟨ns.dropLast, ns.getLast hne, (List.dropLast_concat_getLast hne).symm⟩
          have hsn := st.nm s (by simp)
          refine ⟨_, rfl, .inl ⟨rfl, _, SqL.of stA.hN⟩, N, _, .str s, rfl, rfl, stA.hN, ?_, ?_⟩
          · rw [List.map_append, List.length_append, List.map_singleton, List.length_singleton, Nat.add_sub_cancel, List.getElem?_append_right (Nat.le_refl _)]
            simp
          have edl : ((nl ++ [s]).map V.str).dropLast = nl.map V.str := by rw [List.map_append]; simp
          rw [edl]
          have nNn : NoTup HA [N] := NoTup.lst stA.hN
          have kN : ∀ o, Keeps [N] HA (upd HA N o) := fun o => (Keeps.refl _ HA).upd (.inl (by simp))
          have stE : DealSt H (upd HA N (.lst (nl.map V.str))) b g l L N F as ps (n10 + 1 + (m2.toNat : Nat)) has hs nl 7 :=
            ⟨box_put stA.bx oN3, (upd_ne nNF.symm).trans stA.hF, Crew.keep stA.cr (kN _) nNn, upd_same, by have := stA.nl; rw [List.length_append, List.length_singleton] at this; omega, fun x hx => stA.nm x (by simp [hx]), (upd_ne nLN).trans stA.hL, stA.ob.keepN (kN _) nNn, stA.kp.upd (.inr hN0)⟩
          have tkE := tupF_keep tkA (kN (.lst (nl.map V.str))) nNn
          have hYE : (upd HA N (.lst (nl.map V.str))) Y = some (.lst (ys.map V.str)) := (upd_ne nYN).trans hYA
          generalize (upd HA N (.lst (nl.map V.str))) = HE at stE tkE hYE ⊢
          refine ⟨_, rfl, _, rfl, _, rfl, b, g, l, _, 2, rfl, stE.bx, by omega, by omega, by decide, by decide, fun z3 HG z30 z31 bxG kpG => ?_⟩
          have stG := stE.box bxG kpG off
          have tkG := tupF_keep tkE kpG (box_notup stE.bx)
          have hYG := kpG _ _ hYE oY
          refine ⟨rfl, _, rfl, Y, _, rfl, SqL.of hYG, fun th ob2 hth hob2 => ?_⟩
          have sT : Same HG (upd HG th (.frz ob2 (.tup (ys.map V.str)))) := (Same.refl HG).upd hth
          have stT := stG.same sT
          have tkT := tkG.same sT
          have thT : TupF (upd HG th (.frz ob2 (.tup (ys.map V.str)))) th (ys.map V.str) := ⟨ob2, hob2, upd_same⟩
          generalize (upd HG th (.frz ob2 (.tup (ys.map V.str)))) = HT at stT tkT thT ⊢
          refine ⟨by show 5 ≤ sizeLine; decide, fun hp hhp => ?_⟩
          have sH : Same HT (upd HT hp (.tup [.str s, .int sd, .ref tk, .bl (decide (V.int z3 = V.int 1)), .ref th])) := (Same.refl HT).upd hhp
          have stH := stT.same sH
          have hrH : HrAt (upd HT hp (.tup [.str s, .int sd, .ref tk, .bl (decide (V.int z3 = V.int 1)), .ref th])) hp ⟨s, sd, ts, decide (V.int z3 = V.int 1), ys⟩ := ⟨tk, th, upd_same, tkT.same sH, thT.same sH⟩
          generalize (upd HT hp (.tup [.str s, .int sd, .ref tk, .bl (decide (V.int z3 = V.int 1)), .ref th])) = HH at stH hrH ⊢
          have asl : has.length = hs.length := AllAt.len stH.cr
          have elF : (((has.map V.ref).length : Nat) : Int) = (hs.length : Int) := by rw [List.length_map, asl]
          refine ⟨_, rfl, .inl ⟨rfl, _, SqL.of stH.hF⟩, ?_⟩
          refine ⟨_, rfl, _, rfl, F, _, rfl, .inl (SqL.of stH.hF), _, _, rfl, rfl, ?_⟩
          rw [elF]
          refine ⟨b, g, l, _, _, rfl, stH.bx, by omega, by omega, by omega, log_le (n := hs.length + 1) (by omega), fun at_ HJ at0 at1 bxJ kpJ => ?_⟩
          have stJ := stH.box bxJ kpJ off
          have hrJ := hrH.keep kpJ (box_notup stH.bx)
          refine ⟨_, rfl, F, _, at_, _, rfl, rfl, stJ.hF, by rw [List.length_map]; exact small (by omega), at0, by omega, ?_⟩
          have nFn : NoTup HJ [F] := NoTup.lst stJ.hF
          have kF : ∀ o, Keeps [F] HJ (upd HJ F o) := fun o => (Keeps.refl _ HJ).upd (.inl (by simp))
          have insm : ∀ x, x ∈ hs → x ∈ hs.take at_.toNat ++ [⟨s, sd, ts, decide (V.int z3 = V.int 1), ys⟩] ++ hs.drop at_.toNat := fun x hx => (ins_perm (hs := hs) (x := ⟨s, sd, ts, decide (V.int z3 = V.int 1), ys⟩) at_.toNat).mem_iff.mpr (List.mem_cons_of_mem _ hx)
          refine Blk.of ⟨_, _, _, _, n10 + 1 + (m2.toNat : Nat) + 1 + 1, has.take at_.toNat ++ [hp] ++ has.drop at_.toNat, hs.take at_.toNat ++ [⟨s, sd, ts, decide (V.int z3 = V.int 1), ys⟩] ++ hs.drop at_.toNat, nl, rfl, ?_, by omega, ?_, ?_, mo8.insert (x := ⟨s, sd, ts, decide (V.int z3 = V.int 1), ys⟩) _ rfl (by
            unfold My.pactB My.sideB My.takesB
            rw [hsn, decide_eq_true si, My.throwsB_of yl4 (ynd (words_nodup pok si)), decide_eq_true (show ts.length ≤ 3 by omega)]
            simp only [Bool.true_and, Bool.and_true]
            exact List.all_eq_true.mpr fun t ht => decide_eq_true (hts t ht)) ym, fun j hj => ?_, fun _ => ?_⟩
          · refine ⟨box_put stJ.bx oF3, ?_, ?_, (upd_ne nNF).trans stJ.hN, ?_, stJ.nm, (upd_ne nLF).trans stJ.hL, stJ.ob.keepN (kF _) nFn, stJ.kp.upd (.inr hF0)⟩
            · rw [upd_same, List.map_append, List.map_append, List.map_take, List.map_drop]
              rfl
            · exact ((AllAt.take (Crew.keep stJ.cr (kF _) nFn) _).append (AllAt.one (hrJ.keep (kF _) nFn))).append (AllAt.drop (Crew.keep stJ.cr (kF _) nFn) _)
            · have := stJ.nl
              rw [List.length_append, List.length_append, List.length_take, List.length_drop, List.length_singleton]
              omega
          · rw [List.length_append, List.length_append, List.length_take, List.length_drop, List.length_singleton]
            omega
          · rw [List.length_append, List.length_append, List.length_take, List.length_drop, List.length_singleton]
            omega
          · obtain ⟨x, hx, e⟩ := ex8 j hj
            exact ⟨x, insm x hx, e⟩
          · exact ⟨⟨s, sd, ts, decide (V.int z3 = V.int 1), ys⟩, by simp, rfl⟩
      · intro σ H8 hB
        obtain ⟨v9, v10, v11, v12, n8, has, hs, ns, rfl, st, a8, b8, l8, mo8, ex8, ex8'⟩ := hB.out
        refine Blk.of ⟨_, _, _, _, _, n8, has, hs, ns, rfl, st, a8, by omega, by omega, ?_, fun j hj => ?_⟩
        · have e : (0 : Int) + ((i + 1 : Nat) : Int) = sd + 1 := by omega
          rw [e]
          refine mo8.mono fun s => ?_
          unfold cap
          by_cases h1 : s < sd
          · rw [if_pos h1, if_pos (by omega)]
            exact Nat.le_refl _
          · by_cases h2 : s = sd
            · rw [if_neg h1, if_pos h2, if_pos (by omega)]
              omega
            · rw [if_neg h1, if_neg h2]
              exact Nat.zero_le _
        · by_cases q : j < i
          · exact ex8 j q
          · obtain rfl : j = i := by omega
            obtain ⟨x, hx, e⟩ := ex8' (by omega)
            exact ⟨x, hx, by omega⟩
    · intro σ H6 hB
      obtain ⟨v8, v9, v10, v11, v12, n6, has, hs, ns, rfl, st6, a6, b6, l6, mo6, ex6⟩ := hB.out
      refine ⟨_, rfl, _, rfl, by show 2 ≤ sizeLine; decide, fun t ht => ?_⟩
      have sT : Same H6 (upd H6 t (.tup [.ref L, .ref F])) := (Same.refl H6).upd ht
      have ht0 : H t = none := (st6.kp.fresh ht).resolve_left (offbox st6.bx ht)
      refine kk t L F as has ps hs n6 _ ht0 hL0 hF0 ⟨upd_same, sT _ _ st6.hL, st6.ob.same sT, sT _ _ st6.hF, Crew.same st6.cr sT⟩ pok (mo6.crew (by omega)) (fun i hi => ?_) a6 (by omega) (st6.bx.same sT) (st6.kp.upd (.inr ht0))
      rcases hi with rfl | rfl
      · exact ex6 0 (by omega)
      · exact ex6 1 (by omega)

open My (Hr dS onV valS putS)
/-! ### a deal asked -/
def sp_law_pact : Sp := fun vs H Q _ => ∃ (t L F : Addr) (as has : List Addr) (ps : List My.Pr) (hs : List Hr) (w : Str) (x : Hr), vs = [.ref t, .str w] ∧ DealAt H t L F as has ps hs ∧ hs.length ≤ 1000 ∧ crewOf w hs = some x ∧ ∀ (h : Addr) (H' : Hp), HrAt H' h x → Same H H' → Q (.ref h) H'
theorem crewOf_snoc {w : Str} {hs : List Hr} {k : Nat} {z : Hr} (h : hs[k]? = some z) : crewOf w (hs.take (k + 1)) = (crewOf w (hs.take k)).or (if z.name = w then some z else none) := by
  unfold crewOf
  rw [take_snoc h, List.find?_append]
  congr 1
  rw [List.find?_cons]
  by_cases c : z.name = w
  · rw [decide_eq_true c, if_pos c]
  · rw [decide_eq_false c, if_neg c]
    rfl
theorem ok_pact (T : Txt K mg a) : FnOk P w K mg base CX0 1 a.f_pact a.d_pact ["_law_deal", "_law_name"] sp_law_pact := by
  refine T.F_pact.ok sc_pact (fun vs H Q E h => ?_) (fun cdv A outer s H vs Q E hr h => ?_)
  · obtain ⟨t, L, F, as, has, ps, hs, w, x, rfl, _⟩ := h
    rfl
  · obtain ⟨t, L, F, as, has, ps, hs, w, x, rfl, dl, few, hx, kk⟩ := h
    refine ⟨_, (pss_one (ps_ret (pe_ix ix_list (pe_lc (own := [("_law_pact_here", 2)]) (g := gName 2) (te := tVar 2) (tt := tTest (tOp rEq (tOp (rIxT K) (tVar 2) (tC (.int 0))) (tVar 1))) rfl sc_pact.nd (pi_list (pe_ix ix_tup (pv 0) pe_int (fun _ _ => rfl))) (blkOk_by (own := [("_law_pact_here", 2)]) (N := ["_law_deal", "_law_name", "_law_pact_here"]) (sc := defScope s_pact) (by decide +kernel)) (fun _ _ _ _ _ => pg_name (i := 2) sc_pact.nd rfl (Or.inl rfl)) (fun _ _ _ _ _ => pts_one (pt_cmpR op_eq (pe_ix ix_tup (pv 2) pe_int (fun _ _ => rfl)) (pv 1) (nomark _))) (fun _ _ _ _ _ => by exact (pv 2))) pe_int (fun _ _ => rfl)))), ?_⟩
    have hl := AllAt.len dl.cr
    refine ⟨_, rfl, _, _, _, _, rfl, rfl, SqT.of dl.tp, rfl, F, rfl, ⟨_, SqL.of dl.hF⟩, fun D hD => ?_⟩
    have nFD : F ≠ D := ne_of_none dl.hF hD
    refine lc_list (K := K) (a := F) (xs := has.map V.ref) (fun k H1 => Blk (∃ fs : List Addr, H1 = upd H D (.lst (fs.map V.ref)) ∧ fs.length ≤ k ∧ (crewOf w (hs.take k) = none → fs = []) ∧ ∀ z, crewOf w (hs.take k) = some z → ∃ h0 r, fs = h0 :: r ∧ HrAt H h0 z)) ?_ ?_ ?_ ?_
    · exact Blk.of ⟨[], rfl, Nat.zero_le _, fun _ => rfl, fun z hz => by simp [crewOf] at hz⟩
    · intro k H1 _ hB
      obtain ⟨fs, rfl, _⟩ := hB.out
      exact SqL.of ((upd_ne nFD).trans dl.hF)
    · intro k y H1 hy hB
      obtain ⟨fs, rfl, fl, f0, f1⟩ := hB.out
      obtain ⟨h, hh, rfl⟩ := refs_get hy
      obtain ⟨z, hz, hz2⟩ := AllAt.get dl.cr hh
      have hk := get_lt hz
      obtain ⟨tk, th, ez, _, _⟩ := id hz2
      have ezD : (upd H D (.lst (fs.map V.ref))) h = some (.tup [.str z.name, .int z.side, .ref tk, .bl z.gives, .ref th]) := (upd_ne (ne_of_none ez hD)).trans ez
      have cs := crewOf_snoc (w := w) hz
      refine ⟨rfl, ?_⟩
      refine ⟨_, rfl, _, _, _, _, rfl, rfl, SqT.of ezD, rfl, ?_⟩
      refine ⟨_, rfl, rfl, _, rfl, ?_⟩
      refine iteSS (fun e => ?_) (fun n => ?_)
      · refine ⟨_, rfl, ?_⟩
        refine ⟨_, upd_same, by rw [List.length_map]; exact small (by omega), Blk.of ⟨fs ++ [h], by rw [upd_upd, List.map_append]; rfl, by rw [List.length_append]; exact Nat.succ_le_succ fl, fun q => ?_, fun u hu => ?_⟩⟩
        · rw [cs, if_pos e] at q
          cases e2 : crewOf w (hs.take k) with
          | none => rw [e2] at q; cases q
          | some v => rw [e2] at q; cases q
        · rw [cs, if_pos e] at hu
          cases e2 : crewOf w (hs.take k) with
          | none =>
            rw [e2] at hu
            obtain rfl := Option.some.inj hu
            exact ⟨h, [], by rw [f0 e2]; rfl, hz2⟩
          | some v =>
            rw [e2] at hu
            obtain rfl := Option.some.inj hu
            obtain ⟨h0, r, rfl, hh0⟩ := f1 _ e2
            exact ⟨h0, r ++ [h], rfl, hh0⟩
      · refine Blk.of ⟨fs, rfl, by omega, fun q => f0 ?_, fun u hu => f1 u ?_⟩
        · rw [cs, if_neg n, Option.or_none] at q
          exact q
        · rw [cs, if_neg n, Option.or_none] at hu
          exact hu
    · intro H1 hB
      obtain ⟨fs, rfl, _, _, f1⟩ := hB.out
      rw [List.length_map, hl, List.take_length] at f1
      obtain ⟨h0, r, rfl, hh0⟩ := f1 x hx
      refine ⟨_, _, _, _, rfl, rfl, SqL.of upd_same, at_of (j := 0) rfl rfl, ?_⟩
      exact kk h0 _ (hh0.same ((Same.refl H).upd hD)) ((Same.refl H).upd hD)
def sp_law_team : Sp := fun vs H Q _ => ∃ (t L F : Addr) (as has : List Addr) (ps : List My.Pr) (hs : List Hr) (i : Int), vs = [.ref t, .int i] ∧ DealAt H t L F as has ps hs ∧ hs.length ≤ 1000 ∧ ∀ (r : Addr) (H' : Hp), H r = none → H' r = some (.lst ((namesOf i hs).map V.str)) → Same H H' → Q (.ref r) H'
theorem ok_of_team (T : Txt K mg a) : FnOk P w K mg base CX0 1 a.f_of_team a.d_of_team ["_law_deal", "_law_team"] sp_law_team := by
  refine T.F_of_team.ok sc_of_team (fun vs H Q E h => ?_) (fun cdv A outer s H vs Q E hr h => ?_)
  · obtain ⟨t, L, F, as, has, ps, hs, i, rfl, _⟩ := h
    rfl
  · obtain ⟨t, L, F, as, has, ps, hs, sd, rfl, dl, few, kk⟩ := h
    refine ⟨_, (pss_one (ps_ret (pe_lc (own := [("_law_pact_here", 2)]) (g := gName 2) (te := tOp (rIxT K) (tVar 2) (tC (.int 0))) (tt := tTest (tOp rEq (tOp (rIxT K) (tVar 2) (tC (.int 1))) (tVar 1))) rfl sc_of_team.nd (pi_list (pe_ix ix_tup (pv 0) pe_int (fun _ _ => rfl))) (blkOk_by (own := [("_law_pact_here", 2)]) (N := ["_law_deal", "_law_team", "_law_pact_here"]) (sc := defScope s_of_team) (by decide +kernel)) (fun _ _ _ _ _ => pg_name (i := 2) sc_of_team.nd rfl (Or.inl rfl)) (fun _ _ _ _ _ => pts_one (pt_cmpR op_eq (pe_ix ix_tup (pv 2) pe_int (fun _ _ => rfl)) (pv 1) (nomark _))) (fun _ _ _ _ _ => by exact (pe_ix ix_tup (pv 2) pe_int (fun _ _ => rfl)))))), ?_⟩
    have hl := AllAt.len dl.cr
    refine ⟨_, rfl, _, _, _, _, rfl, rfl, SqT.of dl.tp, rfl, F, rfl, ⟨_, SqL.of dl.hF⟩, fun D hD => ?_⟩
    have nFD : F ≠ D := ne_of_none dl.hF hD
    refine lc_list (K := K) (a := F) (xs := has.map V.ref) (fun k H3 => Blk (H3 = upd H D (.lst (((ofSide sd (hs.take k)).map (·.name)).map V.str)))) (Blk.of rfl) (fun k H3 _ hB => ?_) ?_ ?_
    · obtain rfl := hB.out
      exact SqL.of ((upd_ne nFD).trans dl.hF)
    · intro k y H3 hy hB
      obtain rfl := hB.out
      obtain ⟨h, hh, rfl⟩ := refs_get hy
      obtain ⟨z, hz2, tk2, th2, ez, _⟩ := AllAt.get dl.cr hh
      have ez2 : ∀ o, upd H D o h = some (.tup [.str z.name, .int z.side, .ref tk2, .bl z.gives, .ref th2]) := fun o => (upd_ne (ne_of_none ez hD)).trans ez
      refine ⟨rfl, ?_⟩
      refine ⟨_, rfl, _, _, _, _, rfl, rfl, SqT.of (ez2 _), rfl, _, rfl, rfl, _, rfl, ?_⟩
      rw [dec_int_eq]
      have hle := ofSide_le sd (hs.take k)
      rw [List.length_take] at hle
      refine iteD (fun c => ?_) (fun c => ?_)
      · refine ⟨_, rfl, _, _, _, _, rfl, rfl, SqT.of (ez2 _), rfl, ?_⟩
        refine ⟨_, upd_same, by rw [List.length_map, List.length_map]; exact small (by omega), Blk.of ?_⟩
        rw [upd_upd, ofSide_snoc sd hz2, if_pos c, List.map_append, List.map_append]
        rfl
      · refine Blk.of ?_
        rw [ofSide_snoc sd hz2, if_neg c, List.append_nil]
    · intro H3 hB
      obtain rfl := hB.out
      have e1 : hs.take (has.map V.ref).length = hs := by rw [List.length_map, hl, List.take_length]
      rw [e1]
      exact kk D _ hD upd_same ((Same.refl H).upd hD)

open My (Hr wd)
/-! ### errors of a deal -/
def ldB (i : Int) (w : Str) (ps : List My.Pr) : List Bool := (ps.filter fun z => decide (wd i z = w)).map fun z => z.2.2
theorem filter_one {α β : Type} [DecidableEq β] {f : α → β} {xs : List α} {w : β} {q : α} (nd : (xs.map f).Nodup) (h : xs.find? (fun z => decide (f z = w)) = some q) : xs.filter (fun z => decide (f z = w)) = [q] := by
  induction xs with
  | nil => cases h
  | cons a r ih =>
    rw [List.map_cons, List.nodup_cons] at nd
    rw [List.find?_cons] at h
    by_cases c : f a = w
    · rw [decide_eq_true c] at h
      obtain rfl := Option.some.inj h
      rw [List.filter_cons_of_pos (by simpa using c)]
      congr 1
      refine List.filter_eq_nil_iff.mpr fun z hz q => ?_
      exact nd.1 (List.mem_map.mpr ⟨z, hz, (of_decide_eq_true q).trans c.symm⟩)
    · rw [decide_eq_false c] at h
      rw [List.filter_cons_of_neg (by simpa using c)]
      exact ih nd.2 h
theorem wd_nodup {ps : List My.Pr} (ok : My.PairsOk ps) {i : Int} (hi : i = 0 ∨ i = 1) : (ps.map (wd i)).Nodup := by
  rcases hi with rfl | rfl
  · exact ok.nears
  · exact ok.fars
theorem ldB_one {ps : List My.Pr} (ok : My.PairsOk ps) {i : Int} (hi : i = 0 ∨ i = 1) {w : Str} {b : Bool} (h : ladenO ps i w = some b) : ldB i w ps = [b] := by
  unfold ladenO at h
  cases e : pairOf i w ps with
  | none => rw [e] at h; cases h
  | some q =>
    rw [e] at h
    obtain rfl := Option.some.inj h
    unfold ldB
    rw [filter_one (f := wd i) (wd_nodup ok hi) e]
    rfl
theorem filter_snoc {α : Type} {xs : List α} {k : Nat} {z : α} (P : α → Bool) (h : xs[k]? = some z) : (xs.take (k + 1)).filter P = (xs.take k).filter P ++ (if P z = true then [z] else []) := by
  rw [take_snoc h, List.filter_append]
  congr 1
  by_cases c : P z = true
  · rw [if_pos c, List.filter_cons_of_pos c, List.filter_nil]
  · rw [if_neg c, List.filter_cons_of_neg c, List.filter_nil]
def sp_law_laden : Sp := fun vs H Q _ => ∃ (t L F : Addr) (as has : List Addr) (ps : List My.Pr) (hs : List Hr) (i : Int) (w : Str) (b : Bool), vs = [.ref t, .int i, .str w] ∧ DealAt H t L F as has ps hs ∧ My.PairsOk ps ∧ ps.length ≤ 1000 ∧ (i = 0 ∨ i = 1) ∧ ladenO ps i w = some b ∧ ∀ H', Same H H' → Q (.bl b) H'
theorem ok_laden (T : Txt K mg a) : FnOk P w K mg base CX0 1 a.f_laden a.d_laden ["_law_deal", "_law_team", "_law_word"] sp_law_laden := by
  refine T.F_laden.ok sc_laden (fun vs H Q E h => ?_) (fun cdv A outer s H vs Q E hr h => ?_)
  · obtain ⟨t, L, F, as, has, ps, hs, i, w, b, rfl, _⟩ := h
    rfl
  · obtain ⟨t, L, F, as, has, ps, hs, i, w, b, rfl, dl, pok, few, hi, hb, kk⟩ := h
    refine ⟨_, (pss_one (ps_ret (pe_cmpR op_in_seq pe_bl (pe_lc (own := [("_law_pair", 3)]) (g := gName 3) (te := tOp (rIxT K) (tVar 3) (tC (.int 2))) (tt := tTest (tOp rEq (tOp (rIxT K) (tVar 3) (tVar 1)) (tVar 2))) rfl sc_laden.nd (pi_list (pe_ix ix_tup (pv 0) pe_int (fun _ _ => rfl))) (blkOk_by (own := [("_law_pair", 3)]) (N := ["_law_deal", "_law_team", "_law_word", "_law_pair"]) (sc := defScope s_laden) (by decide +kernel)) (fun _ _ _ _ _ => pg_name (i := 3) sc_laden.nd rfl (Or.inl rfl)) (fun _ _ _ _ _ => pts_one (pt_cmpR op_eq (pe_ix ix_tup (pv 3) (pv 1) (fun _ _ => rfl)) (pv 2) (nomark _))) (fun _ _ _ _ _ => by exact (pe_ix ix_tup (pv 3) pe_int (fun _ _ => rfl)))) (by rfl)))), ?_⟩
    refine ⟨_, rfl, _, _, _, _, rfl, rfl, SqT.of dl.tp, rfl, L, rfl, ⟨_, SqL.of dl.hL⟩, fun D hD => ?_⟩
    have nLD : L ≠ D := ne_of_none dl.hL hD
    refine lc_list (K := K) (a := L) (xs := as.map V.ref) (fun k H3 => Blk (H3 = upd H D (.lst ((ldB i w (ps.take k)).map V.bl)))) (Blk.of rfl) (fun k H3 _ hB => ?_) ?_ ?_
    · obtain rfl := hB.out
      exact SqL.of ((upd_ne nLD).trans dl.hL)
    · intro k y H3 hy hB
      obtain rfl := hB.out
      obtain ⟨h, hh, rfl⟩ := refs_get hy
      obtain ⟨z, hz, ez⟩ := dl.ob.get hh
      have ez2 : ∀ o, upd H D o h = some (prO z) := fun o => (upd_ne (ne_of_none ez hD)).trans ez
      have fl : (ldB i w (ps.take k)).length ≤ 1000 := by
        unfold ldB
        rw [List.length_map]
        refine Nat.le_trans (List.length_filter_le _ _) ?_
        rw [List.length_take]
        omega
      refine ⟨rfl, ?_⟩
      refine ⟨_, rfl, _, rfl, _, _, _, _, rfl, rfl, SqT.of (ez2 _), wd_at hi z, ?_⟩
      refine ⟨_, rfl, rfl, _, rfl, ?_⟩
      refine iteSS (fun e => ?_) (fun n => ?_)
      · refine ⟨_, rfl, _, _, _, _, rfl, rfl, SqT.of (ez2 _), rfl, ?_⟩
        refine ⟨_, upd_same, by rw [List.length_map]; exact small (by omega), Blk.of ?_⟩
        have q := filter_snoc (fun z => decide (wd i z = w)) hz
        rw [if_pos (decide_eq_true e)] at q
        unfold ldB
        rw [upd_upd, q, List.map_append, List.map_append]
        rfl
      · refine Blk.of ?_
        have q := filter_snoc (fun z => decide (wd i z = w)) hz
        rw [if_neg (by simpa using n), List.append_nil] at q
        unfold ldB
        rw [q]
    · intro H3 hB
      obtain rfl := hB.out
      have e1 : ps.take (as.map V.ref).length = ps := by rw [List.length_map, dl.ob.len, List.take_length]
      rw [e1, ldB_one pok hi hb]
      refine ⟨D, _, rfl, .inl (SqL.of upd_same), rfl, rfl, ?_⟩
      have := kk _ ((Same.refl H).upd hD (o := .lst (([b] : List Bool).map V.bl)))
      cases b
      · exact this
      · exact this

open My (Hr wd)
theorem errs_map {i : Int} {ps : List My.Pr} {y : Hr} (hth : ∀ t, t ∈ y.throws → t ∈ ps.map (wd y.side)) (hs : y.side = 0 ∨ y.side = 1) (hi : i = 0 ∨ i = 1) : y.throws.map (fun t => ((pairOf y.side t ps).map (wd i)).getD t) = errs i ps y := by
  by_cases e : y.side = i
  · rw [errs_own e]
    refine (List.map_congr_left fun t ht => ?_).trans (List.map_id _)
    obtain ⟨q, hq⟩ := pairOf_mem (hth t ht)
    rw [hq]
    have := List.find?_some hq
    rw [← e]
    exact of_decide_eq_true this
  · rw [errs_other e, show 1 - y.side = i by omega]
def sp_law_errors : Sp := fun vs H Q _ => ∃ (t L F : Addr) (as has : List Addr) (ps : List My.Pr) (hs : List Hr) (w : Str) (i : Int) (y : Hr), vs = [.ref t, .str w, .int i] ∧ DealAt H t L F as has ps hs ∧ My.PairsOk ps ∧ hs.length ≤ 1000 ∧ (i = 0 ∨ i = 1) ∧ crewOf w hs = some y ∧ (y.side = 0 ∨ y.side = 1) ∧ (∀ t, t ∈ y.throws → t ∈ ps.map (wd y.side)) ∧ y.throws.length ≤ 1000 ∧
  ∀ (r : Addr) (H' : Hp), H r = none → H' r = some (.lst ((errs i ps y).map V.str)) → Same H H' → Q (.ref r) H'
theorem ok_errors (T : Txt K mg a) : FnOk P w K mg base CX0 2 a.f_errors a.d_errors ["_law_deal", "_law_name", "_law_team"] sp_law_errors := by
  refine T.F_errors.ok sc_errors (fun vs H Q E h => ?_) (fun cdv A outer s H vs Q E hr h => ?_)
  · obtain ⟨t, L, F, as, has, ps, hs, w, i, y, rfl, _⟩ := h
    rfl
  · obtain ⟨t, L, F, as, has, ps, hs, w, i, y, rfl, dl, pok, few, hi, hy, ysd, yth, yfew, kk⟩ := h
    refine ⟨_, (pss_cons (ps_set (i := 3) sc_errors.nd rfl (Or.inr rfl) (pe_call (ok_pact T) (hr.mono (by decide)) rfl T.g_pact T.k_pact T.B_pact .nil pass0 (pa_cons (pv 0) (pa_cons (pv 1) pa_nil))))
      (pss_cons (ps_set (i := 4) sc_errors.nd rfl (Or.inl rfl) (pe_lst pa_nil))
      (pss_cons (ps_for PassesOwn.never rfl (pi_tup (pe_ix ix_tup (pv 3) pe_int (fun _ _ => rfl))) (pg_name (i := 5) sc_errors.nd rfl (Or.inr rfl)) (pss_one (ps_set (i := 4) sc_errors.nd rfl (Or.inl rfl) (pe_op op_cat (pv 4) (pe_lc (own := [("_law_pair", 6)]) (g := gName 6) (te := tOp (rIxT K) (tVar 6) (tVar 2)) (tt := tTest (tOp rEq (tOp (rIxT K) (tVar 6) (tOp (rIxT K) (tVar 3) (tC (.int 1)))) (tVar 5))) rfl sc_errors.nd (pi_list (pe_ix ix_tup (pv 0) pe_int (fun _ _ => rfl))) (blkOk_by (own := [("_law_pair", 6)]) (N := ["_law_deal", "_law_name", "_law_team", "_law_pact_here", "_law_found", "_law_word", "_law_pair"]) (sc := defScope s_errors) (by decide +kernel)) (fun _ _ _ _ _ => pg_name (i := 6) sc_errors.nd rfl (Or.inl rfl)) (fun _ _ _ _ _ => pts_one (pt_cmpR op_eq (pe_ix ix_tup (pv 6) (pe_ix ix_tup (pv 3) pe_int (fun _ _ => rfl)) (fun _ _ => rfl)) (pv 5) (nomark _))) (fun _ _ _ _ _ => by exact (pe_ix ix_tup (pv 6) (pv 2) (fun _ _ => rfl))))))))
      (pss_one (ps_ret (pv 4)))))), ?_⟩
    refine ⟨_, rfl, _, rfl, t, L, F, as, has, ps, hs, w, y, rfl, dl, few, hy, fun h H1 hh s1 => ?_⟩
    obtain ⟨tk, th, eh, ttk, tth⟩ := id hh
    refine ⟨by show 0 ≤ sizeLine; decide, fun D hD => ?_⟩
    have sD : Same H1 (upd H1 D (.lst [])) := (Same.refl H1).upd hD
    have hD2 : (upd H1 D (.lst [])) D = some (.lst []) := upd_same
    have nD : H D = none := s1.free hD
    show gName 4 (.ref D) _ (upd H1 D (.lst [])) _
    generalize (upd H1 D (.lst [])) = H2 at sD hD2 ⊢
    have s2 := s1.trans sD
    have hh2 := hh.same sD
    obtain ⟨tk2, th2, eh2, ttk2, tth2⟩ := id hh2
    refine ⟨_, rfl, _, _, _, _, rfl, rfl, SqT.of eh2, rfl, th2, rfl, ⟨_, tth2.seq⟩, ?_⟩
    refine for_tup (K := K) (a := th2) (xs := y.throws.map V.str) (fun k σ H3 => Blk (∃ (v5 v6 : Option V) (D3 : Addr), σ = [some (.ref t), some (.str w), some (.int i), some (.ref h), some (.ref D3), v5, v6] ∧ Same H H3 ∧ H D3 = none ∧ Same H2 H3 ∧
      H3 D3 = some (.lst (((y.throws.take k).map fun t => ((pairOf y.side t ps).map (wd i)).getD t).map V.str)))) ?_ ?_ ?_ ?_
    · exact Blk.of ⟨_, _, D, rfl, s2, nD, Same.refl H2, hD2⟩
    · intro k σ H3 _ hB
      obtain ⟨v5, v6, D3, _, _, _, s3, _⟩ := hB.out
      exact (tth2.same s3).seq
    · intro k u σ H3 hu hB
      obtain ⟨v5, v6, D3, rfl, s3, n3, s23, h3⟩ := hB.out
      obtain ⟨tw, htw, rfl⟩ := strs_get hu
      have hk := get_lt htw
      have hh3 := hh2.same s23
      obtain ⟨tk3, th3, eh3, _, _⟩ := id hh3
      have dl3 := dl.same s3
      obtain ⟨q, hq⟩ := pairOf_mem (yth tw (List.mem_of_getElem? htw))
      refine ⟨_, rfl, _, rfl, _, _, _, _, rfl, rfl, SqT.of dl3.tp, rfl, L, rfl, ⟨_, SqL.of dl3.hL⟩, fun G hG => ?_⟩
      have nLG : L ≠ G := ne_of_none dl3.hL hG
      refine lc_list (K := K) (a := L) (xs := as.map V.ref) (fun k' H4 => Blk (H4 = upd H3 G (.lst ((((ps.take k').filter fun z => decide (wd y.side z = tw)).map (wd i)).map V.str)))) (Blk.of rfl) (fun k' H4 _ hB => ?_) ?_ ?_
      · obtain rfl := hB.out
        exact SqL.of ((upd_ne nLG).trans dl3.hL)
      · intro k' u' H4 hy' hB
        obtain rfl := hB.out
        obtain ⟨h', hh', rfl⟩ := refs_get hy'
        obtain ⟨z, hz, ez⟩ := dl3.ob.get hh'
        have ez2 : ∀ o, upd H3 G o h' = some (prO z) := fun o => (upd_ne (ne_of_none ez hG)).trans ez
        have eh4 : ∀ o, upd H3 G o h = some (.tup [.str y.name, .int y.side, .ref tk3, .bl y.gives, .ref th3]) := fun o => (upd_ne (ne_of_none eh3 hG)).trans eh3
        have pl := pok.many
        have fl : (((ps.take k').filter fun z => decide (wd y.side z = tw)).map (wd i)).length ≤ 1000 := by
          rw [List.length_map]
          refine Nat.le_trans (List.length_filter_le _ _) ?_
          rw [List.length_take]
          omega
        have q := filter_snoc (fun z => decide (wd y.side z = tw)) hz
        refine ⟨rfl, ?_⟩
        refine ⟨_, rfl, _, rfl, _, _, _, _, rfl, rfl, SqT.of (eh4 _), rfl, _, _, _, _, rfl, rfl, SqT.of (ez2 _), wd_at ysd z, ?_⟩
        refine ⟨_, rfl, rfl, _, rfl, ?_⟩
        refine iteSS (fun e => ?_) (fun n => ?_)
        · refine ⟨_, rfl, _, rfl, _, _, _, _, rfl, rfl, SqT.of (ez2 _), wd_at hi z, ?_⟩
          refine ⟨_, upd_same, by rw [List.length_map]; exact small (by omega), Blk.of ?_⟩
          rw [if_pos (decide_eq_true e)] at q
          rw [upd_upd, q, List.map_append, List.map_append]
          rfl
        · refine Blk.of ?_
          rw [if_neg (by simpa using n), List.append_nil] at q
          rw [q]
      · intro H4 hB
        obtain rfl := hB.out
        have e1 : ps.take (as.map V.ref).length = ps := by rw [List.length_map, dl.ob.len, List.take_length]
        rw [e1, filter_one (f := wd y.side) (wd_nodup pok ysd) hq]
        have nGD : D3 ≠ G := ne_of_none h3 hG
        have s4 : Same H3 (upd H3 G (.lst ((([q] : List My.Pr).map (wd i)).map V.str))) := (Same.refl H3).upd hG
        have hG4 : (upd H3 G (.lst ((([q] : List My.Pr).map (wd i)).map V.str))) G = some (.lst ((([q] : List My.Pr).map (wd i)).map V.str)) := upd_same
        generalize (upd H3 G (.lst ((([q] : List My.Pr).map (wd i)).map V.str))) = H4 at s4 hG4 ⊢
        refine ⟨D3, G, _, _, rfl, rfl, s4 _ _ h3, hG4, ?_, fun P2 hP2 => ?_⟩
        · rw [List.length_map, List.length_map, List.length_map, List.length_map, List.length_take, sizeLine_eq]
          simp
          omega
        have sP := s4.upd (o := .lst ((((y.throws.take k).map fun t => ((pairOf y.side t ps).map (wd i)).getD t).map V.str) ++ ((([q] : List My.Pr).map (wd i)).map V.str))) (s4.free hP2)
        refine Blk.of ⟨_, _, P2, rfl, s3.trans sP, s3.free (s4.free hP2), s23.trans sP, ?_⟩
        rw [upd_same, take_snoc htw, List.map_append, List.map_append]
        show _ = some (HO.lst (_ ++ [V.str (((pairOf y.side tw ps).map (wd i)).getD tw)]))
        rw [hq]
        rfl
    · intro σ H3 hB
      obtain ⟨v5, v6, D3, rfl, s3, n3, s23, h3⟩ := hB.out
      rw [List.length_map, List.take_length, errs_map yth ysd hi] at h3
      exact ⟨_, rfl, kk D3 H3 n3 h3 s3⟩

open My (Hr wd)
/-! ### the last row -/
def pkS : List Str := ["a", "b", "c", "d", "e"]
/-- no line feed, no bracket -/
def Fine (s : Str) : Prop := (10 : Nat) ∉ s.cps.toList ∧ (40 : Nat) ∉ s.cps.toList ∧ PyData.strOk s = true
theorem strOk_in {s : Str} (h : ∀ c, c ∈ s.cps.toList → c < 0x110000) : PyData.strOk s = true := by
  unfold PyData.strOk
  rw [← Array.all_toList]
  exact List.all_eq_true.mpr fun c hc => decide_eq_true (h c hc)
theorem strOk_out {s : Str} (h : PyData.strOk s = true) : ∀ c, c ∈ s.cps.toList → c < 0x110000 := by
  unfold PyData.strOk at h
  rw [← Array.all_toList] at h
  exact fun c hc => of_decide_eq_true (List.all_eq_true.mp h c hc)
theorem Fine.app {a b : Str} (ha : Fine a) (hb : Fine b) : Fine (a ++ b) := by
  have e : (a ++ b : Str).cps.toList = a.cps.toList ++ b.cps.toList := by
    show (a.cps ++ b.cps).toList = _
    exact Array.toList_append
  refine ⟨?_, ?_, strOk_in ?_⟩
  · rw [e]
    exact fun h => (List.mem_append.mp h).elim ha.1 hb.1
  · rw [e]
    exact fun h => (List.mem_append.mp h).elim ha.2.1 hb.2.1
  · rw [e]
    exact fun c h => (List.mem_append.mp h).elim (strOk_out ha.2.2 c) (strOk_out hb.2.2 c)
theorem fine_name {w : Str} (h : My.nameB w = true) : Fine w := ⟨fun z => by
  have := List.all_eq_true.mp (nameB_out h).2.2 _ z
  exact absurd this (by decide), (fun z => by
  have := List.all_eq_true.mp (nameB_out h).2.2 _ z
  exact absurd this (by decide)), letters_ok (nameB_out h).2.2⟩
theorem fine_pk {c : Str} (h : c ∈ pkS) : Fine c := by
  simp only [pkS, List.mem_cons, List.not_mem_nil, or_false] at h
  rcases h with rfl | rfl | rfl | rfl | rfl
  all_goals exact ⟨by decide +kernel, by decide +kernel, by decide +kernel⟩
theorem fine_blank : Fine " " := ⟨by decide +kernel, by decide +kernel, by decide +kernel⟩
/-- a text is such a row of a helper's body, at any place of any number of rows -/
def EndRow (hs : List Hr) (ps : List My.Pr) (x : Hr) (row : Str) : Prop := row.length ≤ 60 ∧ Fine row ∧ ∀ at_ many : Nat, ∃ st, rowAt hs ps x at_ many row = some st ∧ st.ends = true
theorem pk_fine {c : Str} (h : c ∈ pkS) : ¬ pocketV c = .non ∧ (32 : Nat) ∉ c.cps.toList ∧ c.length = 1 := by
  simp only [pkS, List.mem_cons, List.not_mem_nil, or_false] at h
  rcases h with rfl | rfl | rfl | rfl | rfl
  all_goals exact ⟨by decide +kernel, by decide +kernel, by decide +kernel⟩
theorem rowF_done (hs : List Hr) (ps : List My.Pr) (x : Hr) (i m : Nat) (r : List Str) : rowF hs ps x i m "done" r = doneF x.gives r := by
  unfold rowF
  rw [if_neg (by decide +kernel), if_neg (by decide +kernel), if_neg (by decide +kernel), if_neg (by decide +kernel), if_neg (by decide +kernel), if_pos rfl]
theorem rowF_throw (hs : List Hr) (ps : List My.Pr) (x : Hr) (i m : Nat) (r : List Str) : rowF hs ps x i m "throw" r = throwF ps x.side r := by
  unfold rowF
  rw [if_neg (by decide +kernel), if_neg (by decide +kernel), if_neg (by decide +kernel), if_neg (by decide +kernel), if_pos rfl]
theorem end_one {w c : Str} (h : ¬ pocketV c = .non) : ∃ st, endF w [c] = some st ∧ st.ends = true := ⟨_, if_neg h, (Stp.ends_iff _).mpr rfl⟩
theorem end_no {w : Str} : ∃ st, endF w [] = some st ∧ st.ends = true := ⟨_, rfl, (Stp.ends_iff _).mpr rfl⟩
theorem empty_app (x : Str) : x ++ Str.empty = x := by
  cases x
  show Str.mk (_ ++ #[]) = _
  simp
theorem row_done {hs : List Hr} {ps : List My.Pr} {x : Hr} {c : Str} (hc : c ∈ pkS) : EndRow hs ps x ("done" ++ (if x.gives then (" " ++ c : Str) else Str.empty)) := by
  obtain ⟨h1, h2, h3⟩ := pk_fine hc
  have e0 : My.cut 32 ("done" : Str) = [("done" : Str)] := My.cut_whole (by decide) (by decide +kernel)
  have l0 : ("done" : Str).length = 4 := by decide +kernel
  have fd : Fine "done" := ⟨by decide +kernel, by decide +kernel, by decide +kernel⟩
  have l1 : (" " : Str).length = 1 := by decide +kernel
  cases hg : x.gives with
  | true =>
    refine ⟨?_, fd.app (fine_blank.app (fine_pk hc)), fun i m => ?_⟩
    · show ("done" ++ (" " ++ c) : Str).length ≤ 60
      rw [strLen_append, strLen_append, l0, l1, h3]
      decide
    · obtain ⟨st, q1, q2⟩ := end_one (w := "") h1
      refine ⟨st, ?_, q2⟩
      unfold rowAt
      show (match My.cut 32 ("done" ++ (" " ++ c) : Str) with | w :: r => rowF hs ps x i m w r | [] => none) = _
      rw [blank_eq, My.cut_put (by decide) _ h2, e0]
      show rowF hs ps x i m "done" [c] = _
      rw [rowF_done, hg]
      exact (if_pos rfl).trans q1
  | false =>
    refine ⟨?_, by rw [if_neg (by decide), empty_app]; exact fd, fun i m => ?_⟩
    · show ("done" ++ Str.empty : Str).length ≤ 60
      rw [empty_app, l0]
      decide
    · obtain ⟨st, q1, q2⟩ := end_no (w := "")
      refine ⟨st, ?_, q2⟩
      unfold rowAt
      show (match My.cut 32 ("done" ++ Str.empty : Str) with | w :: r => rowF hs ps x i m w r | [] => none) = _
      rw [empty_app, e0]
      show rowF hs ps x i m "done" [] = _
      rw [rowF_done, hg]
      exact (if_pos rfl).trans q1
theorem row_throw {hs : List Hr} {ps : List My.Pr} {x : Hr} {c w : Str} {b : Bool} (hc : c ∈ pkS) (hw : (32 : Nat) ∉ w.cps.toList) (hf : Fine w) (wl : w.length ≤ 8) (hb : ladenO ps x.side w = some b) : EndRow hs ps x (("throw " ++ w) ++ (if b then (" " ++ c : Str) else Str.empty)) := by
  obtain ⟨h1, h2, h3⟩ := pk_fine hc
  have e0 : My.cut 32 ("throw " ++ w : Str) = [("throw" : Str), w] := by
    have e : ("throw " ++ w : Str) = ("throw" : Str) ++ (⟨#[32]⟩ ++ w) := by
      have a1 : ("throw " : Str) = ("throw" : Str) ++ ⟨#[32]⟩ := by decide +kernel
      rw [a1]
      show Str.mk _ = Str.mk _
      congr 1
      exact Array.append_assoc
    rw [e, My.cut_put (by decide) _ hw, My.cut_whole (by decide) (by decide +kernel)]
    rfl
  have l0 : ("throw " : Str).length = 6 := by decide +kernel
  have fd : Fine ("throw " ++ w) := Fine.app ⟨by decide +kernel, by decide +kernel, by decide +kernel⟩ hf
  have l1 : (" " : Str).length = 1 := by decide +kernel
  cases b with
  | true =>
    refine ⟨?_, fd.app (fine_blank.app (fine_pk hc)), fun i m => ?_⟩
    · show (("throw " ++ w) ++ (" " ++ c) : Str).length ≤ 60
      rw [strLen_append, strLen_append, strLen_append, l0, l1, h3]
      omega
    · obtain ⟨st, q1, q2⟩ := end_one (w := w) h1
      refine ⟨st, ?_, q2⟩
      unfold rowAt
      show (match My.cut 32 (("throw " ++ w) ++ (" " ++ c) : Str) with | w :: r => rowF hs ps x i m w r | [] => none) = _
      rw [blank_eq, My.cut_put (by decide) _ h2, e0]
      show rowF hs ps x i m "throw" [w, c] = _
      rw [rowF_throw]
      unfold throwF
      simp only [hb]
      exact (if_pos rfl).trans q1
  | false =>
    refine ⟨?_, by rw [if_neg (by decide), empty_app]; exact fd, fun i m => ?_⟩
    · show (("throw " ++ w) ++ Str.empty : Str).length ≤ 60
      rw [empty_app, strLen_append, l0]
      omega
    · obtain ⟨st, q1, q2⟩ := end_no (w := w)
      refine ⟨st, ?_, q2⟩
      unfold rowAt
      show (match My.cut 32 (("throw " ++ w) ++ Str.empty : Str) with | w :: r => rowF hs ps x i m w r | [] => none) = _
      rw [empty_app, e0]
      show rowF hs ps x i m "throw" [w] = _
      rw [rowF_throw]
      unfold throwF
      simp only [hb]
      exact (if_pos rfl).trans q1

open My (Hr wd)
theorem abcde_ix {j : Int} (h0 : 0 ≤ j) (h1 : j < 5) : ∃ c, atI ("abcde" : Str).cps.toList j = some c ∧ (⟨#[c]⟩ : Str) ∈ pkS := by
  have : j = 0 ∨ j = 1 ∨ j = 2 ∨ j = 3 ∨ j = 4 := by omega
  rcases this with rfl | rfl | rfl | rfl | rfl
  · exact ⟨97, by decide +kernel, by decide +kernel⟩
  · exact ⟨98, by decide +kernel, by decide +kernel⟩
  · exact ⟨99, by decide +kernel, by decide +kernel⟩
  · exact ⟨100, by decide +kernel, by decide +kernel⟩
  · exact ⟨101, by decide +kernel, by decide +kernel⟩
theorem abcde_len : ("abcde" : Str).length ≤ sizeLine := by rw [sizeLine_eq]; decide +kernel
theorem DealAt.keep {H H' : Hp} {t L F : Addr} {as has : List Addr} {ps : List My.Pr} {hs : List Hr} {R : List Addr} (d : DealAt H t L F as has ps hs) (k : Keeps R H H') (n : NoTup H R) (hL : L ∉ R) (hF : F ∉ R) : DealAt H' t L F as has ps hs :=
  ⟨k _ _ d.tp (fun q => (n t q _).1 d.tp), k _ _ d.hL hL, d.ob.keepN k n, k _ _ d.hF hF, Crew.keep d.cr k n⟩
def sp_any_end : Sp := fun vs H Q _ => ∃ (b g l t L F : Addr) (n : Int) (as has : List Addr) (ps : List My.Pr) (hs : List Hr) (w : Str) (x : Hr), vs = [.ref b, .ref t, .str w] ∧ BoxAt H b g l n ∧ 0 ≤ n ∧ n < 8000000 ∧ DealAt H t L F as has ps hs ∧ My.PairsOk ps ∧ My.CrewOk ps hs ∧ crewOf w hs = some x ∧
  L ∉ [b, g] ∧ F ∉ [b, g] ∧ NoTup H [b, g] ∧ ∀ (row : Str) (n' : Int) (H' : Hp), EndRow hs ps x row → n ≤ n' → n' ≤ n + 3 → BoxAt H' b g l n' → Keeps [b, g] H H' → Q (.str row) H'
theorem ok_any_end (T : Txt K mg a) : FnOk P w K mg base CX0 4 a.f_any_end a.d_any_end ["_law_box_here", "_law_deal", "_law_name"] sp_any_end := by
  refine T.F_any_end.ok sc_any_end (fun vs H Q E h => ?_) (fun cdv A outer s H vs Q E hr h => ?_)
  · obtain ⟨b, g, l, t, L, F, n, as, has, ps, hs, w, x, rfl, _⟩ := h
    rfl
  · obtain ⟨b, g, l, t, L, F, n, as, has, ps, hs, w, x, rfl, bx, n0, n1, dl, pok, cok, hx, Lb, Fb, nb, kk⟩ := h
    refine ⟨_, (pss_cons (ps_set (i := 3) sc_any_end.nd rfl (Or.inr rfl) (pe_call (ok_pact T) (hr.mono (by decide)) rfl T.g_pact T.k_pact T.B_pact .nil pass0 (pa_cons (pv 1) (pa_cons (pv 2) pa_nil))))
      (pss_cons (ps_setLc (i := 4) (own := [("_law_pair", 7)]) (g := gName 7) (te := tOp (rIxT K) (tVar 7) (tOp (rIxT K) (tVar 3) (tC (.int 1)))) (tt := tYes) rfl sc_any_end.nd rfl rfl (sw_true rfl rfl rfl (by decide +kernel)) (pi_list (pe_ix ix_tup (pv 1) pe_int (fun _ _ => rfl))) (blkOk_by (own := [("_law_pair", 7)]) (N := ["_law_box_here", "_law_deal", "_law_name", "_law_pact_here", "_law_known", "_law_pocket", "_law_word", "_law_pair"]) (sc := defScope s_any_end) (by decide +kernel)) (fun _ _ _ _ _ => pg_name (i := 7) sc_any_end.nd rfl (Or.inl rfl)) (fun _ _ _ _ _ => pts_nil) (fun _ _ _ _ _ => by exact (pe_ix ix_tup (pv 7) (pe_ix ix_tup (pv 3) pe_int (fun _ _ => rfl)) (fun _ _ => rfl))))
      (pss_cons (ps_set (i := 5) sc_any_end.nd rfl (Or.inl rfl) (pe_op op_add_str pe_str (pe_ix ix_str pe_str (pe_call (ok_take T) (hr.mono (by decide)) rfl T.g_take T.k_take T.B_take .nil pass0 (pa_cons (pv 0) (pa_cons pe_int pa_nil))) (fun _ _ => rfl))))
      (pss_cons (ps_if (PW.pt (pw_and (pt_cmpR op_gt (pe_callB call_len_seq (by rfl) T.z_len (by decide +kernel) (pa_cons (pv 4) pa_nil)) pe_int (nomark _)) (pw_and1 (pt_cmpR op_eq (pe_call (ok_take T) (hr.mono (by decide)) rfl T.g_take T.k_take T.B_take .nil pass0 (pa_cons (pv 0) (pa_cons pe_int pa_nil))) pe_int (nomark _))))) (pss_cons (ps_set (i := 6) sc_any_end.nd rfl (Or.inl rfl) (pe_ix ix_list (pv 4) (pe_call (ok_take T) (hr.mono (by decide)) rfl T.g_take T.k_take T.B_take .nil pass0 (pa_cons (pv 0) (pa_cons (pe_callB call_len_seq (by rfl) T.z_len (by decide +kernel) (pa_cons (pv 4) pa_nil)) pa_nil))) (fun _ _ => rfl)))
      (pss_one (ps_ret (pe_op op_add_str (pe_op op_add_str pe_str (pv 6)) (pe_op op_mulS (pv 5) (pe_callTy call_int1 (by rfl) T.z_int (by decide +kernel) (pa_cons (pe_call (ok_laden T) (hr.mono (by decide)) rfl T.g_laden T.k_laden T.B_laden .nil pass0 (pa_cons (pv 1) (pa_cons (pe_ix ix_tup (pv 3) pe_int (fun _ _ => rfl)) (pa_cons (pv 6) pa_nil)))) pa_nil))))))) pss_nil)
      (pss_one (ps_ret (pe_op op_add_str pe_str (pe_op op_mulS (pv 5) (pe_callTy call_int1 (by rfl) T.z_int (by decide +kernel) (pa_cons (pe_ix ix_tup (pv 3) pe_int (fun _ _ => rfl)) pa_nil)))))))))), ?_⟩
    have few8 := crew_many cok
    obtain ⟨xm, xn⟩ := crew_mem hx
    obtain ⟨xp, xth⟩ := cok.one x xm
    obtain ⟨xsd, x3, x4⟩ := pact_parts xp
    refine ⟨_, rfl, _, rfl, t, L, F, as, has, ps, hs, w, x, rfl, dl, by omega, hx, fun h H1 hh s1 => ?_⟩
    have dl1 := dl.same s1
    obtain ⟨tk, th, eh, _, _⟩ := id hh
    refine ⟨_, rfl, _, _, _, _, rfl, rfl, SqT.of dl1.tp, rfl, L, rfl, ⟨_, SqL.of dl1.hL⟩, fun D hD => ?_⟩
    have nLD : L ≠ D := ne_of_none dl1.hL hD
    have pl := pok.many
    refine lc_list (K := K) (a := L) (xs := as.map V.ref) (fun k H4 => Blk (H4 = upd H1 D (.lst (((ps.take k).map (wd x.side)).map V.str)))) (Blk.of rfl) (fun k H4 _ hB => ?_) ?_ ?_
    · obtain rfl := hB.out
      exact SqL.of ((upd_ne nLD).trans dl1.hL)
    · intro k u H4 hy hB
      obtain rfl := hB.out
      obtain ⟨h', hh', rfl⟩ := refs_get hy
      obtain ⟨z, hz, ez⟩ := dl1.ob.get hh'
      have ez2 : ∀ o, upd H1 D o h' = some (prO z) := fun o => (upd_ne (ne_of_none ez hD)).trans ez
      have eh4 : ∀ o, upd H1 D o h = some (.tup [.str x.name, .int x.side, .ref tk, .bl x.gives, .ref th]) := fun o => (upd_ne (ne_of_none eh hD)).trans eh
      refine ⟨rfl, ?_⟩
      dsimp only [tYes]
      refine iteT ?_
      refine ⟨_, rfl, _, rfl, _, _, _, _, rfl, rfl, SqT.of (eh4 _), rfl, _, _, _, _, rfl, rfl, SqT.of (ez2 _), wd_at xsd z, ?_⟩
      refine ⟨_, upd_same, by rw [List.length_map, List.length_map, List.length_take]; exact small (by omega), Blk.of ?_⟩
      rw [upd_upd, take_snoc hz, List.map_append, List.map_append]
      rfl
    · intro H4 hB
      obtain rfl := hB.out
      have e1 : ps.take (as.map V.ref).length = ps := by rw [List.length_map, dl.ob.len, List.take_length]
      rw [e1]
      have s4 : Same H1 (upd H1 D (.lst ((ps.map (wd x.side)).map V.str))) := (Same.refl H1).upd hD
      have hD4 : (upd H1 D (.lst ((ps.map (wd x.side)).map V.str))) D = some (.lst ((ps.map (wd x.side)).map V.str)) := upd_same
      generalize (upd H1 D (.lst ((ps.map (wd x.side)).map V.str))) = H4 at s4 hD4 ⊢
      have s40 := s1.trans s4
      have bx4 := bx.same s40
      refine ⟨_, rfl, b, g, l, _, 5, rfl, bx4, by omega, by omega, by decide, by decide, fun j H5 j0 j1 bx5 kp5 => ?_⟩
      obtain ⟨c, hc, lc⟩ := abcde_ix j0 j1
      obtain ⟨c1, c2, c3⟩ := pk_fine lc
      refine ⟨_, _, _, rfl, rfl, abcde_len, hc, _, _, rfl, rfl, by rw [c3, sizeLine_eq]; decide +kernel, ?_⟩
      have Db : D ∉ [b, g] := offbox (bx.same s1) hD
      have hD5 := kp5 _ _ hD4 Db
      have k05 : Keeps [b, g] H H5 := (Same.keeps s40).trans kp5
      have dl5 := dl.keep k05 nb Lb Fb
      refine ⟨_, rfl, _, _, rfl, .inl (SqL.of hD5), _, _, rfl, rfl, _, rfl, ?_⟩
      rw [List.length_map, List.length_map]
      refine iteD (fun hpos => ?_) (fun hpos => ?_)
      · refine ⟨_, rfl, b, g, l, _, 2, rfl, bx5, by omega, by omega, by decide, by decide, fun j2 H6 j20 j21 bx6 kp6 => ?_⟩
        have k06 := k05.trans kp6
        have dl6 := dl.keep k06 nb Lb Fb
        have nb5 : NoTup H5 [b, g] := box_notup bx5
        have nb4 : NoTup H4 [b, g] := box_notup bx4
        have hh6 := (((hh.same s4).keep kp5 nb4).keep kp6 nb5)
        obtain ⟨tk6, th6, eh6, _, _⟩ := id hh6
        have hD6 := kp6 _ _ hD5 Db
        refine ⟨rfl, _, rfl, ?_⟩
        refine iteII (fun e => ?_) (fun ne => ?_)
        · have hlen : (((ps.map (wd x.side)).map V.str).length : Int) = (ps.length : Int) := by rw [List.length_map, List.length_map]
          refine ⟨_, rfl, _, rfl, _, rfl, _, _, rfl, .inl (SqL.of hD6), b, g, l, _, _, rfl, bx6, by omega, by omega, by rw [hlen]; exact hpos, by rw [hlen]; exact Nat.lt_trans (numT_log (n := ps.length) (by omega)) (by decide), fun j3 H7 j30 j31 bx7 kp7 => ?_⟩
          rw [hlen] at j31
          have k07 := k06.trans kp7
          have dl7 := dl.keep k07 nb Lb Fb
          have nb6 : NoTup H6 [b, g] := box_notup bx6
          obtain ⟨tk7, th7, eh7, _, _⟩ := id (hh6.keep kp7 nb6)
          have hD7 := kp7 _ _ hD6 Db
          obtain ⟨q, hq⟩ : ∃ q, ps[j3.toNat]? = some q := ⟨_, List.getElem?_eq_getElem (by omega)⟩
          have aw : atI ((ps.map (wd x.side)).map V.str) j3 = some (.str (wd x.side q)) := at_of (j := j3.toNat) (by omega) (by rw [List.getElem?_map, List.getElem?_map, hq]; rfl)
          refine ⟨_, _, _, _, rfl, rfl, SqL.of hD7, aw, ?_⟩
          obtain ⟨q', hq'⟩ := pairOf_mem (List.mem_map.mpr ⟨q, List.mem_of_getElem? hq, rfl⟩ : wd x.side q ∈ ps.map (wd x.side))
          have hlad : ladenO ps x.side (wd x.side q) = some q'.2.2 := by unfold ladenO; rw [hq']; rfl
          have nm : My.nameB (wd x.side q) = true := by
            have := pok.nm q (List.mem_of_getElem? hq)
            rcases xsd with e | e
            · rw [e]; exact this.1
            · rw [e]; exact this.2
          have wl := name_len nm
          have wb : (32 : Nat) ∉ (wd x.side q).cps.toList := fun z => by
            have := List.all_eq_true.mp (nameB_out nm).2.2 _ z
            exact absurd this (by decide)
          have rt := row_throw (hs := hs) (x := x) lc wb (fine_name nm) wl hlad
          have l6 : ("throw " : Str).length = 6 := by decide +kernel
          refine ⟨_, rfl, _, _, rfl, rfl, by rw [l6, sizeLine_eq]; omega, ?_⟩
          refine ⟨_, rfl, _, rfl, _, rfl, _, _, _, _, rfl, rfl, SqT.of eh7, rfl, _, rfl, t, L, F, as, has, ps, hs, x.side, _, q'.2.2, rfl, dl7, pok, by omega, xsd, hlad, fun H8 s8 => ?_⟩
          refine .inr ⟨q'.2.2, rfl, _, q'.2.2, rfl, rfl, _, _, rfl, rfl, ?_, ?_⟩
          · have := rt.1
            rw [strLen_append] at this
            rw [sizeLine_eq]
            exact Nat.le_trans this (by decide)
          · exact kk _ _ H8 rt (by omega) (by omega) (bx7.same s8) (k07.trans (Same.keeps s8))
        · refine ⟨_, rfl, _, rfl, _, _, _, _, rfl, rfl, SqT.of eh6, rfl, .inr ⟨x.gives, rfl, _, x.gives, rfl, rfl, _, _, rfl, rfl, ?_, ?_⟩⟩
          · have := (row_done (hs := hs) (ps := ps) (x := x) lc).1
            rw [strLen_append] at this
            rw [sizeLine_eq]
            exact Nat.le_trans this (by decide)
          · exact kk _ _ H6 (row_done lc) (by omega) (by omega) bx6 k06
      · have nb4 : NoTup H4 [b, g] := box_notup bx4
        have hh5 := (hh.same s4).keep kp5 nb4
        obtain ⟨tk5, th5, eh5, _, _⟩ := id hh5
        refine iteF ?_
        refine ⟨_, rfl, _, rfl, _, _, _, _, rfl, rfl, SqT.of eh5, rfl, .inr ⟨x.gives, rfl, _, x.gives, rfl, rfl, _, _, rfl, rfl, ?_, ?_⟩⟩
        · have := (row_done (hs := hs) (ps := ps) (x := x) lc).1
          rw [strLen_append] at this
          rw [sizeLine_eq]
          exact Nat.le_trans this (by decide)
        · exact kk _ _ H5 (row_done lc) (by omega) (by omega) bx5 k05

open My (Hr wd)
/-! ### drawn calls, pure -/
def flatA (as : List (Str × Str)) : List Str := as.flatMap fun a => [a.1, a.2]
theorem flatA_len : ∀ as : List (Str × Str), (flatA as).length = 2 * as.length
  | [] => rfl
  | a :: r => by
    show ([a.1, a.2] ++ flatA r).length = _
    rw [List.length_append, flatA_len r, List.length_cons]
    simp
    omega
theorem flatA_at : ∀ (as : List (Str × Str)) (i : Nat) (a : Str × Str), as[i]? = some a → (flatA as)[2 * i]? = some a.1 ∧ (flatA as)[2 * i + 1]? = some a.2
  | [], i, a, h => by simp at h
  | b :: r, 0, a, h => by
    obtain rfl := Option.some.inj (show some b = some a from h)
    exact ⟨rfl, rfl⟩
  | b :: r, i + 1, a, h => by
    obtain ⟨h1, h2⟩ := flatA_at r i a h
    have e1 : 2 * (i + 1) = 2 * i + 1 + 1 := by omega
    have e2 : 2 * (i + 1) + 1 = 2 * i + 1 + 1 + 1 := by omega
    refine ⟨?_, ?_⟩
    · rw [e1]
      exact h1
    · rw [e2]
      exact h2
/-- what is handed fits what is taken -/
def ArgOk (t : Str) (a : Str × Str) : Prop := if t = "given" then a.1 = "give" ∧ a.2 ∈ pkS else a.1 = "lend" ∧ a.2 ∈ plcs
theorem place_fine {z : Str} (h : z ∈ plcs) : ¬ placeV z = .non := by
  obtain ⟨j, _, _, e⟩ := place_at h
  rw [e]
  exact fun q => nomatch q
theorem seqO_all {α : Type} : ∀ {l : List (Option α)}, (∀ o, o ∈ l → o ≠ none) → ∃ ys, seqO l = some ys
  | [], _ => ⟨[], rfl⟩
  | none :: r, h => absurd rfl (h none (by simp))
  | some x :: r, h => by
    obtain ⟨ys, e⟩ := seqO_all (l := r) fun o ho => h o (List.mem_cons_of_mem _ ho)
    exact ⟨x :: ys, by rw [seqO, e]; rfl⟩
theorem hand_fine {takes : List Str} {as : List (Str × Str)} (hl : as.length = takes.length) (h : ∀ (i : Nat) (t : Str) (a : Str × Str), takes[i]? = some t → as[i]? = some a → ArgOk t a) : ∃ ho, handF takes (flatA as) = some ho := by
  unfold handF
  rw [if_pos (by rw [flatA_len, hl])]
  refine seqO_all fun o ho => ?_
  obtain ⟨i, hi, rfl⟩ := List.mem_map.mp ho
  have hi' := List.mem_range.mp hi
  have et : takes[i]? = some takes[i] := List.getElem?_eq_getElem hi'
  have ea : as[i]? = some as[i] := List.getElem?_eq_getElem (by omega)
  obtain ⟨q1, q2⟩ := flatA_at as i _ ea
  have ok := h i _ _ et ea
  unfold handAt
  rw [et, q1, q2]
  simp only
  unfold ArgOk at ok
  by_cases g : takes[i] = "given"
  · rw [if_pos g] at ok ⊢
    rw [if_pos ⟨ok.1, (pk_fine ok.2).1⟩]
    exact fun q => nomatch q
  · rw [if_neg g] at ok ⊢
    rw [if_pos ⟨ok.1, place_fine ok.2⟩]
    exact fun q => nomatch q
theorem to_fine {z : Str} (h : z ∈ pkS) : ¬ toV ["to", z] = .non := by
  show ¬ (if ("to" : Str) = "to" then pocketV z else .non) = .non
  rw [if_pos rfl]
  exact (pk_fine h).1

open My (Hr wd)
open TL (numL numL_lt numL_step numL_ne numL_digits numL_val numL_free tl_num)
theorem numL_mono : ∀ (n m : Nat), m ≤ n → (numL m).length ≤ (numL n).length := by
  intro n
  induction n using Nat.strongRecOn with
  | _ n ih =>
    intro m h
    by_cases h1 : n < 10
    · rw [numL_lt h1, numL_lt (by omega)]
      exact Nat.le_refl _
    · rw [numL_step (n := n) (by omega), List.length_append]
      by_cases h2 : m < 10
      · rw [numL_lt h2]
        simp
      · rw [numL_step (n := m) (by omega), List.length_append]
        have := ih (n / 10) (by omega) (m / 10) (by omega)
        simp
        exact this
/-- the text of a row's number is read as it -/
theorem num_back {many m : Nat} (h : m < many) : numOf many (numT m) = some m := by
  have e : (numT m).cps.toList = numL m := tl_num m
  have eM : (numT many).cps.toList = numL many := tl_num many
  have l1 : (numT m).length = (numL m).length := by rw [← e, Array.length_toList]; rfl
  have l2 : (numT many).length = (numL many).length := by rw [← eM, Array.length_toList]; rfl
  have pos : 1 ≤ (numL m).length := List.length_pos_iff.mpr (numL_ne m)
  have dg : (numT m).cps.toList.all digB = true := by
    rw [e]
    refine List.all_eq_true.mpr fun c hc => ?_
    have := numL_digits m c hc
    unfold digB
    simp
    omega
  have val : NumText.digitsVal (numT m).cps.toList = m := by rw [e, numL_val]
  unfold numOf
  rw [val]
  exact if_pos ⟨by omega, by rw [l1, l2]; exact numL_mono many m (by omega), dg, rfl, h⟩
theorem num_free (m : Nat) : (32 : Nat) ∉ (numT m).cps.toList := by
  have e : (numT m).cps.toList = numL m := tl_num m
  rw [e]
  exact numL_free (.inl (by decide))
theorem rowF_pick {hs : List Hr} {ps : List My.Pr} {x : Hr} {i m k : Nat} (h : k < m) : rowF hs ps x i m "pick" [numT k] = some (.act "pick" [.int (k : Nat)]) := by
  unfold rowF
  rw [if_neg (by decide +kernel), if_neg (by decide +kernel), if_neg (by decide +kernel), if_pos (.inl rfl)]
  show (match numOf m (numT k) with
    | some n => if ("pick" : Str) = "go" ∧ n ≤ i then none else some (Stp.act "pick" [.int (n : Nat)])
    | none => none) = _
  rw [num_back h]
  exact if_neg fun q => absurd q.1 (by decide +kernel)
theorem rowF_go {hs : List Hr} {ps : List My.Pr} {x : Hr} {i m k : Nat} (h : k < m) (g : i < k) : rowF hs ps x i m "go" [numT k] = some (.act "go" [.int (k : Nat)]) := by
  unfold rowF
  rw [if_neg (by decide +kernel), if_neg (by decide +kernel), if_neg (by decide +kernel), if_pos (.inr rfl)]
  show (match numOf m (numT k) with
    | some n => if ("go" : Str) = "go" ∧ n ≤ i then none else some (Stp.act "go" [.int (n : Nat)])
    | none => none) = _
  rw [num_back h]
  exact if_neg fun q => absurd q.2 (by omega)

open My (Hr wd)
/-- the words of drawn catches: word, pocket where it is laden, row -/
def catW (ps : List My.Pr) (i : Int) (q : Str × Str × Nat) : List Str := "on" :: q.1 :: (if ladenO ps i q.1 = some true then [q.2.1, numT q.2.2] else [numT q.2.2])
def flatC (ps : List My.Pr) (i : Int) (cs : List (Str × Str × Nat)) : List Str := cs.flatMap (catW ps i)
theorem num_not_pocket (m : Nat) : pocketV (numT m) = .non := by
  have h : numT m ∉ plcs := fun q => by
    have e : (numT m).cps.toList = TL.numL m := TL.tl_num m
    obtain ⟨c, r, ec⟩ : ∃ c r, TL.numL m = c :: r := by
      cases h : TL.numL m with
      | nil => exact absurd h (TL.numL_ne m)
      | cons c r => exact ⟨c, r, rfl⟩
    have hc := TL.numL_digits m c (by rw [ec]; simp)
    simp only [plcs, List.mem_cons, List.not_mem_nil, or_false] at q
    have big : ∀ z : Str, z ∈ plcs → ∃ d, z.cps.toList.head? = some d ∧ 97 ≤ d := fun z hz => by
      simp only [plcs, List.mem_cons, List.not_mem_nil, or_false] at hz
      rcases hz with rfl | rfl | rfl | rfl | rfl | rfl
      · exact ⟨97, by decide +kernel, by decide⟩
      · exact ⟨98, by decide +kernel, by decide⟩
      · exact ⟨99, by decide +kernel, by decide⟩
      · exact ⟨100, by decide +kernel, by decide⟩
      · exact ⟨101, by decide +kernel, by decide⟩
      · exact ⟨115, by decide +kernel, by decide⟩
    obtain ⟨d, hd, hd2⟩ := big (numT m) (by simpa [plcs] using q)
    rw [e, ec] at hd
    obtain rfl := Option.some.inj (show some c = some d from hd)
    omega
  unfold pocketV
  rw [place_no h]
  exact if_neg fun q => nomatch q
theorem catch_fine {ps : List My.Pr} {i : Int} {many : Nat} : ∀ (cs : List (Str × Str × Nat)) (es : List Str), (cs.map (·.1)).Nodup → (∀ q, q ∈ cs → q.1 ∈ es ∧ (∃ b, ladenO ps i q.1 = some b) ∧ q.2.1 ∈ pkS ∧ q.2.2 < many) → ∃ r, catchF ps i many es (flatC ps i cs) = some r
  | [], es, _, _ => ⟨[], by rw [catchF.eq_def]; rfl⟩
  | q :: cs, es, nd, h => by
    rw [List.map_cons, List.nodup_cons] at nd
    obtain ⟨h1, ⟨b, h2⟩, h3, h4⟩ := h q (by simp)
    obtain ⟨r, ih⟩ := catch_fine (ps := ps) (i := i) (many := many) cs (es.erase q.1) nd.2 fun p hp => by
      obtain ⟨g1, g2, g3, g4⟩ := h p (List.mem_cons_of_mem _ hp)
      refine ⟨(List.mem_erase_of_ne fun e => nd.1 ?_).mpr g1, g2, g3, g4⟩
      exact e ▸ List.mem_map.mpr ⟨p, hp, rfl⟩
    have e0 : flatC ps i (q :: cs) = catW ps i q ++ flatC ps i cs := rfl
    rw [e0]
    cases b with
    | true =>
      have e1 : catW ps i q ++ flatC ps i cs = ("on" : Str) :: q.1 :: q.2.1 :: numT q.2.2 :: flatC ps i cs := by
        unfold catW
        rw [if_pos h2]
        rfl
      rw [e1, catch_l1 ⟨rfl, h1⟩ h2, num_back h4]
      show ∃ r, (if pocketV q.2.1 = .non then none else _) = some r
      rw [if_neg (pk_fine h3).1, ih]
      exact ⟨_, rfl⟩
    | false =>
      have nl : ¬ ladenO ps i q.1 = some true := fun z => by rw [h2] at z; cases z
      have e1 : catW ps i q ++ flatC ps i cs = ("on" : Str) :: q.1 :: numT q.2.2 :: flatC ps i cs := by
        unfold catW
        rw [if_neg nl]
        rfl
      rw [e1, catch_e ⟨rfl, h1⟩ nl, num_back h4]
      show ∃ r, (if ladenO ps i q.1 = some false ∧ pocketV (numT q.2.2) = .non then _ else none) = some r
      rw [if_pos ⟨h2, num_not_pocket _⟩, ih]
      exact ⟨_, rfl⟩

open My (Hr wd)
theorem to_none {ps : List My.Pr} {i : Int} (cs : List (Str × Str × Nat)) : toV ((flatC ps i cs).take 2) = .non := by
  cases cs with
  | nil => rfl
  | cons q r =>
    have e : flatC ps i (q :: r) = ("on" : Str) :: q.1 :: ((if ladenO ps i q.1 = some true then [q.2.1, numT q.2.2] else [numT q.2.2]) ++ flatC ps i r) := rfl
    rw [e]
    show (if ("on" : Str) = "to" then pocketV q.1 else .non) = .non
    exact if_neg (by decide +kernel)
theorem call_fine {hs : List Hr} {ps : List My.Pr} {i : Int} {many : Nat} {y : Hr} {n z : Str} {as : List (Str × Str)} {cs : List (Str × Str × Nat)} (hy : crewOf n hs = some y) (hl : as.length = y.takes.length)
    (ha : ∀ (k : Nat) (t : Str) (a : Str × Str), y.takes[k]? = some t → as[k]? = some a → ArgOk t a) (hz : z ∈ pkS) (nd : (cs.map (·.1)).Nodup)
    (hc : ∀ q, q ∈ cs → q.1 ∈ errs i ps y ∧ (∃ b, ladenO ps i q.1 = some b) ∧ q.2.1 ∈ pkS ∧ q.2.2 < many) :
    ∃ st, callF hs ps i many (n :: (flatA as ++ ((if y.gives = true then [("to" : Str), z] else []) ++ flatC ps i cs))) = some st ∧ st.ends = false := by
  obtain ⟨ho, eh⟩ := hand_fine hl ha
  obtain ⟨r, ec⟩ := catch_fine cs (errs i ps y) nd hc
  have len : (flatA as).length = 2 * y.takes.length := by rw [flatA_len, hl]
  unfold callF
  simp only [hy]
  rw [List.take_left' len, List.drop_left' len, eh]
  cases hg : y.gives with
  | true =>
    have e1 : ((if true = true then [("to" : Str), z] else []) ++ flatC ps i cs).take 2 = [("to" : Str), z] := rfl
    have e2 : (flatA as ++ ((if true = true then [("to" : Str), z] else []) ++ flatC ps i cs)).drop (2 * y.takes.length + (if true = true then 2 else 0)) = flatC ps i cs := by
      rw [← len, ← List.drop_drop, List.drop_left]
      rfl
    rw [e1, e2, ec]
    simp only
    rw [if_pos (by rw [decide_eq_false (to_fine hz)]; rfl)]
    exact ⟨_, rfl, rfl⟩
  | false =>
    have e1 : ((if false = true then [("to" : Str), z] else []) ++ flatC ps i cs).take 2 = (flatC ps i cs).take 2 := rfl
    have e2 : (flatA as ++ ((if false = true then [("to" : Str), z] else []) ++ flatC ps i cs)).drop (2 * y.takes.length + (if false = true then 2 else 0)) = flatC ps i cs := by
      rw [← len, ← List.drop_drop, List.drop_left]
      rfl
    rw [e1, e2, ec]
    simp only
    rw [if_pos (by rw [decide_eq_true (to_none cs)]; rfl)]
    exact ⟨_, rfl, rfl⟩
theorem rowF_call (hs : List Hr) (ps : List My.Pr) (x : Hr) (i m : Nat) (r : List Str) : rowF hs ps x i m "call" r = callF hs ps x.side m r := by
  unfold rowF
  rw [if_neg (by decide +kernel), if_neg (by decide +kernel), if_neg (by decide +kernel), if_neg (by decide +kernel), if_neg (by decide +kernel), if_neg (by decide +kernel), if_pos rfl]

open My (Hr wd)
/-! ### rows that are no end, pure -/
def MidRow (hs : List Hr) (ps : List My.Pr) (x : Hr) (i m : Nat) (row : Str) : Prop := row.length ≤ 290 ∧ Fine row ∧ ∃ st, rowAt hs ps x i m row = some st
theorem EndRow.mid {hs : List Hr} {ps : List My.Pr} {x : Hr} {row : Str} (h : EndRow hs ps x row) (i m : Nat) : MidRow hs ps x i m row := ⟨Nat.le_trans h.1 (by decide), h.2.1, let ⟨st, e, _⟩ := h.2.2 i m; ⟨st, e⟩⟩
theorem rowAt_cut {hs : List Hr} {ps : List My.Pr} {x : Hr} {i m : Nat} {row w : Str} {r : List Str} (h : My.cut 32 row = w :: r) : rowAt hs ps x i m row = rowF hs ps x i m w r := by
  unfold rowAt
  rw [h]
theorem rowF_pocket {hs : List Hr} {ps : List My.Pr} {x : Hr} {i m : Nat} {w c : Str} (hw : w ∈ pockRows) (hc : c ∈ pkS) : ∃ st, rowF hs ps x i m w [c] = some st := by
  unfold rowF
  rw [if_pos hw]
  exact ⟨_, pocketF_yes (pk_fine hc).1⟩
theorem pk_place {c : Str} (h : c ∈ pkS) : c ∈ plcs := by
  simp only [pkS, plcs, List.mem_cons, List.not_mem_nil, or_false] at h ⊢
  rcases h with h | h | h | h | h <;> simp [h]
theorem rowF_use {hs : List Hr} {ps : List My.Pr} {x : Hr} {i m : Nat} {c : Str} (hc : c ∈ plcs) : ∃ st, rowF hs ps x i m "use" [c] = some st := by
  unfold rowF
  rw [if_neg (by decide +kernel), if_pos rfl]
  exact ⟨_, useF_yes (place_fine hc)⟩
theorem rowF_move {hs : List Hr} {ps : List My.Pr} {x : Hr} {i m : Nat} {c d : Str} (hc : c ∈ pkS) (hd : d ∈ pkS) (ne : pocketV c ≠ pocketV d) : ∃ st, rowF hs ps x i m "move" [c, d] = some st := by
  unfold rowF
  rw [if_neg (by decide +kernel), if_neg (by decide +kernel), if_pos rfl]
  exact ⟨_, if_neg fun q => q.elim (pk_fine hc).1 fun q => q.elim (pk_fine hd).1 ne⟩

open My (Hr wd glue cut)
open TL (numL numL_lt numL_step tl_num)
/-! ### words of drawn rows -/
def Wd (w : Str) : Prop := (32 : Nat) ∉ w.cps.toList ∧ w.length ≤ 8 ∧ Fine w
theorem wd_name {w : Str} (h : My.nameB w = true) : Wd w := ⟨fun z => by
  have := List.all_eq_true.mp (nameB_out h).2.2 _ z
  exact absurd this (by decide), name_len h, fine_name h⟩
theorem wd_num {m : Nat} (h : m < 100) : Wd (numT m) := by
  have fr : Fine (numT m) := by
    have e : (numT m).cps.toList = numL m := tl_num m
    unfold Fine
    rw [e]
    exact ⟨TL.numL_free (.inl (by decide)), TL.numL_free (.inl (by decide)), strOk_in (by
      rw [e]
      exact fun c hc => by
        have := TL.numL_digits m c hc
        omega)⟩
  refine ⟨num_free m, ?_, fr⟩
  have e : (numT m).cps.toList = numL m := tl_num m
  have l1 : (numT m).length = (numL m).length := by rw [← e, Array.length_toList]; rfl
  rw [l1]
  by_cases h1 : m < 10
  · rw [numL_lt h1]
    simp
  · rw [numL_step (n := m) (by omega), numL_lt (show m / 10 < 10 by omega)]
    simp
theorem wd_pk {c : Str} (h : c ∈ pkS) : Wd c := ⟨(pk_fine h).2.1, by rw [(pk_fine h).2.2]; decide, fine_pk h⟩
theorem wd_pl {c : Str} (h : c ∈ plcs) : Wd c := by
  simp only [plcs, List.mem_cons, List.not_mem_nil, or_false] at h
  rcases h with rfl | rfl | rfl | rfl | rfl | rfl
  all_goals exact ⟨by decide +kernel, by decide +kernel, by decide +kernel, by decide +kernel, by decide +kernel⟩
theorem glue_sum {ws : List Str} (ne : ws ≠ []) (h : ∀ w, w ∈ ws → (32 : Nat) ∉ w.cps.toList) : (ws.map (·.length)).sum + ws.length = (glue 32 ws).length + 1 := by
  have := My.cut_sum (c := 32) (by decide) (glue 32 ws)
  rw [My.cut_glue (by decide) ne h] at this
  exact this
theorem sum_short : ∀ {ws : List Str}, (∀ w, w ∈ ws → w.length ≤ 8) → (ws.map (·.length)).sum ≤ 8 * ws.length
  | [], _ => Nat.le_refl _
  | w :: r, h => by
    have h1 := h w (by simp)
    have h2 := sum_short (ws := r) fun z hz => h z (List.mem_cons_of_mem _ hz)
    rw [List.map_cons, List.sum_cons, List.length_cons]
    omega
theorem glue_short {ws : List Str} (ne : ws ≠ []) (h : ∀ w, w ∈ ws → Wd w) : (glue 32 ws).length ≤ 9 * ws.length := by
  have h1 := glue_sum ne fun w hw => (h w hw).1
  have h2 := sum_short fun w hw => (h w hw).2.1
  omega
theorem strOk_glue {d : Nat} (hd : d < 256) {ws : List Str} (h : ∀ w, w ∈ ws → PyData.strOk w = true) : PyData.strOk (glue d ws) = true := by
  refine strOk_in fun c hc => ?_
  by_cases e : c < 0x110000
  · exact e
  · exfalso
    have : c ∉ (glue d ws).cps.toList := My.glue_break (c := c) (d := d) (by omega) fun w hw hc2 => e (strOk_out (h w hw) c hc2)
    exact this hc
theorem glue_fine {ws : List Str} (h : ∀ w, w ∈ ws → Wd w) : Fine (glue 32 ws) := ⟨My.glue_break (by decide) fun w hw => (h w hw).2.2.1, My.glue_break (by decide) fun w hw => (h w hw).2.2.2.1, strOk_glue (by decide) fun w hw => (h w hw).2.2.2.2⟩
theorem flatA_wd {as : List (Str × Str)} (h : ∀ a, a ∈ as → Wd a.1 ∧ Wd a.2) : ∀ w, w ∈ flatA as → Wd w := fun w hw => by
  obtain ⟨a, ha, q⟩ := List.mem_flatMap.mp hw
  simp only [List.mem_cons, List.not_mem_nil, or_false] at q
  rcases q with rfl | rfl
  · exact (h a ha).1
  · exact (h a ha).2
theorem wd_on : Wd "on" := ⟨by decide +kernel, by decide +kernel, by decide +kernel, by decide +kernel, by decide +kernel⟩
theorem wd_to : Wd "to" := ⟨by decide +kernel, by decide +kernel, by decide +kernel, by decide +kernel, by decide +kernel⟩
theorem wd_call : Wd "call" := ⟨by decide +kernel, by decide +kernel, by decide +kernel, by decide +kernel, by decide +kernel⟩
theorem wd_lend : Wd "lend" := ⟨by decide +kernel, by decide +kernel, by decide +kernel, by decide +kernel, by decide +kernel⟩
theorem wd_give : Wd "give" := ⟨by decide +kernel, by decide +kernel, by decide +kernel, by decide +kernel, by decide +kernel⟩
theorem flatC_wd {ps : List My.Pr} {i : Int} {cs : List (Str × Str × Nat)} (h : ∀ q, q ∈ cs → Wd q.1 ∧ q.2.1 ∈ pkS ∧ q.2.2 < 100) : ∀ w, w ∈ flatC ps i cs → Wd w := fun w hw => by
  obtain ⟨q, hq, e⟩ := List.mem_flatMap.mp hw
  obtain ⟨h1, h2, h3⟩ := h q hq
  unfold catW at e
  simp only [List.mem_cons] at e
  rcases e with rfl | rfl | e
  · exact wd_on
  · exact h1
  · split at e
    · simp only [List.mem_cons, List.not_mem_nil, or_false] at e
      rcases e with rfl | rfl
      · exact wd_pk h2
      · exact wd_num h3
    · simp only [List.mem_cons, List.not_mem_nil, or_false] at e
      rw [e]
      exact wd_num h3
theorem flatC_len {ps : List My.Pr} {i : Int} : ∀ (cs : List (Str × Str × Nat)), (flatC ps i cs).length ≤ 4 * cs.length
  | [] => Nat.le_refl _
  | q :: r => by
    have h := flatC_len (ps := ps) (i := i) r
    have e : flatC ps i (q :: r) = catW ps i q ++ flatC ps i r := rfl
    have l : (catW ps i q).length ≤ 4 := by
      unfold catW
      split <;> simp
    rw [e, List.length_append, List.length_cons]
    omega
theorem flatC_snoc (ps : List My.Pr) (i : Int) (cs : List (Str × Str × Nat)) (q : Str × Str × Nat) : flatC ps i (cs ++ [q]) = flatC ps i cs ++ catW ps i q := by
  unfold flatC
  rw [List.flatMap_append]
  simp
theorem flatA_snoc (as : List (Str × Str)) (a : Str × Str) : flatA (as ++ [a]) = flatA as ++ [a.1, a.2] := by
  unfold flatA
  rw [List.flatMap_append]
  simp
theorem argOk_wd {t : Str} {a : Str × Str} (h : ArgOk t a) : Wd a.1 ∧ Wd a.2 := by
  unfold ArgOk at h
  split at h
  · rw [h.1]
    exact ⟨wd_give, wd_pk h.2⟩
  · rw [h.1]
    exact ⟨wd_lend, wd_pl h.2⟩
/-- the words of a drawn call -/
def callW (ps : List My.Pr) (i : Int) (y : Hr) (z : Str) (as : List (Str × Str)) (cs : List (Str × Str × Nat)) : List Str := "call" :: y.name :: (flatA as ++ ((if y.gives = true then [("to" : Str), z] else []) ++ flatC ps i cs))
theorem callW_wd {ps : List My.Pr} {i : Int} {y : Hr} {z : Str} {as : List (Str × Str)} {cs : List (Str × Str × Nat)} (hn : Wd y.name) (ha : ∀ a, a ∈ as → Wd a.1 ∧ Wd a.2) (hz : z ∈ pkS) (hc : ∀ q, q ∈ cs → Wd q.1 ∧ q.2.1 ∈ pkS ∧ q.2.2 < 100) : ∀ w, w ∈ callW ps i y z as cs → Wd w := fun w hw => by
  unfold callW at hw
  simp only [List.mem_cons, List.mem_append] at hw
  rcases hw with rfl | rfl | hw | hw | hw
  · exact wd_call
  · exact hn
  · exact flatA_wd ha w hw
  · split at hw
    · simp only [List.mem_cons, List.not_mem_nil, or_false] at hw
      rcases hw with rfl | rfl
      · exact wd_to
      · exact wd_pk hz
    · cases hw
  · exact flatC_wd hc w hw
theorem callW_len {ps : List My.Pr} {i : Int} {y : Hr} {z : Str} {as : List (Str × Str)} {cs : List (Str × Str × Nat)} (la : as.length ≤ 3) (lc : cs.length ≤ 4) : (callW ps i y z as cs).length ≤ 26 := by
  have h1 := flatC_len (ps := ps) (i := i) cs
  have h2 := flatA_len as
  have h3 : (if y.gives = true then [("to" : Str), z] else []).length ≤ 2 := by split <;> simp
  unfold callW
  rw [List.length_cons, List.length_cons, List.length_append, List.length_append]
  omega
theorem row_call {hs : List Hr} {ps : List My.Pr} {i : Int} {m : Nat} {y : Hr} {z : Str} {as : List (Str × Str)} {cs : List (Str × Str × Nat)} (hy : crewOf y.name hs = some y) (hn : Wd y.name) (hl : as.length = y.takes.length) (l3 : y.takes.length ≤ 3)
    (ha : ∀ (k : Nat) (t : Str) (a : Str × Str), y.takes[k]? = some t → as[k]? = some a → ArgOk t a) (hz : z ∈ pkS) (nd : (cs.map (·.1)).Nodup) (l4 : cs.length ≤ 4) (hm : m ≤ 30)
    (hc : ∀ q, q ∈ cs → q.1 ∈ errs i ps y ∧ (∃ b, ladenO ps i q.1 = some b) ∧ q.2.1 ∈ pkS ∧ q.2.2 < m) (hw : ∀ q, q ∈ cs → Wd q.1) : ∀ (x : Hr) (at_ : Nat), x.side = i → MidRow hs ps x at_ m (glue 32 (callW ps i y z as cs)) := by
  intro x at_ hx
  have wa : ∀ a, a ∈ as → Wd a.1 ∧ Wd a.2 := fun a h => by
    obtain ⟨k, hk, e⟩ := List.getElem_of_mem h
    have q := ha k _ _ (List.getElem?_eq_getElem (by omega)) (List.getElem?_eq_getElem hk)
    rw [e] at q
    exact argOk_wd q
  have wc : ∀ q, q ∈ cs → Wd q.1 ∧ q.2.1 ∈ pkS ∧ q.2.2 < 100 := fun q h => ⟨hw q h, (hc q h).2.2.1, by have := (hc q h).2.2.2; omega⟩
  have all := callW_wd (ps := ps) (i := i) (y := y) (z := z) hn wa hz wc
  have ne : callW ps i y z as cs ≠ [] := by unfold callW; simp
  refine ⟨?_, glue_fine all, ?_⟩
  · have h1 := glue_short ne all
    have h2 := callW_len (ps := ps) (i := i) (y := y) (z := z) (as := as) (cs := cs) (by omega) l4
    omega
  · obtain ⟨st, e, _⟩ := call_fine hy hl ha hz nd hc
    refine ⟨st, ?_⟩
    have ec : cut 32 (glue 32 (callW ps i y z as cs)) = callW ps i y z as cs := My.cut_glue (by decide) ne fun w hw => (all w hw).1
    rw [rowAt_cut ec, rowF_call, hx]
    exact e
theorem inj_of_nodup {α β : Type} {f : α → β} : ∀ {xs : List α}, (xs.map f).Nodup → ∀ {q r : α}, q ∈ xs → r ∈ xs → f q = f r → q = r
  | [], _, q, r, hq, _, _ => by cases hq
  | x :: xs, nd, q, r, hq, hr, e => by
    rw [List.map_cons, List.nodup_cons] at nd
    rcases List.mem_cons.mp hq with h1 | hq <;> rcases List.mem_cons.mp hr with h2 | hr
    · exact h1.trans h2.symm
    · rw [← h1] at nd
      exact absurd (List.mem_map.mpr ⟨r, hr, e.symm⟩) nd.1
    · rw [← h2] at nd
      exact absurd (List.mem_map.mpr ⟨q, hq, e⟩) nd.1
    · exact inj_of_nodup nd.2 hq hr e
theorem errs_nodup {ps : List My.Pr} (ok : My.PairsOk ps) {i : Int} {y : Hr} (hi : i = 0 ∨ i = 1) (ysd : y.side = 0 ∨ y.side = 1) (yth : ∀ t, t ∈ y.throws → t ∈ ps.map (wd y.side)) (nd : y.throws.Nodup) : (errs i ps y).Nodup := by
  rw [← errs_map yth ysd hi]
  refine List.pairwise_map.mpr (List.Pairwise.imp_of_mem (fun {u v} hu hv ne e => ne ?_) nd)
  obtain ⟨q, hq⟩ := pairOf_mem (yth u hu)
  obtain ⟨r, hr⟩ := pairOf_mem (yth v hv)
  rw [hq, hr] at e
  have e2 : wd i q = wd i r := e
  have eq := inj_of_nodup (wd_nodup ok hi) (List.mem_of_find?_eq_some hq) (List.mem_of_find?_eq_some hr) e2
  have t1 := List.find?_some hq
  have t2 := List.find?_some hr
  have a1 : wd y.side q = u := of_decide_eq_true t1
  have a2 : wd y.side r = v := of_decide_eq_true t2
  rw [← a1, ← a2, eq]
theorem errs_len {ps : List My.Pr} {i : Int} {y : Hr} (hi : i = 0 ∨ i = 1) (ysd : y.side = 0 ∨ y.side = 1) (yth : ∀ t, t ∈ y.throws → t ∈ ps.map (wd y.side)) : (errs i ps y).length = y.throws.length := by
  rw [← errs_map yth ysd hi, List.length_map]
theorem errs_name {ps : List My.Pr} (ok : My.PairsOk ps) {i : Int} {y : Hr} (hi : i = 0 ∨ i = 1) (ysd : y.side = 0 ∨ y.side = 1) (yth : ∀ t, t ∈ y.throws → t ∈ ps.map (wd y.side)) : ∀ u, u ∈ errs i ps y → My.nameB u = true := by
  intro u hu
  rw [← errs_map yth ysd hi] at hu
  obtain ⟨t, ht, rfl⟩ := List.mem_map.mp hu
  obtain ⟨q, hq⟩ := pairOf_mem (yth t ht)
  rw [hq]
  have := ok.nm q (List.mem_of_find?_eq_some hq)
  show My.nameB (wd i q) = true
  rcases hi with e | e
  · rw [e]; exact this.1
  · rw [e]; exact this.2

open My (Hr wd glue cut)
/-! ### the rows that are drawn, pure -/
theorem app_assoc (x y z : Str) : (x ++ y) ++ z = x ++ (y ++ z) := by
  show Str.mk _ = Str.mk _
  congr 1
  exact Array.append_assoc
theorem cut_two {w z : Str} (hw : (32 : Nat) ∉ w.cps.toList) (hz : (32 : Nat) ∉ z.cps.toList) : cut 32 ((w ++ " ") ++ z) = [w, z] := by
  rw [app_assoc, blank_eq, My.cut_put (by decide) _ hz, My.cut_whole (by decide) hw]
  rfl
theorem cut_three {w y z : Str} (hw : (32 : Nat) ∉ w.cps.toList) (hy : (32 : Nat) ∉ y.cps.toList) (hz : (32 : Nat) ∉ z.cps.toList) : cut 32 ((((w ++ " ") ++ y) ++ " ") ++ z) = [w, y, z] := by
  rw [app_assoc _ " " z, blank_eq, My.cut_put (by decide) _ hz, ← blank_eq, cut_two hw hy]
  rfl
theorem mid_two {hs : List Hr} {ps : List My.Pr} {x : Hr} {i m : Nat} {w z : Str} {st : Stp} (hw : Wd w) (hz : Wd z) (h : rowF hs ps x i m w [z] = some st) : MidRow hs ps x i m ((w ++ " ") ++ z) := by
  have l1 : (" " : Str).length = 1 := by decide +kernel
  refine ⟨?_, (hw.2.2.app fine_blank).app hz.2.2, st, ?_⟩
  · rw [strLen_append, strLen_append, l1]
    have := hw.2.1
    have := hz.2.1
    omega
  · rw [rowAt_cut (cut_two hw.1 hz.1)]
    exact h
theorem mid_three {hs : List Hr} {ps : List My.Pr} {x : Hr} {i m : Nat} {w y z : Str} {st : Stp} (hw : Wd w) (hy : Wd y) (hz : Wd z) (h : rowF hs ps x i m w [y, z] = some st) : MidRow hs ps x i m ((((w ++ " ") ++ y) ++ " ") ++ z) := by
  have l1 : (" " : Str).length = 1 := by decide +kernel
  refine ⟨?_, (((hw.2.2.app fine_blank).app hy.2.2).app fine_blank).app hz.2.2, st, ?_⟩
  · rw [strLen_append, strLen_append, strLen_append, strLen_append, l1]
    have := hw.2.1
    have := hy.2.1
    have := hz.2.1
    omega
  · rw [rowAt_cut (cut_three hw.1 hy.1 hz.1)]
    exact h
theorem wd_rows {w : Str} (h : w ∈ (["make", "use", "free", "clear", "forget", "put", "take", "move", "pick", "go", "call", "call", "end"] : List Str)) : Wd w := by
  simp only [List.mem_cons, List.not_mem_nil, or_false] at h
  rcases h with rfl | rfl | rfl | rfl | rfl | rfl | rfl | rfl | rfl | rfl | rfl | rfl | rfl
  all_goals exact ⟨by decide +kernel, by decide +kernel, by decide +kernel, by decide +kernel, by decide +kernel⟩
theorem move_eq : ("move " : Str) = ("move" : Str) ++ " " := by decide +kernel
theorem pick_eq : ("pick " : Str) = ("pick" : Str) ++ " " := by decide +kernel
theorem go_eq : ("go " : Str) = ("go" : Str) ++ " " := by decide +kernel
theorem use_shelf : ("use shelf" : Str) = (("use" : Str) ++ " ") ++ "shelf" := by decide +kernel
theorem start_no {t : Str} (h : (40 : Nat) ∉ t.cps.toList) : Txt.startswith t "(" = false := by
  cases e : Txt.startswith t "(" with
  | false => rfl
  | true =>
    exfalso
    unfold Txt.startswith at e
    simp only [Bool.and_eq_true, decide_eq_true_eq] at e
    have q := e.2
    have q2 : t.cps.extract 0 (0 + ("(" : Str).length) = #[40] := by
      have := beq_iff_eq.mp (show (t.cps.extract 0 (0 + ("(" : Str).length) == ("(" : Str).cps) = true from q)
      rw [this]
      decide +kernel
    have m : (40 : Nat) ∈ (t.cps.extract 0 (0 + ("(" : Str).length)).toList := by rw [q2]; simp
    rw [Array.toList_extract] at m
    exact h (List.mem_of_mem_drop (List.mem_of_mem_take m))
/-- such rows are a body -/
theorem rows_body {hs : List Hr} {ps : List My.Pr} {x : Hr} {rows : List Str} (ne : rows ≠ []) (few : rows.length ≤ 30) (mid : ∀ (k : Nat) (row : Str), rows[k]? = some row → MidRow hs ps x k rows.length row)
    (last : ∀ row, rows[rows.length - 1]? = some row → EndRow hs ps x row) : cut 10 (glue 10 rows) = rows ∧ (glue 10 rows).length ≤ 9000 ∧ BodyIs hs ps x (glue 10 rows) none := by
  have fine : ∀ row, row ∈ rows → Fine row ∧ row.length ≤ 290 := fun row h => by
    obtain ⟨k, hk, e⟩ := List.getElem_of_mem h
    have q := mid k row (by rw [List.getElem?_eq_getElem hk, e])
    exact ⟨q.2.1, q.1⟩
  have ec : cut 10 (glue 10 rows) = rows := My.cut_glue (by decide) ne fun p hp => (fine p hp).1.1
  have pos : 0 < rows.length := List.length_pos_iff.mpr ne
  have good : ∀ (j : Nat) (l : Str), rows[j]? = some l → ∃ st, rowX hs ps x 200 rows.length j l = some st := fun j l h => by
    obtain ⟨_, _, st, e⟩ := mid j l h
    have hj := get_lt h
    refine ⟨st, ?_⟩
    unfold rowX
    rw [if_neg (by omega)]
    exact e
  refine ⟨ec, ?_, ?_, ?_, ?_, fun _ _ => rfl⟩
  · have h1 := My.cut_sum (c := 10) (by decide) (glue 10 rows)
    rw [ec] at h1
    have h2 : ∀ {ws : List Str}, (∀ w, w ∈ ws → w.length ≤ 290) → (ws.map (·.length)).sum ≤ 290 * ws.length := by
      intro ws
      induction ws with
      | nil => intro _; exact Nat.le_refl _
      | cons w r ih =>
        intro h
        have a1 := h w (by simp)
        have a2 := ih fun z hz => h z (List.mem_cons_of_mem _ hz)
        rw [List.map_cons, List.sum_cons, List.length_cons]
        omega
    have h3 := h2 fun w hw => (fine w hw).2
    omega
  · have h40 : (40 : Nat) ∉ (glue 10 rows).cps.toList := My.glue_break (by decide) fun p hp => (fine p hp).1.2.1
    exact start_no h40
  · intro i h
    rw [ec] at h
    obtain ⟨⟨l, e1, e2⟩, _⟩ := h
    obtain ⟨st, e3⟩ := good i l e1
    rw [e2] at e3
    cases e3
  · intro _ h
    rw [ec] at h
    obtain ⟨l, st, e1, e2, e3⟩ := h
    obtain ⟨_, _, q⟩ := last l e1
    obtain ⟨st2, f1, f2⟩ := q (rows.length - 1) rows.length
    unfold rowX at e2
    rw [if_neg (by omega)] at e2
    rw [e2] at f1
    obtain rfl := Option.some.inj f1
    rw [e3] at f2
    cases f2

open My (Hr wd glue cut)
theorem TupF.keepN {H H' : Hp} {R : List Addr} {t : Addr} {xs : List V} (h : TupF H t xs) (k : Keeps R H H') (n : NoTup H R) : TupF H' t xs := by
  obtain ⟨o, d, e⟩ := h
  exact ⟨o, d, k _ _ e fun q => (n t q xs).2 o e⟩
abbrev headW (y : Hr) (as : List (Str × Str)) : List Str := ("call" : Str) :: y.name :: flatA as
/-- a list of words under way: the draws go on, all else stands -/
structure WSt (b g l : Addr) (H1 H3 : Hp) (n : Int) (W3 : Addr) (ws : List Str) : Prop where
  bx1 : ∃ n1, BoxAt H1 b g l n1
  bx : BoxAt H3 b g l n
  kp : Keeps [b, g] H1 H3
  nw : H1 W3 = none
  at_ : H3 W3 = some (.lst (ws.map V.str))
theorem WSt.off {b g l : Addr} {H1 H3 : Hp} {n : Int} {W3 : Addr} {ws : List Str} (o : WSt b g l H1 H3 n W3 ws) : W3 ∉ [b, g] := let ⟨_, q⟩ := o.bx1; offbox q o.nw
theorem WSt.fresh {b g l : Addr} {H1 H3 : Hp} {n : Int} {W3 z : Addr} {ws : List Str} (o : WSt b g l H1 H3 n W3 ws) (h : H3 z = none) : H1 z = none := by
  rcases o.kp.fresh h with q | q
  · exact absurd q (offbox o.bx h)
  · exact q
theorem WSt.new {b g l : Addr} {H1 H3 : Hp} {n : Int} {W3 z : Addr} {ws : List Str} (o : WSt b g l H1 H3 n W3 ws) (h : H3 z = none) (ob : HO) : WSt b g l H1 (upd H3 z ob) n W3 ws :=
  ⟨o.bx1, o.bx.upd h, o.kp.upd (.inr (o.fresh h)), o.nw, (upd_ne (ne_of_none o.at_ h)).trans o.at_⟩
theorem WSt.step {b g l : Addr} {H1 H3 H5 : Hp} {n n' : Int} {W3 : Addr} {ws : List Str} (o : WSt b g l H1 H3 n W3 ws) (bx : BoxAt H5 b g l n') (k : Keeps [b, g] H3 H5) : WSt b g l H1 H5 n' W3 ws :=
  ⟨o.bx1, bx, o.kp.trans k, o.nw, k _ _ o.at_ o.off⟩
theorem WSt.from0 {b g l : Addr} {H0 H1 H3 : Hp} {n : Int} {W3 : Addr} {ws : List Str} (o : WSt b g l H1 H3 n W3 ws) (k : Keeps [b, g] H0 H1) (bx0 : ∃ n0, BoxAt H0 b g l n0) : WSt b g l H0 H3 n W3 ws :=
  ⟨bx0, o.bx, k.trans o.kp, by
    rcases k.fresh o.nw with q | q
    · obtain ⟨_, z⟩ := o.bx1
      exact absurd q (offbox z o.nw)
    · exact q, o.at_⟩
theorem WSt.same {b g l : Addr} {H1 H3 H5 : Hp} {n : Int} {W3 : Addr} {ws : List Str} (o : WSt b g l H1 H3 n W3 ws) (k : Same H3 H5) : WSt b g l H1 H5 n W3 ws := o.step (o.bx.same k) (Same.keeps k)
theorem WSt.cat {b g l : Addr} {H1 H3 : Hp} {n : Int} {W3 M W4 : Addr} {ws : List Str} (o : WSt b g l H1 H3 n W3 ws) {ob : HO} (hM : H3 M = none) (hW : upd H3 M ob W4 = none) (vs : List Str) : WSt b g l H1 (upd (upd H3 M ob) W4 (.lst (ws.map V.str ++ vs.map V.str))) n W4 (ws ++ vs) := by
  have o2 := o.new hM ob
  have o3 := o2.new hW (.lst (ws.map V.str ++ vs.map V.str))
  exact ⟨o3.bx1, o3.bx, o3.kp, o2.fresh hW, by rw [upd_same, List.map_append]⟩
theorem WSt.app {b g l : Addr} {H1 H3 : Hp} {n : Int} {W3 : Addr} {ws : List Str} (o : WSt b g l H1 H3 n W3 ws) (v : Str) : WSt b g l H1 (upd H3 W3 (.lst (ws.map V.str ++ [.str v]))) n W3 (ws ++ [v]) := by
  obtain ⟨n1, q⟩ := o.bx1
  exact ⟨⟨n1, q⟩, box_put o.bx (fun e => by
    have h3 := offbox3 q o.nw
    exact h3 e), o.kp.upd (.inr o.nw), o.nw, by rw [upd_same, List.map_append]; rfl⟩
theorem lst_small {ws : List Str} {k : Nat} (h : ws.length + k ≤ 1000) : (ws.map V.str).length + k ≤ sizeLine := by
  rw [List.length_map, sizeLine_eq]
  omega
def sp_any_call : Sp := fun vs H Q _ => ∃ (b g l t L F : Addr) (n i : Int) (m : Nat) (as has : List Addr) (ps : List My.Pr) (hs : List Hr), vs = [.ref b, .ref t, .int i, .int (m : Nat)] ∧ BoxAt H b g l n ∧ 0 ≤ n ∧ n < 7000000 ∧ DealAt H t L F as has ps hs ∧ My.PairsOk ps ∧ My.CrewOk ps hs ∧ (i = 0 ∨ i = 1) ∧ hs ≠ [] ∧ 0 < m ∧ m ≤ 30 ∧
  L ∉ [b, g] ∧ F ∉ [b, g] ∧ NoTup H [b, g] ∧ ∀ (row : Str) (n' : Int) (H' : Hp), (∀ (x : Hr) (at_ : Nat), x.side = i → MidRow hs ps x at_ m row) → n ≤ n' → n' ≤ n + 20 → BoxAt H' b g l n' → Keeps [b, g] H H' → Q (.str row) H'
theorem ok_any_call (T : Txt K mg a) : FnOk P w K mg base CX0 4 a.f_any_call a.d_any_call ["_law_box_here", "_law_deal", "_law_team", "_law_many"] sp_any_call := by
  refine T.F_any_call.ok sc_any_call (fun vs H Q E h => ?_) (fun cdv A outer s H vs Q E hr h => ?_)
  · obtain ⟨b, g, l, t, L, F, n, i, m, as, has, ps, hs, rfl, _⟩ := h
    rfl
  · obtain ⟨b, g, l, t, L, F, n, i, m, as, has, ps, hs, rfl, bx, n0, n1, dl, pok, cok, hi, hne, m0, m1, Lb, Fb, nb, kk⟩ := h
    refine ⟨_, (pss_cons (ps_set (i := 4) sc_any_call.nd rfl (Or.inl rfl) (pe_ix ix_list (pe_ix ix_tup (pv 1) pe_int (fun _ _ => rfl)) (pe_call (ok_take T) (hr.mono (by decide)) rfl T.g_take T.k_take T.B_take .nil pass0 (pa_cons (pv 0) (pa_cons (pe_callB call_len_seq (by rfl) T.z_len (by decide +kernel) (pa_cons (pe_ix ix_tup (pv 1) pe_int (fun _ _ => rfl)) pa_nil)) pa_nil))) (fun _ _ => rfl)))
      (pss_cons (ps_set (i := 5) sc_any_call.nd rfl (Or.inl rfl) (pe_lst (pa_cons pe_str (pa_cons (pe_ix ix_tup (pv 4) pe_int (fun _ _ => rfl)) pa_nil))))
      (pss_cons (ps_for PassesOwn.never rfl (pi_tup (pe_ix ix_tup (pv 4) pe_int (fun _ _ => rfl))) (pg_name (i := 6) sc_any_call.nd rfl (Or.inl rfl)) (pss_one (ps_if (pt_cmpR op_eq (pv 6) pe_str (nomark _)) (pss_one (ps_set (i := 5) sc_any_call.nd rfl (Or.inl rfl) (pe_op op_cat (pv 5) (pe_lst (pa_cons pe_str (pa_cons (pe_ix ix_list (pe_lst (pa_cons pe_str (pa_cons pe_str (pa_cons pe_str (pa_cons pe_str (pa_cons pe_str (pa_cons pe_str pa_nil))))))) (pe_call (ok_take T) (hr.mono (by decide)) rfl T.g_take T.k_take T.B_take .nil pass0 (pa_cons (pv 0) (pa_cons pe_int pa_nil))) (fun _ _ => rfl)) pa_nil)))))) (pss_one (ps_set (i := 5) sc_any_call.nd rfl (Or.inl rfl) (pe_op op_cat (pv 5) (pe_lst (pa_cons pe_str (pa_cons (pe_ix ix_str pe_str (pe_call (ok_take T) (hr.mono (by decide)) rfl T.g_take T.k_take T.B_take .nil pass0 (pa_cons (pv 0) (pa_cons pe_int pa_nil))) (fun _ _ => rfl)) pa_nil)))))))))
      (C8.pss_cut (ps_if (pt_val (pe_ix ix_tup (pv 4) pe_int (fun _ _ => rfl))) (pss_one (ps_set (i := 5) sc_any_call.nd rfl (Or.inl rfl) (pe_op op_cat (pv 5) (pe_lst (pa_cons pe_str (pa_cons (pe_ix ix_str pe_str (pe_call (ok_take T) (hr.mono (by decide)) rfl T.g_take T.k_take T.B_take .nil pass0 (pa_cons (pv 0) (pa_cons pe_int pa_nil))) (fun _ _ => rfl)) pa_nil)))))) pss_nil)
      (pss_cons (ps_set (i := 7) sc_any_call.nd rfl (Or.inl rfl) (pe_call (ok_errors T) (hr.mono (by decide)) rfl T.g_errors T.k_errors T.B_errors .nil pass0 (pa_cons (pv 1) (pa_cons (pe_ix ix_tup (pv 4) pe_int (fun _ _ => rfl)) (pa_cons (pv 2) pa_nil)))))
      (pss_cons (ps_for PassesOwn.never rfl (pi_list (pe_call (ok_unlike T) (hr.mono (by decide)) rfl T.g_unlike T.k_unlike T.B_unlike .nil pass0 (pa_cons (pv 0) (pa_cons (pe_call (ok_take T) (hr.mono (by decide)) rfl T.g_take T.k_take T.B_take .nil pass0 (pa_cons (pv 0) (pa_cons (pe_op op_add (pe_callB call_len_seq (by rfl) T.z_len (by decide +kernel) (pa_cons (pv 7) pa_nil)) pe_int) pa_nil))) (pa_cons (pv 7) pa_nil))))) (pg_name (i := 8) sc_any_call.nd rfl (Or.inl rfl)) (pss_cons (ps_set (i := 5) sc_any_call.nd rfl (Or.inl rfl) (pe_op op_cat (pv 5) (pe_lst (pa_cons pe_str (pa_cons (pv 8) pa_nil)))))
      (C8.pss_cut (ps_if (pt_val (pe_call (ok_laden T) (hr.mono (by decide)) rfl T.g_laden T.k_laden T.B_laden .nil pass0 (pa_cons (pv 1) (pa_cons (pv 2) (pa_cons (pv 8) pa_nil))))) (pss_one (ps_expr (pe_bm PySem.F.plainAttrs_list PySem.F.slot_list_append PySem.F.type_list_append mt_append (pv 5) (pa_cons (pe_ix ix_str pe_str (pe_call (ok_take T) (hr.mono (by decide)) rfl T.g_take T.k_take T.B_take .nil pass0 (pa_cons (pv 0) (pa_cons pe_int pa_nil))) (fun _ _ => rfl)) pa_nil)))) pss_nil)
      (pss_one (ps_expr (pe_bm PySem.F.plainAttrs_list PySem.F.slot_list_append PySem.F.type_list_append mt_append (pv 5) (pa_cons (pe_callTy call_str_int (by rfl) T.z_str (by decide +kernel) (pa_cons (pe_call (ok_take T) (hr.mono (by decide)) rfl T.g_take T.k_take T.B_take .nil pass0 (pa_cons (pv 0) (pa_cons (pv 3) pa_nil))) pa_nil)) pa_nil)))))))
      (pss_one (ps_ret (pe_join pe_str (pv 5)))))))))), ?_⟩
    have few8 := crew_many cok
    have hhl : has.length = hs.length := AllAt.len dl.cr
    have hpos : 0 < hs.length := List.length_pos_iff.mpr hne
    have hlen : (((has.map V.ref).length : Nat) : Int) = (hs.length : Int) := by rw [List.length_map, hhl]
    -- the one that is called
    refine ⟨_, rfl, _, _, _, _, rfl, rfl, SqT.of dl.tp, rfl, _, rfl, _, rfl, _, _, _, _, rfl, rfl, SqT.of dl.tp, rfl, _, _, rfl, .inl (SqL.of dl.hF), b, g, l, n, _, rfl, bx, n0, by omega, by rw [hlen]; omega, by rw [hlen]; exact Nat.lt_trans (numT_log (n := hs.length) (by omega)) (by decide), fun j H1 j0 j1 bx1 kp1 => ?_⟩
    rw [hlen] at j1
    have dl1 := dl.keep kp1 nb Lb Fb
    obtain ⟨h, hh⟩ : ∃ h, has[j.toNat]? = some h := ⟨_, List.getElem?_eq_getElem (by omega)⟩
    obtain ⟨y, hy, hr1⟩ := AllAt.get dl1.cr hh
    refine ⟨_, _, _, _, rfl, rfl, SqL.of dl1.hF, at_of (j := j.toNat) (by omega) (by rw [List.getElem?_map, hh]; rfl), ?_⟩
    have ym := List.mem_of_getElem? hy
    obtain ⟨yp, yth⟩ := cok.one y ym
    obtain ⟨ysd, y3, y4⟩ := pact_parts yp
    have ec := crew_find cok hy
    have y_take : ∀ t', t' ∈ y.takes → t' = "lent" ∨ t' = "given" := fun t' ht => by
      have := (pactB_out yp).2.2.1
      unfold My.takesB at this
      rw [Bool.and_eq_true] at this
      have q := List.all_eq_true.mp this.2 t' ht
      simpa using q
    obtain ⟨tk, th, eh, ttk0, tth⟩ := id hr1
    have ttk : TupF H1 tk (y.takes.map V.str) := ttk0
    clear ttk0
    refine ⟨_, rfl, _, _, _, _, rfl, rfl, SqT.of eh, rfl, by show 2 ≤ sizeLine; decide, fun W hW => ?_⟩
    have o2 : WSt b g l H1 (upd H1 W (.lst [.str "call", .str y.name])) (n + 1) W (headW y []) := ⟨⟨_, bx1⟩, bx1.upd hW, (Keeps.refl _ H1).upd (.inr hW), hW, upd_same⟩
    show gName 5 (.ref W) _ (upd H1 W (.lst [.str "call", .str y.name])) _
    generalize (upd H1 W (.lst [.str "call", .str y.name])) = H2 at o2 ⊢
    have nb1 : NoTup H1 [b, g] := box_notup bx1
    have ttk2 := TupF.keepN ttk o2.kp nb1
    have eh2 := o2.kp _ _ eh fun q => (nb1 h q _).1 eh
    refine ⟨_, rfl, _, _, _, _, rfl, rfl, SqT.of eh2, rfl, tk, rfl, ⟨_, ttk2.seq⟩, ?_⟩
    refine for_tup (K := K) (a := tk) (xs := y.takes.map V.str) (fun k σ H3 => Blk (∃ (v6 v7 v8 : Option V) (W3 : Addr) (as3 : List (Str × Str)) (n3 : Int), σ = [some (.ref b), some (.ref t), some (.int i), some (.int (m : Nat)), some (.ref h), some (.ref W3), v6, v7, v8] ∧ as3.length = k ∧
      (∀ (k' : Nat) (t' : Str) (a' : Str × Str), y.takes[k']? = some t' → as3[k']? = some a' → ArgOk t' a') ∧ n + 1 ≤ n3 ∧ n3 ≤ n + 1 + (k : Nat) ∧ WSt b g l H1 H3 n3 W3 (headW y as3))) ?_ ?_ ?_ ?_
    · exact Blk.of ⟨_, _, _, W, [], n + 1, rfl, rfl, fun k' t' a' _ e => by simp at e, by omega, by omega, o2⟩
    · intro k σ H3 _ hB
      obtain ⟨v6, v7, v8, W3, as3, n3, _, _, _, _, _, o3⟩ := hB.out
      exact (TupF.keepN ttk o3.kp nb1).seq
    · intro k u σ H3 hu hB
      obtain ⟨v6, v7, v8, W3, as3, n3, rfl, rfl, ao, a1, a2, o3⟩ := hB.out
      obtain ⟨tw, htw, rfl⟩ := strs_get hu
      have hk := get_lt htw
      have fl3 := flatA_len as3
      have sm : (headW y as3).length + 2 ≤ 1000 := by
        show (flatA as3).length + 1 + 1 + 2 ≤ _
        omega
      have put : ∀ a' : Str × Str, ArgOk tw a' → ∀ (k' : Nat) (t' : Str) (a2 : Str × Str), y.takes[k']? = some t' → (as3 ++ [a'])[k']? = some a2 → ArgOk t' a2 := by
        intro a' ok k' t' a2 e1 e2
        by_cases q : k' < as3.length
        · rw [List.getElem?_append_left q] at e2
          exact ao k' t' a2 e1 e2
        · have q2 := get_lt e2
          rw [List.length_append] at q2
          obtain rfl : k' = as3.length := by simp at q2; omega
          rw [htw] at e1
          rw [List.getElem?_append_right (Nat.le_refl _), Nat.sub_self] at e2
          rw [← Option.some.inj e1, ← show a' = a2 from Option.some.inj e2]
          exact ok
      have hd : ∀ a' : Str × Str, headW y as3 ++ [a'.1, a'.2] = headW y (as3 ++ [a']) := fun a' => by
        show _ = ("call" : Str) :: y.name :: flatA (as3 ++ [a'])
        rw [flatA_snoc]
        rfl
      have isT : tw = "lent" ∨ tw = "given" := y_take tw (List.mem_of_getElem? htw)
      refine ⟨_, rfl, rfl, _, rfl, ?_⟩
      refine iteSS (fun e => ?_) (fun ne => ?_)
      · refine ⟨_, rfl, by show 6 ≤ sizeLine; decide, fun G hG => ?_⟩
        have o4 := o3.new hG (.lst [.str "a", .str "b", .str "c", .str "d", .str "e", .str "shelf"])
        have hGG : (upd H3 G (.lst [.str "a", .str "b", .str "c", .str "d", .str "e", .str "shelf"])) G = some (.lst (plcs.map V.str)) := upd_same
        have oG := offbox o3.bx hG
        generalize (upd H3 G (.lst [.str "a", .str "b", .str "c", .str "d", .str "e", .str "shelf"])) = H4 at o4 hGG ⊢
        refine ⟨_, rfl, b, g, l, _, 6, rfl, o4.bx, by omega, by omega, by decide, by decide, fun j2 H5 j20 j21 bx5 kp5 => ?_⟩
        have hG5 := kp5 _ _ hGG oG
        have o5 := o4.step bx5 kp5
        obtain ⟨z, hz, pz⟩ : ∃ z, atI (plcs.map V.str) j2 = some (.str z) ∧ z ∈ plcs := by
          have hj0 : j2.toNat < plcs.length := by show j2.toNat < 6; omega
          have hj : plcs[j2.toNat]? = some plcs[j2.toNat] := List.getElem?_eq_getElem hj0
          exact ⟨_, at_of (j := j2.toNat) (by omega) (by rw [List.getElem?_map, hj]; rfl), List.mem_of_getElem? hj⟩
        refine ⟨_, _, _, _, rfl, rfl, SqL.of hG5, hz, ?_⟩
        refine ⟨by show 2 ≤ sizeLine; decide, fun M hM => ?_⟩
        refine ⟨W3, M, _, _, rfl, rfl, (o5.new hM _).at_, upd_same, lst_small sm, fun W4 hW4 => ?_⟩
        refine Blk.of ⟨_, _, _, W4, as3 ++ [(("lend" : Str), z)], n3 + 1, rfl, by rw [List.length_append]; rfl, put (("lend" : Str), z) (by unfold ArgOk; rw [if_neg (by rw [e]; decide +kernel)]; exact ⟨rfl, pz⟩), by omega, by omega, ?_⟩
        rw [← hd]
        exact o5.cat hM hW4 [("lend" : Str), z]
      · obtain rfl : tw = "given" := isT.elim (fun e => absurd e ne) fun e => e
        refine ⟨_, rfl, _, rfl, b, g, l, _, 5, rfl, o3.bx, by omega, by omega, by decide, by decide, fun j2 H5 j20 j21 bx5 kp5 => ?_⟩
        have o5 := o3.step bx5 kp5
        obtain ⟨c, hc, lc⟩ := abcde_ix j20 j21
        refine ⟨_, _, _, rfl, rfl, abcde_len, hc, ?_⟩
        refine ⟨by show 2 ≤ sizeLine; decide, fun M hM => ?_⟩
        refine ⟨W3, M, _, _, rfl, rfl, (o5.new hM _).at_, upd_same, lst_small sm, fun W4 hW4 => ?_⟩
        refine Blk.of ⟨_, _, _, W4, as3 ++ [(("give" : Str), (⟨#[c]⟩ : Str))], n3 + 1, rfl, by rw [List.length_append]; rfl, put (("give" : Str), (⟨#[c]⟩ : Str)) (by unfold ArgOk; rw [if_pos rfl]; exact ⟨rfl, lc⟩), by omega, by omega, ?_⟩
        rw [← hd]
        exact o5.cat hM hW4 [("give" : Str), (⟨#[c]⟩ : Str)]
    · intro σ H3 hB
      obtain ⟨v6, v7, v8, W3, as3, n3, rfl, al, ao, a1, a2, o3⟩ := hB.out
      rw [List.length_map] at al a2
      have fl3 := flatA_len as3
      have eh3 := o3.kp _ _ eh fun q => (nb1 h q _).1 eh
      have dl3 := dl1.keep o3.kp nb1 Lb Fb
      -- where the thing that is brought back goes
      refine ⟨fun σ H4 => Blk (∃ (v6 v7 v8 : Option V) (W4 : Addr) (z : Str) (n4 : Int), σ = [some (.ref b), some (.ref t), some (.int i), some (.int (m : Nat)), some (.ref h), some (.ref W4), v6, v7, v8] ∧ z ∈ pkS ∧ n + 1 ≤ n4 ∧ n4 ≤ n + 5 ∧ WSt b g l H1 H4 n4 W4 (headW y as3 ++ (if y.gives = true then [("to" : Str), z] else []))), ?_, ?_⟩
      · refine ⟨_, rfl, _, _, _, _, rfl, rfl, SqT.of eh3, rfl, _, rfl, ?_⟩
        cases hg : y.gives with
        | true =>
          refine iteT ?_
          refine ⟨_, rfl, _, rfl, b, g, l, _, 5, rfl, o3.bx, by omega, by omega, by decide, by decide, fun j2 H5 j20 j21 bx5 kp5 => ?_⟩
          have o5 := o3.step bx5 kp5
          obtain ⟨c, hc, lc⟩ := abcde_ix j20 j21
          refine ⟨_, _, _, rfl, rfl, abcde_len, hc, ?_⟩
          refine ⟨by show 2 ≤ sizeLine; decide, fun M hM => ?_⟩
          refine ⟨W3, M, _, _, rfl, rfl, (o5.new hM _).at_, upd_same, lst_small (by show (flatA as3).length + 1 + 1 + 2 ≤ _; omega), fun W4 hW4 => ?_⟩
          exact Blk.of ⟨_, _, _, W4, ⟨#[c]⟩, n3 + 1, rfl, lc, by omega, by omega, o5.cat hM hW4 [("to" : Str), (⟨#[c]⟩ : Str)]⟩
        | false =>
          refine iteF ?_
          exact Blk.of ⟨_, _, _, W3, "a", n3, rfl, by decide, by omega, by omega, by rw [if_neg (by decide), List.append_nil]; exact o3⟩
      · rintro σ H4 hB
        obtain ⟨v6, v7, v8, W4, z, n4, rfl, hz, b1, b2, o4⟩ := hB.out
        have eh4 := o4.kp _ _ eh fun q => (nb1 h q _).1 eh
        have dl4 := dl1.keep o4.kp nb1 Lb Fb
        have pl := pok.many
        -- the errors
        refine ⟨_, rfl, _, rfl, _, _, _, _, rfl, rfl, SqT.of eh4, rfl, _, rfl, t, L, F, as, has, ps, hs, y.name, i, y, rfl, dl4, pok, by omega, hi, ec, ysd, yth, by omega, fun E1 H5 nE hE s5 => ?_⟩
        have o5 := o4.same s5
        have el : (errs i ps y).length = y.throws.length := errs_len hi ysd yth
        have Eb : E1 ∉ [b, g] := offbox o4.bx nE
        have elen : (((errs i ps y).map V.str).length : Int) = (y.throws.length : Int) := by rw [List.length_map, el]
        refine ⟨_, rfl, _, rfl, _, rfl, _, _, rfl, .inl (SqL.of hE), _, _, rfl, rfl, b, g, l, _, _, rfl, o5.bx, by omega, by omega, by rw [elen]; omega, by rw [elen]; exact Nat.lt_trans (numT_log (n := y.throws.length + 1) (by omega)) (by decide), fun k H6 k0 k1 bx6 kp6 => ?_⟩
        have o6 := o5.step bx6 kp6
        have hE6 := kp6 _ _ hE Eb
        refine ⟨_, rfl, b, g, l, E1, _, k, errs i ps y, rfl, bx6, by omega, by omega, hE6, by omega, k0, by omega, fun p ys n7 H7 nP hP lenP memP ndP c1 c2 bx7 kp7 => ?_⟩
        have o7 := o6.step bx7 kp7
        have Pb : p ∉ [b, g] := offbox bx6 nP
        have nd := ndP (errs_nodup pok hi ysd yth (My.throwsB_nodup (pactB_out yp).2.2.2).2)
        have ylen : ys.length ≤ 4 := by omega
        refine ⟨p, rfl, ⟨_, SqL.of hP⟩, ?_⟩
        refine for_list (K := K) (a := p) (xs := ys.map V.str) (fun k' σ H8 => Blk (∃ (v6 v8 : Option V) (W8 : Addr) (cs : List (Str × Str × Nat)) (n8 : Int), σ = [some (.ref b), some (.ref t), some (.int i), some (.int (m : Nat)), some (.ref h), some (.ref W8), v6, some (.ref E1), v8] ∧ cs.map (·.1) = ys.take k' ∧
          (∀ q, q ∈ cs → q.2.1 ∈ pkS ∧ q.2.2 < m) ∧ n7 ≤ n8 ∧ n8 ≤ n7 + 2 * (k' : Nat) ∧ WSt b g l H1 H8 n8 W8 (headW y as3 ++ (if y.gives = true then [("to" : Str), z] else []) ++ flatC ps i cs) ∧ Keeps [b, g] H7 H8)) ?_ ?_ ?_ ?_
        · exact Blk.of ⟨_, _, W4, [], n7, rfl, rfl, (fun q hq => by cases hq), by omega, by omega, (by show WSt _ _ _ _ _ _ _ (_ ++ []); rw [List.append_nil]; exact o7), Keeps.refl _ _⟩
        · intro k' σ H8 _ hB
          obtain ⟨v6, v8, W8, cs, n8, _, _, _, _, _, _, k78⟩ := hB.out
          exact SqL.of (k78 _ _ hP Pb)
        · intro k' u σ H8 hu hB
          obtain ⟨v6, v8, W8, cs, n8, rfl, ecs, hcs, d1, d2, o8, k78⟩ := hB.out
          obtain ⟨w', hw', rfl⟩ := strs_get hu
          have hk' := get_lt hw'
          have lcs : cs.length = k' := by
            have := congrArg List.length ecs
            rw [List.length_map, List.length_take] at this
            omega
          have lC := flatC_len (ps := ps) (i := i) cs
          generalize hws : headW y as3 ++ (if y.gives = true then [("to" : Str), z] else []) ++ flatC ps i cs = ws at o8
          have lws : ws.length ≤ 100 := by
            rw [← hws, List.length_append, List.length_append]
            have : (if y.gives = true then [("to" : Str), z] else []).length ≤ 2 := by split <;> simp
            show (flatA as3).length + 1 + 1 + _ + _ ≤ _
            omega
          refine ⟨_, rfl, _, rfl, by show 2 ≤ sizeLine; decide, fun M hM => ?_⟩
          refine ⟨W8, M, _, _, rfl, rfl, (o8.new hM _).at_, upd_same, lst_small (by show ws.length + 2 ≤ _; omega), fun W9 hW9 => ?_⟩
          have o9 := o8.cat hM hW9 [("on" : Str), w']
          have f7 : ∀ {z : Addr}, H8 z = none → H7 z = none := fun {z} e => by
            rcases k78.fresh e with q | q
            · exact absurd q (offbox o8.bx e)
            · exact q
          have hW9' : H8 W9 = none := by
            by_cases e : W9 = M
            · rw [e]; exact hM
            · rw [upd_ne e] at hW9; exact hW9
          have u9 : WSt b g l H7 (upd (upd H8 M (.lst [.str "on", .str w'])) W9 (.lst (ws.map V.str ++ [.str "on", .str w']))) n8 W9 (ws ++ [("on" : Str), w']) := ⟨⟨_, bx7⟩, o9.bx, (k78.upd (.inr (f7 hM))).upd (.inr (f7 hW9')), f7 hW9', o9.at_⟩
          have wm := memP w' (List.mem_of_getElem? hw')
          obtain ⟨b', hb'⟩ := errs_laden hi ysd yth w' wm
          show gName 5 (.ref W9) _ _ _
          generalize (upd (upd H8 M (.lst [.str "on", .str w'])) W9 (.lst (ws.map V.str ++ [.str "on", .str w']))) = H9 at u9 ⊢
          have k19 : Keeps [b, g] H1 H9 := (o7.kp).trans u9.kp
          have dl9 := dl1.keep k19 nb1 Lb Fb
          refine ⟨fun σ H10 => Blk (∃ (v6 : Option V) (c : Str) (n10 : Int), σ = [some (.ref b), some (.ref t), some (.int i), some (.int (m : Nat)), some (.ref h), some (.ref W9), v6, some (.ref E1), some (.str w')] ∧ c ∈ pkS ∧ n8 ≤ n10 ∧ n10 ≤ n8 + 1 ∧ WSt b g l H7 H10 n10 W9 (ws ++ [("on" : Str), w'] ++ (if b' = true then [c] else []))), ?_, ?_⟩
          · refine ⟨_, rfl, _, rfl, _, rfl, t, L, F, as, has, ps, hs, i, w', b', rfl, dl9, pok, by omega, hi, hb', fun H10 s10 => ?_⟩
            have u10 := u9.same s10
            refine ⟨b', rfl, ?_⟩
            cases b' with
            | true =>
              refine iteT ?_
              refine ⟨_, rfl, .inl ⟨rfl, _, SqL.of u10.at_⟩, _, rfl, b, g, l, _, 5, rfl, u10.bx, by omega, by omega, by decide, by decide, fun j2 H11 j20 j21 bx11 kp11 => ?_⟩
              have u11 := u10.step bx11 kp11
              obtain ⟨c, hc, lc⟩ := abcde_ix j20 j21
              refine ⟨_, _, _, rfl, rfl, abcde_len, hc, ?_⟩
              refine ⟨W9, _, _, rfl, rfl, u11.at_, by have := lst_small (ws := ws ++ [("on" : Str), w']) (k := 1) (by rw [List.length_append]; show ws.length + 2 + 1 ≤ _; omega); omega, ?_⟩
              exact Blk.of ⟨_, ⟨#[c]⟩, n8 + 1, rfl, lc, by omega, by omega, u11.app _⟩
            | false =>
              refine iteF ?_
              exact Blk.of ⟨_, "a", n8, rfl, by decide, by omega, by omega, by rw [if_neg (by decide), List.append_nil]; exact u10⟩
          · rintro σ H10 hB
            obtain ⟨v6, c, n10, rfl, hc, f1, f2, u10⟩ := hB.out
            refine ⟨_, rfl, .inl ⟨rfl, _, SqL.of u10.at_⟩, _, rfl, _, rfl, b, g, l, _, (m : Nat), rfl, u10.bx, by omega, by omega, by omega, Nat.lt_trans (numT_log (n := m) (by omega)) (by decide), fun kz H11 j20 j21 bx11 kp11 => ?_⟩
            obtain ⟨kn, rfl⟩ : ∃ kn : Nat, kz = kn := ⟨kz.toNat, by omega⟩
            have u11 := u10.step bx11 kp11
            have cw : ("on" : Str) :: w' :: ((if b' = true then [c] else []) ++ [numT kn]) = catW ps i (w', c, kn) := by
              unfold catW
              rw [hb']
              cases b' <;> rfl
            have lC2 : (if b' = true then [c] else ([] : List Str)).length ≤ 1 := by split <;> simp
            refine ⟨_, rfl, numT_log (n := kn) (by omega), W9, _, _, rfl, rfl, u11.at_, by
              have := lst_small (ws := ws ++ [("on" : Str), w'] ++ (if b' = true then [c] else [])) (k := 1) (by rw [List.length_append, List.length_append]; show ws.length + 2 + _ + 1 ≤ _; omega)
              omega, ?_⟩
            have u12 := (u11.app (numT kn)).from0 o7.kp ⟨_, bx1⟩
            refine Blk.of ⟨_, _, W9, cs ++ [(w', c, kn)], n10 + 1, rfl, ?_, ?_, by omega, by omega, ?_, (u11.app (numT kn)).kp⟩
            · rw [List.map_append, ecs, take_snoc hw']
              rfl
            · intro q hq
              rcases List.mem_append.mp hq with e | e
              · exact hcs q e
              · simp only [List.mem_cons, List.not_mem_nil, or_false] at e
                rw [e]
                exact ⟨hc, by show kn < m; omega⟩
            · rw [flatC_snoc, ← List.append_assoc, hws, ← cw]
              have e : ws ++ ("on" : Str) :: w' :: ((if b' = true then [c] else []) ++ [numT kn]) = ws ++ [("on" : Str), w'] ++ (if b' = true then [c] else []) ++ [numT kn] := by simp
              rw [e]
              exact u12
        · intro σ H8 hB
          obtain ⟨v6, v8, W8, cs, n8, rfl, ecs, hcs, d1, d2, o8, k78⟩ := hB.out
          rw [List.length_map, List.take_length] at ecs
          rw [List.length_map] at d2
          have lcs : cs.length = ys.length := by
            have := congrArg List.length ecs
            rw [List.length_map] at this
            omega
          have ecw : headW y as3 ++ (if y.gives = true then [("to" : Str), z] else []) ++ flatC ps i cs = callW ps i y z as3 cs := by
            unfold callW headW
            rw [List.append_assoc]
            rfl
          rw [ecw] at o8
          have wn : ∀ q, q ∈ cs → q.1 ∈ errs i ps y := fun q hq => memP q.1 (by rw [← ecs]; exact List.mem_map.mpr ⟨q, hq, rfl⟩)
          have wnm : ∀ q, q ∈ cs → Wd q.1 := fun q hq => wd_name (errs_name pok hi ysd yth q.1 (wn q hq))
          have wa : ∀ a', a' ∈ as3 → Wd a'.1 ∧ Wd a'.2 := fun a' ha => by
            obtain ⟨k2, hk2, e⟩ := List.getElem_of_mem ha
            have q := ao k2 _ _ (List.getElem?_eq_getElem (by omega)) (List.getElem?_eq_getElem hk2)
            rw [e] at q
            exact argOk_wd q
          have all := callW_wd (ps := ps) (i := i) (y := y) (z := z) (wd_name (pactB_out yp).1) wa hz fun q hq => ⟨wnm q hq, (hcs q hq).1, by have := (hcs q hq).2; omega⟩
          have cl := callW_len (ps := ps) (i := i) (y := y) (z := z) (as := as3) (cs := cs) (by omega) (by omega)
          have sl := sum_short fun w' h' => (all w' h').2.1
          have l1 : (" " : Str).length = 1 := by decide +kernel
          refine ⟨⟨_, rfl⟩, _, rfl, _, W8, callW ps i y z as3 cs, rfl, rfl, .inl (SqL.of o8.at_), by rw [l1]; omega, ?_⟩
          refine kk _ n8 H8 ?_ (by omega) (by omega) o8.bx (kp1.trans o8.kp)
          have e : Txt.join (" " : Str) (callW ps i y z as3 cs) = glue 32 (callW ps i y z as3 cs) := by rw [blank_eq]; rfl
          rw [e]
          exact row_call ec (wd_name (pactB_out yp).1) (by omega) y3 ao hz (by rw [ecs]; exact nd) (by omega) m1 (fun q hq => ⟨wn q hq, errs_laden hi ysd yth q.1 (wn q hq), hcs q hq⟩) wnm

open My (Hr wd glue cut)
/-! ### a drawn row -/
def rowMenu : List Str := ["make", "use", "free", "clear", "forget", "put", "take", "move", "pick", "go", "call", "call", "end"]
theorem menu_left {w : Str} (h : w ∈ rowMenu) (n1 : w ≠ "end") (n2 : w ≠ "call") (n3 : w ≠ "move") (n4 : w ≠ "pick") (n5 : w ≠ "go") : w ∈ pockRows ∨ w = "use" := by
  simp only [rowMenu, List.mem_cons, List.not_mem_nil, or_false] at h
  rcases h with rfl | rfl | rfl | rfl | rfl | rfl | rfl | rfl | rfl | rfl | rfl | rfl | rfl
  all_goals first | exact .inl (by decide +kernel) | exact .inr rfl | exact absurd rfl n1 | exact absurd rfl n2 | exact absurd rfl n3 | exact absurd rfl n4 | exact absurd rfl n5
theorem abcde_at {j : Nat} (h : j < 5) : ∃ c, atI ("abcde" : Str).cps.toList (j : Nat) = some c ∧ (⟨#[c]⟩ : Str) ∈ pkS ∧ placeV ⟨#[c]⟩ = .int (j : Nat) := by
  have : j = 0 ∨ j = 1 ∨ j = 2 ∨ j = 3 ∨ j = 4 := by omega
  rcases this with rfl | rfl | rfl | rfl | rfl
  · exact ⟨97, by decide +kernel, by decide +kernel, by decide +kernel⟩
  · exact ⟨98, by decide +kernel, by decide +kernel, by decide +kernel⟩
  · exact ⟨99, by decide +kernel, by decide +kernel, by decide +kernel⟩
  · exact ⟨100, by decide +kernel, by decide +kernel, by decide +kernel⟩
  · exact ⟨101, by decide +kernel, by decide +kernel, by decide +kernel⟩
theorem pocket_at {c : Str} {j : Nat} (h : placeV c = .int (j : Nat)) (hj : j < 5) : pocketV c = .int (j : Nat) := by
  unfold pocketV
  rw [h, if_neg (fun q => by injection q with q; omega)]
def sp_any_row : Sp := fun vs H Q _ => ∃ (b g l t L F : Addr) (n : Int) (k m : Nat) (as has : List Addr) (ps : List My.Pr) (hs : List Hr) (w : Str) (x : Hr), vs = [.ref b, .ref t, .str w, .int (k : Nat), .int (m : Nat)] ∧ BoxAt H b g l n ∧ 0 ≤ n ∧ n < 6000000 ∧ DealAt H t L F as has ps hs ∧ My.PairsOk ps ∧ My.CrewOk ps hs ∧ crewOf w hs = some x ∧ k < m ∧ m ≤ 30 ∧
  L ∉ [b, g] ∧ F ∉ [b, g] ∧ NoTup H [b, g] ∧ ∀ (row : Str) (n' : Int) (H' : Hp), MidRow hs ps x k m row → (k + 1 = m → EndRow hs ps x row) → n ≤ n' → n' ≤ n + 30 → BoxAt H' b g l n' → Keeps [b, g] H H' → Q (.str row) H'
theorem ok_any_row (T : Txt K mg a) : FnOk P w K mg base CX0 5 a.f_any_row a.d_any_row ["_law_box_here", "_law_deal", "_law_name", "_law_at", "_law_many"] sp_any_row := by
  refine T.F_any_row.ok sc_any_row (fun vs H Q E h => ?_) (fun cdv A outer s H vs Q E hr h => ?_)
  · obtain ⟨b, g, l, t, L, F, n, k, m, as, has, ps, hs, w, x, rfl, _⟩ := h
    rfl
  · obtain ⟨b, g, l, t, L, F, n, k, m, as, has, ps, hs, w, x, rfl, bx, n0, n1, dl, pok, cok, hx, km, m30, Lb, Fb, nb, kk⟩ := h
    refine ⟨_, (pss_cons (ps_set (i := 5) sc_any_row.nd rfl (Or.inl rfl) (pe_lst (pa_cons pe_str (pa_cons pe_str (pa_cons pe_str (pa_cons pe_str (pa_cons pe_str (pa_cons pe_str (pa_cons pe_str (pa_cons pe_str (pa_cons pe_str (pa_cons pe_str (pa_cons pe_str (pa_cons pe_str (pa_cons pe_str pa_nil)))))))))))))))
      (pss_cons (ps_set (i := 6) sc_any_row.nd rfl (Or.inl rfl) (pe_ix ix_list (pv 5) (pe_call (ok_take T) (hr.mono (by decide)) rfl T.g_take T.k_take T.B_take .nil pass0 (pa_cons (pv 0) (pa_cons pe_int pa_nil))) (fun _ _ => rfl)))
      (pss_cons (ps_set (i := 7) sc_any_row.nd rfl (Or.inl rfl) (pe_call (ok_take T) (hr.mono (by decide)) rfl T.g_take T.k_take T.B_take .nil pass0 (pa_cons (pv 0) (pa_cons pe_int pa_nil))))
      (pss_cons (ps_set (i := 8) sc_any_row.nd rfl (Or.inl rfl) (pe_call (ok_take T) (hr.mono (by decide)) rfl T.g_take T.k_take T.B_take .nil pass0 (pa_cons (pv 0) (pa_cons (pv 4) pa_nil))))
      (pss_cons (ps_if (PW.pt (pw_or (pt_cmpR op_eq (pv 6) pe_str (nomark _)) (pw_or1 (pt_cmpR op_eq (pv 3) (pe_op op_sub (pv 4) pe_int) (nomark _))))) (pss_one (ps_ret (pe_call (ok_any_end T) (hr.mono (by decide)) rfl T.g_any_end T.k_any_end T.B_any_end .nil pass0 (pa_cons (pv 0) (pa_cons (pv 1) (pa_cons (pv 2) pa_nil)))))) pss_nil)
      (pss_cons (ps_if (pt_cmpR op_eq (pv 6) pe_str (nomark _)) (pss_one (ps_ret (pe_call (ok_any_call T) (hr.mono (by decide)) rfl T.g_any_call T.k_any_call T.B_any_call .nil pass0 (pa_cons (pv 0) (pa_cons (pv 1) (pa_cons (pe_ix ix_tup (pe_call (ok_pact T) (hr.mono (by decide)) rfl T.g_pact T.k_pact T.B_pact .nil pass0 (pa_cons (pv 1) (pa_cons (pv 2) pa_nil))) pe_int (fun _ _ => rfl)) (pa_cons (pv 4) pa_nil))))))) pss_nil)
      (pss_cons (ps_if (pt_cmpR op_eq (pv 6) pe_str (nomark _)) (pss_one (ps_ret (pe_op op_add_str (pe_op op_add_str (pe_op op_add_str pe_str (pe_ix ix_str pe_str (pv 7) (fun _ _ => rfl))) pe_str) (pe_ix ix_str pe_str (pe_op op_mod (pe_op op_add (pe_op op_add (pv 7) pe_int) (pe_call (ok_take T) (hr.mono (by decide)) rfl T.g_take T.k_take T.B_take .nil pass0 (pa_cons (pv 0) (pa_cons pe_int pa_nil)))) pe_int) (fun _ _ => rfl))))) pss_nil)
      (pss_cons (ps_if (pt_cmpR op_eq (pv 6) pe_str (nomark _)) (pss_one (ps_ret (pe_op op_add_str pe_str (pe_callTy call_str_int (by rfl) T.z_str (by decide +kernel) (pa_cons (pv 8) pa_nil))))) pss_nil)
      (pss_cons (ps_if (pt_cmpR op_eq (pv 6) pe_str (nomark _)) (pss_one (ps_ret (pe_op op_add_str pe_str (pe_callTy call_str_int (by rfl) T.z_str (by decide +kernel) (pa_cons (pe_op op_add (pe_op op_add (pv 3) pe_int) (pe_op op_mod (pv 8) (pe_op op_sub (pe_op op_sub (pv 4) pe_int) (pv 3)))) pa_nil))))) pss_nil)
      (pss_cons (ps_if (PW.pt (pw_and (pt_cmpR op_eq (pv 6) pe_str (nomark _)) (pw_and1 (pt_cmpR op_eq (pe_op op_mod (pv 8) pe_int) pe_int (nomark _))))) (pss_one (ps_ret pe_str)) pss_nil)
      (pss_one (ps_ret (pe_op op_add_str (pe_op op_add_str (pv 6) pe_str) (pe_ix ix_str pe_str (pv 7) (fun _ _ => rfl))))))))))))))), ?_⟩
    obtain ⟨xm, xn⟩ := crew_mem hx
    have few8 := crew_many cok
    obtain ⟨xp, xth⟩ := cok.one x xm
    obtain ⟨xsd, x3, x4⟩ := pact_parts xp
    refine ⟨by show 13 ≤ sizeLine; decide, fun M hM => ?_⟩
    have bx1 := bx.upd (o := .lst (rowMenu.map V.str)) hM
    have hM1 : (upd H M (.lst (rowMenu.map V.str))) M = some (.lst (rowMenu.map V.str)) := upd_same
    have Mb := offbox bx hM
    have k1 : Keeps [b, g] H (upd H M (.lst (rowMenu.map V.str))) := (Keeps.refl _ H).upd (.inr hM)
    show gName 5 (.ref M) _ (upd H M (.lst (rowMenu.map V.str))) _
    generalize (upd H M (.lst (rowMenu.map V.str))) = H1 at bx1 hM1 k1 ⊢
    refine ⟨_, rfl, _, rfl, b, g, l, _, 13, rfl, bx1, by omega, by omega, by decide, by decide, fun j2 H2 j20 j21 bx2 kp2 => ?_⟩
    have k2 := k1.trans kp2
    have hM2 := kp2 _ _ hM1 Mb
    obtain ⟨wd0, hz, pz⟩ : ∃ z, atI (rowMenu.map V.str) j2 = some (.str z) ∧ z ∈ rowMenu := by
      have hj0 : j2.toNat < rowMenu.length := by show j2.toNat < 13; omega
      have hj : rowMenu[j2.toNat]? = some rowMenu[j2.toNat] := List.getElem?_eq_getElem hj0
      exact ⟨_, at_of (j := j2.toNat) (by omega) (by rw [List.getElem?_map, hj]; rfl), List.mem_of_getElem? hj⟩
    refine ⟨_, _, _, _, rfl, rfl, SqL.of hM2, hz, ?_⟩
    refine ⟨_, rfl, b, g, l, _, 5, rfl, bx2, by omega, by omega, by decide, by decide, fun j3 H3 j30 j31 bx3 kp3 => ?_⟩
    refine ⟨_, rfl, _, rfl, b, g, l, _, (m : Nat), rfl, bx3, by omega, by omega, by omega, Nat.lt_trans (numT_log (n := m) (by omega)) (by decide), fun j4 H4 j40 j41 bx4 kp4 => ?_⟩
    have k4 := (k2.trans kp3).trans kp4
    obtain ⟨j, rfl⟩ : ∃ j : Nat, j3 = j := ⟨j3.toNat, by omega⟩
    obtain ⟨q, rfl⟩ : ∃ q : Nat, j4 = q := ⟨j4.toNat, by omega⟩
    have dl4 := dl.keep k4 nb Lb Fb
    have nb4 : NoTup H4 [b, g] := box_notup bx4
    have wdW : Wd wd0 := wd_rows pz
    have theEnd : ∀ (Q2 : VK), (∀ (row : Str) (n' : Int) (H' : Hp), EndRow hs ps x row → n ≤ n' → n' ≤ n + 30 → BoxAt H' b g l n' → Keeps [b, g] H H' → Q2 (.str row) H') → sp_any_end [.ref b, .ref t, .str w] H4 Q2 E := fun Q2 hq =>
      ⟨b, g, l, t, L, F, _, as, has, ps, hs, w, x, rfl, bx4, by omega, by omega, dl4, pok, cok, hx, Lb, Fb, nb4, fun row n' H' er c1 c2 bx' kp' => hq row n' H' er (by omega) (by omega) bx' (k4.trans kp')⟩
    refine ⟨_, rfl, rfl, _, rfl, ?_⟩
    refine iteSS (fun e => ?_) (fun ne1 => ?_)
    · refine iteT ?_
      exact ⟨_, rfl, _, rfl, _, rfl, theEnd _ fun row n' H' er c1 c2 bx' kp' => kk row n' H' (er.mid k m) (fun _ => er) c1 c2 bx' kp'⟩
    · refine ⟨_, rfl, _, rfl, _, _, rfl, rfl, rfl, _, rfl, ?_⟩
      refine iteD (fun e => ?_) (fun ne2 => ?_)
      · exact ⟨_, rfl, _, rfl, _, rfl, theEnd _ fun row n' H' er c1 c2 bx' kp' => kk row n' H' (er.mid k m) (fun _ => er) c1 c2 bx' kp'⟩
      · have km2 : k + 1 ≠ m := fun q2 => ne2 (congrArg V.int (by omega))
        have done : ∀ (row : Str) (n' : Int) (H' : Hp), MidRow hs ps x k m row → n + 3 ≤ n' → n' ≤ n + 30 → BoxAt H' b g l n' → Keeps [b, g] H4 H' → Q (.str row) H' := fun row n' H' mr c1 c2 bx' kp' =>
          kk row n' H' mr (fun e => absurd e km2) (by omega) (by omega) bx' (k4.trans kp')
        -- a call
        refine ⟨_, rfl, rfl, _, rfl, ?_⟩
        refine iteSS (fun e => ?_) (fun ne3 => ?_)
        · refine ⟨_, rfl, _, rfl, _, rfl, _, rfl, t, L, F, as, has, ps, hs, w, x, rfl, dl4, by omega, hx, fun h5 H5 hh s5 => ?_⟩
          obtain ⟨tk, th, eh, _, _⟩ := id hh
          have bx5 := bx4.same s5
          refine ⟨_, _, _, _, rfl, rfl, SqT.of eh, rfl, _, rfl, ?_⟩
          refine ⟨b, g, l, t, L, F, _, x.side, m, as, has, ps, hs, rfl, bx5, by omega, by omega, dl4.same s5, pok, cok, xsd, (fun q2 => by rw [q2] at xm; cases xm), by omega, m30, Lb, Fb, box_notup bx5, fun row n' H' mr c1 c2 bx' kp' => ?_⟩
          exact done row n' H' (mr x k rfl) (by omega) (by omega) bx' ((Same.keeps s5).trans kp')
        obtain ⟨c, hc, lc, pc⟩ := abcde_at (j := j) (by omega)
        have cp := pocket_at pc (by omega)
        have wc : Wd ⟨#[c]⟩ := wd_pk lc
        have l5 : ("move " : Str).length = 5 ∧ ("pick " : Str).length = 5 ∧ ("go " : Str).length = 3 ∧ (" " : Str).length = 1 := by decide +kernel
        have lcs : (⟨#[c]⟩ : Str).length = 1 := rfl
        have zl := sizeLine_eq
        -- a move
        refine ⟨_, rfl, rfl, _, rfl, ?_⟩
        refine iteSS (fun e => ?_) (fun ne4 => ?_)
        · refine ⟨_, rfl, _, _, _, rfl, rfl, abcde_len, hc, _, _, rfl, rfl, by omega, _, _, rfl, rfl, by rw [strLen_append]; omega, ?_⟩
          refine ⟨_, rfl, _, _, rfl, rfl, _, rfl, b, g, l, _, 4, rfl, bx4, by omega, by omega, by decide, by decide, fun j5 H5 j50 j51 bx5 kp5 => ?_⟩
          obtain ⟨r, rfl⟩ : ∃ r : Nat, j5 = r := ⟨j5.toNat, by omega⟩
          have ej : ((j : Nat) : Int) + 1 + (r : Nat) = ((j + 1 + r : Nat) : Int) := by omega
          have em : ((j : Nat) : Int) + 1 + (r : Nat) % 1 = ((j : Nat) : Int) + 1 + (r : Nat) % 1 := rfl
          obtain ⟨d, hd, ld, pd⟩ := abcde_at (j := (j + 1 + r) % 5) (by omega)
          have dp := pocket_at pd (by omega)
          have e5 : (((j : Nat) : Int) + 1 + (r : Nat)) % 5 = (((j + 1 + r) % 5 : Nat) : Int) := by omega
          refine ⟨_, _, rfl, rfl, _, _, rfl, rfl, (by show (0 : Int) < _; decide), ?_⟩
          rw [← e5] at hd
          refine ⟨_, _, _, rfl, rfl, abcde_len, hd, _, _, rfl, rfl, by rw [strLen_append, strLen_append]; show _ + _ + _ + 1 ≤ _; omega, ?_⟩
          obtain ⟨st, est⟩ := rowF_move (hs := hs) (ps := ps) (x := x) (i := k) (m := m) lc ld (by rw [cp, dp]; intro q2; injection q2 with q2; omega)
          refine done _ _ H5 ?_ (by omega) (by omega) bx5 kp5
          rw [move_eq]
          exact mid_three ⟨by decide +kernel, by decide +kernel, by decide +kernel, by decide +kernel, by decide +kernel⟩ wc (wd_pk ld) est
        -- a pick
        refine ⟨_, rfl, rfl, _, rfl, ?_⟩
        refine iteSS (fun e => ?_) (fun ne5 => ?_)
        · have wn := (wd_num (m := q) (by omega)).2.1
          refine ⟨_, rfl, _, rfl, numT_log (n := q) (by omega), _, _, rfl, rfl, by show _ + (numT q).length ≤ _; omega, ?_⟩
          refine done _ _ H4 ?_ (by omega) (by omega) bx4 (Keeps.refl _ _)
          rw [pick_eq]
          exact mid_two ⟨by decide +kernel, by decide +kernel, by decide +kernel, by decide +kernel, by decide +kernel⟩ (wd_num (by omega)) (rowF_pick (by omega))
        -- a go
        refine ⟨_, rfl, rfl, _, rfl, ?_⟩
        refine iteSS (fun e => ?_) (fun ne6 => ?_)
        · have mp : 0 < m - 1 - k := by omega
          have em : (m : Int) - 1 - (k : Int) = ((m - 1 - k : Nat) : Int) := by omega
          have lt := Nat.mod_lt q mp
          have eg : (k : Int) + 1 + (q : Int) % ((m : Int) - 1 - (k : Int)) = ((k + 1 + q % (m - 1 - k) : Nat) : Int) := by
            rw [em, ← Int.natCast_emod]
            omega
          have wn := (wd_num (m := k + 1 + q % (m - 1 - k)) (by omega)).2.1
          refine ⟨_, rfl, _, _, rfl, rfl, _, rfl, _, rfl, _, _, rfl, rfl, _, rfl, _, _, rfl, rfl, _, _, rfl, rfl, (by show (0 : Int) < _; omega), _, _, rfl, rfl, ?_⟩
          refine ⟨_, rfl, by rw [eg]; exact numT_log (by omega), _, _, rfl, rfl, by rw [eg]; show _ + (numT _).length ≤ _; omega, ?_⟩
          refine done _ _ H4 ?_ (by omega) (by omega) bx4 (Keeps.refl _ _)
          rw [eg, go_eq]
          exact mid_two ⟨by decide +kernel, by decide +kernel, by decide +kernel, by decide +kernel, by decide +kernel⟩ (wd_num (by omega)) (rowF_go (by omega) (by omega))
        have lf := menu_left pz ne1 ne3 ne4 ne5 ne6
        have last : Q (.str ((wd0 ++ " ") ++ ⟨#[c]⟩)) H4 := by
          refine done _ _ H4 ?_ (by omega) (by omega) bx4 (Keeps.refl _ _)
          rcases lf with e | e
          · obtain ⟨st, est⟩ := rowF_pocket (hs := hs) (ps := ps) (x := x) (i := k) (m := m) e lc
            exact mid_two wdW wc est
          · obtain ⟨st, est⟩ := rowF_use (hs := hs) (ps := ps) (x := x) (i := k) (m := m) (pk_place lc)
            rw [e]
            exact mid_two (e ▸ wdW) wc est
        refine ⟨_, rfl, rfl, _, rfl, ?_⟩
        refine iteSS (fun e => ?_) (fun ne7 => ?_)
        · refine ⟨_, rfl, _, _, rfl, rfl, (by show (0 : Int) < _; decide), rfl, _, rfl, ?_⟩
          refine iteD (fun e3 => ?_) (fun ne8 => ?_)
          · show Q (.str "use shelf") H4
            refine done _ _ H4 ?_ (by omega) (by omega) bx4 (Keeps.refl _ _)
            obtain ⟨st, est⟩ := rowF_use (hs := hs) (ps := ps) (x := x) (i := k) (m := m) (c := "shelf") (by decide +kernel)
            rw [use_shelf]
            exact mid_two ⟨by decide +kernel, by decide +kernel, by decide +kernel, by decide +kernel, by decide +kernel⟩ (wd_pl (by decide +kernel)) est
          · exact ⟨_, rfl, _, _, rfl, rfl, by have := wdW.2.1; omega, _, rfl, _, _, _, rfl, rfl, abcde_len, hc, _, _, rfl, rfl, by rw [strLen_append]; have := wdW.2.1; omega, last⟩
        · refine iteF ?_
          exact ⟨_, rfl, _, _, rfl, rfl, by have := wdW.2.1; omega, _, rfl, _, _, _, rfl, rfl, abcde_len, hc, _, _, rfl, rfl, by rw [strLen_append]; have := wdW.2.1; omega, last⟩

open My (Hr wd glue cut dS onV valS putS)
/-! ### drawn rows -/
def sp_any_rows : Sp := fun vs H Q _ => ∃ (b g l t L F : Addr) (n : Int) (m : Nat) (as has : List Addr) (ps : List My.Pr) (hs : List Hr) (w : Str) (x : Hr), vs = [.ref b, .ref t, .str w, .int (m : Nat)] ∧ BoxAt H b g l n ∧ 0 ≤ n ∧ n < 5000000 ∧ DealAt H t L F as has ps hs ∧ My.PairsOk ps ∧ My.CrewOk ps hs ∧ crewOf w hs = some x ∧ 0 < m ∧ m ≤ 30 ∧
  L ∉ [b, g] ∧ F ∉ [b, g] ∧ NoTup H [b, g] ∧ ∀ (R : Addr) (rows : List Str) (n' : Int) (H' : Hp), H R = none → H' R = some (.lst (rows.map V.str)) → rows.length = m → (∀ (k : Nat) (row : Str), rows[k]? = some row → MidRow hs ps x k m row) → (∀ row, rows[m - 1]? = some row → EndRow hs ps x row) → n ≤ n' → n' ≤ n + 1000 → BoxAt H' b g l n' → Keeps [b, g] H H' → Q (.ref R) H'
theorem ok_any_rows (T : Txt K mg a) : FnOk P w K mg base CX0 6 a.f_any_rows a.d_any_rows ["_law_box_here", "_law_deal", "_law_name", "_law_many"] sp_any_rows := by
  refine T.F_any_rows.ok sc_any_rows (fun vs H Q E h => ?_) (fun cdv A outer s H vs Q E hr h => ?_)
  · obtain ⟨b, g, l, t, L, F, n, m, as, has, ps, hs, w, x, rfl, _⟩ := h
    rfl
  · obtain ⟨b, g, l, t, L, F, n, m, as, has, ps, hs, w, x, rfl, bx, n0, n1, dl, pok, cok, hx, m0, m30, Lb, Fb, nb, kk⟩ := h
    refine ⟨_, (pss_one (ps_ret (pe_lc (own := [("_law_at", 4)]) (g := gName 4) (te := tCall sp_any_row [] (fun _ _ _ => False) (tCons (tVar 0) (tCons (tVar 1) (tCons (tVar 2) (tCons (tVar 4) (tCons (tVar 3) tNil)))))) (tt := tYes) rfl sc_any_rows.nd (pi_range1 (by rfl) T.z_range (pa_cons (pv 3) pa_nil)) (blkOk_by (own := [("_law_at", 4)]) (N := ["_law_box_here", "_law_deal", "_law_name", "_law_many", "_law_at"]) (sc := defScope s_any_rows) (by decide +kernel)) (fun _ _ _ _ _ => pg_name (i := 4) sc_any_rows.nd rfl (Or.inl rfl)) (fun _ _ _ _ _ => pts_nil) (fun _ _ _ _ _ => by exact (pe_call (ok_any_row T) (hr.mono (by decide)) rfl T.g_any_row T.k_any_row T.B_any_row .nil pass0 (pa_cons (pv 0) (pa_cons (pv 1) (pa_cons (pv 2) (pa_cons (pv 4) (pa_cons (pv 3) pa_nil)))))))))), ?_⟩
    refine ⟨_, rfl, (m : Nat), rfl, by omega, by omega, fun D hD => ?_⟩
    have Db := offbox bx hD
    have o0 : WSt b g l H (upd H D (.lst [])) n D [] := ⟨⟨_, bx⟩, bx.upd hD, (Keeps.refl _ H).upd (.inr hD), hD, upd_same⟩
    refine lc_range (lo := 0) (n := ((m : Nat) : Int).toNat) (fun i H6 => Blk (∃ (rows : List Str) (n6 : Int), rows.length = i ∧ (∀ (k : Nat) (row : Str), rows[k]? = some row → MidRow hs ps x k m row) ∧ (∀ row, rows[m - 1]? = some row → EndRow hs ps x row) ∧ n ≤ n6 ∧ n6 ≤ n + 30 * (i : Nat) ∧ WSt b g l H H6 n6 D rows)) ?_ ?_ ?_
    · exact Blk.of ⟨[], n, rfl, (fun k row e => by simp at e), (fun row e => by simp at e), by omega, by omega, o0⟩
    · intro i H6 hi6 hB
      obtain ⟨rows, n6, rfl, mid, lst, c1, c2, o6⟩ := hB.out
      have dl6 := dl.keep o6.kp nb Lb Fb
      refine ⟨rfl, ?_⟩
      dsimp only [tYes]
      refine iteT ?_
      have e0 : (0 : Int) + (rows.length : Nat) = (rows.length : Nat) := by omega
      refine ⟨_, rfl, _, rfl, _, rfl, _, rfl, _, rfl, b, g, l, t, L, F, n6, rows.length, m, as, has, ps, hs, w, x, congrArg (fun z => [V.ref b, V.ref t, V.str w, V.int z, V.int (m : Nat)]) e0, o6.bx, by omega, by omega, dl6, pok, cok, hx, by omega, m30, Lb, Fb, box_notup o6.bx, fun row n7 H7 mr er d1 d2 bx7 kp7 => ?_⟩
      have o7 := o6.step bx7 kp7
      refine ⟨_, o7.at_, by rw [List.length_map]; exact small (by omega), Blk.of ⟨rows ++ [row], n7, by rw [List.length_append]; rfl, ?_, ?_, by omega, by omega, ?_⟩⟩
      · intro k row2 e
        by_cases q : k < rows.length
        · rw [List.getElem?_append_left q] at e
          exact mid k row2 e
        · have q2 := get_lt e
          rw [List.length_append] at q2
          obtain rfl : k = rows.length := by simp at q2; omega
          rw [List.getElem?_append_right (Nat.le_refl _), Nat.sub_self] at e
          rw [← show row = row2 from Option.some.inj e]
          exact mr
      · intro row2 e
        by_cases q : m - 1 < rows.length
        · rw [List.getElem?_append_left q] at e
          exact lst row2 e
        · have q2 := get_lt e
          rw [List.length_append] at q2
          have q3 : m - 1 = rows.length := by simp at q2; omega
          rw [q3, List.getElem?_append_right (Nat.le_refl _), Nat.sub_self] at e
          rw [← show row = row2 from Option.some.inj e]
          exact er (by omega)
      · exact o7.app row
    · intro H6 hB
      obtain ⟨rows, n6, hl, mid, lst, c1, c2, o6⟩ := hB.out
      exact kk D rows n6 H6 hD o6.at_ (by omega) mid lst c1 (by omega) o6.bx o6.kp
/-! ### a side, made or refused -/
theorem SideAt.same {C CB : Addr} {hs : List Hr} {ps : List My.Pr} {H H' : Hp} {s dx p BD DP : Addr} {i : Int} {tx : List (Str × Str)} {bs : List (Str × Addr)} (h : SideAt C CB hs ps H s dx p BD DP i tx bs) (k : Same H H') : SideAt C CB hs ps H' s dx p BD DP i tx bs :=
  ⟨k _ _ h.ob, k _ _ h.bd, k _ _ h.dp, fun e he => let ⟨t, x, h1, h2, h3⟩ := h.bo e he; ⟨t, x, h1, h2, h3.same k⟩⟩
def tb_sided (K : PySem.W.Frag) (CN CH C CB CP : Addr) (W : WX) : TS := tAsg (tTup (tCons (tC (.str "made")) (tCons (tMakeAt C (sp_SideInit CN CH C CB CP) (WE W) (tCons (tMake CP (sp_Pinit CP) [] E0 (tCons (tOp (rIxT K) (tVar 0) (tC (.int 0))) (tCons (tOp (rIxT K) (tVar 0) (tC (.int 1))) tNil))) (tCons (tVar 1) (tCons (tVar 2) tNil)))) tNil))) (gName 3)
def ts_sided1 (CN : Addr) : Addr → Value → Option Addr → TS := fun z cls d => tAsg (tTup (tCons (tC (.str "NoBody")) (tCons (tTup (tCons (tXf z cls d CN "name" (tVar 4)) (tCons (tXf z cls d CN "at" (tVar 4)) tNil))) tNil))) (gName 3)
def ts_sided2 (CH : Addr) : Addr → Value → Option Addr → TS := fun z cls d => tAsg (tTup (tCons (tC (.str "NoHelper")) (tCons (tXf z cls d CH "name" (tVar 4)) tNil))) (gName 3)
def sp_sided (C CB CP : Addr) : Sp := fun vs H Q _ => ∃ (t L F D : Addr) (as has : List Addr) (ps : List My.Pr) (hs : List Hr) (i : Int) (tx : List (Str × Str)), vs = [.ref t, .int i, .ref D] ∧ DealAt H t L F as has ps hs ∧ My.PairsOk ps ∧ My.CrewOk ps hs ∧
  H D = some (.dK (dS (onV V.str tx))) ∧ (tx.map (·.1)).Nodup ∧ tx.length ≤ 20 ∧ (∀ e, e ∈ tx → e.1.length ≤ 1000 ∧ e.2.length ≤ 9000) ∧
  (∀ (ys : List Str) (k : Nat) (n : Str), ys.Perm (namesOf i hs ++ tx.map (·.1)) → PyProof.Rows.sortedS ys = true → ys[k]? = some n → amiss (namesOf i hs) (tx.map (·.1)) n → (∀ j z, j < k → ys[j]? = some z → ¬ amiss (namesOf i hs) (tx.map (·.1)) z) →
    ∀ (r : Addr) (H' : Hp), H' r = some (.tup [.str "NoHelper", .str n]) → Same H H' → Q (.ref r) H') ∧
  ((∀ n, n ∈ namesOf i hs ++ tx.map (·.1) → ¬ amiss (namesOf i hs) (tx.map (·.1)) n) → ∃ at_ : Hr → Option Int, (∀ x, x ∈ ofSide i hs → ∃ text, valS tx x.name = some text ∧ BodyIs hs ps x text (at_ x)) ∧
    (∀ (k : Nat) (x : Hr) (n : Int), (ofSide i hs)[k]? = some x → at_ x = some n → (∀ (j : Nat) (z : Hr), j < k → (ofSide i hs)[j]? = some z → at_ z = none) → ∀ (r q : Addr) (H' : Hp), H' q = some (.tup [.str x.name, .int n]) → H' r = some (.tup [.str "NoBody", .ref q]) → Same H H' → Q (.ref r) H') ∧
    ((∀ x, x ∈ ofSide i hs → at_ x = none) → ∀ (r s dx p pl hl BD DP : Addr) (bs : List (Str × Addr)) (H' : Hp), H' r = some (.tup [.str "made", .ref s]) → SideAt C CB hs ps H' s dx p BD DP i tx bs → H BD = none → H DP = none → bs.map (·.1) = namesOf i hs → PactsAt CP H' p pl hl as ps → CrewAt H' hl has hs → Same H H' → Q (.ref r) H'))
theorem ok_sided (T : Txt K mg a) : FnOk P w K mg base CX0 14 a.f_sided a.d_sided ["_law_deal", "_law_team", "_law_texts"] (sp_sided a.c_Side a.c_Body a.c_Pacts) := by
  refine T.F_sided.ok sc_sided (fun vs H Q E h => ?_) (fun cdv A outer s H vs Q E hr h => ?_)
  · obtain ⟨t, L, F, D, as, has, ps, hs, i, tx, rfl, _⟩ := h
    rfl
  · obtain ⟨t, L, F, D, as, has, ps, hs, i, tx, rfl, dl, pok, cok, hD, nd, few, small_, ka, kb⟩ := h
    refine ⟨_, (pss_cons (ps_set (i := 3) sc_sided.nd rfl (Or.inl rfl) (pe_tup (pa_cons pe_str (pa_cons pe_non pa_nil))))
      (pss_cons (ps_try_named (tb := tb_sided K a.c_NoBody a.c_NoHelper a.c_Side a.c_Body a.c_Pacts) (l := [(.ref a.c_NoBody, 4, ts_sided1 a.c_NoBody), (.ref a.c_NoHelper, 4, ts_sided2 a.c_NoHelper)]) (Wout := fun _ _ _ _ => False) rfl rfl sc_sided.nd takes0 (fun W pn xe tk _ => (pss_one (ps_set (i := 3) sc_sided.nd rfl (Or.inl rfl) (pe_tup (pa_cons pe_str (pa_cons (pe_makeAt T.mk_Side (ok_Side_init T) (hr.mono (by decide)) rfl T.g_Side T.B_Side_init (fun σ => passAt tk σ) (pa_cons (pe_make T.mk_Pacts (ok_Pacts_init T) (hr.mono (by decide)) rfl T.g_Pacts T.B_Pacts_init .nil pass0 (pa_cons (pe_ix ix_tup (pv 0) pe_int (fun _ _ => rfl)) (pa_cons (pe_ix ix_tup (pv 0) pe_int (fun _ _ => rfl)) pa_nil))) (pa_cons (pv 1) (pa_cons (pv 2) pa_nil)))) pa_nil)))))) (HdN.cons ⟨rfl, by decide, Or.inl T.g_NoBody⟩ rfl rfl (fun z oz cls d pn hz hf => (pss_one (ps_set (i := 3) sc_sided.nd rfl (Or.inl rfl) (pe_tup (pa_cons pe_str (pa_cons (pe_tup (pa_cons (pe_xf T.xf_NoBody T.n_NoBody_name hz hf (pv 4)) (pa_cons (pe_xf T.xf_NoBody T.n_NoBody_at hz hf (pv 4)) pa_nil))) pa_nil)))))) (HdN.cons ⟨rfl, by decide, Or.inl T.g_NoHelper⟩ rfl rfl (fun z oz cls d pn hz hf => (pss_one (ps_set (i := 3) sc_sided.nd rfl (Or.inl rfl) (pe_tup (pa_cons pe_str (pa_cons (pe_xf T.xf_NoHelper T.n_NoHelper_name hz hf (pv 4)) pa_nil)))))) HdN.nil)))
      (pss_one (ps_ret (pv 3))))), ?_⟩
    refine ⟨by show 2 ≤ sizeLine; decide, fun t0 ht0 => ?_⟩
    have s1 : Same H (upd H t0 (.tup [.str "odd", .non])) := (Same.refl H).upd ht0
    generalize (upd H t0 (.tup [.str "odd", .non])) = H1 at s1 ⊢
    have dl1 := dl.same s1
    refine ⟨_, rfl, _, _, _, _, rfl, rfl, SqT.of dl1.tp, rfl, _, rfl, _, _, _, _, rfl, rfl, SqT.of dl1.tp, rfl, fun p px np npx nex => ?_⟩
    have s2 : Same H (upd (upd H1 px (.own p)) p (.ins a.c_Pacts px [])) := (s1.upd (s1.free npx)).upd (s1.free np)
    have s12 : Same H1 (upd (upd H1 px (.own p)) p (.ins a.c_Pacts px [])) := ((Same.refl H1).upd npx).upd np
    have ep : (upd (upd H1 px (.own p)) p (.ins a.c_Pacts px [])) p = some (.ins a.c_Pacts px []) := upd_same
    have np0 := s1.free np
    generalize (upd (upd H1 px (.own p)) p (.ins a.c_Pacts px [])) = H2 at s2 s12 ep ⊢
    have dl2 := dl1.same s12
    refine ⟨p, px, L, F, as, has, ps, hs, rfl, ep, dl2.hL, dl2.hF, dl2.ob, dl2.cr, pok, cok, fun pl hl H3 _ _ pa cr kp => ⟨rfl, ?_⟩⟩
    have s3 : Same H H3 := keeps_same s2 kp np0
    refine ⟨_, rfl, _, rfl, fun sd sx nsd nsx nesx => ?_⟩
    have s4 : Same H (upd (upd H3 sx (.own sd)) sd (.ins a.c_Side sx [])) := (s3.upd (s3.free nsx)).upd (s3.free nsd)
    have s34 : Same H3 (upd (upd H3 sx (.own sd)) sd (.ins a.c_Side sx [])) := ((Same.refl H3).upd nsx).upd nsd
    have es : (upd (upd H3 sx (.own sd)) sd (.ins a.c_Side sx [])) sd = some (.ins a.c_Side sx []) := upd_same
    have nsd0 := s3.free nsd
    generalize (upd (upd H3 sx (.own sd)) sd (.ins a.c_Side sx [])) = H4 at s4 s34 es ⊢
    refine ⟨sd, sx, p, pl, hl, D, as, has, ps, hs, i, tx, rfl, es, pa.same s34, cr.same s34, cok, s4 _ _ hD, nd, few, small_, fun ys k n perm srt hk am fst => ?_, fun fine => ?_⟩
    · intro d H5 kp5 hd h5
      have s5 : Same H H5 := keeps_same s4 kp5 nsd0
      refine ⟨false, T.fe_HB, fun q => Bool.noConfusion q, fun _ => ⟨true, T.fe_HH, fun _ z hz => ?_, fun q => Bool.noConfusion q⟩⟩
      refine ⟨_, rfl, rfl, rfl, d, _, _, rfl, h5, rfl, ?_⟩
      refine ⟨by show 2 ≤ sizeLine; decide, fun r hr => ?_⟩
      exact ⟨_, rfl, ka ys k n perm srt hk am fst r _ upd_same (s5.upd (s5.free hr))⟩
    · obtain ⟨at_, hat, hbad, hok⟩ := kb fine
      refine ⟨at_, hat, fun k x n hk hn fst => ?_, fun all BD DP bs H5 sa nBD nDP bk kp5 => ⟨rfl, ?_⟩⟩
      · intro d H5 kp5 hd h5
        have s5 : Same H H5 := keeps_same s4 kp5 nsd0
        refine ⟨true, T.fe_BB, fun _ z hz => ?_, fun q => Bool.noConfusion q⟩
        refine ⟨_, rfl, rfl, rfl, d, _, _, rfl, h5, rfl, ?_⟩
        refine ⟨_, rfl, rfl, rfl, d, _, _, rfl, h5, rfl, ?_⟩
        refine ⟨by show 2 ≤ sizeLine; decide, fun q hq => ?_⟩
        refine ⟨by show 2 ≤ sizeLine; decide, fun r hr => ?_⟩
        have s6 : Same H5 (upd (upd H5 q (.tup [.str x.name, .int n])) r (.tup [.str "NoBody", .ref q])) := ((Same.refl H5).upd hq).upd (((Same.refl H5).upd hq).free hr)
        have nqr : q ≠ r := ne_of_none upd_same hr
        exact ⟨_, rfl, hbad k x n hk hn fst r q _ (by rw [upd_ne nqr]; exact upd_same) upd_same (s5.trans s6)⟩
      · have s5 : Same H H5 := keeps_same s4 kp5 nsd0
        have s35 : Same H3 H5 := keeps_same s34 kp5 nsd
        refine ⟨by show 2 ≤ sizeLine; decide, fun r hr => ?_⟩
        have s6 : Same H5 (upd H5 r (.tup [.str "made", .ref sd])) := (Same.refl H5).upd hr
        exact ⟨_, rfl, hok all r sd sx p pl hl BD DP bs _ upd_same (sa.same s6) (s4.free nBD) (s4.free nDP) bk (pa.same (s35.trans s6)) (cr.same (s35.trans s6)) (s5.trans s6)⟩

open My (Hr wd glue cut dS onV valS putS)
/-! ### rows that are not there -/
def tb_no_row (CR C CB : Addr) (W : WX) : TS := tDrop (tMethAt C "place" (sp_SplaceX CR C CB) (WE W) (tVar 0) (tCons (tVar 1) (tCons (tVar 2) tNil)))
def ts_no_row (CR : Addr) : Addr → Value → Option Addr → TS := fun z cls d => tAsg (tXf z cls d CR "at" (tVar 4)) (gName 3)
theorem sfs_no2 {p BD DP : Addr} {i : Int} : (sfs p i BD DP).lookup ("place" : Str) = none := by kernel_rfl
def sp_no_row (C CB : Addr) : Sp := fun vs H Q _ => ∃ (s dx p BD DP : Addr) (i : Int) (tx : List (Str × Str)) (bs : List (Str × Addr)) (hs : List Hr) (ps : List My.Pr) (x : Hr) (n text : Str) (b : Addr) (k : Int), vs = [.ref s, .str n, .int k] ∧ SideAt C CB hs ps H s dx p BD DP i tx bs ∧ valS bs n = some b ∧ BodyAt CB hs ps x H b text ∧
  (k < 0 ∨ ((My.cut 10 text).length : Int) ≤ k) ∧ k.natAbs.log2 < 1920 ∧ ∀ H', Same H H' → Q (.bl true) H'
theorem ok_no_row (T : Txt K mg a) : FnOk P w K mg base CX0 5 a.f_no_row a.d_no_row ["_law_made", "_law_name", "_law_row"] (sp_no_row a.c_Side a.c_Body) := by
  refine T.F_no_row.ok sc_no_row (fun vs H Q E h => ?_) (fun cdv A outer s H vs Q E hr h => ?_)
  · obtain ⟨s, dx, p, BD, DP, i, tx, bs, hs, ps, x, n, text, b, k, rfl, _⟩ := h
    rfl
  · obtain ⟨s, dx, p, BD, DP, i, tx, bs, hs, ps, x, n, text, b, k, rfl, sd, hb, bo, hk, hl, kk⟩ := h
    refine ⟨_, (pss_cons (ps_set (i := 3) sc_no_row.nd rfl (Or.inl rfl) pe_non)
      (pss_cons (ps_try_named (tb := tb_no_row a.c_NoRow a.c_Side a.c_Body) (l := [(.ref a.c_NoRow, 4, ts_no_row a.c_NoRow)]) (Wout := fun _ _ _ _ => False) rfl rfl sc_no_row.nd takes0 (fun W pn xe tk _ => (pss_one (ps_expr (pe_methAt (pv 0) T.cl_Side T.m_Side_place (ok_Side_placeX T) (hr.mono (by decide)) T.B_Side_place (fun σ => passAt tk σ) (pa_cons (pv 1) (pa_cons (pv 2) pa_nil)))))) (HdN.cons ⟨rfl, by decide, Or.inl T.g_NoRow⟩ rfl rfl (fun z oz cls d pn hz hf => (pss_one (ps_set (i := 3) sc_no_row.nd rfl (Or.inl rfl) (pe_xf T.xf_NoRow T.n_NoRow_at hz hf (pv 4))))) HdN.nil))
      (pss_one (ps_ret (pe_and (pe_cmpR op_eq (pv 3) (pv 2) (nomark _)) (pe_one (pe_not (pe_callB call_isi (by rfl) T.z_isinstance (by decide +kernel) (pa_cons (pv 3) (pa_cons (pe_bltn (v := .ty "bool") (by rfl) T.z_bool (by decide +kernel) rfl) pa_nil)))))))))), ?_⟩
    refine ⟨_, rfl, s, dx, _, rfl, sd.ob, sfs_no2, _, rfl, _, rfl, ?_⟩
    refine ⟨s, dx, p, BD, DP, i, tx, bs, hs, ps, x, n, text, b, k, rfl, sd, hb, bo, hk, hl, fun d H1 s1 hd h1 => ?_⟩
    refine ⟨true, T.fe_RR, fun _ z hz => ?_, fun q => Bool.noConfusion q⟩
    refine ⟨_, rfl, rfl, rfl, d, _, _, rfl, h1, rfl, ?_⟩
    refine ⟨_, rfl, _, rfl, rfl, ?_⟩
    refine ⟨_, rfl, iteD (fun _ => ?_) (fun q => absurd rfl q)⟩
    refine ⟨_, rfl, _, _, _, _, false, rfl, .ty "bool", .base (.int k), kit_ty (by decide +kernel), ?_⟩
    exact ⟨_, rfl, kk H1 s1⟩

open My (Hr)
def prD (z : My.Pr) : PyData := .tuple [.str z.1, .str z.2.1, .bool z.2.2]
def hrD (x : Hr) : PyData := .tuple [.str x.name, .int x.side, .tuple (x.takes.map PyData.str), .bool x.gives, .tuple (x.throws.map PyData.str)]
theorem strs_lay : ∀ ts : List Str, (∀ t, t ∈ ts → WOk t) → PyData.canLayAll0 (ts.map PyData.str) = true
  | [], _ => rfl
  | t :: r, h => by
    rw [List.map_cons, PyData.canLayAll0, PyData.canLay0, (h t List.mem_cons_self).2, strs_lay r fun q hq => h q (List.mem_cons_of_mem _ hq)]
    rfl
theorem strs_deep : ∀ ts : List Str, PyData.depthAll (ts.map PyData.str) ≤ 0
  | [] => by simp [PyData.depthAll]
  | t :: r => by
    rw [List.map_cons, PyData.depthAll, PyData.depth]
    have := strs_deep r
    omega
theorem prD_lay {z : My.Pr} (h : WOk z.1 ∧ WOk z.2.1) : (prD z).canLay0 = true := by simp [prD, PyData.canLay0, PyData.canLayAll0, h.1.2, h.2.2]
theorem prD_deep (z : My.Pr) : (prD z).depth = 1 := by simp [prD, PyData.depth, PyData.depthAll]
theorem hrD_lay {x : Hr} (h : HrOk x) : (hrD x).canLay0 = true := by
  simp [hrD, PyData.canLay0, PyData.canLayAll0, h.nm.2, strs_lay _ h.tk, strs_lay _ h.th]
theorem hrD_deep (x : Hr) : (hrD x).depth ≤ 3 := by
  have h1 := strs_deep x.takes
  have h2 := strs_deep x.throws
  simp only [hrD, PyData.depth, PyData.depthAll]
  omega
theorem all_lay {α : Type} (f : α → PyData) : ∀ zs : List α, (∀ z, z ∈ zs → (f z).canLay0 = true) → PyData.canLayAll0 (zs.map f) = true
  | [], _ => rfl
  | z :: r, h => by
    rw [List.map_cons, PyData.canLayAll0, h z List.mem_cons_self, all_lay f r fun q hq => h q (List.mem_cons_of_mem _ hq)]
    rfl
theorem all_deep {α : Type} (f : α → PyData) (n : Nat) (h : ∀ z, (f z).depth ≤ n) : ∀ zs : List α, PyData.depthAll (zs.map f) ≤ n
  | [] => by simp [PyData.depthAll]
  | z :: r => by
    rw [List.map_cons, PyData.depthAll]
    have h1 := all_deep f n h r
    have h2 := h z
    omega
theorem dp_prs {K : PySem.W.Frag} {H : Hp} : ∀ {as : List Addr} {ps : List My.Pr}, Objs H as prO ps → DpAll K H (as.map V.ref) (ps.map prD)
  | [], [], _ => .nil
  | h :: hs, z :: zs, o => .cons (.tup (SqT.of (o.at_ 0 h z rfl rfl)) (.cons (.str _) (.cons (.str _) (.cons (.bl _) .nil)))) (dp_prs ⟨by have := o.len; simpa using this, fun i h' z' a b => o.at_ (i + 1) h' z' (by simpa using a) (by simpa using b)⟩)
  | [], _ :: _, o => by have := o.len; simp at this
  | _ :: _, [], o => by have := o.len; simp at this
theorem dp_strs {K : PySem.W.Frag} {H : Hp} : ∀ ts : List Str, DpAll K H (ts.map V.str) (ts.map PyData.str)
  | [] => .nil
  | t :: r => .cons (.str t) (dp_strs r)
theorem dp_hr {K : PySem.W.Frag} {H : Hp} {h : Addr} {x : Hr} (e : HrAt H h x) : Dp K H (.ref h) (hrD x) := by
  obtain ⟨tk, th, e1, e2, e3⟩ := e
  exact .tup (SqT.of e1) (.cons (.str _) (.cons (.int _) (.cons (.tup e2.seq (dp_strs _)) (.cons (.bl _) (.cons (.tup e3.seq (dp_strs _)) .nil)))))
theorem dp_hrs {K : PySem.W.Frag} {H : Hp} : ∀ {as : List Addr} {hs : List Hr}, Crew H as hs → DpAll K H (as.map V.ref) (hs.map hrD)
  | [], [], _ => .nil
  | h :: hs, z :: zs, o => .cons (dp_hr (AllAt.at_ o 0 h z rfl rfl)) (dp_hrs ⟨by have := AllAt.len o; simpa using this, fun i h' z' a b => AllAt.at_ o (i + 1) h' z' (by simpa using a) (by simpa using b)⟩)
  | [], _ :: _, o => by have := AllAt.len o; simp at this
  | _ :: _, [], o => by have := AllAt.len o; simp at this
theorem shaped_of {d : PyData} (h1 : d.canLay0 = true) (h2 : d.depth ≤ 60) : SeqAt.shaped d = true := by
  unfold SeqAt.shaped
  rw [h1]
  exact decide_eq_true (by omega)

open My (Hr)
/-! ### when data of pairs and helpers are equal -/
theorem beq_dec {α : Type} [BEq α] [LawfulBEq α] [DecidableEq α] (a b : α) : (a == b) = decide (a = b) := by
  by_cases h : a = b
  · rw [decide_eq_true h, h]
    exact beq_self_eq_true b
  · rw [decide_eq_false h]
    exact beq_eq_false_iff_ne.mpr h
theorem prD_eqv (p q : My.Pr) : PyData.eqv (prD p) (prD q) = decide (p = q) := by
  obtain ⟨p1, p2, p3⟩ := p
  obtain ⟨q1, q2, q3⟩ := q
  simp [prD, PyData.eqv, PyData.eqvAll, beq_dec]
theorem all_eqv {α : Type} [DecidableEq α] {f : α → PyData} (h : ∀ a b, PyData.eqv (f a) (f b) = decide (a = b)) : ∀ xs ys : List α, PyData.eqvAll (xs.map f) (ys.map f) = decide (xs = ys)
  | [], [] => by simp [PyData.eqvAll]
  | [], _ :: _ => by simp [PyData.eqvAll]
  | _ :: _, [] => by simp [PyData.eqvAll]
  | x :: xs, y :: ys => by
    simp [PyData.eqvAll, h, all_eqv h xs ys]
theorem str_eqv (s t : Str) : PyData.eqv (PyData.str s) (PyData.str t) = decide (s = t) := by simp [PyData.eqv, beq_dec]
theorem hrD_eqv (x y : Hr) : PyData.eqv (hrD x) (hrD y) = decide (x = y) := by
  obtain ⟨x1, x2, x3, x4, x5⟩ := x
  obtain ⟨y1, y2, y3, y4, y5⟩ := y
  have h3 := all_eqv str_eqv x3 y3
  have h5 := all_eqv str_eqv x5 y5
  simp [hrD, PyData.eqv, PyData.eqvAll, beq_dec, h3, h5]
theorem prs_eqv (ps qs : List My.Pr) : PyData.eqv (.list (ps.map prD)) (.list (qs.map prD)) = decide (ps = qs) := by
  rw [PyData.eqv]
  exact all_eqv prD_eqv ps qs
theorem hrs_eqv (hs ks : List Hr) : PyData.eqv (.list (hs.map hrD)) (.list (ks.map hrD)) = decide (hs = ks) := by
  rw [PyData.eqv]
  exact all_eqv hrD_eqv hs ks
/-! ### == of Pacts -/
theorem prs_data {ps : List My.Pr} (ok : My.PairsOk ps) : SeqAt.shaped (.list (ps.map prD)) = true := by
  have lay1 : (PyData.list (ps.map prD)).canLay0 = true := by rw [PyData.canLay0]; exact all_lay prD ps fun z hz => prD_lay ⟨name_wok (ok.nm z hz).1, name_wok (ok.nm z hz).2⟩
  have dp1 := all_deep prD 1 (fun z => by rw [prD_deep]; omega) ps
  exact shaped_of lay1 (by simp only [PyData.depth]; omega)
theorem hrs_data {hs : List Hr} (ok : ∀ x, x ∈ hs → HrOk x) : SeqAt.shaped (.list (hs.map hrD)) = true := by
  have lay1 : (PyData.list (hs.map hrD)).canLay0 = true := by rw [PyData.canLay0]; exact all_lay hrD hs fun z hz => hrD_lay (ok z hz)
  have dp1 := all_deep hrD 3 hrD_deep hs
  exact shaped_of lay1 (by simp only [PyData.depth]; omega)
theorem cls_Pacts (T : Txt K mg a) : CmpC K a.c_Pacts a.f_Pacts_eq := ⟨T.m_Pacts_eq.at_, T.pn_1, T.m_Pacts_eq.fn, T.pn_2⟩
def sp_Peq (C : Addr) : Sp := fun vs H Q _ => ∃ (p pl hl q ql kl : Addr) (as has bs kas : List Addr) (ps qs : List My.Pr) (hs ks : List Hr), vs = [.ref p, .ref q] ∧ PactsAt C H p pl hl as ps ∧ CrewAt H hl has hs ∧ PactsAt C H q ql kl bs qs ∧ CrewAt H kl kas ks ∧
  My.PairsOk ps ∧ My.PairsOk qs ∧ (∀ x, x ∈ hs → HrOk x) ∧ (∀ x, x ∈ ks → HrOk x) ∧ Q (.bl (decide (ps = qs) && decide (hs = ks))) H
theorem ok_Pacts_eq (T : Txt K mg a) : FnOk P w K mg base CX0 1 a.f_Pacts_eq a.d_Pacts_eq ["self", "other"] (sp_Peq a.c_Pacts) := by
  refine T.F_Pacts_eq.ok sc_Pacts_eq (fun vs H Q E h => ?_) (fun cdv A outer s H vs Q E hr h => ?_)
  · obtain ⟨p, pl, hl, q, ql, kl, as, has, bs, kas, ps, qs, hs, ks, rfl, _⟩ := h
    rfl
  · obtain ⟨p, pl, hl, q, ql, kl, as, has, bs, kas, ps, qs, hs, ks, rfl, pa, cr, qa, dr, pok, qok, hok, kok, kk⟩ := h
    refine ⟨_, (pss_one (ps_ret (pe_and (pe_callB call_isi (by rfl) T.z_isinstance (by decide +kernel) (pa_cons (pv 1) (pa_cons (pe_glob (v := .ref a.c_Pacts) rfl T.g_Pacts rfl) pa_nil))) (pe_and (pe_cmpR (op_eqD hr.units) (pe_fld (pv 0) rfl) (pe_fld (pv 1) rfl) (nomark _)) (pe_one (pe_cmpR (op_eqD hr.units) (pe_fld (pv 0) rfl) (pe_fld (pv 1) rfl) (nomark _))))))), ?_⟩
    obtain ⟨dx, e0⟩ := pa.ob
    obtain ⟨dy, f0⟩ := qa.ob
    refine ⟨_, rfl, _, _, _, _, true, rfl, .own _, .base (.ins f0 T.cl_Pacts T.pn_7 T.fg T.ft T.pn_2), T.pn_8, true, rfl, ?_⟩
    refine iteT ?_
    refine ⟨_, rfl, _, _, _, _, _, rfl, e0, T.cl_Pacts, T.n_Pacts__pairs, pfs_p, _, rfl, _, _, _, _, _, rfl, f0, T.cl_Pacts, T.n_Pacts__pairs, pfs_p, ?_⟩
    refine ⟨.list (ps.map prD), .list (qs.map prD), .lst (SqL.of pa.lp) (dp_prs pa.ps), .lst (SqL.of qa.lp) (dp_prs qa.ps), prs_data pok, prs_data qok, ?_⟩
    rw [prs_eqv]
    refine ⟨_, rfl, ?_⟩
    refine iteD (fun c1 => ?_) (fun c1 => ?_)
    · refine ⟨_, rfl, _, _, _, _, _, rfl, e0, T.cl_Pacts, T.n_Pacts__helpers, pfs_h, _, rfl, _, _, _, _, _, rfl, f0, T.cl_Pacts, T.n_Pacts__helpers, pfs_h, ?_⟩
      refine ⟨.list (hs.map hrD), .list (ks.map hrD), .lst (SqL.of cr.lh) (dp_hrs cr.hs), .lst (SqL.of dr.lh) (dp_hrs dr.hs), hrs_data hok, hrs_data kok, ?_⟩
      rw [hrs_eqv]
      rw [decide_eq_true c1, Bool.true_and] at kk
      exact kk
    · rw [decide_eq_false c1, Bool.false_and] at kk
      exact kk

open My (Hr wd glue cut dS onV valS putS)
/-! ### what a side tells -/
theorem strs_lay2 : ∀ ts : List Str, (∀ t, t ∈ ts → PyData.strOk t = true) → PyData.canLayAll0 (ts.map PyData.str) = true
  | [], _ => rfl
  | t :: r, h => by
    rw [List.map_cons, PyData.canLayAll0, PyData.canLay0, h t List.mem_cons_self, strs_lay2 r fun q hq => h q (List.mem_cons_of_mem _ hq)]
    rfl
theorem strs_shaped {ts : List Str} (h : ∀ t, t ∈ ts → PyData.strOk t = true) : SeqAt.shaped (.list (ts.map PyData.str)) = true := by
  refine shaped_of (by rw [PyData.canLay0]; exact strs_lay2 ts h) ?_
  have := strs_deep ts
  simp only [PyData.depth]
  omega
theorem cut_ok {c : Nat} (hc : c < 256) {x : Str} (h : PyData.strOk x = true) : ∀ p, p ∈ cut c x → PyData.strOk p = true := fun p hp => strOk_in fun d hd => strOk_out h d ((My.cut_mem hc hp).2 d hd)
theorem strs_eqv (xs ys : List Str) : PyData.eqv (.list (xs.map PyData.str)) (.list (ys.map PyData.str)) = decide (xs = ys) := by
  rw [PyData.eqv]
  exact all_eqv str_eqv xs ys
theorem ints_lay : ∀ ts : List Int, PyData.canLayAll0 (ts.map PyData.int) = true
  | [] => rfl
  | t :: r => by
    rw [List.map_cons, PyData.canLayAll0, PyData.canLay0, ints_lay r]
    rfl
theorem ints_deep : ∀ ts : List Int, PyData.depthAll (ts.map PyData.int) ≤ 0
  | [] => by simp [PyData.depthAll]
  | t :: r => by
    rw [List.map_cons, PyData.depthAll, PyData.depth]
    have := ints_deep r
    omega
theorem ints_shaped (ts : List Int) : SeqAt.shaped (.list (ts.map PyData.int)) = true := by
  refine shaped_of (by rw [PyData.canLay0]; exact ints_lay ts) ?_
  have := ints_deep ts
  simp only [PyData.depth]
  omega
theorem dp_ints {K : PySem.W.Frag} {H : Hp} : ∀ ts : List Int, DpAll K H (ts.map V.int) (ts.map PyData.int)
  | [] => .nil
  | t :: r => .cons (.int t) (dp_ints r)
theorem int_eqv (s t : Int) : PyData.eqv (PyData.int s) (PyData.int t) = decide (s = t) := by simp [PyData.eqv, beq_dec]
theorem ints_eqv (xs ys : List Int) : PyData.eqv (.list (xs.map PyData.int)) (.list (ys.map PyData.int)) = decide (xs = ys) := by
  rw [PyData.eqv]
  exact all_eqv int_eqv xs ys
theorem sfs_no3 {p BD DP : Addr} {i : Int} : (sfs p i BD DP).lookup ("rows" : Str) = none := by kernel_rfl
theorem sfs_no4 {p BD DP : Addr} {i : Int} : (sfs p i BD DP).lookup ("body" : Str) = none := by kernel_rfl
theorem SideAt.put {C CB : Addr} {hs : List Hr} {ps : List My.Pr} {H : Hp} {s dx p BD DP D : Addr} {i : Int} {tx : List (Str × Str)} {bs : List (Str × Addr)} {ks : List (L2.Key × V)} {o : HO} (h : SideAt C CB hs ps H s dx p BD DP i tx bs) (hD : H D = some (.dK ks)) (n1 : D ≠ BD) (n2 : D ≠ DP) : SideAt C CB hs ps (upd H D o) s dx p BD DP i tx bs :=
  ⟨(upd_ne (ne_of h.ob hD (by intro q; cases q))).trans h.ob, (upd_ne n1.symm).trans h.bd, (upd_ne n2.symm).trans h.dp, fun e he => let ⟨t, x, h1, h2, h3⟩ := h.bo e he; ⟨t, x, h1, h2, h3.put hD⟩⟩
/-- the side's texts are small -/
def TxOk (tx : List (Str × Str)) (bs : List (Str × Addr)) : Prop := (tx.map (·.1)).Nodup ∧ tx.length ≤ 20 ∧ ∀ e, e ∈ tx → e.2.length ≤ 9000 ∧ PyData.strOk e.2 = true ∧ ∃ b, valS bs e.1 = some b
def fars (n : Nat) : List Int := [-1, (n : Int), (n : Int) + 1, -(n : Int), (10 : Int) ^ (39 : Int).toNat]
theorem fars_bad {n : Nat} (h0 : 0 < n) (h1 : n ≤ 9001) : ∀ z, z ∈ fars n → (z < 0 ∨ (n : Int) ≤ z) ∧ z.natAbs.log2 < 1920 := by
  have lg : ∀ z : Int, z.natAbs ≤ 10000 → z.natAbs.log2 < 1920 := fun z h => by
    have := numT_log (n := z.natAbs) h
    simpa using this
  have big : ((10 : Int) ^ (39 : Int).toNat) = 1000000000000000000000000000000000000000 := by decide +kernel
  intro z hz
  simp only [fars, List.mem_cons, List.not_mem_nil, or_false] at hz
  rcases hz with rfl | rfl | rfl | rfl | rfl
  · exact ⟨.inl (by omega), lg _ (by omega)⟩
  · exact ⟨.inr (by omega), lg _ (by omega)⟩
  · exact ⟨.inr (by omega), lg _ (by omega)⟩
  · exact ⟨.inl (by omega), lg _ (by omega)⟩
  · exact ⟨.inr (by rw [big]; omega), by decide +kernel⟩
def sp_told (C CB : Addr) : Sp := fun vs H Q _ => ∃ (s dx p BD DP D : Addr) (i : Int) (tx : List (Str × Str)) (bs : List (Str × Addr)) (hs : List Hr) (ps : List My.Pr), vs = [.ref s, .ref D] ∧ SideAt C CB hs ps H s dx p BD DP i tx bs ∧ H D = some (.dK (dS (onV V.str tx))) ∧ TxOk tx bs ∧ D ≠ BD ∧ D ≠ DP ∧
  ∀ H', Same H H' → Q (.bl true) H'
theorem ok_told (T : Txt K mg a) : FnOk P w K mg base CX0 7 a.f_told a.d_told ["_law_made", "_law_texts"] (sp_told a.c_Side a.c_Body) := by
  refine T.F_told.ok sc_told (fun vs H Q E h => ?_) (fun cdv A outer s H vs Q E hr h => ?_)
  · obtain ⟨s, dx, p, BD, DP, D, i, tx, bs, hs, ps, rfl, _⟩ := h
    rfl
  · obtain ⟨s, dx, p, BD, DP, D, i, tx, bs, hs, ps, rfl, sd, hD, ok, nD1, nD2, kk⟩ := h
    refine ⟨_, (pss_cons (ps_lock (ps_for PassesOwn.never rfl (pi_keys (pv 1)) (pg_name (i := 2) sc_told.nd rfl (Or.inr rfl)) (pss_cons (ps_set (i := 3) sc_told.nd rfl (Or.inl rfl) (pe_split (pe_dget (hu_of hr) (pv 1) (pv 2) (fun _ _ => rfl)) pe_str))
      (pss_cons (ps_set (i := 4) sc_told.nd rfl (Or.inl rfl) (pe_meth (pv 0) T.cl_Side T.m_Side_rows (ok_Side_rows T) (hr.mono (by decide)) T.B_Side_rows .nil pass0 (pa_cons (pv 2) pa_nil)))
      (pss_cons (ps_if (PW.pt (pw_or (pt_not (pt_val (pe_callB call_isi (by rfl) T.z_isinstance (by decide +kernel) (pa_cons (pv 4) (pa_cons (pe_bltn (v := .ty "list") (by rfl) T.z_list (by decide +kernel) rfl) pa_nil))))) (pw_or (pt_cmpR (op_neD hr.units) (pv 4) (pv 3) (nomark _)) (pw_or1 (pt_cmpR op_ne (pe_meth (pv 0) T.cl_Side T.m_Side_body (ok_Side_body T) (hr.mono (by decide)) T.B_Side_body .nil pass0 (pa_cons (pv 2) pa_nil)) (pe_dget (hu_of hr) (pv 1) (pv 2) (fun _ _ => rfl)) (nomark _)))))) (pss_one (ps_ret pe_bl)) pss_nil)
      (pss_cons (ps_asg pe_str (pg_sub (pv 4) pe_int set_list))
      (pss_cons (ps_expr (pe_bm PySem.F.plainAttrs_list PySem.F.slot_list_append PySem.F.type_list_append mt_append (pv 4) (pa_cons pe_str pa_nil)))
      (pss_cons (ps_if (pt_cmpR (op_neD hr.units) (pe_lc (own := [("_law_k", 6)]) (g := gName 6) (te := tMeth a.c_Side "place" (sp_Splace a.c_Side a.c_Body) [] (fun _ _ _ => False) (tVar 0) (tCons (tVar 2) (tCons (tVar 6) tNil))) (tt := tYes) rfl sc_told.nd (pi_range1 (by rfl) T.z_range (pa_cons (pe_callB call_len_seq (by rfl) T.z_len (by decide +kernel) (pa_cons (pv 3) pa_nil)) pa_nil)) (blkOk_by (own := [("_law_k", 6)]) (N := ["_law_made", "_law_texts", "_law_name", "_law_rows", "_law_told_here", "_law_far", "_law_k"]) (sc := defScope s_told) (by decide +kernel)) (fun _ _ _ _ _ => pg_name (i := 6) sc_told.nd rfl (Or.inl rfl)) (fun _ _ _ _ _ => pts_nil) (fun _ _ _ _ _ => by exact (pe_meth (pv 0) T.cl_Side T.m_Side_place (ok_Side_place T) (hr.mono (by decide)) T.B_Side_place .nil pass0 (pa_cons (pv 2) (pa_cons (pv 6) pa_nil))))) (pe_listRg rfl (by rfl) T.z_list (prg_1 (by rfl) T.z_range (pe_callB call_len_seq (by rfl) T.z_len (by decide +kernel) (pa_cons (pv 3) pa_nil)))) (nomark _)) (pss_one (ps_ret pe_bl)) pss_nil)
      (pss_one (ps_for PassesOwn.never rfl (pi_list (pe_lst (pa_cons (pe_un un_neg pe_int) (pa_cons (pe_callB call_len_seq (by rfl) T.z_len (by decide +kernel) (pa_cons (pv 3) pa_nil)) (pa_cons (pe_op op_add (pe_callB call_len_seq (by rfl) T.z_len (by decide +kernel) (pa_cons (pv 3) pa_nil)) pe_int) (pa_cons (pe_un un_neg (pe_callB call_len_seq (by rfl) T.z_len (by decide +kernel) (pa_cons (pv 3) pa_nil))) (pa_cons (pe_op op_pow pe_int pe_int) pa_nil))))))) (pg_name (i := 5) sc_told.nd rfl (Or.inl rfl)) (pss_one (ps_if (pt_not (pt_val (pe_call (ok_no_row T) (hr.mono (by decide)) rfl T.g_no_row T.k_no_row T.B_no_row .nil pass0 (pa_cons (pv 0) (pa_cons (pv 2) (pa_cons (pv 5) pa_nil)))))) (pss_one (ps_ret pe_bl)) pss_nil))))))))))))
      (pss_one (ps_ret pe_bl))), ?_⟩
    refine ⟨D, _, hD, by simp [Mut], fun od => ?_⟩
    have sdD := sd.put (o := .frz od (.dK (dS (onV V.str tx)))) hD nD1 nD2
    have hDD : (upd H D (.frz od (.dK (dS (onV V.str tx))))) D = some (.frz od (.dK (dS (onV V.str tx)))) := upd_same
    have back : ∀ H5, Same (upd H D (.frz od (.dK (dS (onV V.str tx))))) H5 → Same H (upd H5 D (.dK (dS (onV V.str tx)))) := fun H5 s5 c o e => by
      by_cases q : c = D
      · subst q
        rw [upd_same, ← hD, e]
      · rw [upd_ne q]
        exact s5 _ _ ((upd_ne q).trans e)
    generalize (upd H D (.frz od (.dK (dS (onV V.str tx))))) = H1 at sdD hDD back ⊢
    refine ⟨_, rfl, D, od, rfl, .inl ⟨_, hDD, ?_⟩⟩
    refine for_keys (fun k σ H5 => Blk (∃ (v2 v3 v4 v5 v6 : Option V), σ = [some (.ref s), some (.ref D), v2, v3, v4, v5, v6] ∧ Same H1 H5)) (Blk.of ⟨_, _, _, _, _, rfl, Same.refl _⟩) (fun k σ H5 hB => ?_) ?_ ?_
    · obtain ⟨_, _, _, _, _, _, s5⟩ := hB.out
      exact s5 _ _ hDD
    · intro k ky v σ H5 hk hB
      obtain ⟨v2, v3, v4, v5, v6, rfl, s5⟩ := hB.out
      obtain ⟨e, he, rfl, rfl⟩ : ∃ e : Str × Str, tx[k]? = some e ∧ ky = .inr e.1 ∧ v = .str e.2 := by
        unfold dS onV at hk
        rw [List.map_map, List.getElem?_map] at hk
        cases q : tx[k]? with
        | none => rw [q] at hk; cases hk
        | some z =>
          rw [q] at hk
          have := Option.some.inj hk
          exact ⟨z, rfl, (congrArg Prod.fst this).symm, (congrArg Prod.snd this).symm⟩
      have em := List.mem_of_getElem? he
      obtain ⟨t1, t2, b, hb⟩ := ok.2.2 e em
      have ev : valS tx e.1 = some e.2 := by
        obtain ⟨v, hv⟩ := My.val_some (List.mem_map.mpr ⟨e, em, rfl⟩ : e.1 ∈ tx.map (·.1))
        have := inj_of_nodup ok.1 (My.val_mem hv) em rfl
        rw [hv, ← this]
      have sd5 := sdD.same s5
      have dg : ∀ H6, Same H5 H6 → DGet H6 D (.str e.1) (some (.str e.2)) := fun H6 s6 => .inl ⟨_, .inr e.1, .inr ⟨od, s6 _ _ (s5 _ _ hDD)⟩, rfl, by rw [My.val_dS, My.valS_onV, ev]; rfl⟩
      show gName 2 (.str e.1) _ _ _
      refine ⟨_, rfl, _, rfl, D, .str e.2, rfl, dg H5 (Same.refl _), ?_⟩
      have zl := sizeLine_eq
      have cm := My.cut_many (c := 10) (by decide) e.2
      have ec : Txt.split e.2 ("\n" : Str) = cut 10 e.2 := by rw [brk_eq]; rfl
      generalize hrows : cut 10 e.2 = rows at ec cm
      refine ⟨⟨_, rfl⟩, _, _, rfl, rfl, by decide +kernel, by omega, ?_⟩
      rw [ec]
      refine fun R hR => ?_
      have sR : Same H5 (upd H5 R (.lst (rows.map V.str))) := (Same.refl H5).upd hR
      have hR6 : (upd H5 R (.lst (rows.map V.str))) R = some (.lst (rows.map V.str)) := upd_same
      show gName 3 (.ref R) _ (upd H5 R (.lst (rows.map V.str))) _
      generalize (upd H5 R (.lst (rows.map V.str))) = H6 at sR hR6 ⊢
      have sd6 := sd5.same sR
      obtain ⟨text, x, hx1, hx2, bo6⟩ := sd6.bo (e.1, b) (My.val_mem hb)
      obtain rfl : text = e.2 := Option.some.inj (hx1.symm.trans ev)
      refine ⟨_, rfl, s, dx, _, rfl, sd6.ob, sfs_no3, _, rfl, s, dx, p, BD, DP, i, tx, bs, hs, ps, x, e.1, e.2, b, rfl, sd6, hb, bo6, fun R2 hR2 => ?_⟩
      rw [hrows]
      have sR2 : Same H6 (upd H6 R2 (.lst (rows.map V.str))) := (Same.refl H6).upd hR2
      have hR7 : (upd H6 R2 (.lst (rows.map V.str))) R2 = some (.lst (rows.map V.str)) := upd_same
      have nRR : R ≠ R2 := ne_of_none hR6 hR2
      have nR20 : H5 R2 = none := sR.free hR2
      show gName 4 (.ref R2) _ (upd H6 R2 (.lst (rows.map V.str))) _
      generalize (upd H6 R2 (.lst (rows.map V.str))) = H7 at sR2 hR7 ⊢
      have s57 := sR.trans sR2
      have hR7b := sR2 _ _ hR6
      have sd7 := sd6.same sR2
      have bo7 := bo6.same sR2
      have rok : ∀ t, t ∈ rows → PyData.strOk t = true := fun t ht => cut_ok (c := 10) (by decide) t2 t (by rw [hrows]; exact ht)
      refine ⟨_, rfl, _, _, _, _, true, rfl, .ty "list", .base (.lst hR7), kit_ty (by decide +kernel), ?_⟩
      refine ⟨true, rfl, iteF ?_⟩
      refine ⟨_, rfl, _, rfl, .list (rows.map PyData.str), .list (rows.map PyData.str), .lst (SqL.of hR7) (dp_strs _), .lst (SqL.of hR7b) (dp_strs _), strs_shaped rok, strs_shaped rok, ?_⟩
      rw [strs_eqv, decide_eq_true rfl]
      refine ⟨_, rfl, iteF ?_⟩
      refine ⟨_, rfl, s, dx, _, rfl, sd7.ob, sfs_no4, _, rfl, s, dx, p, BD, DP, i, tx, bs, hs, ps, x, e.1, e.2, b, rfl, sd7, hb, bo7, ?_⟩
      refine ⟨_, rfl, _, rfl, D, .str e.2, rfl, dg H7 s57, ?_⟩
      refine ⟨rfl, _, rfl, ?_⟩
      refine iteNSS (fun n => absurd rfl n) (fun _ => ?_)
      -- the told list is changed
      have rlen : rows.length ≤ 9001 := by omega
      obtain ⟨r0, rr, erow⟩ : ∃ r0 rr, rows = r0 :: rr := by
        cases rows with
        | nil => exact absurd hrows (My.cut_ne (by decide) e.2)
        | cons r0 rr => exact ⟨r0, rr, rfl⟩
      refine ⟨_, rfl, R2, _, 0, 0, rfl, rfl, hR7, by rw [erow, List.length_map, List.length_cons]; exact ixN_at (j := 0) (by omega), ?_⟩
      refine ⟨_, rfl, .inl ⟨rfl, _, SqL.of upd_same⟩, R2, _, _, rfl, rfl, upd_same, by rw [List.length_set, List.length_map, zl]; omega, ?_⟩
      have s69 : ∀ o1 o2, Same H6 (upd (upd H7 R2 o1) R2 o2) := fun o1 o2 => (sR2.upd hR2).upd hR2
      generalize hH9 : upd (upd H7 R2 _) R2 _ = H9
      have sx : Same H6 H9 := by rw [← hH9]; exact s69 _ _
      clear hH9
      have s59 := sR.trans sx
      have sd9 := sd6.same sx
      have bo9 := bo6.same sx
      have hR9 := sx _ _ hR6
      have rle : (((rows.map V.str).length : Nat) : Int) = (rows.length : Int) := by rw [List.length_map]
      refine ⟨_, rfl, _, _, rfl, .inl (SqL.of hR9), ((rows.map V.str).length : Nat), rfl, by omega, by omega, fun G hG => ?_⟩
      have sG : ∀ o, Same H9 (upd H9 G o) := fun o => (Same.refl H9).upd hG
      refine lc_range (lo := 0) (n := (((rows.map V.str).length : Nat) : Int).toNat) (fun j H10 => Blk (Same H9 H10 ∧ H10 G = some (.lst ((List.range j).map fun (q : Nat) => V.int (q : Nat))))) (Blk.of ⟨sG _, upd_same⟩) ?_ ?_
      · intro j H10 hj hB
        obtain ⟨s10, h10⟩ := hB.out
        refine ⟨rfl, ?_⟩
        dsimp only [tYes]
        refine iteT ?_
        have sd10 := sd9.same s10
        have e0 : (0 : Int) + (j : Nat) = (j : Nat) := by omega
        refine ⟨_, rfl, s, dx, _, rfl, sd10.ob, sfs_no2, _, rfl, _, rfl, s, dx, p, BD, DP, i, tx, bs, hs, ps, x, e.1, e.2, b, j, congrArg (fun z => [V.ref s, V.str e.1, V.int z]) e0, sd10, hb, bo9.same s10, ?_, fun H11 s11 => ?_⟩
        · rw [hrows]
          omega
        · refine ⟨_, s11 _ _ h10, by rw [List.length_map, List.length_range]; exact small (by omega), Blk.of ⟨(s10.trans s11).upd hG, ?_⟩⟩
          rw [upd_same, List.range_succ, List.map_append]
          rfl
      · intro H10 hB
        obtain ⟨s10, h10⟩ := hB.out
        have eN : (((rows.map V.str).length : Nat) : Int).toNat = rows.length := by rw [rle]; omega
        have nums : ∀ n : Nat, ((List.range n).map fun (q : Nat) => V.int (q : Nat)) = ((List.range n).map fun (q : Nat) => ((q : Nat) : Int)).map V.int := fun n => by rw [List.map_map]; rfl
        rw [eN, nums] at h10
        have hR10 := s10 _ _ hR9
        refine ⟨_, rfl, _, _, rfl, .inl (SqL.of hR10), _, rfl, ?_⟩
        have rgE : rgV 0 ((rows.map V.str).length : Int) = ((List.range rows.length).map fun (q : Nat) => ((q : Nat) : Int)).map V.int := by
          rw [← nums]
          unfold rgV
          rw [List.length_map]
          congr 1
          funext i
          rw [Int.zero_add]
        refine ⟨RgOk.of_le (by decide) (by rw [List.length_map]; omega) (by decide) (by omega), fun G2 hG2 => ?_⟩
        rw [rgE]
        have s11 : Same H10 (upd H10 G2 (.lst (((List.range rows.length).map fun (q : Nat) => ((q : Nat) : Int)).map V.int))) := (Same.refl H10).upd hG2
        have h11 : (upd H10 G2 (.lst (((List.range rows.length).map fun (q : Nat) => ((q : Nat) : Int)).map V.int))) G2 = _ := upd_same
        generalize (upd H10 G2 (.lst (((List.range rows.length).map fun (q : Nat) => ((q : Nat) : Int)).map V.int))) = H11 at s11 h11 ⊢
        refine ⟨_, _, .lst (SqL.of (s11 _ _ h10)) (dp_ints _), .lst (SqL.of h11) (dp_ints _), ints_shaped _, ints_shaped _, ?_⟩
        rw [ints_eqv, decide_eq_true rfl]
        refine ⟨_, rfl, iteF ?_⟩
        have s9b := s10.trans s11
        have hR11 := s9b _ _ hR9
        refine ⟨_, rfl, _, rfl, _, _, rfl, .inl (SqL.of hR11), _, rfl, _, _, rfl, .inl (SqL.of hR11), _, _, rfl, rfl, _, rfl, _, _, rfl, .inl (SqL.of hR11), _, rfl, _, _, rfl, rfl, ⟨by decide, by decide, by decide⟩, by show 5 ≤ sizeLine; decide, fun G3 hG3 => ?_⟩
        have s12 : ∀ o, Same H11 (upd H11 G3 o) := fun o => (Same.refl H11).upd hG3
        refine ⟨G3, rfl, ⟨_, SqL.of upd_same⟩, ?_⟩
        rw [rle]
        have h12 : (upd H11 G3 (.lst [.int (-1), .int (rows.length : Int), .int ((rows.length : Int) + 1), .int (-(rows.length : Int)), .int ((10 : Int) ^ (39 : Int).toNat)])) G3 = some (.lst ((fars rows.length).map V.int)) := upd_same
        have s12' := s12 (.lst [.int (-1), .int (rows.length : Int), .int ((rows.length : Int) + 1), .int (-(rows.length : Int)), .int ((10 : Int) ^ (39 : Int).toNat)])
        generalize (upd H11 G3 (.lst [.int (-1), .int (rows.length : Int), .int ((rows.length : Int) + 1), .int (-(rows.length : Int)), .int ((10 : Int) ^ (39 : Int).toNat)])) = H12 at h12 s12' ⊢
        have s5_12 := (s59.trans s9b).trans s12'
        refine for_list (K := K) (a := G3) (xs := (fars rows.length).map V.int) (fun q σ H13 => Blk (∃ (v5 v6 : Option V), σ = [some (.ref s), some (.ref D), some (.str e.1), some (.ref R), some (.ref R2), v5, v6] ∧ Same H12 H13)) (Blk.of ⟨_, _, rfl, Same.refl _⟩) ?_ ?_ ?_
        · intro q σ H13 _ hB
          obtain ⟨_, _, _, s13⟩ := hB.out
          exact SqL.of (s13 _ _ h12)
        · intro q u σ H13 hu hB
          obtain ⟨w5, w6, rfl, s13⟩ := hB.out
          obtain ⟨z, hz, rfl⟩ := ints_get hu
          obtain ⟨z1, z2⟩ := fars_bad (n := rows.length) (by rw [erow]; simp) (by omega) z (List.mem_of_getElem? hz)
          have sAll := (s9b.trans s12').trans s13
          refine ⟨_, rfl, _, rfl, _, rfl, s, dx, p, BD, DP, i, tx, bs, hs, ps, x, e.1, e.2, b, z, rfl, sd9.same sAll, hb, bo9.same sAll, by rw [hrows]; exact z1, z2, fun H14 s14 => ?_⟩
          refine ⟨true, rfl, iteF ?_⟩
          exact Blk.of ⟨_, _, rfl, s13.trans s14⟩
        · intro σ H13 hB
          obtain ⟨w5, w6, rfl, s13⟩ := hB.out
          exact Blk.of ⟨_, _, _, _, _, rfl, ((s5.trans s5_12).trans s13)⟩
    · intro σ H5 hB
      obtain ⟨v2, v3, v4, v5, v6, rfl, s5⟩ := hB.out
      exact ⟨s5 _ _ hDD, kk _ (back H5 s5)⟩

open My (Hr wd glue cut dS onV valS putS)
/-! ### the law -/
structure L9 (H : Hp) (b g l t L F D : Addr) (as has : List Addr) (ps : List My.Pr) (hs : List Hr) (n : Int) (tx : List (Str × Str)) : Prop where
  bx : BoxAt H b g l n
  dl : DealAt H t L F as has ps hs
  hD : H D = some (.dK (dS (onV V.str tx)))
section
variable {H H' : Hp} {b g l t L F D : Addr} {as has : List Addr} {ps : List My.Pr} {hs : List Hr} {n n' : Int} {tx tx' : List (Str × Str)}
theorem L9.same (o : L9 H b g l t L F D as has ps hs n tx) (s : Same H H') : L9 H' b g l t L F D as has ps hs n tx := ⟨o.bx.same s, o.dl.same s, s _ _ o.hD⟩
theorem L9.box (o : L9 H b g l t L F D as has ps hs n tx) (oL : L ∉ [b, g]) (oF : F ∉ [b, g]) (oD : D ∉ [b, g]) (bx : BoxAt H' b g l n') (k : Keeps [b, g] H H') : L9 H' b g l t L F D as has ps hs n' tx :=
  ⟨bx, o.dl.keep k (box_notup o.bx) oL oF, k _ _ o.hD oD⟩
theorem L9.put (o : L9 H b g l t L F D as has ps hs n tx) (oD : D ∉ [b, g, l]) : L9 (upd H D (.dK (dS (onV V.str tx')))) b g l t L F D as has ps hs n tx' := by
  have nt : NoTup H [D] := NoTup.one o.hD (fun _ e => by cases e) fun _ _ e => by cases e
  have k : Keeps [D] H (upd H D (.dK (dS (onV V.str tx')))) := (Keeps.refl [D] H).upd (.inl (by simp))
  exact ⟨box_put o.bx oD, o.dl.keep k nt (by simpa using ne_of o.dl.hL o.hD (by intro q; cases q)) (by simpa using ne_of o.dl.hF o.hD (by intro q; cases q)), upd_same⟩
end
/-- the texts so far -/
structure Tx9 (i : Int) (hs : List Hr) (ps : List My.Pr) (k : Nat) (tx : List (Str × Str)) : Prop where
  keys : tx.map (·.1) = (namesOf i hs).take k
  good : ∀ e, e ∈ tx → ∃ x, crewOf e.1 hs = some x ∧ BodyIs hs ps x e.2 none ∧ e.2.length ≤ 9000 ∧ PyData.strOk e.2 = true
theorem namesOf_few {i : Int} {hs : List Hr} (h : hs.length ≤ 8) : (namesOf i hs).length ≤ 8 := by
  unfold namesOf
  rw [List.length_map]
  exact Nat.le_trans (ofSide_le i hs) h
theorem namesOf_nd {ps : List My.Pr} {hs : List Hr} (cok : My.CrewOk ps hs) (i : Int) : (namesOf i hs).Nodup := by
  unfold namesOf ofSide
  exact List.Sublist.nodup (List.Sublist.map _ List.filter_sublist) cok.names
theorem mem_namesOf {ps : List My.Pr} {hs : List Hr} (cok : My.CrewOk ps hs) {i : Int} {n : Str} (h : n ∈ namesOf i hs) : ∃ x, crewOf n hs = some x ∧ x ∈ hs ∧ x.name = n := by
  unfold namesOf at h
  obtain ⟨x, hx, rfl⟩ := List.mem_map.mp h
  have xh : x ∈ hs := (List.mem_filter.mp hx).1
  obtain ⟨jx, hjx, ejx⟩ := List.getElem_of_mem xh
  exact ⟨x, crew_find cok (by rw [List.getElem?_eq_getElem hjx, ejx]), xh, rfl⟩
theorem hrOk_of {ps : List My.Pr} {hs : List Hr} (pok : My.PairsOk ps) (cok : My.CrewOk ps hs) : ∀ x, x ∈ hs → HrOk x := fun x hx => by
  obtain ⟨xp, xth⟩ := cok.one x hx
  obtain ⟨h1, h2, h3, h4⟩ := pactB_out xp
  obtain ⟨_, x3, x4⟩ := pact_parts xp
  refine ⟨name_wok h1, by omega, fun t ht => ?_, by omega, fun t ht => ?_⟩
  · unfold My.takesB at h3
    rw [Bool.and_eq_true] at h3
    exact lent_wok t (by simpa using List.all_eq_true.mp h3.2 t ht)
  · obtain ⟨q, hq, e⟩ := List.mem_map.mp (xth t ht)
    have := pok.nm q hq
    rw [← e]
    rcases h2 with c | c
    · rw [c]; exact name_wok this.1
    · rw [c]; exact name_wok this.2
def spLaw (K : PySem.W.Frag) : Sp := fun vs H Q _ => ∃ (s : Addr) (ns : List Int), vs = [.ref s] ∧ SqL K H s (ns.map V.int) ∧ ns.length ≤ 63 ∧ ∀ H', Q (.bl true) H'
theorem ok_law (T : Txt K mg a) : FnOk P w K mg base CX0 15 a.f_law a.d_law ["_law_script"] (spLaw K) := by
  refine T.F_law.ok sc_law (fun vs H Q E h => ?_) (fun cdv A outer s H vs Q E hr h => ?_)
  · obtain ⟨s, ns, rfl, _⟩ := h
    rfl
  · obtain ⟨sc, nz, rfl, hS, hl, kk⟩ := h
    refine ⟨_, (pss_cons (ps_set (i := 1) sc_law.nd rfl (Or.inl rfl) (pe_call (ok_box T) (hr.mono (by decide)) rfl T.g_box T.k_box T.B_box .nil pass0 (pa_cons (pv 0) pa_nil)))
      (pss_cons (ps_set (i := 2) sc_law.nd rfl (Or.inl rfl) (pe_call (ok_any_deal T) (hr.mono (by decide)) rfl T.g_any_deal T.k_any_deal T.B_any_deal .nil pass0 (pa_cons (pv 1) (pa_cons pe_int pa_nil))))
      (pss_cons (ps_set (i := 3) sc_law.nd rfl (Or.inl rfl) (pe_call (ok_take T) (hr.mono (by decide)) rfl T.g_take T.k_take T.B_take .nil pass0 (pa_cons (pv 1) (pa_cons pe_int pa_nil))))
      (pss_cons (ps_set (i := 4) sc_law.nd rfl (Or.inl rfl) pe_dnewK)
      (pss_cons (ps_for PassesOwn.never rfl (pi_list (pe_call (ok_of_team T) (hr.mono (by decide)) rfl T.g_of_team T.k_of_team T.B_of_team .nil pass0 (pa_cons (pv 2) (pa_cons (pv 3) pa_nil)))) (pg_name (i := 5) sc_law.nd rfl (Or.inl rfl)) (pss_cons (ps_set (i := 6) sc_law.nd rfl (Or.inl rfl) (pe_op op_add pe_int (pe_call (ok_take T) (hr.mono (by decide)) rfl T.g_take T.k_take T.B_take .nil pass0 (pa_cons (pv 1) (pa_cons (pe_ix ix_list (pe_lst (pa_cons pe_int (pa_cons pe_int (pa_cons pe_int pa_nil)))) (pe_call (ok_take T) (hr.mono (by decide)) rfl T.g_take T.k_take T.B_take .nil pass0 (pa_cons (pv 1) (pa_cons pe_int pa_nil))) (fun _ _ => rfl)) pa_nil)))))
      (pss_one (ps_dput (hu_of hr) (pv 4) (pv 5) (pe_join pe_str (pe_call (ok_any_rows T) (hr.mono (by decide)) rfl T.g_any_rows T.k_any_rows T.B_any_rows .nil pass0 (pa_cons (pv 1) (pa_cons (pv 2) (pa_cons (pv 5) (pa_cons (pv 6) pa_nil)))))) rfl))))
      (pss_cons (ps_set (i := 7) sc_law.nd rfl (Or.inl rfl) (pe_callTy call_dictD (by rfl) T.z_dict (by decide +kernel) (pa_cons (pv 4) pa_nil)))
      (pss_cons (ps_asg (pe_call (ok_sided T) (hr.mono (by decide)) rfl T.g_sided T.k_sided T.B_sided .nil pass0 (pa_cons (pv 2) (pa_cons (pv 3) (pa_cons (pv 7) pa_nil)))) (pg_tup (by rfl) (pgs_cons (pg_name (i := 8) sc_law.nd rfl (Or.inl rfl)) (pgs_cons (pg_name (i := 9) sc_law.nd rfl (Or.inl rfl)) pgs_nil))))
      (pss_cons (ps_if (PW.pt (pw_or (pt_cmpR op_ne (pv 8) pe_str (nomark _)) (pw_or1 (pt_cmpR (op_ne_dictA (Nat.lt_of_succ_lt (hu_of hr))) (pv 7) (pv 4) (nomark _))))) (pss_one (ps_ret pe_bl)) pss_nil)
      (pss_cons (ps_expr (pe_bm0 PySem.F.plainAttrs_dict PySem.F.slot_dict_clear PySem.F.type_dict_clear mtd_clear (pv 7)))
      (pss_cons (ps_if (PW.pt (pw_or (pt_cmpR op_ne (pe_meth0 (pv 9) T.cl_Side T.m_Side_number (ok_Side_number T) (hr.mono (by decide)) T.B_Side_number .nil pass0) (pv 3) (nomark _)) (pw_or (pt_val (pe_callB call_isi (by rfl) T.z_isinstance (by decide +kernel) (pa_cons (pe_meth0 (pv 9) T.cl_Side T.m_Side_number (ok_Side_number T) (hr.mono (by decide)) T.B_Side_number .nil pass0) (pa_cons (pe_bltn (v := .ty "bool") (by rfl) T.z_bool (by decide +kernel) rfl) pa_nil)))) (pw_or1 (pt_cmpR (op_neOwn (cls_Pacts T) (ok_Pacts_eq T) (hr.mono (by decide)) T.B_Pacts_eq pass0) (pe_meth0 (pv 9) T.cl_Side T.m_Side_pacts (ok_Side_pacts T) (hr.mono (by decide)) T.B_Side_pacts .nil pass0) (pe_make T.mk_Pacts (ok_Pacts_init T) (hr.mono (by decide)) rfl T.g_Pacts T.B_Pacts_init .nil pass0 (pa_cons (pe_ix ix_tup (pv 2) pe_int (fun _ _ => rfl)) (pa_cons (pe_ix ix_tup (pv 2) pe_int (fun _ _ => rfl)) pa_nil))) (nomark _)))))) (pss_one (ps_ret pe_bl)) pss_nil)
      (pss_one (ps_ret (pe_and (pe_call (ok_told T) (hr.mono (by decide)) rfl T.g_told T.k_told T.B_told .nil pass0 (pa_cons (pv 9) (pa_cons (pv 4) pa_nil))) (pe_one (pe_call (ok_told T) (hr.mono (by decide)) rfl T.g_told T.k_told T.B_told .nil pass0 (pa_cons (pv 9) (pa_cons (pv 4) pa_nil))))))))))))))))), ?_⟩
    refine ⟨_, rfl, sc, nz, rfl, hS, hl, fun b g l H1 hb hg hl bx s1 => ?_⟩
    refine ⟨_, rfl, b, g, l, 0, rfl, bx, by decide, by decide, fun t L F as has ps hs n2 H2 ht hL hF dl pok cok _ a2 b2 bx2 kp2 => ?_⟩
    have oL := offbox3 bx hL
    have oF := offbox3 bx hF
    have few8 := crew_many cok
    refine ⟨_, rfl, b, g, l, n2, 2, rfl, bx2, by omega, by omega, by decide, by decide, fun i H3 i0 i1 bx3 kp3 => ?_⟩
    have hi : i = 0 ∨ i = 1 := by omega
    have oL2 : L ∉ [b, g] := offbox bx hL
    have oF2 : F ∉ [b, g] := offbox bx hF
    have dl3 := dl.keep kp3 (box_notup bx2) oL2 oF2
    refine fun D hD => ?_
    have oD3 := offbox3 bx3 hD
    have oD := offbox bx3 hD
    have st0 : L9 (upd H3 D (.dK [])) b g l t L F D as has ps hs (n2 + 1) [] := ⟨bx3.upd hD, dl3.same ((Same.refl H3).upd hD), upd_same⟩
    generalize (upd H3 D (.dK [])) = H4 at st0 ⊢
    refine ⟨_, rfl, _, rfl, t, L, F, as, has, ps, hs, i, rfl, st0.dl, by omega, fun R H5 hR hR5 s5 => ?_⟩
    have st5 := st0.same s5
    have oR := offbox st0.bx hR
    have nf := namesOf_few (i := i) few8
    have nnd := namesOf_nd cok i
    refine ⟨R, rfl, ⟨_, SqL.of hR5⟩, ?_⟩
    refine for_list (K := K) (a := R) (xs := (namesOf i hs).map V.str) (fun k σ H6 => Blk (∃ (v5 v6 : Option V) (n6 : Int) (tx : List (Str × Str)), σ = [some (.ref sc), some (.ref b), some (.ref t), some (.int i), some (.ref D), v5, v6, none, none, none] ∧
      L9 H6 b g l t L F D as has ps hs n6 tx ∧ Tx9 i hs ps k tx ∧ H6 R = some (.lst ((namesOf i hs).map V.str)) ∧ 0 ≤ n6 ∧ n6 ≤ 2000 + 2000 * k)) ?_ ?_ ?_ ?_
    · exact Blk.of ⟨_, _, _, [], rfl, st5, ⟨rfl, fun e he => (by cases he)⟩, hR5, by omega, by omega⟩
    · intro k σ H6 _ hB
      obtain ⟨_, _, _, _, _, _, _, hR6, _⟩ := hB.out
      exact SqL.of hR6
    · intro k y σ H6 hy hB
      obtain ⟨v5, v6, n6, tx, rfl, st, tk, hR6, a6, b6⟩ := hB.out
      obtain ⟨n, hn, rfl⟩ := strs_get hy
      have hk := get_lt hn
      obtain ⟨x, fx, xh, xn⟩ := mem_namesOf cok (List.mem_of_getElem? hn)
      have txl : tx.length ≤ 8 := by
        have := congrArg List.length tk.keys
        rw [List.length_map, List.length_take] at this
        omega
      have nk : n ∉ tx.map (·.1) := by
        rw [tk.keys]
        have := My.nin_take (f := fun z : Str => z) (by simpa using nnd) hn
        simpa using this
      show gName 5 (.str n) _ _ _
      refine ⟨_, rfl, by show 3 ≤ sizeLine; decide, fun M hM => ?_⟩
      have stM := st.same ((Same.refl H6).upd (o := .lst [.int 3, .int 12, .int 30]) hM)
      have hMM : (upd H6 M (.lst [.int 3, .int 12, .int 30])) M = some (.lst [.int 3, .int 12, .int 30]) := upd_same
      have hRM := (upd_ne (o := .lst [.int 3, .int 12, .int 30]) (ne_of_none hR6 hM)).trans hR6
      have oM := offbox st.bx hM
      generalize (upd H6 M (.lst [.int 3, .int 12, .int 30])) = H7 at stM hMM hRM ⊢
      refine ⟨_, rfl, b, g, l, _, 3, rfl, stM.bx, by omega, by omega, by decide, by decide, fun c2 H8 d0 d1 bx8 kp8 => ?_⟩
      have st8 := stM.box oL2 oF2 oD bx8 kp8
      have hM8 := kp8 _ _ hMM oM
      have hR8 := kp8 _ _ hRM oR
      obtain ⟨z, hz, z0, z1, z2⟩ : ∃ z : Int, atI [V.int 3, .int 12, .int 30] c2 = some (.int z) ∧ 0 < z ∧ z ≤ 30 ∧ z.natAbs.log2 < 9000 := by
        have : c2 = 0 ∨ c2 = 1 ∨ c2 = 2 := by omega
        rcases this with rfl | rfl | rfl
        · exact ⟨_, rfl, by decide, by decide, by decide⟩
        · exact ⟨_, rfl, by decide, by decide, by decide⟩
        · exact ⟨_, rfl, by decide, by decide, by decide⟩
      refine ⟨_, _, _, _, rfl, rfl, SqL.of hM8, hz, ?_⟩
      refine ⟨b, g, l, _, z, rfl, bx8, by omega, by omega, z0, z2, fun sz H9 s0 s1 bx9 kp9 => ?_⟩
      have st9 := st8.box oL2 oF2 oD bx9 kp9
      have hR9 := kp9 _ _ hR8 oR
      refine ⟨_, _, rfl, rfl, ?_⟩
      obtain ⟨m, em⟩ : ∃ m : Nat, 1 + sz = m := ⟨(1 + sz).toNat, by omega⟩
      show gName 6 (.int (1 + sz)) _ _ _
      rw [em]
      refine ⟨⟨_, rfl⟩, ?_⟩
      refine ⟨_, rfl, _, rfl, _, rfl, _, rfl, b, g, l, t, L, F, _, m, as, has, ps, hs, n, x, rfl, bx9, by omega, by omega, st9.dl, pok, cok, fx, by omega, by omega, oL2, oF2, box_notup bx9, fun RR rows n10 H10 hRR hRR2 rl mid lst e1 e2 bx10 kp10 => ?_⟩
      have st10 := st9.box oL2 oF2 oD bx10 kp10
      have hR10 := kp10 _ _ hR9 oR
      have rne : rows ≠ [] := fun q => by rw [q] at rl; simp at rl; omega
      obtain ⟨cb1, cb2, cb3⟩ := rows_body (hs := hs) (ps := ps) (x := x) rne (by omega) (fun k row e => rl ▸ mid k row e) (fun row e => lst row (by rw [← rl]; exact e))
      have rsum := My.cut_sum (c := 10) (by decide) (glue 10 rows)
      rw [cb1] at rsum
      have lb : ("\n" : Str).length = 1 := by decide +kernel
      refine ⟨_, RR, rows, rfl, rfl, .inl (SqL.of hRR2), by rw [lb]; omega, ?_⟩
      have ej : Txt.join ("\n" : Str) rows = glue 10 rows := by rw [brk_eq]; rfl
      rw [ej]
      have ldS : (dS (onV V.str tx)).length = tx.length := by unfold dS onV; rw [List.length_map, List.length_map]
      refine ⟨_, rfl, _, rfl, D, _, rfl, L2.DPut.k (k := .inr n) st10.hD (by rw [ldS]; exact small (by omega)), ?_⟩
      rw [My.put_dS, My.put_onV]
      have nRD : R ≠ D := ne_of hR10 st10.hD (by intro q; cases q)
      have pe : putS tx n (glue 10 rows) = tx ++ [(n, glue 10 rows)] := by unfold putS; rw [if_neg nk]
      rw [pe]
      refine Blk.of ⟨_, _, _, tx ++ [(n, glue 10 rows)], rfl, st10.put oD3, ⟨?_, fun e he => ?_⟩, by rw [upd_ne nRD]; exact hR10, by omega, by omega⟩
      · rw [List.map_append, tk.keys, take_snoc hn]
        rfl
      · rcases List.mem_append.mp he with q | q
        · exact tk.good e q
        · simp only [List.mem_cons, List.not_mem_nil, or_false] at q
          rw [q]
          refine ⟨x, fx, cb3, cb2, strOk_glue (by decide) fun w' hw' => ?_⟩
          obtain ⟨k', hk', ek'⟩ := List.getElem_of_mem hw'
          exact (mid k' w' (by rw [List.getElem?_eq_getElem hk', ek'])).2.1.2.2
    · intro σ H6 hB
      obtain ⟨v5, v6, n6, tx, rfl, st, tk, hR6, a6, b6⟩ := hB.out
      rw [List.length_map] at tk b6
      have keys : tx.map (·.1) = namesOf i hs := by rw [tk.keys, List.take_length]
      have txl : tx.length ≤ 8 := by
        have := congrArg List.length keys
        rw [List.length_map] at this
        omega
      have tnd : (tx.map (·.1)).Nodup := by rw [keys]; exact nnd
      refine ⟨_, rfl, D, _, rfl, .inl st.hD, fun D2 hD2 => ?_⟩
      have nD2 : D ≠ D2 := ne_of_none st.hD hD2
      have s7 : Same H6 (upd H6 D2 (.dK (dS (onV V.str tx)))) := (Same.refl H6).upd hD2
      have hD27 : (upd H6 D2 (.dK (dS (onV V.str tx)))) D2 = some (.dK (dS (onV V.str tx))) := upd_same
      have st7 := st.same s7
      show gName 7 (.ref D2) _ (upd H6 D2 (.dK (dS (onV V.str tx)))) _
      generalize (upd H6 D2 (.dK (dS (onV V.str tx)))) = H7 at s7 hD27 st7 ⊢
      refine ⟨_, rfl, _, rfl, _, rfl, t, L, F, D2, as, has, ps, hs, i, tx, rfl, st7.dl, pok, cok, hD27, tnd, by omega, fun e he => ?_, fun ys k n perm _ hk am _ => ?_, fun _ => ⟨fun _ => none, fun x hx => ?_, fun k x n _ e => (by cases e), fun _ r s dx p pl hl BD DP bs H8 hr8 sa nBD nDP bk pa cr s8 => ?_⟩⟩
      · obtain ⟨x, fx, _, q, _⟩ := tk.good e he
        have := name_len (pactB_out (cok.one x (crew_mem fx).1).1).1
        rw [(crew_mem fx).2] at this
        exact ⟨by omega, q⟩
      · exfalso
        have := perm.mem_iff.mp (List.mem_of_getElem? hk)
        rw [keys] at this am
        have m : n ∈ namesOf i hs := by simpa using this
        exact am.elim (fun q => q m) fun q => q m
      · have xm : x.name ∈ namesOf i hs := List.mem_map.mpr ⟨x, hx, rfl⟩
        obtain ⟨v, hv⟩ := My.val_some (keys ▸ xm : x.name ∈ tx.map (·.1))
        obtain ⟨x2, fx, q, _⟩ := tk.good _ (My.val_mem hv)
        have xh : x ∈ hs := (List.mem_filter.mp hx).1
        obtain ⟨jx, hjx, ejx⟩ := List.getElem_of_mem xh
        have fx2 : crewOf x.name hs = some x := crew_find cok (by rw [List.getElem?_eq_getElem hjx, ejx])
        obtain rfl : x2 = x := Option.some.inj (fx.symm.trans fx2)
        exact ⟨v, hv, q⟩
      · refine ⟨r, _, rfl, SqT.of hr8, rfl, _, _, rfl, _, _, rfl, rfl, ?_⟩
        have hD8 := s8 _ _ hD27
        have st8 := st7.same s8
        refine ⟨_, rfl, rfl, _, rfl, ?_⟩
        refine iteNSS (fun n => absurd rfl n) (fun _ => ?_)
        have sameD : ∀ q, q ∈ dS (onV V.str tx) → valV (dS (onV V.str tx)) q.1 = some q.2 ∧ flatB q.2 = true := fun q hq => by
          unfold dS onV at hq
          rw [List.map_map] at hq
          obtain ⟨e, he, rfl⟩ := List.mem_map.mp hq
          refine ⟨?_, rfl⟩
          show valV (dS (onV V.str tx)) (.inr e.1) = some (.str e.2)
          rw [My.val_dS, My.valS_onV]
          obtain ⟨v, hv⟩ := My.val_some (List.mem_map.mpr ⟨e, he, rfl⟩ : e.1 ∈ tx.map (·.1))
          have := inj_of_nodup tnd (My.val_mem hv) he rfl
          rw [hv, ← this]
          rfl
        refine ⟨_, rfl, _, rfl, D2, D, _, _, rfl, rfl, hD8, st8.hD, rfl, sameD, ?_⟩
        refine ⟨_, rfl, iteF ?_⟩
        -- the dict that was handed in is emptied
        have n1 : D2 ≠ BD := ne_of_none hD27 nBD
        have n2 : D2 ≠ DP := ne_of_none hD27 nDP
        refine ⟨_, rfl, .inr (.inr (.inl ⟨rfl, .inl ⟨_, hD8⟩⟩)), D2, _, rfl, rfl, hD8, ?_⟩
        have sa9 := sa.put (o := .dK []) hD8 n1 n2
        have nt8 : NoTup H8 [D2] := NoTup.one hD8 (fun _ e => by cases e) fun _ _ e => by cases e
        have k89 : Keeps [D2] H8 (upd H8 D2 (.dK [])) := (Keeps.refl [D2] H8).upd (.inl (by simp))
        obtain ⟨dp, ep⟩ := pa.ob
        have pa9 := pa.keep k89 nt8 (by simpa using ne_of ep hD8 (by intro q; cases q)) (by simpa using ne_of pa.lp hD8 (by intro q; cases q))
        have cr9 := cr.keep k89 nt8 (by simpa using ne_of cr.lh hD8 (by intro q; cases q))
        have dl9 := st8.dl.keep k89 nt8 (by simpa using ne_of st8.dl.hL hD8 (by intro q; cases q)) (by simpa using ne_of st8.dl.hF hD8 (by intro q; cases q))
        have hD9 : (upd H8 D2 (.dK [])) D = some (.dK (dS (onV V.str tx))) := (upd_ne nD2).trans st8.hD
        generalize (upd H8 D2 (.dK [])) = H9 at sa9 pa9 cr9 dl9 hD9 ⊢
        have hBD : ∀ z, H7 z = none → D ≠ z := fun z hz => ne_of_none st7.hD hz
        refine ⟨_, rfl, s, dx, _, rfl, sa9.ob, by kernel_rfl, s, dx, p, BD, DP, i, tx, bs, hs, ps, rfl, sa9, ?_⟩
        refine ⟨_, rfl, rfl, _, rfl, ?_⟩
        refine iteNI (fun n => absurd rfl n) (fun _ => ?_)
        refine ⟨_, rfl, s, dx, _, rfl, sa9.ob, by kernel_rfl, s, dx, p, BD, DP, i, tx, bs, hs, ps, rfl, sa9, ?_⟩
        refine ⟨_, _, _, _, false, rfl, .ty "bool", .base (.int i), kit_ty (by decide +kernel), ?_⟩
        refine ⟨_, rfl, iteF ?_⟩
        refine ⟨_, rfl, s, dx, _, rfl, sa9.ob, by kernel_rfl, s, dx, p, BD, DP, i, tx, bs, hs, ps, rfl, sa9, ?_⟩
        refine ⟨_, rfl, _, _, _, _, rfl, rfl, SqT.of dl9.tp, rfl, _, rfl, _, _, _, _, rfl, rfl, SqT.of dl9.tp, rfl, fun q qx nq nqx nex => ?_⟩
        have sq1 : Same H9 (upd (upd H9 qx (.own q)) q (.ins a.c_Pacts qx [])) := ((Same.refl H9).upd nqx).upd nq
        have eq1 : (upd (upd H9 qx (.own q)) q (.ins a.c_Pacts qx [])) q = some (.ins a.c_Pacts qx []) := upd_same
        have nq0 : H9 q = none := nq
        generalize (upd (upd H9 qx (.own q)) q (.ins a.c_Pacts qx [])) = HA at sq1 eq1 ⊢
        have dlA := dl9.same sq1
        refine ⟨q, qx, L, F, as, has, ps, hs, rfl, eq1, dlA.hL, dlA.hF, dlA.ob, dlA.cr, pok, cok, fun ql kl HB _ _ qa qcr kpq => ⟨rfl, ?_⟩⟩
        have sB : Same H9 HB := keeps_same sq1 kpq nq0
        have pa10 := pa9.same sB
        have cr10 := cr9.same sB
        obtain ⟨dp1, ep1⟩ := pa10.ob
        obtain ⟨dq1, eq2⟩ := qa.ob
        have hok := hrOk_of pok cok
        refine ⟨p, q, _, _, _, _, rfl, rfl, ep1, eq2, p, pl, hl, q, ql, kl, as, has, as, has, ps, ps, hs, hs, rfl, pa10, cr10, qa, qcr, pok, pok, hok, hok, ?_⟩
        refine ⟨true, by simp, false, rfl, iteF ?_⟩
        have txok : TxOk tx bs := ⟨tnd, by omega, fun e he => by
          obtain ⟨x, _, _, q1, q2⟩ := tk.good e he
          exact ⟨q1, q2, My.val_some (by rw [bk, ← keys]; exact List.mem_map.mpr ⟨e, he, rfl⟩)⟩⟩
        have saB := sa9.same sB
        have hDB := sB _ _ hD9
        refine ⟨_, rfl, _, rfl, s, dx, p, BD, DP, D, i, tx, bs, hs, ps, rfl, saB, hDB, txok, hBD _ nBD, hBD _ nDP, fun HC sC => ?_⟩
        refine ⟨true, rfl, iteT ?_⟩
        exact ⟨_, rfl, _, rfl, s, dx, p, BD, DP, D, i, tx, bs, hs, ps, rfl, saB.same sC, sC _ _ hDB, txok, hBD _ nBD, hBD _ nDP, fun HC2 _ => kk HC2⟩
end
theorem all_mk {l : PySem.W.OpenLaw} {w : World} {K : PySem.W.Frag} {h : Heap} {mg : Str → Option Value} {fa c_Pacts c_RowReader c_Body c_Side c_NoHelper c_NoBody c_NoWord c_NoRow c_PactError f_NoHelper_init f_NoWord_init f_NoBody_init f_NoRow_init f_is_whole f_is_side f_is_name f_place_of f_pocket_of f_read_rows f_RowReader_init f_RowReader_step f_RowReader_p_pocket_row f_RowReader_p_use f_RowReader_p_move f_RowReader_p_jump f_RowReader_p_row_number f_RowReader_p_throw f_RowReader_p_laden f_RowReader_p_done f_RowReader_p_end f_RowReader_p_call f_RowReader_p_called f_RowReader_p_handed f_RowReader_p_to f_RowReader_p_catches f_Body_init f_Side_init f_Side_pacts f_Side_number f_Side_body f_Side_rows f_Side_place f_Side_parsed f_Pacts_init f_Pacts_names f_Pacts_pact f_Pacts_laden f_Pacts_over f_Pacts_p_pair f_Pacts_errors f_Pacts_eq f_p_is_pair f_p_fits_pairs f_p_is_pact f_p_are_takes f_p_are_throws f_p_fits_helpers f_box f_mixed f_take f_unlike f_names f_any_deal f_pact f_laden f_errors f_of_team f_any_call f_any_end f_any_row f_any_rows f_sided f_no_row f_told f_law : Addr} (X : K.In h) (G : h.Ns mainGlobals mg) (hfa : mg "law" = some (.ref fa))
    {od_NoHelper_init an_NoHelper_init od_NoWord_init an_NoWord_init od_NoBody_init an_NoBody_init od_NoRow_init an_NoRow_init od_is_whole an_is_whole od_is_side an_is_side od_is_name an_is_name od_place_of an_place_of od_pocket_of an_pocket_of od_read_rows an_read_rows od_RowReader_init an_RowReader_init od_RowReader_step an_RowReader_step od_RowReader_p_pocket_row an_RowReader_p_pocket_row od_RowReader_p_use an_RowReader_p_use od_RowReader_p_move an_RowReader_p_move od_RowReader_p_jump an_RowReader_p_jump od_RowReader_p_row_number an_RowReader_p_row_number od_RowReader_p_throw an_RowReader_p_throw od_RowReader_p_laden an_RowReader_p_laden od_RowReader_p_done an_RowReader_p_done od_RowReader_p_end an_RowReader_p_end od_RowReader_p_call an_RowReader_p_call od_RowReader_p_called an_RowReader_p_called od_RowReader_p_handed an_RowReader_p_handed od_RowReader_p_to an_RowReader_p_to od_RowReader_p_catches an_RowReader_p_catches od_Body_init an_Body_init od_Side_init an_Side_init od_Side_pacts an_Side_pacts od_Side_number an_Side_number od_Side_body an_Side_body od_Side_rows an_Side_rows od_Side_place an_Side_place od_Side_parsed an_Side_parsed od_Pacts_init an_Pacts_init od_Pacts_names an_Pacts_names od_Pacts_pact an_Pacts_pact od_Pacts_laden an_Pacts_laden od_Pacts_over an_Pacts_over od_Pacts_p_pair an_Pacts_p_pair od_Pacts_errors an_Pacts_errors od_Pacts_eq an_Pacts_eq od_p_is_pair an_p_is_pair od_p_fits_pairs an_p_fits_pairs od_p_is_pact an_p_is_pact od_p_are_takes an_p_are_takes od_p_are_throws an_p_are_throws od_p_fits_helpers an_p_fits_helpers od_box an_box od_mixed an_mixed od_take an_take od_unlike an_unlike od_names an_names od_any_deal an_any_deal od_pact an_pact od_laden an_laden od_errors an_errors od_of_team an_of_team od_any_call an_any_call od_any_end an_any_end od_any_row an_any_row od_any_rows an_any_rows od_sided an_sided od_no_row an_no_row od_told an_told od_law an_law : Option Addr} {sl_NoHelper_init sl_NoWord_init sl_NoBody_init sl_NoRow_init sl_is_whole sl_is_side sl_is_name sl_place_of sl_pocket_of sl_read_rows sl_RowReader_init sl_RowReader_step sl_RowReader_p_pocket_row sl_RowReader_p_use sl_RowReader_p_move sl_RowReader_p_jump sl_RowReader_p_row_number sl_RowReader_p_throw sl_RowReader_p_laden sl_RowReader_p_done sl_RowReader_p_end sl_RowReader_p_call sl_RowReader_p_called sl_RowReader_p_handed sl_RowReader_p_to sl_RowReader_p_catches sl_Body_init sl_Side_init sl_Side_pacts sl_Side_number sl_Side_body sl_Side_rows sl_Side_place sl_Side_parsed sl_Pacts_init sl_Pacts_names sl_Pacts_pact sl_Pacts_laden sl_Pacts_over sl_Pacts_p_pair sl_Pacts_errors sl_Pacts_eq sl_p_is_pair sl_p_fits_pairs sl_p_is_pact sl_p_are_takes sl_p_are_throws sl_p_fits_helpers sl_box sl_mixed sl_take sl_unlike sl_names sl_any_deal sl_pact sl_laden sl_errors sl_of_team sl_any_call sl_any_end sl_any_row sl_any_rows sl_sided sl_no_row sl_told sl_law : Array (Option Value)}
    {oc_NoHelper_init kV_NoHelper_init dc_NoHelper_init pm_NoHelper_init cd_NoHelper_init ct_NoHelper_init oc_NoWord_init kV_NoWord_init dc_NoWord_init pm_NoWord_init cd_NoWord_init ct_NoWord_init oc_NoBody_init kV_NoBody_init dc_NoBody_init pm_NoBody_init cd_NoBody_init ct_NoBody_init oc_NoRow_init kV_NoRow_init dc_NoRow_init pm_NoRow_init cd_NoRow_init ct_NoRow_init oc_is_whole kV_is_whole dc_is_whole pm_is_whole cd_is_whole ct_is_whole oc_is_side kV_is_side dc_is_side pm_is_side cd_is_side ct_is_side oc_is_name kV_is_name dc_is_name pm_is_name cd_is_name ct_is_name oc_place_of kV_place_of dc_place_of pm_place_of cd_place_of ct_place_of oc_pocket_of kV_pocket_of dc_pocket_of pm_pocket_of cd_pocket_of ct_pocket_of oc_read_rows kV_read_rows dc_read_rows pm_read_rows cd_read_rows ct_read_rows oc_RowReader_init kV_RowReader_init dc_RowReader_init pm_RowReader_init cd_RowReader_init ct_RowReader_init oc_RowReader_step kV_RowReader_step dc_RowReader_step pm_RowReader_step cd_RowReader_step ct_RowReader_step oc_RowReader_p_pocket_row kV_RowReader_p_pocket_row dc_RowReader_p_pocket_row pm_RowReader_p_pocket_row cd_RowReader_p_pocket_row ct_RowReader_p_pocket_row oc_RowReader_p_use kV_RowReader_p_use dc_RowReader_p_use pm_RowReader_p_use cd_RowReader_p_use ct_RowReader_p_use oc_RowReader_p_move kV_RowReader_p_move dc_RowReader_p_move pm_RowReader_p_move cd_RowReader_p_move ct_RowReader_p_move oc_RowReader_p_jump kV_RowReader_p_jump dc_RowReader_p_jump pm_RowReader_p_jump cd_RowReader_p_jump ct_RowReader_p_jump oc_RowReader_p_row_number kV_RowReader_p_row_number dc_RowReader_p_row_number pm_RowReader_p_row_number cd_RowReader_p_row_number ct_RowReader_p_row_number oc_RowReader_p_throw kV_RowReader_p_throw dc_RowReader_p_throw pm_RowReader_p_throw cd_RowReader_p_throw ct_RowReader_p_throw oc_RowReader_p_laden kV_RowReader_p_laden dc_RowReader_p_laden pm_RowReader_p_laden cd_RowReader_p_laden ct_RowReader_p_laden oc_RowReader_p_done kV_RowReader_p_done dc_RowReader_p_done pm_RowReader_p_done cd_RowReader_p_done ct_RowReader_p_done oc_RowReader_p_end kV_RowReader_p_end dc_RowReader_p_end pm_RowReader_p_end cd_RowReader_p_end ct_RowReader_p_end oc_RowReader_p_call kV_RowReader_p_call dc_RowReader_p_call pm_RowReader_p_call cd_RowReader_p_call ct_RowReader_p_call oc_RowReader_p_called kV_RowReader_p_called dc_RowReader_p_called pm_RowReader_p_called cd_RowReader_p_called ct_RowReader_p_called oc_RowReader_p_handed kV_RowReader_p_handed dc_RowReader_p_handed pm_RowReader_p_handed cd_RowReader_p_handed ct_RowReader_p_handed oc_RowReader_p_to kV_RowReader_p_to dc_RowReader_p_to pm_RowReader_p_to cd_RowReader_p_to ct_RowReader_p_to oc_RowReader_p_catches kV_RowReader_p_catches dc_RowReader_p_catches pm_RowReader_p_catches cd_RowReader_p_catches ct_RowReader_p_catches oc_Body_init kV_Body_init dc_Body_init pm_Body_init cd_Body_init ct_Body_init oc_Side_init kV_Side_init dc_Side_init pm_Side_init cd_Side_init ct_Side_init oc_Side_pacts kV_Side_pacts dc_Side_pacts pm_Side_pacts cd_Side_pacts ct_Side_pacts oc_Side_number kV_Side_number dc_Side_number pm_Side_number cd_Side_number ct_Side_number oc_Side_body kV_Side_body dc_Side_body pm_Side_body cd_Side_body ct_Side_body oc_Side_rows kV_Side_rows dc_Side_rows pm_Side_rows cd_Side_rows ct_Side_rows oc_Side_place kV_Side_place dc_Side_place pm_Side_place cd_Side_place ct_Side_place oc_Side_parsed kV_Side_parsed dc_Side_parsed pm_Side_parsed cd_Side_parsed ct_Side_parsed oc_Pacts_init kV_Pacts_init dc_Pacts_init pm_Pacts_init cd_Pacts_init ct_Pacts_init oc_Pacts_names kV_Pacts_names dc_Pacts_names pm_Pacts_names cd_Pacts_names ct_Pacts_names oc_Pacts_pact kV_Pacts_pact dc_Pacts_pact pm_Pacts_pact cd_Pacts_pact ct_Pacts_pact oc_Pacts_laden kV_Pacts_laden dc_Pacts_laden pm_Pacts_laden cd_Pacts_laden ct_Pacts_laden oc_Pacts_over kV_Pacts_over dc_Pacts_over pm_Pacts_over cd_Pacts_over ct_Pacts_over oc_Pacts_p_pair kV_Pacts_p_pair dc_Pacts_p_pair pm_Pacts_p_pair cd_Pacts_p_pair ct_Pacts_p_pair oc_Pacts_errors kV_Pacts_errors dc_Pacts_errors pm_Pacts_errors cd_Pacts_errors ct_Pacts_errors oc_Pacts_eq kV_Pacts_eq dc_Pacts_eq pm_Pacts_eq cd_Pacts_eq ct_Pacts_eq oc_p_is_pair kV_p_is_pair dc_p_is_pair pm_p_is_pair cd_p_is_pair ct_p_is_pair oc_p_fits_pairs kV_p_fits_pairs dc_p_fits_pairs pm_p_fits_pairs cd_p_fits_pairs ct_p_fits_pairs oc_p_is_pact kV_p_is_pact dc_p_is_pact pm_p_is_pact cd_p_is_pact ct_p_is_pact oc_p_are_takes kV_p_are_takes dc_p_are_takes pm_p_are_takes cd_p_are_takes ct_p_are_takes oc_p_are_throws kV_p_are_throws dc_p_are_throws pm_p_are_throws cd_p_are_throws ct_p_are_throws oc_p_fits_helpers kV_p_fits_helpers dc_p_fits_helpers pm_p_fits_helpers cd_p_fits_helpers ct_p_fits_helpers oc_box kV_box dc_box pm_box cd_box ct_box oc_mixed kV_mixed dc_mixed pm_mixed cd_mixed ct_mixed oc_take kV_take dc_take pm_take cd_take ct_take oc_unlike kV_unlike dc_unlike pm_unlike cd_unlike ct_unlike oc_names kV_names dc_names pm_names cd_names ct_names oc_any_deal kV_any_deal dc_any_deal pm_any_deal cd_any_deal ct_any_deal oc_pact kV_pact dc_pact pm_pact cd_pact ct_pact oc_laden kV_laden dc_laden pm_laden cd_laden ct_laden oc_errors kV_errors dc_errors pm_errors cd_errors ct_errors oc_of_team kV_of_team dc_of_team pm_of_team cd_of_team ct_of_team oc_any_call kV_any_call dc_any_call pm_any_call cd_any_call ct_any_call oc_any_end kV_any_end dc_any_end pm_any_end cd_any_end ct_any_end oc_any_row kV_any_row dc_any_row pm_any_row cd_any_row ct_any_row oc_any_rows kV_any_rows dc_any_rows pm_any_rows cd_any_rows ct_any_rows oc_sided kV_sided dc_sided pm_sided cd_sided ct_sided oc_no_row kV_no_row dc_no_row pm_no_row cd_no_row ct_no_row oc_told kV_told dc_told pm_told cd_told ct_told oc_law kV_law dc_law pm_law cd_law ct_law : Value}
    {nm_NoHelper qn_NoHelper : Str} {N_NoHelper : Addr} {bs_NoHelper bm_NoHelper sub_NoHelper : List Value} {sn_NoHelper : List Str} {ab_NoHelper : Bool} {col_NoHelper : Option Bool} {dd_NoHelper : Option Addr} {e0_NoHelper e1_NoHelper e2_NoHelper e3_NoHelper e5_NoHelper : Option Value}
    {nm_NoBody qn_NoBody : Str} {N_NoBody : Addr} {bs_NoBody bm_NoBody sub_NoBody : List Value} {sn_NoBody : List Str} {ab_NoBody : Bool} {col_NoBody : Option Bool} {dd_NoBody : Option Addr} {e0_NoBody e1_NoBody e2_NoBody e3_NoBody e5_NoBody : Option Value}
    {nm_NoWord qn_NoWord : Str} {N_NoWord : Addr} {bs_NoWord bm_NoWord sub_NoWord : List Value} {sn_NoWord : List Str} {ab_NoWord : Bool} {col_NoWord : Option Bool} {dd_NoWord : Option Addr} {e0_NoWord e1_NoWord e2_NoWord e3_NoWord e5_NoWord : Option Value}
    {nm_NoRow qn_NoRow : Str} {N_NoRow : Addr} {bs_NoRow bm_NoRow sub_NoRow : List Value} {sn_NoRow : List Str} {ab_NoRow : Bool} {col_NoRow : Option Bool} {dd_NoRow : Option Addr} {e0_NoRow e1_NoRow e2_NoRow e3_NoRow e5_NoRow : Option Value}
    {t_LONGEST_NAME : Tok}
    {t_MOST_PAIRS : Tok}
    {t_MOST_HELPERS : Tok}
    {t_MOST_TAKES : Tok}
    {t_MOST_THROWS : Tok}
    {t_TAKES : Addr} {n_TAKES : Nat} {sl_TAKES : Array (Option Value)} {tk0_TAKES tk1_TAKES : Tok}
    {t_PLACES : Addr} {n_PLACES : Nat} {sl_PLACES : Array (Option Value)} {tk0_PLACES tk1_PLACES tk2_PLACES tk3_PLACES tk4_PLACES tk5_PLACES : Tok}
    {t_SHELF : Tok}
    {t_POCKET_ROWS : Addr} {n_POCKET_ROWS : Nat} {sl_POCKET_ROWS : Array (Option Value)} {tk0_POCKET_ROWS tk1_POCKET_ROWS tk2_POCKET_ROWS tk3_POCKET_ROWS tk4_POCKET_ROWS tk5_POCKET_ROWS : Tok}
    {t_MOST_ROWS : Tok}
    (a_Pacts : PySem.W.nsIn K mainGlobals "Pacts" = some (some (.ref c_Pacts)))
    (pg_Pacts : PySem.W.plainGet K c_Pacts Str.empty = true)
    (hd_Pacts : PySem.W.hasDictIn K c_Pacts = true)
    (po_Pacts : PySem.W.plainOver K c_Pacts = true)
    (sa_Pacts : PySem.W.findIn K (.ref c_Pacts) "__setattr__" = some (some (.builtin "object.__setattr__")))
    (mk_Pacts : PySem.W.makesIn K c_Pacts = true)
    (kc_Pacts : PySem.W.keepIn K (.ref c_Pacts) = true)
    (n_Pacts__pairs : PySem.W.findIn K (.ref c_Pacts) "_pairs" = some none)
    (n_Pacts__helpers : PySem.W.findIn K (.ref c_Pacts) "_helpers" = some none)
    (a_RowReader : PySem.W.nsIn K mainGlobals "RowReader" = some (some (.ref c_RowReader)))
    (pg_RowReader : PySem.W.plainGet K c_RowReader Str.empty = true)
    (hd_RowReader : PySem.W.hasDictIn K c_RowReader = true)
    (po_RowReader : PySem.W.plainOver K c_RowReader = true)
    (sa_RowReader : PySem.W.findIn K (.ref c_RowReader) "__setattr__" = some (some (.builtin "object.__setattr__")))
    (mk_RowReader : PySem.W.makesIn K c_RowReader = true)
    (kc_RowReader : PySem.W.keepIn K (.ref c_RowReader) = true)
    (n_RowReader__pacts : PySem.W.findIn K (.ref c_RowReader) "_pacts" = some none)
    (n_RowReader__pact : PySem.W.findIn K (.ref c_RowReader) "_pact" = some none)
    (n_RowReader__many : PySem.W.findIn K (.ref c_RowReader) "_many" = some none)
    (a_Body : PySem.W.nsIn K mainGlobals "Body" = some (some (.ref c_Body)))
    (pg_Body : PySem.W.plainGet K c_Body Str.empty = true)
    (hd_Body : PySem.W.hasDictIn K c_Body = true)
    (po_Body : PySem.W.plainOver K c_Body = true)
    (sa_Body : PySem.W.findIn K (.ref c_Body) "__setattr__" = some (some (.builtin "object.__setattr__")))
    (mk_Body : PySem.W.makesIn K c_Body = true)
    (kc_Body : PySem.W.keepIn K (.ref c_Body) = true)
    (n_Body_text : PySem.W.findIn K (.ref c_Body) "text" = some none)
    (n_Body_many : PySem.W.findIn K (.ref c_Body) "many" = some none)
    (n_Body_statements : PySem.W.findIn K (.ref c_Body) "statements" = some none)
    (n_Body_texts : PySem.W.findIn K (.ref c_Body) "texts" = some none)
    (n_Body_numbers : PySem.W.findIn K (.ref c_Body) "numbers" = some none)
    (n_Body_steps : PySem.W.findIn K (.ref c_Body) "steps" = some none)
    (a_Side : PySem.W.nsIn K mainGlobals "Side" = some (some (.ref c_Side)))
    (pg_Side : PySem.W.plainGet K c_Side Str.empty = true)
    (hd_Side : PySem.W.hasDictIn K c_Side = true)
    (po_Side : PySem.W.plainOver K c_Side = true)
    (sa_Side : PySem.W.findIn K (.ref c_Side) "__setattr__" = some (some (.builtin "object.__setattr__")))
    (mk_Side : PySem.W.makesIn K c_Side = true)
    (kc_Side : PySem.W.keepIn K (.ref c_Side) = true)
    (n_Side__pacts : PySem.W.findIn K (.ref c_Side) "_pacts" = some none)
    (n_Side__number : PySem.W.findIn K (.ref c_Side) "_number" = some none)
    (n_Side__bodies : PySem.W.findIn K (.ref c_Side) "_bodies" = some none)
    (n_Side__parsed : PySem.W.findIn K (.ref c_Side) "_parsed" = some none)
    (a_NoHelper : PySem.W.nsIn K mainGlobals "NoHelper" = some (some (.ref c_NoHelper)))
    (xl_NoHelper : K.lookup c_NoHelper = some (excClassObj nm_NoHelper qn_NoHelper c_NoHelper N_NoHelper bs_NoHelper bm_NoHelper true sn_NoHelper sub_NoHelper ab_NoHelper col_NoHelper dd_NoHelper e0_NoHelper e1_NoHelper e2_NoHelper e3_NoHelper e5_NoHelper "ValueError.__new__"))
    (xm_NoHelper : PySem.HandSPX.refsVE bm_NoHelper = true)
    (xs_NoHelper : PySem.W.findIn K (.ref c_NoHelper) "__setattr__" = some (some (.builtin "object.__setattr__")))
    (xe_NoHelper : PySem.W.subIn K (.ref c_NoHelper) (.type "BaseException") = some true)
    (xy_NoHelper : PySem.W.typeIn K (.ref c_NoHelper) = some (.type "type"))
    (xk_NoHelper : PySem.W.keepIn K (.ref c_NoHelper) = true)
    (xg_NoHelper : PySem.W.findIn K (.ref c_NoHelper) "__getattribute__" = some (some (.builtin "BaseException.__getattribute__")))
    (xo_NoHelper : PySem.W.findIn K (.ref c_NoHelper) "__getattr__" = some none)
    (xd_NoHelper : PySem.W.hasDictIn K c_NoHelper = true)
    (n_NoHelper_name : PySem.W.findIn K (.ref c_NoHelper) "name" = some none)
    (a_NoBody : PySem.W.nsIn K mainGlobals "NoBody" = some (some (.ref c_NoBody)))
    (xl_NoBody : K.lookup c_NoBody = some (excClassObj nm_NoBody qn_NoBody c_NoBody N_NoBody bs_NoBody bm_NoBody true sn_NoBody sub_NoBody ab_NoBody col_NoBody dd_NoBody e0_NoBody e1_NoBody e2_NoBody e3_NoBody e5_NoBody "ValueError.__new__"))
    (xm_NoBody : PySem.HandSPX.refsVE bm_NoBody = true)
    (xs_NoBody : PySem.W.findIn K (.ref c_NoBody) "__setattr__" = some (some (.builtin "object.__setattr__")))
    (xe_NoBody : PySem.W.subIn K (.ref c_NoBody) (.type "BaseException") = some true)
    (xy_NoBody : PySem.W.typeIn K (.ref c_NoBody) = some (.type "type"))
    (xk_NoBody : PySem.W.keepIn K (.ref c_NoBody) = true)
    (xg_NoBody : PySem.W.findIn K (.ref c_NoBody) "__getattribute__" = some (some (.builtin "BaseException.__getattribute__")))
    (xo_NoBody : PySem.W.findIn K (.ref c_NoBody) "__getattr__" = some none)
    (xd_NoBody : PySem.W.hasDictIn K c_NoBody = true)
    (n_NoBody_name : PySem.W.findIn K (.ref c_NoBody) "name" = some none)
    (n_NoBody_at : PySem.W.findIn K (.ref c_NoBody) "at" = some none)
    (a_NoWord : PySem.W.nsIn K mainGlobals "NoWord" = some (some (.ref c_NoWord)))
    (xl_NoWord : K.lookup c_NoWord = some (excClassObj nm_NoWord qn_NoWord c_NoWord N_NoWord bs_NoWord bm_NoWord true sn_NoWord sub_NoWord ab_NoWord col_NoWord dd_NoWord e0_NoWord e1_NoWord e2_NoWord e3_NoWord e5_NoWord "ValueError.__new__"))
    (xm_NoWord : PySem.HandSPX.refsVE bm_NoWord = true)
    (xs_NoWord : PySem.W.findIn K (.ref c_NoWord) "__setattr__" = some (some (.builtin "object.__setattr__")))
    (xe_NoWord : PySem.W.subIn K (.ref c_NoWord) (.type "BaseException") = some true)
    (xy_NoWord : PySem.W.typeIn K (.ref c_NoWord) = some (.type "type"))
    (xk_NoWord : PySem.W.keepIn K (.ref c_NoWord) = true)
    (xg_NoWord : PySem.W.findIn K (.ref c_NoWord) "__getattribute__" = some (some (.builtin "BaseException.__getattribute__")))
    (xo_NoWord : PySem.W.findIn K (.ref c_NoWord) "__getattr__" = some none)
    (xd_NoWord : PySem.W.hasDictIn K c_NoWord = true)
    (n_NoWord_word : PySem.W.findIn K (.ref c_NoWord) "word" = some none)
    (a_NoRow : PySem.W.nsIn K mainGlobals "NoRow" = some (some (.ref c_NoRow)))
    (xl_NoRow : K.lookup c_NoRow = some (excClassObj nm_NoRow qn_NoRow c_NoRow N_NoRow bs_NoRow bm_NoRow true sn_NoRow sub_NoRow ab_NoRow col_NoRow dd_NoRow e0_NoRow e1_NoRow e2_NoRow e3_NoRow e5_NoRow "ValueError.__new__"))
    (xm_NoRow : PySem.HandSPX.refsVE bm_NoRow = true)
    (xs_NoRow : PySem.W.findIn K (.ref c_NoRow) "__setattr__" = some (some (.builtin "object.__setattr__")))
    (xe_NoRow : PySem.W.subIn K (.ref c_NoRow) (.type "BaseException") = some true)
    (xy_NoRow : PySem.W.typeIn K (.ref c_NoRow) = some (.type "type"))
    (xk_NoRow : PySem.W.keepIn K (.ref c_NoRow) = true)
    (xg_NoRow : PySem.W.findIn K (.ref c_NoRow) "__getattribute__" = some (some (.builtin "BaseException.__getattribute__")))
    (xo_NoRow : PySem.W.findIn K (.ref c_NoRow) "__getattr__" = some none)
    (xd_NoRow : PySem.W.hasDictIn K c_NoRow = true)
    (n_NoRow_at : PySem.W.findIn K (.ref c_NoRow) "at" = some none)
    (a_PactError : PySem.W.nsIn K mainGlobals "PactError" = some (some (.ref c_PactError)))
    (da_PactError : PySem.W.specialIn K (.ref c_PactError) "__getattribute__" = some (some (.builtin "type.__getattribute__")))
    (dr_PactError : PySem.W.readsIn K c_PactError (.type "type") = true)
    (df_PactError : PySem.W.findCls K (.ref c_PactError) (.type "type") "__init__" = some (.val (.builtin "ValueError.__init__")))
    (v_LONGEST_NAME : PySem.W.nsIn K mainGlobals "LONGEST_NAME" = some (some (.int 8 t_LONGEST_NAME)))
    (v_MOST_PAIRS : PySem.W.nsIn K mainGlobals "MOST_PAIRS" = some (some (.int 6 t_MOST_PAIRS)))
    (v_MOST_HELPERS : PySem.W.nsIn K mainGlobals "MOST_HELPERS" = some (some (.int 4 t_MOST_HELPERS)))
    (v_MOST_TAKES : PySem.W.nsIn K mainGlobals "MOST_TAKES" = some (some (.int 3 t_MOST_TAKES)))
    (v_MOST_THROWS : PySem.W.nsIn K mainGlobals "MOST_THROWS" = some (some (.int 4 t_MOST_THROWS)))
    (v_TAKES : PySem.W.nsIn K mainGlobals "TAKES" = some (some (.ref t_TAKES)))
    (lk_TAKES : K.lookup t_TAKES = some ⟨.type "tuple", none, .seq #[.str "lent" tk0_TAKES, .str "given" tk1_TAKES] n_TAKES, sl_TAKES⟩)
    (v_PLACES : PySem.W.nsIn K mainGlobals "PLACES" = some (some (.ref t_PLACES)))
    (lk_PLACES : K.lookup t_PLACES = some ⟨.type "tuple", none, .seq #[.str "a" tk0_PLACES, .str "b" tk1_PLACES, .str "c" tk2_PLACES, .str "d" tk3_PLACES, .str "e" tk4_PLACES, .str "shelf" tk5_PLACES] n_PLACES, sl_PLACES⟩)
    (v_SHELF : PySem.W.nsIn K mainGlobals "SHELF" = some (some (.int 5 t_SHELF)))
    (v_POCKET_ROWS : PySem.W.nsIn K mainGlobals "POCKET_ROWS" = some (some (.ref t_POCKET_ROWS)))
    (lk_POCKET_ROWS : K.lookup t_POCKET_ROWS = some ⟨.type "tuple", none, .seq #[.str "make" tk0_POCKET_ROWS, .str "free" tk1_POCKET_ROWS, .str "clear" tk2_POCKET_ROWS, .str "forget" tk3_POCKET_ROWS, .str "put" tk4_POCKET_ROWS, .str "take" tk5_POCKET_ROWS] n_POCKET_ROWS, sl_POCKET_ROWS⟩)
    (v_MOST_ROWS : PySem.W.nsIn K mainGlobals "MOST_ROWS" = some (some (.int 200 t_MOST_ROWS)))
    (fe_BB : PySem.W.exmOne K (.ref c_NoBody) (.ref c_NoBody) = some true)
    (fe_HB : PySem.W.exmOne K (.ref c_NoHelper) (.ref c_NoBody) = some false)
    (fe_HH : PySem.W.exmOne K (.ref c_NoHelper) (.ref c_NoHelper) = some true)
    (fe_WW : PySem.W.exmOne K (.ref c_NoWord) (.ref c_NoWord) = some true)
    (fe_RR : PySem.W.exmOne K (.ref c_NoRow) (.ref c_NoRow) = some true)
    (fg : PySem.W.specialIn K (.builtin "object.__class__") "__get__" = some (some (.builtin "getset_descriptor.__get__")))
    (ft : PySem.W.takesIn K (.builtin "object.__class__") = some true)
    (pn_1 : PySem.W.findIn K (.ref c_Pacts) "__ne__" = some (some (.builtin "object.__ne__")))
    (pn_2 : PySem.W.mroIn K c_Pacts (.type "object") = some true)
    (pn_3 : PySem.W.subIn K (.ref c_Pacts) (.type "NoneType") = some false)
    (pn_4 : PySem.W.subIn K (.ref c_Pacts) (.type "int") = some false)
    (pn_5 : PySem.W.subIn K (.ref c_Pacts) (.type "str") = some false)
    (pn_6 : PySem.W.subIn K (.ref c_Pacts) (.type "list") = some false)
    (pn_7 : PySem.W.findIn K (.ref c_Pacts) "__class__" = some (some (.builtin "object.__class__")))
    (pn_8 : PySem.W.kitOne K (.ref c_Pacts) (.ref c_Pacts) = some true)
    (pn_9 : PySem.W.kitOne K (.type "NoneType") (.ref c_Pacts) = some false)
    (pn_10 : PySem.W.kitOne K (.type "int") (.ref c_Pacts) = some false)
    (pn_11 : PySem.W.kitOne K (.type "str") (.ref c_Pacts) = some false)
    (pn_12 : PySem.W.kitOne K (.type "list") (.ref c_Pacts) = some false)
    (a_NoHelper_init : PySem.W.findIn K (.ref c_NoHelper) "__init__" = some (some (.ref f_NoHelper_init)))
    (i_NoHelper_init : PySem.W.isFn K (.ref f_NoHelper_init) = true)
    (l_NoHelper_init : K.lookup f_NoHelper_init = some ⟨oc_NoHelper_init, od_NoHelper_init, .func (PySem.W.fnOf "__init__" "NoHelper.__init__" (defArgs s_NoHelper_init) (defBody s_NoHelper_init) (defScope s_NoHelper_init) .none kV_NoHelper_init dc_NoHelper_init pm_NoHelper_init an_NoHelper_init cd_NoHelper_init ct_NoHelper_init), sl_NoHelper_init⟩)
    (q_NoHelper_init : PySem.W.codeIn K cd_NoHelper_init "NoHelper.__init__" = true)
    (k_NoHelper_init : PySem.W.keepIn K (.ref f_NoHelper_init) = true)
    (a_NoWord_init : PySem.W.findIn K (.ref c_NoWord) "__init__" = some (some (.ref f_NoWord_init)))
    (i_NoWord_init : PySem.W.isFn K (.ref f_NoWord_init) = true)
    (l_NoWord_init : K.lookup f_NoWord_init = some ⟨oc_NoWord_init, od_NoWord_init, .func (PySem.W.fnOf "__init__" "NoWord.__init__" (defArgs s_NoWord_init) (defBody s_NoWord_init) (defScope s_NoWord_init) .none kV_NoWord_init dc_NoWord_init pm_NoWord_init an_NoWord_init cd_NoWord_init ct_NoWord_init), sl_NoWord_init⟩)
    (q_NoWord_init : PySem.W.codeIn K cd_NoWord_init "NoWord.__init__" = true)
    (k_NoWord_init : PySem.W.keepIn K (.ref f_NoWord_init) = true)
    (a_NoBody_init : PySem.W.findIn K (.ref c_NoBody) "__init__" = some (some (.ref f_NoBody_init)))
    (i_NoBody_init : PySem.W.isFn K (.ref f_NoBody_init) = true)
    (l_NoBody_init : K.lookup f_NoBody_init = some ⟨oc_NoBody_init, od_NoBody_init, .func (PySem.W.fnOf "__init__" "NoBody.__init__" (defArgs s_NoBody_init) (defBody s_NoBody_init) (defScope s_NoBody_init) .none kV_NoBody_init dc_NoBody_init pm_NoBody_init an_NoBody_init cd_NoBody_init ct_NoBody_init), sl_NoBody_init⟩)
    (q_NoBody_init : PySem.W.codeIn K cd_NoBody_init "NoBody.__init__" = true)
    (k_NoBody_init : PySem.W.keepIn K (.ref f_NoBody_init) = true)
    (a_NoRow_init : PySem.W.findIn K (.ref c_NoRow) "__init__" = some (some (.ref f_NoRow_init)))
    (i_NoRow_init : PySem.W.isFn K (.ref f_NoRow_init) = true)
    (l_NoRow_init : K.lookup f_NoRow_init = some ⟨oc_NoRow_init, od_NoRow_init, .func (PySem.W.fnOf "__init__" "NoRow.__init__" (defArgs s_NoRow_init) (defBody s_NoRow_init) (defScope s_NoRow_init) .none kV_NoRow_init dc_NoRow_init pm_NoRow_init an_NoRow_init cd_NoRow_init ct_NoRow_init), sl_NoRow_init⟩)
    (q_NoRow_init : PySem.W.codeIn K cd_NoRow_init "NoRow.__init__" = true)
    (k_NoRow_init : PySem.W.keepIn K (.ref f_NoRow_init) = true)
    (a_is_whole : PySem.W.nsIn K mainGlobals "is_whole" = some (some (.ref f_is_whole)))
    (l_is_whole : K.lookup f_is_whole = some ⟨oc_is_whole, od_is_whole, .func (PySem.W.fnOf "is_whole" "is_whole" (defArgs s_is_whole) (defBody s_is_whole) (defScope s_is_whole) .none kV_is_whole dc_is_whole pm_is_whole an_is_whole cd_is_whole ct_is_whole), sl_is_whole⟩)
    (q_is_whole : PySem.W.codeIn K cd_is_whole "is_whole" = true)
    (k_is_whole : PySem.W.keepIn K (.ref f_is_whole) = true)
    (a_is_side : PySem.W.nsIn K mainGlobals "is_side" = some (some (.ref f_is_side)))
    (l_is_side : K.lookup f_is_side = some ⟨oc_is_side, od_is_side, .func (PySem.W.fnOf "is_side" "is_side" (defArgs s_is_side) (defBody s_is_side) (defScope s_is_side) .none kV_is_side dc_is_side pm_is_side an_is_side cd_is_side ct_is_side), sl_is_side⟩)
    (q_is_side : PySem.W.codeIn K cd_is_side "is_side" = true)
    (k_is_side : PySem.W.keepIn K (.ref f_is_side) = true)
    (a_is_name : PySem.W.nsIn K mainGlobals "is_name" = some (some (.ref f_is_name)))
    (l_is_name : K.lookup f_is_name = some ⟨oc_is_name, od_is_name, .func (PySem.W.fnOf "is_name" "is_name" (defArgs s_is_name) (defBody s_is_name) (defScope s_is_name) .none kV_is_name dc_is_name pm_is_name an_is_name cd_is_name ct_is_name), sl_is_name⟩)
    (q_is_name : PySem.W.codeIn K cd_is_name "is_name" = true)
    (k_is_name : PySem.W.keepIn K (.ref f_is_name) = true)
    (a_place_of : PySem.W.nsIn K mainGlobals "place_of" = some (some (.ref f_place_of)))
    (l_place_of : K.lookup f_place_of = some ⟨oc_place_of, od_place_of, .func (PySem.W.fnOf "place_of" "place_of" (defArgs s_place_of) (defBody s_place_of) (defScope s_place_of) .none kV_place_of dc_place_of pm_place_of an_place_of cd_place_of ct_place_of), sl_place_of⟩)
    (q_place_of : PySem.W.codeIn K cd_place_of "place_of" = true)
    (k_place_of : PySem.W.keepIn K (.ref f_place_of) = true)
    (a_pocket_of : PySem.W.nsIn K mainGlobals "pocket_of" = some (some (.ref f_pocket_of)))
    (l_pocket_of : K.lookup f_pocket_of = some ⟨oc_pocket_of, od_pocket_of, .func (PySem.W.fnOf "pocket_of" "pocket_of" (defArgs s_pocket_of) (defBody s_pocket_of) (defScope s_pocket_of) .none kV_pocket_of dc_pocket_of pm_pocket_of an_pocket_of cd_pocket_of ct_pocket_of), sl_pocket_of⟩)
    (q_pocket_of : PySem.W.codeIn K cd_pocket_of "pocket_of" = true)
    (k_pocket_of : PySem.W.keepIn K (.ref f_pocket_of) = true)
    (a_read_rows : PySem.W.nsIn K mainGlobals "read_rows" = some (some (.ref f_read_rows)))
    (l_read_rows : K.lookup f_read_rows = some ⟨oc_read_rows, od_read_rows, .func (PySem.W.fnOf "read_rows" "read_rows" (defArgs s_read_rows) (defBody s_read_rows) (defScope s_read_rows) .none kV_read_rows dc_read_rows pm_read_rows an_read_rows cd_read_rows ct_read_rows), sl_read_rows⟩)
    (q_read_rows : PySem.W.codeIn K cd_read_rows "read_rows" = true)
    (k_read_rows : PySem.W.keepIn K (.ref f_read_rows) = true)
    (a_RowReader_init : PySem.W.findIn K (.ref c_RowReader) "__init__" = some (some (.ref f_RowReader_init)))
    (i_RowReader_init : PySem.W.isFn K (.ref f_RowReader_init) = true)
    (l_RowReader_init : K.lookup f_RowReader_init = some ⟨oc_RowReader_init, od_RowReader_init, .func (PySem.W.fnOf "__init__" "RowReader.__init__" (defArgs s_RowReader_init) (defBody s_RowReader_init) (defScope s_RowReader_init) .none kV_RowReader_init dc_RowReader_init pm_RowReader_init an_RowReader_init cd_RowReader_init ct_RowReader_init), sl_RowReader_init⟩)
    (q_RowReader_init : PySem.W.codeIn K cd_RowReader_init "RowReader.__init__" = true)
    (k_RowReader_init : PySem.W.keepIn K (.ref f_RowReader_init) = true)
    (a_RowReader_step : PySem.W.findIn K (.ref c_RowReader) "step" = some (some (.ref f_RowReader_step)))
    (i_RowReader_step : PySem.W.isFn K (.ref f_RowReader_step) = true)
    (l_RowReader_step : K.lookup f_RowReader_step = some ⟨oc_RowReader_step, od_RowReader_step, .func (PySem.W.fnOf "step" "RowReader.step" (defArgs s_RowReader_step) (defBody s_RowReader_step) (defScope s_RowReader_step) .none kV_RowReader_step dc_RowReader_step pm_RowReader_step an_RowReader_step cd_RowReader_step ct_RowReader_step), sl_RowReader_step⟩)
    (q_RowReader_step : PySem.W.codeIn K cd_RowReader_step "RowReader.step" = true)
    (k_RowReader_step : PySem.W.keepIn K (.ref f_RowReader_step) = true)
    (a_RowReader_p_pocket_row : PySem.W.findIn K (.ref c_RowReader) "_pocket_row" = some (some (.ref f_RowReader_p_pocket_row)))
    (i_RowReader_p_pocket_row : PySem.W.isFn K (.ref f_RowReader_p_pocket_row) = true)
    (l_RowReader_p_pocket_row : K.lookup f_RowReader_p_pocket_row = some ⟨oc_RowReader_p_pocket_row, od_RowReader_p_pocket_row, .func (PySem.W.fnOf "_pocket_row" "RowReader._pocket_row" (defArgs s_RowReader_p_pocket_row) (defBody s_RowReader_p_pocket_row) (defScope s_RowReader_p_pocket_row) .none kV_RowReader_p_pocket_row dc_RowReader_p_pocket_row pm_RowReader_p_pocket_row an_RowReader_p_pocket_row cd_RowReader_p_pocket_row ct_RowReader_p_pocket_row), sl_RowReader_p_pocket_row⟩)
    (q_RowReader_p_pocket_row : PySem.W.codeIn K cd_RowReader_p_pocket_row "RowReader._pocket_row" = true)
    (k_RowReader_p_pocket_row : PySem.W.keepIn K (.ref f_RowReader_p_pocket_row) = true)
    (a_RowReader_p_use : PySem.W.findIn K (.ref c_RowReader) "_use" = some (some (.ref f_RowReader_p_use)))
    (i_RowReader_p_use : PySem.W.isFn K (.ref f_RowReader_p_use) = true)
    (l_RowReader_p_use : K.lookup f_RowReader_p_use = some ⟨oc_RowReader_p_use, od_RowReader_p_use, .func (PySem.W.fnOf "_use" "RowReader._use" (defArgs s_RowReader_p_use) (defBody s_RowReader_p_use) (defScope s_RowReader_p_use) .none kV_RowReader_p_use dc_RowReader_p_use pm_RowReader_p_use an_RowReader_p_use cd_RowReader_p_use ct_RowReader_p_use), sl_RowReader_p_use⟩)
    (q_RowReader_p_use : PySem.W.codeIn K cd_RowReader_p_use "RowReader._use" = true)
    (k_RowReader_p_use : PySem.W.keepIn K (.ref f_RowReader_p_use) = true)
    (a_RowReader_p_move : PySem.W.findIn K (.ref c_RowReader) "_move" = some (some (.ref f_RowReader_p_move)))
    (i_RowReader_p_move : PySem.W.isFn K (.ref f_RowReader_p_move) = true)
    (l_RowReader_p_move : K.lookup f_RowReader_p_move = some ⟨oc_RowReader_p_move, od_RowReader_p_move, .func (PySem.W.fnOf "_move" "RowReader._move" (defArgs s_RowReader_p_move) (defBody s_RowReader_p_move) (defScope s_RowReader_p_move) .none kV_RowReader_p_move dc_RowReader_p_move pm_RowReader_p_move an_RowReader_p_move cd_RowReader_p_move ct_RowReader_p_move), sl_RowReader_p_move⟩)
    (q_RowReader_p_move : PySem.W.codeIn K cd_RowReader_p_move "RowReader._move" = true)
    (k_RowReader_p_move : PySem.W.keepIn K (.ref f_RowReader_p_move) = true)
    (a_RowReader_p_jump : PySem.W.findIn K (.ref c_RowReader) "_jump" = some (some (.ref f_RowReader_p_jump)))
    (i_RowReader_p_jump : PySem.W.isFn K (.ref f_RowReader_p_jump) = true)
    (l_RowReader_p_jump : K.lookup f_RowReader_p_jump = some ⟨oc_RowReader_p_jump, od_RowReader_p_jump, .func (PySem.W.fnOf "_jump" "RowReader._jump" (defArgs s_RowReader_p_jump) (defBody s_RowReader_p_jump) (defScope s_RowReader_p_jump) .none kV_RowReader_p_jump dc_RowReader_p_jump pm_RowReader_p_jump an_RowReader_p_jump cd_RowReader_p_jump ct_RowReader_p_jump), sl_RowReader_p_jump⟩)
    (q_RowReader_p_jump : PySem.W.codeIn K cd_RowReader_p_jump "RowReader._jump" = true)
    (k_RowReader_p_jump : PySem.W.keepIn K (.ref f_RowReader_p_jump) = true)
    (a_RowReader_p_row_number : PySem.W.findIn K (.ref c_RowReader) "_row_number" = some (some (.ref f_RowReader_p_row_number)))
    (i_RowReader_p_row_number : PySem.W.isFn K (.ref f_RowReader_p_row_number) = true)
    (l_RowReader_p_row_number : K.lookup f_RowReader_p_row_number = some ⟨oc_RowReader_p_row_number, od_RowReader_p_row_number, .func (PySem.W.fnOf "_row_number" "RowReader._row_number" (defArgs s_RowReader_p_row_number) (defBody s_RowReader_p_row_number) (defScope s_RowReader_p_row_number) .none kV_RowReader_p_row_number dc_RowReader_p_row_number pm_RowReader_p_row_number an_RowReader_p_row_number cd_RowReader_p_row_number ct_RowReader_p_row_number), sl_RowReader_p_row_number⟩)
    (q_RowReader_p_row_number : PySem.W.codeIn K cd_RowReader_p_row_number "RowReader._row_number" = true)
    (k_RowReader_p_row_number : PySem.W.keepIn K (.ref f_RowReader_p_row_number) = true)
    (a_RowReader_p_throw : PySem.W.findIn K (.ref c_RowReader) "_throw" = some (some (.ref f_RowReader_p_throw)))
    (i_RowReader_p_throw : PySem.W.isFn K (.ref f_RowReader_p_throw) = true)
    (l_RowReader_p_throw : K.lookup f_RowReader_p_throw = some ⟨oc_RowReader_p_throw, od_RowReader_p_throw, .func (PySem.W.fnOf "_throw" "RowReader._throw" (defArgs s_RowReader_p_throw) (defBody s_RowReader_p_throw) (defScope s_RowReader_p_throw) .none kV_RowReader_p_throw dc_RowReader_p_throw pm_RowReader_p_throw an_RowReader_p_throw cd_RowReader_p_throw ct_RowReader_p_throw), sl_RowReader_p_throw⟩)
    (q_RowReader_p_throw : PySem.W.codeIn K cd_RowReader_p_throw "RowReader._throw" = true)
    (k_RowReader_p_throw : PySem.W.keepIn K (.ref f_RowReader_p_throw) = true)
    (a_RowReader_p_laden : PySem.W.findIn K (.ref c_RowReader) "_laden" = some (some (.ref f_RowReader_p_laden)))
    (i_RowReader_p_laden : PySem.W.isFn K (.ref f_RowReader_p_laden) = true)
    (l_RowReader_p_laden : K.lookup f_RowReader_p_laden = some ⟨oc_RowReader_p_laden, od_RowReader_p_laden, .func (PySem.W.fnOf "_laden" "RowReader._laden" (defArgs s_RowReader_p_laden) (defBody s_RowReader_p_laden) (defScope s_RowReader_p_laden) .none kV_RowReader_p_laden dc_RowReader_p_laden pm_RowReader_p_laden an_RowReader_p_laden cd_RowReader_p_laden ct_RowReader_p_laden), sl_RowReader_p_laden⟩)
    (q_RowReader_p_laden : PySem.W.codeIn K cd_RowReader_p_laden "RowReader._laden" = true)
    (k_RowReader_p_laden : PySem.W.keepIn K (.ref f_RowReader_p_laden) = true)
    (a_RowReader_p_done : PySem.W.findIn K (.ref c_RowReader) "_done" = some (some (.ref f_RowReader_p_done)))
    (i_RowReader_p_done : PySem.W.isFn K (.ref f_RowReader_p_done) = true)
    (l_RowReader_p_done : K.lookup f_RowReader_p_done = some ⟨oc_RowReader_p_done, od_RowReader_p_done, .func (PySem.W.fnOf "_done" "RowReader._done" (defArgs s_RowReader_p_done) (defBody s_RowReader_p_done) (defScope s_RowReader_p_done) .none kV_RowReader_p_done dc_RowReader_p_done pm_RowReader_p_done an_RowReader_p_done cd_RowReader_p_done ct_RowReader_p_done), sl_RowReader_p_done⟩)
    (q_RowReader_p_done : PySem.W.codeIn K cd_RowReader_p_done "RowReader._done" = true)
    (k_RowReader_p_done : PySem.W.keepIn K (.ref f_RowReader_p_done) = true)
    (a_RowReader_p_end : PySem.W.findIn K (.ref c_RowReader) "_end" = some (some (.ref f_RowReader_p_end)))
    (i_RowReader_p_end : PySem.W.isFn K (.ref f_RowReader_p_end) = true)
    (l_RowReader_p_end : K.lookup f_RowReader_p_end = some ⟨oc_RowReader_p_end, od_RowReader_p_end, .func (PySem.W.fnOf "_end" "RowReader._end" (defArgs s_RowReader_p_end) (defBody s_RowReader_p_end) (defScope s_RowReader_p_end) .none kV_RowReader_p_end dc_RowReader_p_end pm_RowReader_p_end an_RowReader_p_end cd_RowReader_p_end ct_RowReader_p_end), sl_RowReader_p_end⟩)
    (q_RowReader_p_end : PySem.W.codeIn K cd_RowReader_p_end "RowReader._end" = true)
    (k_RowReader_p_end : PySem.W.keepIn K (.ref f_RowReader_p_end) = true)
    (a_RowReader_p_call : PySem.W.findIn K (.ref c_RowReader) "_call" = some (some (.ref f_RowReader_p_call)))
    (i_RowReader_p_call : PySem.W.isFn K (.ref f_RowReader_p_call) = true)
    (l_RowReader_p_call : K.lookup f_RowReader_p_call = some ⟨oc_RowReader_p_call, od_RowReader_p_call, .func (PySem.W.fnOf "_call" "RowReader._call" (defArgs s_RowReader_p_call) (defBody s_RowReader_p_call) (defScope s_RowReader_p_call) .none kV_RowReader_p_call dc_RowReader_p_call pm_RowReader_p_call an_RowReader_p_call cd_RowReader_p_call ct_RowReader_p_call), sl_RowReader_p_call⟩)
    (q_RowReader_p_call : PySem.W.codeIn K cd_RowReader_p_call "RowReader._call" = true)
    (k_RowReader_p_call : PySem.W.keepIn K (.ref f_RowReader_p_call) = true)
    (a_RowReader_p_called : PySem.W.findIn K (.ref c_RowReader) "_called" = some (some (.ref f_RowReader_p_called)))
    (i_RowReader_p_called : PySem.W.isFn K (.ref f_RowReader_p_called) = true)
    (l_RowReader_p_called : K.lookup f_RowReader_p_called = some ⟨oc_RowReader_p_called, od_RowReader_p_called, .func (PySem.W.fnOf "_called" "RowReader._called" (defArgs s_RowReader_p_called) (defBody s_RowReader_p_called) (defScope s_RowReader_p_called) .none kV_RowReader_p_called dc_RowReader_p_called pm_RowReader_p_called an_RowReader_p_called cd_RowReader_p_called ct_RowReader_p_called), sl_RowReader_p_called⟩)
    (q_RowReader_p_called : PySem.W.codeIn K cd_RowReader_p_called "RowReader._called" = true)
    (k_RowReader_p_called : PySem.W.keepIn K (.ref f_RowReader_p_called) = true)
    (a_RowReader_p_handed : PySem.W.findIn K (.ref c_RowReader) "_handed" = some (some (.ref f_RowReader_p_handed)))
    (i_RowReader_p_handed : PySem.W.isFn K (.ref f_RowReader_p_handed) = true)
    (l_RowReader_p_handed : K.lookup f_RowReader_p_handed = some ⟨oc_RowReader_p_handed, od_RowReader_p_handed, .func (PySem.W.fnOf "_handed" "RowReader._handed" (defArgs s_RowReader_p_handed) (defBody s_RowReader_p_handed) (defScope s_RowReader_p_handed) .none kV_RowReader_p_handed dc_RowReader_p_handed pm_RowReader_p_handed an_RowReader_p_handed cd_RowReader_p_handed ct_RowReader_p_handed), sl_RowReader_p_handed⟩)
    (q_RowReader_p_handed : PySem.W.codeIn K cd_RowReader_p_handed "RowReader._handed" = true)
    (k_RowReader_p_handed : PySem.W.keepIn K (.ref f_RowReader_p_handed) = true)
    (a_RowReader_p_to : PySem.W.findIn K (.ref c_RowReader) "_to" = some (some (.ref f_RowReader_p_to)))
    (i_RowReader_p_to : PySem.W.isFn K (.ref f_RowReader_p_to) = true)
    (l_RowReader_p_to : K.lookup f_RowReader_p_to = some ⟨oc_RowReader_p_to, od_RowReader_p_to, .func (PySem.W.fnOf "_to" "RowReader._to" (defArgs s_RowReader_p_to) (defBody s_RowReader_p_to) (defScope s_RowReader_p_to) .none kV_RowReader_p_to dc_RowReader_p_to pm_RowReader_p_to an_RowReader_p_to cd_RowReader_p_to ct_RowReader_p_to), sl_RowReader_p_to⟩)
    (q_RowReader_p_to : PySem.W.codeIn K cd_RowReader_p_to "RowReader._to" = true)
    (k_RowReader_p_to : PySem.W.keepIn K (.ref f_RowReader_p_to) = true)
    (a_RowReader_p_catches : PySem.W.findIn K (.ref c_RowReader) "_catches" = some (some (.ref f_RowReader_p_catches)))
    (i_RowReader_p_catches : PySem.W.isFn K (.ref f_RowReader_p_catches) = true)
    (l_RowReader_p_catches : K.lookup f_RowReader_p_catches = some ⟨oc_RowReader_p_catches, od_RowReader_p_catches, .func (PySem.W.fnOf "_catches" "RowReader._catches" (defArgs s_RowReader_p_catches) (defBody s_RowReader_p_catches) (defScope s_RowReader_p_catches) .none kV_RowReader_p_catches dc_RowReader_p_catches pm_RowReader_p_catches an_RowReader_p_catches cd_RowReader_p_catches ct_RowReader_p_catches), sl_RowReader_p_catches⟩)
    (q_RowReader_p_catches : PySem.W.codeIn K cd_RowReader_p_catches "RowReader._catches" = true)
    (k_RowReader_p_catches : PySem.W.keepIn K (.ref f_RowReader_p_catches) = true)
    (a_Body_init : PySem.W.findIn K (.ref c_Body) "__init__" = some (some (.ref f_Body_init)))
    (i_Body_init : PySem.W.isFn K (.ref f_Body_init) = true)
    (l_Body_init : K.lookup f_Body_init = some ⟨oc_Body_init, od_Body_init, .func (PySem.W.fnOf "__init__" "Body.__init__" (defArgs s_Body_init) (defBody s_Body_init) (defScope s_Body_init) .none kV_Body_init dc_Body_init pm_Body_init an_Body_init cd_Body_init ct_Body_init), sl_Body_init⟩)
    (q_Body_init : PySem.W.codeIn K cd_Body_init "Body.__init__" = true)
    (k_Body_init : PySem.W.keepIn K (.ref f_Body_init) = true)
    (a_Side_init : PySem.W.findIn K (.ref c_Side) "__init__" = some (some (.ref f_Side_init)))
    (i_Side_init : PySem.W.isFn K (.ref f_Side_init) = true)
    (l_Side_init : K.lookup f_Side_init = some ⟨oc_Side_init, od_Side_init, .func (PySem.W.fnOf "__init__" "Side.__init__" (defArgs s_Side_init) (defBody s_Side_init) (defScope s_Side_init) .none kV_Side_init dc_Side_init pm_Side_init an_Side_init cd_Side_init ct_Side_init), sl_Side_init⟩)
    (q_Side_init : PySem.W.codeIn K cd_Side_init "Side.__init__" = true)
    (k_Side_init : PySem.W.keepIn K (.ref f_Side_init) = true)
    (a_Side_pacts : PySem.W.findIn K (.ref c_Side) "pacts" = some (some (.ref f_Side_pacts)))
    (i_Side_pacts : PySem.W.isFn K (.ref f_Side_pacts) = true)
    (l_Side_pacts : K.lookup f_Side_pacts = some ⟨oc_Side_pacts, od_Side_pacts, .func (PySem.W.fnOf "pacts" "Side.pacts" (defArgs s_Side_pacts) (defBody s_Side_pacts) (defScope s_Side_pacts) .none kV_Side_pacts dc_Side_pacts pm_Side_pacts an_Side_pacts cd_Side_pacts ct_Side_pacts), sl_Side_pacts⟩)
    (q_Side_pacts : PySem.W.codeIn K cd_Side_pacts "Side.pacts" = true)
    (k_Side_pacts : PySem.W.keepIn K (.ref f_Side_pacts) = true)
    (a_Side_number : PySem.W.findIn K (.ref c_Side) "number" = some (some (.ref f_Side_number)))
    (i_Side_number : PySem.W.isFn K (.ref f_Side_number) = true)
    (l_Side_number : K.lookup f_Side_number = some ⟨oc_Side_number, od_Side_number, .func (PySem.W.fnOf "number" "Side.number" (defArgs s_Side_number) (defBody s_Side_number) (defScope s_Side_number) .none kV_Side_number dc_Side_number pm_Side_number an_Side_number cd_Side_number ct_Side_number), sl_Side_number⟩)
    (q_Side_number : PySem.W.codeIn K cd_Side_number "Side.number" = true)
    (k_Side_number : PySem.W.keepIn K (.ref f_Side_number) = true)
    (a_Side_body : PySem.W.findIn K (.ref c_Side) "body" = some (some (.ref f_Side_body)))
    (i_Side_body : PySem.W.isFn K (.ref f_Side_body) = true)
    (l_Side_body : K.lookup f_Side_body = some ⟨oc_Side_body, od_Side_body, .func (PySem.W.fnOf "body" "Side.body" (defArgs s_Side_body) (defBody s_Side_body) (defScope s_Side_body) .none kV_Side_body dc_Side_body pm_Side_body an_Side_body cd_Side_body ct_Side_body), sl_Side_body⟩)
    (q_Side_body : PySem.W.codeIn K cd_Side_body "Side.body" = true)
    (k_Side_body : PySem.W.keepIn K (.ref f_Side_body) = true)
    (a_Side_rows : PySem.W.findIn K (.ref c_Side) "rows" = some (some (.ref f_Side_rows)))
    (i_Side_rows : PySem.W.isFn K (.ref f_Side_rows) = true)
    (l_Side_rows : K.lookup f_Side_rows = some ⟨oc_Side_rows, od_Side_rows, .func (PySem.W.fnOf "rows" "Side.rows" (defArgs s_Side_rows) (defBody s_Side_rows) (defScope s_Side_rows) .none kV_Side_rows dc_Side_rows pm_Side_rows an_Side_rows cd_Side_rows ct_Side_rows), sl_Side_rows⟩)
    (q_Side_rows : PySem.W.codeIn K cd_Side_rows "Side.rows" = true)
    (k_Side_rows : PySem.W.keepIn K (.ref f_Side_rows) = true)
    (a_Side_place : PySem.W.findIn K (.ref c_Side) "place" = some (some (.ref f_Side_place)))
    (i_Side_place : PySem.W.isFn K (.ref f_Side_place) = true)
    (l_Side_place : K.lookup f_Side_place = some ⟨oc_Side_place, od_Side_place, .func (PySem.W.fnOf "place" "Side.place" (defArgs s_Side_place) (defBody s_Side_place) (defScope s_Side_place) .none kV_Side_place dc_Side_place pm_Side_place an_Side_place cd_Side_place ct_Side_place), sl_Side_place⟩)
    (q_Side_place : PySem.W.codeIn K cd_Side_place "Side.place" = true)
    (k_Side_place : PySem.W.keepIn K (.ref f_Side_place) = true)
    (a_Side_parsed : PySem.W.findIn K (.ref c_Side) "parsed" = some (some (.ref f_Side_parsed)))
    (i_Side_parsed : PySem.W.isFn K (.ref f_Side_parsed) = true)
    (l_Side_parsed : K.lookup f_Side_parsed = some ⟨oc_Side_parsed, od_Side_parsed, .func (PySem.W.fnOf "parsed" "Side.parsed" (defArgs s_Side_parsed) (defBody s_Side_parsed) (defScope s_Side_parsed) .none kV_Side_parsed dc_Side_parsed pm_Side_parsed an_Side_parsed cd_Side_parsed ct_Side_parsed), sl_Side_parsed⟩)
    (q_Side_parsed : PySem.W.codeIn K cd_Side_parsed "Side.parsed" = true)
    (k_Side_parsed : PySem.W.keepIn K (.ref f_Side_parsed) = true)
    (a_Pacts_init : PySem.W.findIn K (.ref c_Pacts) "__init__" = some (some (.ref f_Pacts_init)))
    (i_Pacts_init : PySem.W.isFn K (.ref f_Pacts_init) = true)
    (l_Pacts_init : K.lookup f_Pacts_init = some ⟨oc_Pacts_init, od_Pacts_init, .func (PySem.W.fnOf "__init__" "Pacts.__init__" (defArgs s_Pacts_init) (defBody s_Pacts_init) (defScope s_Pacts_init) .none kV_Pacts_init dc_Pacts_init pm_Pacts_init an_Pacts_init cd_Pacts_init ct_Pacts_init), sl_Pacts_init⟩)
    (q_Pacts_init : PySem.W.codeIn K cd_Pacts_init "Pacts.__init__" = true)
    (k_Pacts_init : PySem.W.keepIn K (.ref f_Pacts_init) = true)
    (a_Pacts_names : PySem.W.findIn K (.ref c_Pacts) "names" = some (some (.ref f_Pacts_names)))
    (i_Pacts_names : PySem.W.isFn K (.ref f_Pacts_names) = true)
    (l_Pacts_names : K.lookup f_Pacts_names = some ⟨oc_Pacts_names, od_Pacts_names, .func (PySem.W.fnOf "names" "Pacts.names" (defArgs s_Pacts_names) (defBody s_Pacts_names) (defScope s_Pacts_names) .none kV_Pacts_names dc_Pacts_names pm_Pacts_names an_Pacts_names cd_Pacts_names ct_Pacts_names), sl_Pacts_names⟩)
    (q_Pacts_names : PySem.W.codeIn K cd_Pacts_names "Pacts.names" = true)
    (k_Pacts_names : PySem.W.keepIn K (.ref f_Pacts_names) = true)
    (a_Pacts_pact : PySem.W.findIn K (.ref c_Pacts) "pact" = some (some (.ref f_Pacts_pact)))
    (i_Pacts_pact : PySem.W.isFn K (.ref f_Pacts_pact) = true)
    (l_Pacts_pact : K.lookup f_Pacts_pact = some ⟨oc_Pacts_pact, od_Pacts_pact, .func (PySem.W.fnOf "pact" "Pacts.pact" (defArgs s_Pacts_pact) (defBody s_Pacts_pact) (defScope s_Pacts_pact) .none kV_Pacts_pact dc_Pacts_pact pm_Pacts_pact an_Pacts_pact cd_Pacts_pact ct_Pacts_pact), sl_Pacts_pact⟩)
    (q_Pacts_pact : PySem.W.codeIn K cd_Pacts_pact "Pacts.pact" = true)
    (k_Pacts_pact : PySem.W.keepIn K (.ref f_Pacts_pact) = true)
    (a_Pacts_laden : PySem.W.findIn K (.ref c_Pacts) "laden" = some (some (.ref f_Pacts_laden)))
    (i_Pacts_laden : PySem.W.isFn K (.ref f_Pacts_laden) = true)
    (l_Pacts_laden : K.lookup f_Pacts_laden = some ⟨oc_Pacts_laden, od_Pacts_laden, .func (PySem.W.fnOf "laden" "Pacts.laden" (defArgs s_Pacts_laden) (defBody s_Pacts_laden) (defScope s_Pacts_laden) .none kV_Pacts_laden dc_Pacts_laden pm_Pacts_laden an_Pacts_laden cd_Pacts_laden ct_Pacts_laden), sl_Pacts_laden⟩)
    (q_Pacts_laden : PySem.W.codeIn K cd_Pacts_laden "Pacts.laden" = true)
    (k_Pacts_laden : PySem.W.keepIn K (.ref f_Pacts_laden) = true)
    (a_Pacts_over : PySem.W.findIn K (.ref c_Pacts) "over" = some (some (.ref f_Pacts_over)))
    (i_Pacts_over : PySem.W.isFn K (.ref f_Pacts_over) = true)
    (l_Pacts_over : K.lookup f_Pacts_over = some ⟨oc_Pacts_over, od_Pacts_over, .func (PySem.W.fnOf "over" "Pacts.over" (defArgs s_Pacts_over) (defBody s_Pacts_over) (defScope s_Pacts_over) .none kV_Pacts_over dc_Pacts_over pm_Pacts_over an_Pacts_over cd_Pacts_over ct_Pacts_over), sl_Pacts_over⟩)
    (q_Pacts_over : PySem.W.codeIn K cd_Pacts_over "Pacts.over" = true)
    (k_Pacts_over : PySem.W.keepIn K (.ref f_Pacts_over) = true)
    (a_Pacts_p_pair : PySem.W.findIn K (.ref c_Pacts) "_pair" = some (some (.ref f_Pacts_p_pair)))
    (i_Pacts_p_pair : PySem.W.isFn K (.ref f_Pacts_p_pair) = true)
    (l_Pacts_p_pair : K.lookup f_Pacts_p_pair = some ⟨oc_Pacts_p_pair, od_Pacts_p_pair, .func (PySem.W.fnOf "_pair" "Pacts._pair" (defArgs s_Pacts_p_pair) (defBody s_Pacts_p_pair) (defScope s_Pacts_p_pair) .none kV_Pacts_p_pair dc_Pacts_p_pair pm_Pacts_p_pair an_Pacts_p_pair cd_Pacts_p_pair ct_Pacts_p_pair), sl_Pacts_p_pair⟩)
    (q_Pacts_p_pair : PySem.W.codeIn K cd_Pacts_p_pair "Pacts._pair" = true)
    (k_Pacts_p_pair : PySem.W.keepIn K (.ref f_Pacts_p_pair) = true)
    (a_Pacts_errors : PySem.W.findIn K (.ref c_Pacts) "errors" = some (some (.ref f_Pacts_errors)))
    (i_Pacts_errors : PySem.W.isFn K (.ref f_Pacts_errors) = true)
    (l_Pacts_errors : K.lookup f_Pacts_errors = some ⟨oc_Pacts_errors, od_Pacts_errors, .func (PySem.W.fnOf "errors" "Pacts.errors" (defArgs s_Pacts_errors) (defBody s_Pacts_errors) (defScope s_Pacts_errors) .none kV_Pacts_errors dc_Pacts_errors pm_Pacts_errors an_Pacts_errors cd_Pacts_errors ct_Pacts_errors), sl_Pacts_errors⟩)
    (q_Pacts_errors : PySem.W.codeIn K cd_Pacts_errors "Pacts.errors" = true)
    (k_Pacts_errors : PySem.W.keepIn K (.ref f_Pacts_errors) = true)
    (a_Pacts_eq : PySem.W.findIn K (.ref c_Pacts) "__eq__" = some (some (.ref f_Pacts_eq)))
    (i_Pacts_eq : PySem.W.isFn K (.ref f_Pacts_eq) = true)
    (l_Pacts_eq : K.lookup f_Pacts_eq = some ⟨oc_Pacts_eq, od_Pacts_eq, .func (PySem.W.fnOf "__eq__" "Pacts.__eq__" (defArgs s_Pacts_eq) (defBody s_Pacts_eq) (defScope s_Pacts_eq) .none kV_Pacts_eq dc_Pacts_eq pm_Pacts_eq an_Pacts_eq cd_Pacts_eq ct_Pacts_eq), sl_Pacts_eq⟩)
    (q_Pacts_eq : PySem.W.codeIn K cd_Pacts_eq "Pacts.__eq__" = true)
    (k_Pacts_eq : PySem.W.keepIn K (.ref f_Pacts_eq) = true)
    (a_p_is_pair : PySem.W.nsIn K mainGlobals "_is_pair" = some (some (.ref f_p_is_pair)))
    (l_p_is_pair : K.lookup f_p_is_pair = some ⟨oc_p_is_pair, od_p_is_pair, .func (PySem.W.fnOf "_is_pair" "_is_pair" (defArgs s_p_is_pair) (defBody s_p_is_pair) (defScope s_p_is_pair) .none kV_p_is_pair dc_p_is_pair pm_p_is_pair an_p_is_pair cd_p_is_pair ct_p_is_pair), sl_p_is_pair⟩)
    (q_p_is_pair : PySem.W.codeIn K cd_p_is_pair "_is_pair" = true)
    (k_p_is_pair : PySem.W.keepIn K (.ref f_p_is_pair) = true)
    (a_p_fits_pairs : PySem.W.nsIn K mainGlobals "_fits_pairs" = some (some (.ref f_p_fits_pairs)))
    (l_p_fits_pairs : K.lookup f_p_fits_pairs = some ⟨oc_p_fits_pairs, od_p_fits_pairs, .func (PySem.W.fnOf "_fits_pairs" "_fits_pairs" (defArgs s_p_fits_pairs) (defBody s_p_fits_pairs) (defScope s_p_fits_pairs) .none kV_p_fits_pairs dc_p_fits_pairs pm_p_fits_pairs an_p_fits_pairs cd_p_fits_pairs ct_p_fits_pairs), sl_p_fits_pairs⟩)
    (q_p_fits_pairs : PySem.W.codeIn K cd_p_fits_pairs "_fits_pairs" = true)
    (k_p_fits_pairs : PySem.W.keepIn K (.ref f_p_fits_pairs) = true)
    (a_p_is_pact : PySem.W.nsIn K mainGlobals "_is_pact" = some (some (.ref f_p_is_pact)))
    (l_p_is_pact : K.lookup f_p_is_pact = some ⟨oc_p_is_pact, od_p_is_pact, .func (PySem.W.fnOf "_is_pact" "_is_pact" (defArgs s_p_is_pact) (defBody s_p_is_pact) (defScope s_p_is_pact) .none kV_p_is_pact dc_p_is_pact pm_p_is_pact an_p_is_pact cd_p_is_pact ct_p_is_pact), sl_p_is_pact⟩)
    (q_p_is_pact : PySem.W.codeIn K cd_p_is_pact "_is_pact" = true)
    (k_p_is_pact : PySem.W.keepIn K (.ref f_p_is_pact) = true)
    (a_p_are_takes : PySem.W.nsIn K mainGlobals "_are_takes" = some (some (.ref f_p_are_takes)))
    (l_p_are_takes : K.lookup f_p_are_takes = some ⟨oc_p_are_takes, od_p_are_takes, .func (PySem.W.fnOf "_are_takes" "_are_takes" (defArgs s_p_are_takes) (defBody s_p_are_takes) (defScope s_p_are_takes) .none kV_p_are_takes dc_p_are_takes pm_p_are_takes an_p_are_takes cd_p_are_takes ct_p_are_takes), sl_p_are_takes⟩)
    (q_p_are_takes : PySem.W.codeIn K cd_p_are_takes "_are_takes" = true)
    (k_p_are_takes : PySem.W.keepIn K (.ref f_p_are_takes) = true)
    (a_p_are_throws : PySem.W.nsIn K mainGlobals "_are_throws" = some (some (.ref f_p_are_throws)))
    (l_p_are_throws : K.lookup f_p_are_throws = some ⟨oc_p_are_throws, od_p_are_throws, .func (PySem.W.fnOf "_are_throws" "_are_throws" (defArgs s_p_are_throws) (defBody s_p_are_throws) (defScope s_p_are_throws) .none kV_p_are_throws dc_p_are_throws pm_p_are_throws an_p_are_throws cd_p_are_throws ct_p_are_throws), sl_p_are_throws⟩)
    (q_p_are_throws : PySem.W.codeIn K cd_p_are_throws "_are_throws" = true)
    (k_p_are_throws : PySem.W.keepIn K (.ref f_p_are_throws) = true)
    (a_p_fits_helpers : PySem.W.nsIn K mainGlobals "_fits_helpers" = some (some (.ref f_p_fits_helpers)))
    (l_p_fits_helpers : K.lookup f_p_fits_helpers = some ⟨oc_p_fits_helpers, od_p_fits_helpers, .func (PySem.W.fnOf "_fits_helpers" "_fits_helpers" (defArgs s_p_fits_helpers) (defBody s_p_fits_helpers) (defScope s_p_fits_helpers) .none kV_p_fits_helpers dc_p_fits_helpers pm_p_fits_helpers an_p_fits_helpers cd_p_fits_helpers ct_p_fits_helpers), sl_p_fits_helpers⟩)
    (q_p_fits_helpers : PySem.W.codeIn K cd_p_fits_helpers "_fits_helpers" = true)
    (k_p_fits_helpers : PySem.W.keepIn K (.ref f_p_fits_helpers) = true)
    (a_box : PySem.W.nsIn K mainGlobals "_law_box" = some (some (.ref f_box)))
    (l_box : K.lookup f_box = some ⟨oc_box, od_box, .func (PySem.W.fnOf "_law_box" "_law_box" (defArgs s_box) (defBody s_box) (defScope s_box) .none kV_box dc_box pm_box an_box cd_box ct_box), sl_box⟩)
    (q_box : PySem.W.codeIn K cd_box "_law_box" = true)
    (k_box : PySem.W.keepIn K (.ref f_box) = true)
    (a_mixed : PySem.W.nsIn K mainGlobals "_law_mixed" = some (some (.ref f_mixed)))
    (l_mixed : K.lookup f_mixed = some ⟨oc_mixed, od_mixed, .func (PySem.W.fnOf "_law_mixed" "_law_mixed" (defArgs s_mixed) (defBody s_mixed) (defScope s_mixed) .none kV_mixed dc_mixed pm_mixed an_mixed cd_mixed ct_mixed), sl_mixed⟩)
    (q_mixed : PySem.W.codeIn K cd_mixed "_law_mixed" = true)
    (k_mixed : PySem.W.keepIn K (.ref f_mixed) = true)
    (a_take : PySem.W.nsIn K mainGlobals "_law_take" = some (some (.ref f_take)))
    (l_take : K.lookup f_take = some ⟨oc_take, od_take, .func (PySem.W.fnOf "_law_take" "_law_take" (defArgs s_take) (defBody s_take) (defScope s_take) .none kV_take dc_take pm_take an_take cd_take ct_take), sl_take⟩)
    (q_take : PySem.W.codeIn K cd_take "_law_take" = true)
    (k_take : PySem.W.keepIn K (.ref f_take) = true)
    (a_unlike : PySem.W.nsIn K mainGlobals "_law_unlike" = some (some (.ref f_unlike)))
    (l_unlike : K.lookup f_unlike = some ⟨oc_unlike, od_unlike, .func (PySem.W.fnOf "_law_unlike" "_law_unlike" (defArgs s_unlike) (defBody s_unlike) (defScope s_unlike) .none kV_unlike dc_unlike pm_unlike an_unlike cd_unlike ct_unlike), sl_unlike⟩)
    (q_unlike : PySem.W.codeIn K cd_unlike "_law_unlike" = true)
    (k_unlike : PySem.W.keepIn K (.ref f_unlike) = true)
    (a_names : PySem.W.nsIn K mainGlobals "_law_names" = some (some (.ref f_names)))
    (l_names : K.lookup f_names = some ⟨oc_names, od_names, .func (PySem.W.fnOf "_law_names" "_law_names" (defArgs s_names) (defBody s_names) (defScope s_names) .none kV_names dc_names pm_names an_names cd_names ct_names), sl_names⟩)
    (q_names : PySem.W.codeIn K cd_names "_law_names" = true)
    (k_names : PySem.W.keepIn K (.ref f_names) = true)
    (a_any_deal : PySem.W.nsIn K mainGlobals "_law_any_deal" = some (some (.ref f_any_deal)))
    (l_any_deal : K.lookup f_any_deal = some ⟨oc_any_deal, od_any_deal, .func (PySem.W.fnOf "_law_any_deal" "_law_any_deal" (defArgs s_any_deal) (defBody s_any_deal) (defScope s_any_deal) .none kV_any_deal dc_any_deal pm_any_deal an_any_deal cd_any_deal ct_any_deal), sl_any_deal⟩)
    (q_any_deal : PySem.W.codeIn K cd_any_deal "_law_any_deal" = true)
    (k_any_deal : PySem.W.keepIn K (.ref f_any_deal) = true)
    (a_pact : PySem.W.nsIn K mainGlobals "_law_pact" = some (some (.ref f_pact)))
    (l_pact : K.lookup f_pact = some ⟨oc_pact, od_pact, .func (PySem.W.fnOf "_law_pact" "_law_pact" (defArgs s_pact) (defBody s_pact) (defScope s_pact) .none kV_pact dc_pact pm_pact an_pact cd_pact ct_pact), sl_pact⟩)
    (q_pact : PySem.W.codeIn K cd_pact "_law_pact" = true)
    (k_pact : PySem.W.keepIn K (.ref f_pact) = true)
    (a_laden : PySem.W.nsIn K mainGlobals "_law_laden" = some (some (.ref f_laden)))
    (l_laden : K.lookup f_laden = some ⟨oc_laden, od_laden, .func (PySem.W.fnOf "_law_laden" "_law_laden" (defArgs s_laden) (defBody s_laden) (defScope s_laden) .none kV_laden dc_laden pm_laden an_laden cd_laden ct_laden), sl_laden⟩)
    (q_laden : PySem.W.codeIn K cd_laden "_law_laden" = true)
    (k_laden : PySem.W.keepIn K (.ref f_laden) = true)
    (a_errors : PySem.W.nsIn K mainGlobals "_law_errors" = some (some (.ref f_errors)))
    (l_errors : K.lookup f_errors = some ⟨oc_errors, od_errors, .func (PySem.W.fnOf "_law_errors" "_law_errors" (defArgs s_errors) (defBody s_errors) (defScope s_errors) .none kV_errors dc_errors pm_errors an_errors cd_errors ct_errors), sl_errors⟩)
    (q_errors : PySem.W.codeIn K cd_errors "_law_errors" = true)
    (k_errors : PySem.W.keepIn K (.ref f_errors) = true)
    (a_of_team : PySem.W.nsIn K mainGlobals "_law_of_team" = some (some (.ref f_of_team)))
    (l_of_team : K.lookup f_of_team = some ⟨oc_of_team, od_of_team, .func (PySem.W.fnOf "_law_of_team" "_law_of_team" (defArgs s_of_team) (defBody s_of_team) (defScope s_of_team) .none kV_of_team dc_of_team pm_of_team an_of_team cd_of_team ct_of_team), sl_of_team⟩)
    (q_of_team : PySem.W.codeIn K cd_of_team "_law_of_team" = true)
    (k_of_team : PySem.W.keepIn K (.ref f_of_team) = true)
    (a_any_call : PySem.W.nsIn K mainGlobals "_law_any_call" = some (some (.ref f_any_call)))
    (l_any_call : K.lookup f_any_call = some ⟨oc_any_call, od_any_call, .func (PySem.W.fnOf "_law_any_call" "_law_any_call" (defArgs s_any_call) (defBody s_any_call) (defScope s_any_call) .none kV_any_call dc_any_call pm_any_call an_any_call cd_any_call ct_any_call), sl_any_call⟩)
    (q_any_call : PySem.W.codeIn K cd_any_call "_law_any_call" = true)
    (k_any_call : PySem.W.keepIn K (.ref f_any_call) = true)
    (a_any_end : PySem.W.nsIn K mainGlobals "_law_any_end" = some (some (.ref f_any_end)))
    (l_any_end : K.lookup f_any_end = some ⟨oc_any_end, od_any_end, .func (PySem.W.fnOf "_law_any_end" "_law_any_end" (defArgs s_any_end) (defBody s_any_end) (defScope s_any_end) .none kV_any_end dc_any_end pm_any_end an_any_end cd_any_end ct_any_end), sl_any_end⟩)
    (q_any_end : PySem.W.codeIn K cd_any_end "_law_any_end" = true)
    (k_any_end : PySem.W.keepIn K (.ref f_any_end) = true)
    (a_any_row : PySem.W.nsIn K mainGlobals "_law_any_row" = some (some (.ref f_any_row)))
    (l_any_row : K.lookup f_any_row = some ⟨oc_any_row, od_any_row, .func (PySem.W.fnOf "_law_any_row" "_law_any_row" (defArgs s_any_row) (defBody s_any_row) (defScope s_any_row) .none kV_any_row dc_any_row pm_any_row an_any_row cd_any_row ct_any_row), sl_any_row⟩)
    (q_any_row : PySem.W.codeIn K cd_any_row "_law_any_row" = true)
    (k_any_row : PySem.W.keepIn K (.ref f_any_row) = true)
    (a_any_rows : PySem.W.nsIn K mainGlobals "_law_any_rows" = some (some (.ref f_any_rows)))
    (l_any_rows : K.lookup f_any_rows = some ⟨oc_any_rows, od_any_rows, .func (PySem.W.fnOf "_law_any_rows" "_law_any_rows" (defArgs s_any_rows) (defBody s_any_rows) (defScope s_any_rows) .none kV_any_rows dc_any_rows pm_any_rows an_any_rows cd_any_rows ct_any_rows), sl_any_rows⟩)
    (q_any_rows : PySem.W.codeIn K cd_any_rows "_law_any_rows" = true)
    (k_any_rows : PySem.W.keepIn K (.ref f_any_rows) = true)
    (a_sided : PySem.W.nsIn K mainGlobals "_law_sided" = some (some (.ref f_sided)))
    (l_sided : K.lookup f_sided = some ⟨oc_sided, od_sided, .func (PySem.W.fnOf "_law_sided" "_law_sided" (defArgs s_sided) (defBody s_sided) (defScope s_sided) .none kV_sided dc_sided pm_sided an_sided cd_sided ct_sided), sl_sided⟩)
    (q_sided : PySem.W.codeIn K cd_sided "_law_sided" = true)
    (k_sided : PySem.W.keepIn K (.ref f_sided) = true)
    (a_no_row : PySem.W.nsIn K mainGlobals "_law_no_row" = some (some (.ref f_no_row)))
    (l_no_row : K.lookup f_no_row = some ⟨oc_no_row, od_no_row, .func (PySem.W.fnOf "_law_no_row" "_law_no_row" (defArgs s_no_row) (defBody s_no_row) (defScope s_no_row) .none kV_no_row dc_no_row pm_no_row an_no_row cd_no_row ct_no_row), sl_no_row⟩)
    (q_no_row : PySem.W.codeIn K cd_no_row "_law_no_row" = true)
    (k_no_row : PySem.W.keepIn K (.ref f_no_row) = true)
    (a_told : PySem.W.nsIn K mainGlobals "_law_told" = some (some (.ref f_told)))
    (l_told : K.lookup f_told = some ⟨oc_told, od_told, .func (PySem.W.fnOf "_law_told" "_law_told" (defArgs s_told) (defBody s_told) (defScope s_told) .none kV_told dc_told pm_told an_told cd_told ct_told), sl_told⟩)
    (q_told : PySem.W.codeIn K cd_told "_law_told" = true)
    (k_told : PySem.W.keepIn K (.ref f_told) = true)
    (a_law : PySem.W.nsIn K mainGlobals "law" = some (some (.ref f_law)))
    (l_law : K.lookup f_law = some ⟨oc_law, od_law, .func (PySem.W.fnOf "law" "law" (defArgs s_law) (defBody s_law) (defScope s_law) .none kV_law dc_law pm_law an_law cd_law ct_law), sl_law⟩)
    (q_law : PySem.W.codeIn K cd_law "law" = true)
    (k_law : PySem.W.keepIn K (.ref f_law) = true)
    (z_ValueError : PySem.W.nsIn K mainGlobals "ValueError" = some none)
    (z_isinstance : PySem.W.nsIn K mainGlobals "isinstance" = some none)
    (z_int : PySem.W.nsIn K mainGlobals "int" = some none)
    (z_bool : PySem.W.nsIn K mainGlobals "bool" = some none)
    (z_tuple : PySem.W.nsIn K mainGlobals "tuple" = some none)
    (z_list : PySem.W.nsIn K mainGlobals "list" = some none)
    (z_str : PySem.W.nsIn K mainGlobals "str" = some none)
    (z_dict : PySem.W.nsIn K mainGlobals "dict" = some none)
    (z_len : PySem.W.nsIn K mainGlobals "len" = some none)
    (z_all : PySem.W.nsIn K mainGlobals "all" = some none)
    (z_range : PySem.W.nsIn K mainGlobals "range" = some none)
    (z_zip : PySem.W.nsIn K mainGlobals "zip" = some none)
    (z_min : PySem.W.nsIn K mainGlobals "min" = some none)
    (z_max : PySem.W.nsIn K mainGlobals "max" = some none)
    (z_enumerate : PySem.W.nsIn K mainGlobals "enumerate" = some none)
    (z_sorted : PySem.W.nsIn K mainGlobals "sorted" = some none)
    : ∃ fd : FuncData, (∀ (s : Shared) (v : Value), BindsTo s fd ⟨[v], []⟩ [("_law_script", v)]) ∧ ∀ base : Heap, K.In base → base.Ns mainGlobals mg → FnOk l.prog w K mg base CX0 20 fa fd ["_law_script"] (spLaw K) := by
  have e : f_law = fa := (Value.ref.inj (Option.some.inj (hfa.symm.trans (PySem.W.mg_of X G a_law)))).symm
  subst e
  have F_NoHelper_init := fun_mk (st := s_NoHelper_init) l_NoHelper_init q_NoHelper_init k_NoHelper_init
  have B_NoHelper_init := F_NoHelper_init.binds (ps := ["self", "name"]) fun _ _ _ _ _ _ us hl => match us, hl with | [_, _], _ => rfl
  have F_NoWord_init := fun_mk (st := s_NoWord_init) l_NoWord_init q_NoWord_init k_NoWord_init
  have B_NoWord_init := F_NoWord_init.binds (ps := ["self", "word"]) fun _ _ _ _ _ _ us hl => match us, hl with | [_, _], _ => rfl
  have F_NoBody_init := fun_mk (st := s_NoBody_init) l_NoBody_init q_NoBody_init k_NoBody_init
  have B_NoBody_init := F_NoBody_init.binds (ps := ["self", "name", "at"]) fun _ _ _ _ _ _ us hl => match us, hl with | [_, _, _], _ => rfl
  have F_NoRow_init := fun_mk (st := s_NoRow_init) l_NoRow_init q_NoRow_init k_NoRow_init
  have B_NoRow_init := F_NoRow_init.binds (ps := ["self", "at"]) fun _ _ _ _ _ _ us hl => match us, hl with | [_, _], _ => rfl
  have F_is_whole := fun_mk (st := s_is_whole) l_is_whole q_is_whole k_is_whole
  have B_is_whole := F_is_whole.binds (ps := ["thing"]) fun _ _ _ _ _ _ us hl => match us, hl with | [_], _ => rfl
  have F_is_side := fun_mk (st := s_is_side) l_is_side q_is_side k_is_side
  have B_is_side := F_is_side.binds (ps := ["thing"]) fun _ _ _ _ _ _ us hl => match us, hl with | [_], _ => rfl
  have F_is_name := fun_mk (st := s_is_name) l_is_name q_is_name k_is_name
  have B_is_name := F_is_name.binds (ps := ["thing"]) fun _ _ _ _ _ _ us hl => match us, hl with | [_], _ => rfl
  have F_place_of := fun_mk (st := s_place_of) l_place_of q_place_of k_place_of
  have B_place_of := F_place_of.binds (ps := ["word"]) fun _ _ _ _ _ _ us hl => match us, hl with | [_], _ => rfl
  have F_pocket_of := fun_mk (st := s_pocket_of) l_pocket_of q_pocket_of k_pocket_of
  have B_pocket_of := F_pocket_of.binds (ps := ["word"]) fun _ _ _ _ _ _ us hl => match us, hl with | [_], _ => rfl
  have F_read_rows := fun_mk (st := s_read_rows) l_read_rows q_read_rows k_read_rows
  have B_read_rows := F_read_rows.binds (ps := ["pacts", "name", "texts", "most"]) fun _ _ _ _ _ _ us hl => match us, hl with | [_, _, _, _], _ => rfl
  have F_RowReader_init := fun_mk (st := s_RowReader_init) l_RowReader_init q_RowReader_init k_RowReader_init
  have B_RowReader_init := F_RowReader_init.binds (ps := ["self", "pacts", "name", "many"]) fun _ _ _ _ _ _ us hl => match us, hl with | [_, _, _, _], _ => rfl
  have F_RowReader_step := fun_mk (st := s_RowReader_step) l_RowReader_step q_RowReader_step k_RowReader_step
  have B_RowReader_step := F_RowReader_step.binds (ps := ["self", "at", "words"]) fun _ _ _ _ _ _ us hl => match us, hl with | [_, _, _], _ => rfl
  have F_RowReader_p_pocket_row := fun_mk (st := s_RowReader_p_pocket_row) l_RowReader_p_pocket_row q_RowReader_p_pocket_row k_RowReader_p_pocket_row
  have B_RowReader_p_pocket_row := F_RowReader_p_pocket_row.binds (ps := ["self", "words"]) fun _ _ _ _ _ _ us hl => match us, hl with | [_, _], _ => rfl
  have F_RowReader_p_use := fun_mk (st := s_RowReader_p_use) l_RowReader_p_use q_RowReader_p_use k_RowReader_p_use
  have B_RowReader_p_use := F_RowReader_p_use.binds (ps := ["self", "words"]) fun _ _ _ _ _ _ us hl => match us, hl with | [_, _], _ => rfl
  have F_RowReader_p_move := fun_mk (st := s_RowReader_p_move) l_RowReader_p_move q_RowReader_p_move k_RowReader_p_move
  have B_RowReader_p_move := F_RowReader_p_move.binds (ps := ["self", "words"]) fun _ _ _ _ _ _ us hl => match us, hl with | [_, _], _ => rfl
  have F_RowReader_p_jump := fun_mk (st := s_RowReader_p_jump) l_RowReader_p_jump q_RowReader_p_jump k_RowReader_p_jump
  have B_RowReader_p_jump := F_RowReader_p_jump.binds (ps := ["self", "at", "words"]) fun _ _ _ _ _ _ us hl => match us, hl with | [_, _, _], _ => rfl
  have F_RowReader_p_row_number := fun_mk (st := s_RowReader_p_row_number) l_RowReader_p_row_number q_RowReader_p_row_number k_RowReader_p_row_number
  have B_RowReader_p_row_number := F_RowReader_p_row_number.binds (ps := ["self", "word"]) fun _ _ _ _ _ _ us hl => match us, hl with | [_, _], _ => rfl
  have F_RowReader_p_throw := fun_mk (st := s_RowReader_p_throw) l_RowReader_p_throw q_RowReader_p_throw k_RowReader_p_throw
  have B_RowReader_p_throw := F_RowReader_p_throw.binds (ps := ["self", "words"]) fun _ _ _ _ _ _ us hl => match us, hl with | [_, _], _ => rfl
  have F_RowReader_p_laden := fun_mk (st := s_RowReader_p_laden) l_RowReader_p_laden q_RowReader_p_laden k_RowReader_p_laden
  have B_RowReader_p_laden := F_RowReader_p_laden.binds (ps := ["self", "word"]) fun _ _ _ _ _ _ us hl => match us, hl with | [_, _], _ => rfl
  have F_RowReader_p_done := fun_mk (st := s_RowReader_p_done) l_RowReader_p_done q_RowReader_p_done k_RowReader_p_done
  have B_RowReader_p_done := F_RowReader_p_done.binds (ps := ["self", "words"]) fun _ _ _ _ _ _ us hl => match us, hl with | [_, _], _ => rfl
  have F_RowReader_p_end := fun_mk (st := s_RowReader_p_end) l_RowReader_p_end q_RowReader_p_end k_RowReader_p_end
  have B_RowReader_p_end := F_RowReader_p_end.binds (ps := ["self", "word", "pockets"]) fun _ _ _ _ _ _ us hl => match us, hl with | [_, _, _], _ => rfl
  have F_RowReader_p_call := fun_mk (st := s_RowReader_p_call) l_RowReader_p_call q_RowReader_p_call k_RowReader_p_call
  have B_RowReader_p_call := F_RowReader_p_call.binds (ps := ["self", "words"]) fun _ _ _ _ _ _ us hl => match us, hl with | [_, _], _ => rfl
  have F_RowReader_p_called := fun_mk (st := s_RowReader_p_called) l_RowReader_p_called q_RowReader_p_called k_RowReader_p_called
  have B_RowReader_p_called := F_RowReader_p_called.binds (ps := ["self", "name"]) fun _ _ _ _ _ _ us hl => match us, hl with | [_, _], _ => rfl
  have F_RowReader_p_handed := fun_mk (st := s_RowReader_p_handed) l_RowReader_p_handed q_RowReader_p_handed k_RowReader_p_handed
  have B_RowReader_p_handed := F_RowReader_p_handed.binds (ps := ["self", "words", "takes"]) fun _ _ _ _ _ _ us hl => match us, hl with | [_, _, _], _ => rfl
  have F_RowReader_p_to := fun_mk (st := s_RowReader_p_to) l_RowReader_p_to q_RowReader_p_to k_RowReader_p_to
  have B_RowReader_p_to := F_RowReader_p_to.binds (ps := ["self", "words"]) fun _ _ _ _ _ _ us hl => match us, hl with | [_, _], _ => rfl
  have F_RowReader_p_catches := fun_mk (st := s_RowReader_p_catches) l_RowReader_p_catches q_RowReader_p_catches k_RowReader_p_catches
  have B_RowReader_p_catches := F_RowReader_p_catches.binds (ps := ["self", "name", "words"]) fun _ _ _ _ _ _ us hl => match us, hl with | [_, _, _], _ => rfl
  have F_Body_init := fun_mk (st := s_Body_init) l_Body_init q_Body_init k_Body_init
  have B_Body_init := F_Body_init.binds (ps := ["self", "pacts", "name", "text"]) fun _ _ _ _ _ _ us hl => match us, hl with | [_, _, _, _], _ => rfl
  have F_Side_init := fun_mk (st := s_Side_init) l_Side_init q_Side_init k_Side_init
  have B_Side_init := F_Side_init.binds (ps := ["self", "pacts", "number", "bodies"]) fun _ _ _ _ _ _ us hl => match us, hl with | [_, _, _, _], _ => rfl
  have F_Side_pacts := fun_mk (st := s_Side_pacts) l_Side_pacts q_Side_pacts k_Side_pacts
  have B_Side_pacts := F_Side_pacts.binds (ps := ["self"]) fun _ _ _ _ _ _ us hl => match us, hl with | [_], _ => rfl
  have F_Side_number := fun_mk (st := s_Side_number) l_Side_number q_Side_number k_Side_number
  have B_Side_number := F_Side_number.binds (ps := ["self"]) fun _ _ _ _ _ _ us hl => match us, hl with | [_], _ => rfl
  have F_Side_body := fun_mk (st := s_Side_body) l_Side_body q_Side_body k_Side_body
  have B_Side_body := F_Side_body.binds (ps := ["self", "name"]) fun _ _ _ _ _ _ us hl => match us, hl with | [_, _], _ => rfl
  have F_Side_rows := fun_mk (st := s_Side_rows) l_Side_rows q_Side_rows k_Side_rows
  have B_Side_rows := F_Side_rows.binds (ps := ["self", "name"]) fun _ _ _ _ _ _ us hl => match us, hl with | [_, _], _ => rfl
  have F_Side_place := fun_mk (st := s_Side_place) l_Side_place q_Side_place k_Side_place
  have B_Side_place := F_Side_place.binds (ps := ["self", "name", "row"]) fun _ _ _ _ _ _ us hl => match us, hl with | [_, _, _], _ => rfl
  have F_Side_parsed := fun_mk (st := s_Side_parsed) l_Side_parsed q_Side_parsed k_Side_parsed
  have B_Side_parsed := F_Side_parsed.binds (ps := ["self", "name"]) fun _ _ _ _ _ _ us hl => match us, hl with | [_, _], _ => rfl
  have F_Pacts_init := fun_mk (st := s_Pacts_init) l_Pacts_init q_Pacts_init k_Pacts_init
  have B_Pacts_init := F_Pacts_init.binds (ps := ["self", "pairs", "helpers"]) fun _ _ _ _ _ _ us hl => match us, hl with | [_, _, _], _ => rfl
  have F_Pacts_names := fun_mk (st := s_Pacts_names) l_Pacts_names q_Pacts_names k_Pacts_names
  have B_Pacts_names := F_Pacts_names.binds (ps := ["self", "side"]) fun _ _ _ _ _ _ us hl => match us, hl with | [_, _], _ => rfl
  have F_Pacts_pact := fun_mk (st := s_Pacts_pact) l_Pacts_pact q_Pacts_pact k_Pacts_pact
  have B_Pacts_pact := F_Pacts_pact.binds (ps := ["self", "name"]) fun _ _ _ _ _ _ us hl => match us, hl with | [_, _], _ => rfl
  have F_Pacts_laden := fun_mk (st := s_Pacts_laden) l_Pacts_laden q_Pacts_laden k_Pacts_laden
  have F_Pacts_over := fun_mk (st := s_Pacts_over) l_Pacts_over q_Pacts_over k_Pacts_over
  have F_Pacts_p_pair := fun_mk (st := s_Pacts_p_pair) l_Pacts_p_pair q_Pacts_p_pair k_Pacts_p_pair
  have B_Pacts_p_pair := F_Pacts_p_pair.binds (ps := ["self", "word", "side"]) fun _ _ _ _ _ _ us hl => match us, hl with | [_, _, _], _ => rfl
  have F_Pacts_errors := fun_mk (st := s_Pacts_errors) l_Pacts_errors q_Pacts_errors k_Pacts_errors
  have F_Pacts_eq := fun_mk (st := s_Pacts_eq) l_Pacts_eq q_Pacts_eq k_Pacts_eq
  have B_Pacts_eq := F_Pacts_eq.binds (ps := ["self", "other"]) fun _ _ _ _ _ _ us hl => match us, hl with | [_, _], _ => rfl
  have F_p_is_pair := fun_mk (st := s_p_is_pair) l_p_is_pair q_p_is_pair k_p_is_pair
  have B_p_is_pair := F_p_is_pair.binds (ps := ["pair"]) fun _ _ _ _ _ _ us hl => match us, hl with | [_], _ => rfl
  have F_p_fits_pairs := fun_mk (st := s_p_fits_pairs) l_p_fits_pairs q_p_fits_pairs k_p_fits_pairs
  have B_p_fits_pairs := F_p_fits_pairs.binds (ps := ["pair", "ahead"]) fun _ _ _ _ _ _ us hl => match us, hl with | [_, _], _ => rfl
  have F_p_is_pact := fun_mk (st := s_p_is_pact) l_p_is_pact q_p_is_pact k_p_is_pact
  have B_p_is_pact := F_p_is_pact.binds (ps := ["pact"]) fun _ _ _ _ _ _ us hl => match us, hl with | [_], _ => rfl
  have F_p_are_takes := fun_mk (st := s_p_are_takes) l_p_are_takes q_p_are_takes k_p_are_takes
  have B_p_are_takes := F_p_are_takes.binds (ps := ["takes"]) fun _ _ _ _ _ _ us hl => match us, hl with | [_], _ => rfl
  have F_p_are_throws := fun_mk (st := s_p_are_throws) l_p_are_throws q_p_are_throws k_p_are_throws
  have B_p_are_throws := F_p_are_throws.binds (ps := ["throws"]) fun _ _ _ _ _ _ us hl => match us, hl with | [_], _ => rfl
  have F_p_fits_helpers := fun_mk (st := s_p_fits_helpers) l_p_fits_helpers q_p_fits_helpers k_p_fits_helpers
  have B_p_fits_helpers := F_p_fits_helpers.binds (ps := ["pact", "pairs", "ahead"]) fun _ _ _ _ _ _ us hl => match us, hl with | [_, _, _], _ => rfl
  have F_box := fun_mk (st := s_box) l_box q_box k_box
  have B_box := F_box.binds (ps := ["_law_script"]) fun _ _ _ _ _ _ us hl => match us, hl with | [_], _ => rfl
  have F_mixed := fun_mk (st := s_mixed) l_mixed q_mixed k_mixed
  have B_mixed := F_mixed.binds (ps := ["_law_cell", "_law_k"]) fun _ _ _ _ _ _ us hl => match us, hl with | [_, _], _ => rfl
  have F_take := fun_mk (st := s_take) l_take q_take k_take
  have B_take := F_take.binds (ps := ["_law_box_here", "_law_size"]) fun _ _ _ _ _ _ us hl => match us, hl with | [_, _], _ => rfl
  have F_unlike := fun_mk (st := s_unlike) l_unlike q_unlike k_unlike
  have B_unlike := F_unlike.binds (ps := ["_law_box_here", "_law_many", "_law_pool"]) fun _ _ _ _ _ _ us hl => match us, hl with | [_, _, _], _ => rfl
  have F_names := fun_mk (st := s_names) l_names q_names k_names
  have B_names := F_names.binds (ps := ["_law_box_here", "_law_many", "_law_menu"]) fun _ _ _ _ _ _ us hl => match us, hl with | [_, _, _], _ => rfl
  have F_any_deal := fun_mk (st := s_any_deal) l_any_deal q_any_deal k_any_deal
  have B_any_deal := F_any_deal.binds (ps := ["_law_box_here", "_law_limit"]) fun _ _ _ _ _ _ us hl => match us, hl with | [_, _], _ => rfl
  have F_pact := fun_mk (st := s_pact) l_pact q_pact k_pact
  have B_pact := F_pact.binds (ps := ["_law_deal", "_law_name"]) fun _ _ _ _ _ _ us hl => match us, hl with | [_, _], _ => rfl
  have F_laden := fun_mk (st := s_laden) l_laden q_laden k_laden
  have B_laden := F_laden.binds (ps := ["_law_deal", "_law_team", "_law_word"]) fun _ _ _ _ _ _ us hl => match us, hl with | [_, _, _], _ => rfl
  have F_errors := fun_mk (st := s_errors) l_errors q_errors k_errors
  have B_errors := F_errors.binds (ps := ["_law_deal", "_law_name", "_law_team"]) fun _ _ _ _ _ _ us hl => match us, hl with | [_, _, _], _ => rfl
  have F_of_team := fun_mk (st := s_of_team) l_of_team q_of_team k_of_team
  have B_of_team := F_of_team.binds (ps := ["_law_deal", "_law_team"]) fun _ _ _ _ _ _ us hl => match us, hl with | [_, _], _ => rfl
  have F_any_call := fun_mk (st := s_any_call) l_any_call q_any_call k_any_call
  have B_any_call := F_any_call.binds (ps := ["_law_box_here", "_law_deal", "_law_team", "_law_many"]) fun _ _ _ _ _ _ us hl => match us, hl with | [_, _, _, _], _ => rfl
  have F_any_end := fun_mk (st := s_any_end) l_any_end q_any_end k_any_end
  have B_any_end := F_any_end.binds (ps := ["_law_box_here", "_law_deal", "_law_name"]) fun _ _ _ _ _ _ us hl => match us, hl with | [_, _, _], _ => rfl
  have F_any_row := fun_mk (st := s_any_row) l_any_row q_any_row k_any_row
  have B_any_row := F_any_row.binds (ps := ["_law_box_here", "_law_deal", "_law_name", "_law_at", "_law_many"]) fun _ _ _ _ _ _ us hl => match us, hl with | [_, _, _, _, _], _ => rfl
  have F_any_rows := fun_mk (st := s_any_rows) l_any_rows q_any_rows k_any_rows
  have B_any_rows := F_any_rows.binds (ps := ["_law_box_here", "_law_deal", "_law_name", "_law_many"]) fun _ _ _ _ _ _ us hl => match us, hl with | [_, _, _, _], _ => rfl
  have F_sided := fun_mk (st := s_sided) l_sided q_sided k_sided
  have B_sided := F_sided.binds (ps := ["_law_deal", "_law_team", "_law_texts"]) fun _ _ _ _ _ _ us hl => match us, hl with | [_, _, _], _ => rfl
  have F_no_row := fun_mk (st := s_no_row) l_no_row q_no_row k_no_row
  have B_no_row := F_no_row.binds (ps := ["_law_made", "_law_name", "_law_row"]) fun _ _ _ _ _ _ us hl => match us, hl with | [_, _, _], _ => rfl
  have F_told := fun_mk (st := s_told) l_told q_told k_told
  have B_told := F_told.binds (ps := ["_law_made", "_law_texts"]) fun _ _ _ _ _ _ us hl => match us, hl with | [_, _], _ => rfl
  have F_law := fun_mk (st := s_law) l_law q_law k_law
  have B_law := F_law.binds (ps := ["_law_script"]) fun _ _ _ _ _ _ us hl => match us, hl with | [_], _ => rfl
  have KN_Pacts_laden_2 := kwn_mk F_Pacts_laden (ps := ["self", "word", "side"]) (n := 2) (ks := ["side"]) rfl (fun _ _ _ _ _ _ us ws hu hw => match us, ws, hu, hw with | [_, _], [_], _, _ => rfl)
  have KN_Pacts_over_2 := kwn_mk F_Pacts_over (ps := ["self", "word", "side"]) (n := 2) (ks := ["side"]) rfl (fun _ _ _ _ _ _ us ws hu hw => match us, ws, hu, hw with | [_, _], [_], _, _ => rfl)
  have KN_Pacts_errors_2 := kwn_mk F_Pacts_errors (ps := ["self", "name", "side"]) (n := 2) (ks := ["side"]) rfl (fun _ _ _ _ _ _ us ws hu hw => match us, ws, hu, hw with | [_, _], [_], _, _ => rfl)
  have T : Txt K mg { c_Pacts := c_Pacts, c_RowReader := c_RowReader, c_Body := c_Body, c_Side := c_Side, c_NoHelper := c_NoHelper, c_NoBody := c_NoBody, c_NoWord := c_NoWord, c_NoRow := c_NoRow, c_PactError := c_PactError, t_LONGEST_NAME := t_LONGEST_NAME, t_MOST_PAIRS := t_MOST_PAIRS, t_MOST_HELPERS := t_MOST_HELPERS, t_MOST_TAKES := t_MOST_TAKES, t_MOST_THROWS := t_MOST_THROWS, t_TAKES := t_TAKES, t_PLACES := t_PLACES, t_SHELF := t_SHELF, t_POCKET_ROWS := t_POCKET_ROWS, t_MOST_ROWS := t_MOST_ROWS, f_NoHelper_init := f_NoHelper_init, d_NoHelper_init := PySem.W.fnOf "__init__" "NoHelper.__init__" (defArgs s_NoHelper_init) (defBody s_NoHelper_init) (defScope s_NoHelper_init) .none kV_NoHelper_init dc_NoHelper_init pm_NoHelper_init an_NoHelper_init cd_NoHelper_init ct_NoHelper_init, f_NoWord_init := f_NoWord_init, d_NoWord_init := PySem.W.fnOf "__init__" "NoWord.__init__" (defArgs s_NoWord_init) (defBody s_NoWord_init) (defScope s_NoWord_init) .none kV_NoWord_init dc_NoWord_init pm_NoWord_init an_NoWord_init cd_NoWord_init ct_NoWord_init, f_NoBody_init := f_NoBody_init, d_NoBody_init := PySem.W.fnOf "__init__" "NoBody.__init__" (defArgs s_NoBody_init) (defBody s_NoBody_init) (defScope s_NoBody_init) .none kV_NoBody_init dc_NoBody_init pm_NoBody_init an_NoBody_init cd_NoBody_init ct_NoBody_init, f_NoRow_init := f_NoRow_init, d_NoRow_init := PySem.W.fnOf "__init__" "NoRow.__init__" (defArgs s_NoRow_init) (defBody s_NoRow_init) (defScope s_NoRow_init) .none kV_NoRow_init dc_NoRow_init pm_NoRow_init an_NoRow_init cd_NoRow_init ct_NoRow_init, f_is_whole := f_is_whole, d_is_whole := PySem.W.fnOf "is_whole" "is_whole" (defArgs s_is_whole) (defBody s_is_whole) (defScope s_is_whole) .none kV_is_whole dc_is_whole pm_is_whole an_is_whole cd_is_whole ct_is_whole, f_is_side := f_is_side, d_is_side := PySem.W.fnOf "is_side" "is_side" (defArgs s_is_side) (defBody s_is_side) (defScope s_is_side) .none kV_is_side dc_is_side pm_is_side an_is_side cd_is_side ct_is_side, f_is_name := f_is_name, d_is_name := PySem.W.fnOf "is_name" "is_name" (defArgs s_is_name) (defBody s_is_name) (defScope s_is_name) .none kV_is_name dc_is_name pm_is_name an_is_name cd_is_name ct_is_name, f_place_of := f_place_of, d_place_of := PySem.W.fnOf "place_of" "place_of" (defArgs s_place_of) (defBody s_place_of) (defScope s_place_of) .none kV_place_of dc_place_of pm_place_of an_place_of cd_place_of ct_place_of, f_pocket_of := f_pocket_of, d_pocket_of := PySem.W.fnOf "pocket_of" "pocket_of" (defArgs s_pocket_of) (defBody s_pocket_of) (defScope s_pocket_of) .none kV_pocket_of dc_pocket_of pm_pocket_of an_pocket_of cd_pocket_of ct_pocket_of, f_read_rows := f_read_rows, d_read_rows := PySem.W.fnOf "read_rows" "read_rows" (defArgs s_read_rows) (defBody s_read_rows) (defScope s_read_rows) .none kV_read_rows dc_read_rows pm_read_rows an_read_rows cd_read_rows ct_read_rows, f_RowReader_init := f_RowReader_init, d_RowReader_init := PySem.W.fnOf "__init__" "RowReader.__init__" (defArgs s_RowReader_init) (defBody s_RowReader_init) (defScope s_RowReader_init) .none kV_RowReader_init dc_RowReader_init pm_RowReader_init an_RowReader_init cd_RowReader_init ct_RowReader_init, f_RowReader_step := f_RowReader_step, d_RowReader_step := PySem.W.fnOf "step" "RowReader.step" (defArgs s_RowReader_step) (defBody s_RowReader_step) (defScope s_RowReader_step) .none kV_RowReader_step dc_RowReader_step pm_RowReader_step an_RowReader_step cd_RowReader_step ct_RowReader_step, f_RowReader_p_pocket_row := f_RowReader_p_pocket_row, d_RowReader_p_pocket_row := PySem.W.fnOf "_pocket_row" "RowReader._pocket_row" (defArgs s_RowReader_p_pocket_row) (defBody s_RowReader_p_pocket_row) (defScope s_RowReader_p_pocket_row) .none kV_RowReader_p_pocket_row dc_RowReader_p_pocket_row pm_RowReader_p_pocket_row an_RowReader_p_pocket_row cd_RowReader_p_pocket_row ct_RowReader_p_pocket_row, f_RowReader_p_use := f_RowReader_p_use, d_RowReader_p_use := PySem.W.fnOf "_use" "RowReader._use" (defArgs s_RowReader_p_use) (defBody s_RowReader_p_use) (defScope s_RowReader_p_use) .none kV_RowReader_p_use dc_RowReader_p_use pm_RowReader_p_use an_RowReader_p_use cd_RowReader_p_use ct_RowReader_p_use, f_RowReader_p_move := f_RowReader_p_move, d_RowReader_p_move := PySem.W.fnOf "_move" "RowReader._move" (defArgs s_RowReader_p_move) (defBody s_RowReader_p_move) (defScope s_RowReader_p_move) .none kV_RowReader_p_move dc_RowReader_p_move pm_RowReader_p_move an_RowReader_p_move cd_RowReader_p_move ct_RowReader_p_move, f_RowReader_p_jump := f_RowReader_p_jump, d_RowReader_p_jump := PySem.W.fnOf "_jump" "RowReader._jump" (defArgs s_RowReader_p_jump) (defBody s_RowReader_p_jump) (defScope s_RowReader_p_jump) .none kV_RowReader_p_jump dc_RowReader_p_jump pm_RowReader_p_jump an_RowReader_p_jump cd_RowReader_p_jump ct_RowReader_p_jump, f_RowReader_p_row_number := f_RowReader_p_row_number, d_RowReader_p_row_number := PySem.W.fnOf "_row_number" "RowReader._row_number" (defArgs s_RowReader_p_row_number) (defBody s_RowReader_p_row_number) (defScope s_RowReader_p_row_number) .none kV_RowReader_p_row_number dc_RowReader_p_row_number pm_RowReader_p_row_number an_RowReader_p_row_number cd_RowReader_p_row_number ct_RowReader_p_row_number, f_RowReader_p_throw := f_RowReader_p_throw, d_RowReader_p_throw := PySem.W.fnOf "_throw" "RowReader._throw" (defArgs s_RowReader_p_throw) (defBody s_RowReader_p_throw) (defScope s_RowReader_p_throw) .none kV_RowReader_p_throw dc_RowReader_p_throw pm_RowReader_p_throw an_RowReader_p_throw cd_RowReader_p_throw ct_RowReader_p_throw, f_RowReader_p_laden := f_RowReader_p_laden, d_RowReader_p_laden := PySem.W.fnOf "_laden" "RowReader._laden" (defArgs s_RowReader_p_laden) (defBody s_RowReader_p_laden) (defScope s_RowReader_p_laden) .none kV_RowReader_p_laden dc_RowReader_p_laden pm_RowReader_p_laden an_RowReader_p_laden cd_RowReader_p_laden ct_RowReader_p_laden, f_RowReader_p_done := f_RowReader_p_done, d_RowReader_p_done := PySem.W.fnOf "_done" "RowReader._done" (defArgs s_RowReader_p_done) (defBody s_RowReader_p_done) (defScope s_RowReader_p_done) .none kV_RowReader_p_done dc_RowReader_p_done pm_RowReader_p_done an_RowReader_p_done cd_RowReader_p_done ct_RowReader_p_done, f_RowReader_p_end := f_RowReader_p_end, d_RowReader_p_end := PySem.W.fnOf "_end" "RowReader._end" (defArgs s_RowReader_p_end) (defBody s_RowReader_p_end) (defScope s_RowReader_p_end) .none kV_RowReader_p_end dc_RowReader_p_end pm_RowReader_p_end an_RowReader_p_end cd_RowReader_p_end ct_RowReader_p_end, f_RowReader_p_call := f_RowReader_p_call, d_RowReader_p_call := PySem.W.fnOf "_call" "RowReader._call" (defArgs s_RowReader_p_call) (defBody s_RowReader_p_call) (defScope s_RowReader_p_call) .none kV_RowReader_p_call dc_RowReader_p_call pm_RowReader_p_call an_RowReader_p_call cd_RowReader_p_call ct_RowReader_p_call, f_RowReader_p_called := f_RowReader_p_called, d_RowReader_p_called := PySem.W.fnOf "_called" "RowReader._called" (defArgs s_RowReader_p_called) (defBody s_RowReader_p_called) (defScope s_RowReader_p_called) .none kV_RowReader_p_called dc_RowReader_p_called pm_RowReader_p_called an_RowReader_p_called cd_RowReader_p_called ct_RowReader_p_called, f_RowReader_p_handed := f_RowReader_p_handed, d_RowReader_p_handed := PySem.W.fnOf "_handed" "RowReader._handed" (defArgs s_RowReader_p_handed) (defBody s_RowReader_p_handed) (defScope s_RowReader_p_handed) .none kV_RowReader_p_handed dc_RowReader_p_handed pm_RowReader_p_handed an_RowReader_p_handed cd_RowReader_p_handed ct_RowReader_p_handed, f_RowReader_p_to := f_RowReader_p_to, d_RowReader_p_to := PySem.W.fnOf "_to" "RowReader._to" (defArgs s_RowReader_p_to) (defBody s_RowReader_p_to) (defScope s_RowReader_p_to) .none kV_RowReader_p_to dc_RowReader_p_to pm_RowReader_p_to an_RowReader_p_to cd_RowReader_p_to ct_RowReader_p_to, f_RowReader_p_catches := f_RowReader_p_catches, d_RowReader_p_catches := PySem.W.fnOf "_catches" "RowReader._catches" (defArgs s_RowReader_p_catches) (defBody s_RowReader_p_catches) (defScope s_RowReader_p_catches) .none kV_RowReader_p_catches dc_RowReader_p_catches pm_RowReader_p_catches an_RowReader_p_catches cd_RowReader_p_catches ct_RowReader_p_catches, f_Body_init := f_Body_init, d_Body_init := PySem.W.fnOf "__init__" "Body.__init__" (defArgs s_Body_init) (defBody s_Body_init) (defScope s_Body_init) .none kV_Body_init dc_Body_init pm_Body_init an_Body_init cd_Body_init ct_Body_init, f_Side_init := f_Side_init, d_Side_init := PySem.W.fnOf "__init__" "Side.__init__" (defArgs s_Side_init) (defBody s_Side_init) (defScope s_Side_init) .none kV_Side_init dc_Side_init pm_Side_init an_Side_init cd_Side_init ct_Side_init, f_Side_pacts := f_Side_pacts, d_Side_pacts := PySem.W.fnOf "pacts" "Side.pacts" (defArgs s_Side_pacts) (defBody s_Side_pacts) (defScope s_Side_pacts) .none kV_Side_pacts dc_Side_pacts pm_Side_pacts an_Side_pacts cd_Side_pacts ct_Side_pacts, f_Side_number := f_Side_number, d_Side_number := PySem.W.fnOf "number" "Side.number" (defArgs s_Side_number) (defBody s_Side_number) (defScope s_Side_number) .none kV_Side_number dc_Side_number pm_Side_number an_Side_number cd_Side_number ct_Side_number, f_Side_body := f_Side_body, d_Side_body := PySem.W.fnOf "body" "Side.body" (defArgs s_Side_body) (defBody s_Side_body) (defScope s_Side_body) .none kV_Side_body dc_Side_body pm_Side_body an_Side_body cd_Side_body ct_Side_body, f_Side_rows := f_Side_rows, d_Side_rows := PySem.W.fnOf "rows" "Side.rows" (defArgs s_Side_rows) (defBody s_Side_rows) (defScope s_Side_rows) .none kV_Side_rows dc_Side_rows pm_Side_rows an_Side_rows cd_Side_rows ct_Side_rows, f_Side_place := f_Side_place, d_Side_place := PySem.W.fnOf "place" "Side.place" (defArgs s_Side_place) (defBody s_Side_place) (defScope s_Side_place) .none kV_Side_place dc_Side_place pm_Side_place an_Side_place cd_Side_place ct_Side_place, f_Side_parsed := f_Side_parsed, d_Side_parsed := PySem.W.fnOf "parsed" "Side.parsed" (defArgs s_Side_parsed) (defBody s_Side_parsed) (defScope s_Side_parsed) .none kV_Side_parsed dc_Side_parsed pm_Side_parsed an_Side_parsed cd_Side_parsed ct_Side_parsed, f_Pacts_init := f_Pacts_init, d_Pacts_init := PySem.W.fnOf "__init__" "Pacts.__init__" (defArgs s_Pacts_init) (defBody s_Pacts_init) (defScope s_Pacts_init) .none kV_Pacts_init dc_Pacts_init pm_Pacts_init an_Pacts_init cd_Pacts_init ct_Pacts_init, f_Pacts_names := f_Pacts_names, d_Pacts_names := PySem.W.fnOf "names" "Pacts.names" (defArgs s_Pacts_names) (defBody s_Pacts_names) (defScope s_Pacts_names) .none kV_Pacts_names dc_Pacts_names pm_Pacts_names an_Pacts_names cd_Pacts_names ct_Pacts_names, f_Pacts_pact := f_Pacts_pact, d_Pacts_pact := PySem.W.fnOf "pact" "Pacts.pact" (defArgs s_Pacts_pact) (defBody s_Pacts_pact) (defScope s_Pacts_pact) .none kV_Pacts_pact dc_Pacts_pact pm_Pacts_pact an_Pacts_pact cd_Pacts_pact ct_Pacts_pact, f_Pacts_laden := f_Pacts_laden, d_Pacts_laden := PySem.W.fnOf "laden" "Pacts.laden" (defArgs s_Pacts_laden) (defBody s_Pacts_laden) (defScope s_Pacts_laden) .none kV_Pacts_laden dc_Pacts_laden pm_Pacts_laden an_Pacts_laden cd_Pacts_laden ct_Pacts_laden, f_Pacts_over := f_Pacts_over, d_Pacts_over := PySem.W.fnOf "over" "Pacts.over" (defArgs s_Pacts_over) (defBody s_Pacts_over) (defScope s_Pacts_over) .none kV_Pacts_over dc_Pacts_over pm_Pacts_over an_Pacts_over cd_Pacts_over ct_Pacts_over, f_Pacts_p_pair := f_Pacts_p_pair, d_Pacts_p_pair := PySem.W.fnOf "_pair" "Pacts._pair" (defArgs s_Pacts_p_pair) (defBody s_Pacts_p_pair) (defScope s_Pacts_p_pair) .none kV_Pacts_p_pair dc_Pacts_p_pair pm_Pacts_p_pair an_Pacts_p_pair cd_Pacts_p_pair ct_Pacts_p_pair, f_Pacts_errors := f_Pacts_errors, d_Pacts_errors := PySem.W.fnOf "errors" "Pacts.errors" (defArgs s_Pacts_errors) (defBody s_Pacts_errors) (defScope s_Pacts_errors) .none kV_Pacts_errors dc_Pacts_errors pm_Pacts_errors an_Pacts_errors cd_Pacts_errors ct_Pacts_errors, f_Pacts_eq := f_Pacts_eq, d_Pacts_eq := PySem.W.fnOf "__eq__" "Pacts.__eq__" (defArgs s_Pacts_eq) (defBody s_Pacts_eq) (defScope s_Pacts_eq) .none kV_Pacts_eq dc_Pacts_eq pm_Pacts_eq an_Pacts_eq cd_Pacts_eq ct_Pacts_eq, f_p_is_pair := f_p_is_pair, d_p_is_pair := PySem.W.fnOf "_is_pair" "_is_pair" (defArgs s_p_is_pair) (defBody s_p_is_pair) (defScope s_p_is_pair) .none kV_p_is_pair dc_p_is_pair pm_p_is_pair an_p_is_pair cd_p_is_pair ct_p_is_pair, f_p_fits_pairs := f_p_fits_pairs, d_p_fits_pairs := PySem.W.fnOf "_fits_pairs" "_fits_pairs" (defArgs s_p_fits_pairs) (defBody s_p_fits_pairs) (defScope s_p_fits_pairs) .none kV_p_fits_pairs dc_p_fits_pairs pm_p_fits_pairs an_p_fits_pairs cd_p_fits_pairs ct_p_fits_pairs, f_p_is_pact := f_p_is_pact, d_p_is_pact := PySem.W.fnOf "_is_pact" "_is_pact" (defArgs s_p_is_pact) (defBody s_p_is_pact) (defScope s_p_is_pact) .none kV_p_is_pact dc_p_is_pact pm_p_is_pact an_p_is_pact cd_p_is_pact ct_p_is_pact, f_p_are_takes := f_p_are_takes, d_p_are_takes := PySem.W.fnOf "_are_takes" "_are_takes" (defArgs s_p_are_takes) (defBody s_p_are_takes) (defScope s_p_are_takes) .none kV_p_are_takes dc_p_are_takes pm_p_are_takes an_p_are_takes cd_p_are_takes ct_p_are_takes, f_p_are_throws := f_p_are_throws, d_p_are_throws := PySem.W.fnOf "_are_throws" "_are_throws" (defArgs s_p_are_throws) (defBody s_p_are_throws) (defScope s_p_are_throws) .none kV_p_are_throws dc_p_are_throws pm_p_are_throws an_p_are_throws cd_p_are_throws ct_p_are_throws, f_p_fits_helpers := f_p_fits_helpers, d_p_fits_helpers := PySem.W.fnOf "_fits_helpers" "_fits_helpers" (defArgs s_p_fits_helpers) (defBody s_p_fits_helpers) (defScope s_p_fits_helpers) .none kV_p_fits_helpers dc_p_fits_helpers pm_p_fits_helpers an_p_fits_helpers cd_p_fits_helpers ct_p_fits_helpers, f_box := f_box, d_box := PySem.W.fnOf "_law_box" "_law_box" (defArgs s_box) (defBody s_box) (defScope s_box) .none kV_box dc_box pm_box an_box cd_box ct_box, f_mixed := f_mixed, d_mixed := PySem.W.fnOf "_law_mixed" "_law_mixed" (defArgs s_mixed) (defBody s_mixed) (defScope s_mixed) .none kV_mixed dc_mixed pm_mixed an_mixed cd_mixed ct_mixed, f_take := f_take, d_take := PySem.W.fnOf "_law_take" "_law_take" (defArgs s_take) (defBody s_take) (defScope s_take) .none kV_take dc_take pm_take an_take cd_take ct_take, f_unlike := f_unlike, d_unlike := PySem.W.fnOf "_law_unlike" "_law_unlike" (defArgs s_unlike) (defBody s_unlike) (defScope s_unlike) .none kV_unlike dc_unlike pm_unlike an_unlike cd_unlike ct_unlike, f_names := f_names, d_names := PySem.W.fnOf "_law_names" "_law_names" (defArgs s_names) (defBody s_names) (defScope s_names) .none kV_names dc_names pm_names an_names cd_names ct_names, f_any_deal := f_any_deal, d_any_deal := PySem.W.fnOf "_law_any_deal" "_law_any_deal" (defArgs s_any_deal) (defBody s_any_deal) (defScope s_any_deal) .none kV_any_deal dc_any_deal pm_any_deal an_any_deal cd_any_deal ct_any_deal, f_pact := f_pact, d_pact := PySem.W.fnOf "_law_pact" "_law_pact" (defArgs s_pact) (defBody s_pact) (defScope s_pact) .none kV_pact dc_pact pm_pact an_pact cd_pact ct_pact, f_laden := f_laden, d_laden := PySem.W.fnOf "_law_laden" "_law_laden" (defArgs s_laden) (defBody s_laden) (defScope s_laden) .none kV_laden dc_laden pm_laden an_laden cd_laden ct_laden, f_errors := f_errors, d_errors := PySem.W.fnOf "_law_errors" "_law_errors" (defArgs s_errors) (defBody s_errors) (defScope s_errors) .none kV_errors dc_errors pm_errors an_errors cd_errors ct_errors, f_of_team := f_of_team, d_of_team := PySem.W.fnOf "_law_of_team" "_law_of_team" (defArgs s_of_team) (defBody s_of_team) (defScope s_of_team) .none kV_of_team dc_of_team pm_of_team an_of_team cd_of_team ct_of_team, f_any_call := f_any_call, d_any_call := PySem.W.fnOf "_law_any_call" "_law_any_call" (defArgs s_any_call) (defBody s_any_call) (defScope s_any_call) .none kV_any_call dc_any_call pm_any_call an_any_call cd_any_call ct_any_call, f_any_end := f_any_end, d_any_end := PySem.W.fnOf "_law_any_end" "_law_any_end" (defArgs s_any_end) (defBody s_any_end) (defScope s_any_end) .none kV_any_end dc_any_end pm_any_end an_any_end cd_any_end ct_any_end, f_any_row := f_any_row, d_any_row := PySem.W.fnOf "_law_any_row" "_law_any_row" (defArgs s_any_row) (defBody s_any_row) (defScope s_any_row) .none kV_any_row dc_any_row pm_any_row an_any_row cd_any_row ct_any_row, f_any_rows := f_any_rows, d_any_rows := PySem.W.fnOf "_law_any_rows" "_law_any_rows" (defArgs s_any_rows) (defBody s_any_rows) (defScope s_any_rows) .none kV_any_rows dc_any_rows pm_any_rows an_any_rows cd_any_rows ct_any_rows, f_sided := f_sided, d_sided := PySem.W.fnOf "_law_sided" "_law_sided" (defArgs s_sided) (defBody s_sided) (defScope s_sided) .none kV_sided dc_sided pm_sided an_sided cd_sided ct_sided, f_no_row := f_no_row, d_no_row := PySem.W.fnOf "_law_no_row" "_law_no_row" (defArgs s_no_row) (defBody s_no_row) (defScope s_no_row) .none kV_no_row dc_no_row pm_no_row an_no_row cd_no_row ct_no_row, f_told := f_told, d_told := PySem.W.fnOf "_law_told" "_law_told" (defArgs s_told) (defBody s_told) (defScope s_told) .none kV_told dc_told pm_told an_told cd_told ct_told, f_law := f_law, d_law := PySem.W.fnOf "law" "law" (defArgs s_law) (defBody s_law) (defScope s_law) .none kV_law dc_law pm_law an_law cd_law ct_law } := { cl_Pacts := ⟨pg_Pacts, hd_Pacts, po_Pacts, sa_Pacts⟩, mk_Pacts := ⟨mk_Pacts, a_Pacts_init, i_Pacts_init, kc_Pacts⟩, g_Pacts := PySem.W.mg_of X G a_Pacts, n_Pacts__pairs := n_Pacts__pairs, n_Pacts__helpers := n_Pacts__helpers, cl_RowReader := ⟨pg_RowReader, hd_RowReader, po_RowReader, sa_RowReader⟩, mk_RowReader := ⟨mk_RowReader, a_RowReader_init, i_RowReader_init, kc_RowReader⟩, g_RowReader := PySem.W.mg_of X G a_RowReader, n_RowReader__pacts := n_RowReader__pacts, n_RowReader__pact := n_RowReader__pact, n_RowReader__many := n_RowReader__many, cl_Body := ⟨pg_Body, hd_Body, po_Body, sa_Body⟩, mk_Body := ⟨mk_Body, a_Body_init, i_Body_init, kc_Body⟩, g_Body := PySem.W.mg_of X G a_Body, n_Body_text := n_Body_text, n_Body_many := n_Body_many, n_Body_statements := n_Body_statements, n_Body_texts := n_Body_texts, n_Body_numbers := n_Body_numbers, n_Body_steps := n_Body_steps, cl_Side := ⟨pg_Side, hd_Side, po_Side, sa_Side⟩, mk_Side := ⟨mk_Side, a_Side_init, i_Side_init, kc_Side⟩, g_Side := PySem.W.mg_of X G a_Side, n_Side__pacts := n_Side__pacts, n_Side__number := n_Side__number, n_Side__bodies := n_Side__bodies, n_Side__parsed := n_Side__parsed, x_NoHelper := ⟨⟨_, _, _, _, _, _, _, _, _, _, _, _, _, _, _, xl_NoHelper, xm_NoHelper⟩, xs_NoHelper, xe_NoHelper, xy_NoHelper, xk_NoHelper⟩, xi_NoHelper := a_NoHelper_init, xt_NoHelper := beq_iff_eq.mp i_NoHelper_init, xf_NoHelper := ⟨xg_NoHelper, xo_NoHelper, xe_NoHelper, xd_NoHelper⟩, g_NoHelper := PySem.W.mg_of X G a_NoHelper, n_NoHelper_name := n_NoHelper_name, x_NoBody := ⟨⟨_, _, _, _, _, _, _, _, _, _, _, _, _, _, _, xl_NoBody, xm_NoBody⟩, xs_NoBody, xe_NoBody, xy_NoBody, xk_NoBody⟩, xi_NoBody := a_NoBody_init, xt_NoBody := beq_iff_eq.mp i_NoBody_init, xf_NoBody := ⟨xg_NoBody, xo_NoBody, xe_NoBody, xd_NoBody⟩, g_NoBody := PySem.W.mg_of X G a_NoBody, n_NoBody_name := n_NoBody_name, n_NoBody_at := n_NoBody_at, x_NoWord := ⟨⟨_, _, _, _, _, _, _, _, _, _, _, _, _, _, _, xl_NoWord, xm_NoWord⟩, xs_NoWord, xe_NoWord, xy_NoWord, xk_NoWord⟩, xi_NoWord := a_NoWord_init, xt_NoWord := beq_iff_eq.mp i_NoWord_init, xf_NoWord := ⟨xg_NoWord, xo_NoWord, xe_NoWord, xd_NoWord⟩, g_NoWord := PySem.W.mg_of X G a_NoWord, n_NoWord_word := n_NoWord_word, x_NoRow := ⟨⟨_, _, _, _, _, _, _, _, _, _, _, _, _, _, _, xl_NoRow, xm_NoRow⟩, xs_NoRow, xe_NoRow, xy_NoRow, xk_NoRow⟩, xi_NoRow := a_NoRow_init, xt_NoRow := beq_iff_eq.mp i_NoRow_init, xf_NoRow := ⟨xg_NoRow, xo_NoRow, xe_NoRow, xd_NoRow⟩, g_NoRow := PySem.W.mg_of X G a_NoRow, n_NoRow_at := n_NoRow_at, md_PactError := ⟨da_PactError, dr_PactError, df_PactError⟩, g_PactError := PySem.W.mg_of X G a_PactError, fe_BB := fe_BB, fe_HB := fe_HB, fe_HH := fe_HH, fe_WW := fe_WW, fe_RR := fe_RR, fg := fg, ft := ft, pn_1 := pn_1, pn_2 := pn_2, pn_3 := pn_3, pn_4 := pn_4, pn_5 := pn_5, pn_6 := pn_6, pn_7 := pn_7, pn_8 := pn_8, pn_9 := pn_9, pn_10 := pn_10, pn_11 := pn_11, pn_12 := pn_12, F_NoHelper_init := F_NoHelper_init, B_NoHelper_init := B_NoHelper_init, F_NoWord_init := F_NoWord_init, B_NoWord_init := B_NoWord_init, F_NoBody_init := F_NoBody_init, B_NoBody_init := B_NoBody_init, F_NoRow_init := F_NoRow_init, B_NoRow_init := B_NoRow_init, F_is_whole := F_is_whole, B_is_whole := B_is_whole, g_is_whole := PySem.W.mg_of X G a_is_whole, k_is_whole := k_is_whole, F_is_side := F_is_side, B_is_side := B_is_side, g_is_side := PySem.W.mg_of X G a_is_side, k_is_side := k_is_side, F_is_name := F_is_name, B_is_name := B_is_name, g_is_name := PySem.W.mg_of X G a_is_name, k_is_name := k_is_name, F_place_of := F_place_of, B_place_of := B_place_of, g_place_of := PySem.W.mg_of X G a_place_of, k_place_of := k_place_of, F_pocket_of := F_pocket_of, B_pocket_of := B_pocket_of, g_pocket_of := PySem.W.mg_of X G a_pocket_of, k_pocket_of := k_pocket_of, F_read_rows := F_read_rows, B_read_rows := B_read_rows, g_read_rows := PySem.W.mg_of X G a_read_rows, k_read_rows := k_read_rows, F_RowReader_init := F_RowReader_init, B_RowReader_init := B_RowReader_init, F_RowReader_step := F_RowReader_step, B_RowReader_step := B_RowReader_step, m_RowReader_step := ⟨a_RowReader_step, i_RowReader_step, k_RowReader_step⟩, F_RowReader_p_pocket_row := F_RowReader_p_pocket_row, B_RowReader_p_pocket_row := B_RowReader_p_pocket_row, m_RowReader_p_pocket_row := ⟨a_RowReader_p_pocket_row, i_RowReader_p_pocket_row, k_RowReader_p_pocket_row⟩, F_RowReader_p_use := F_RowReader_p_use, B_RowReader_p_use := B_RowReader_p_use, m_RowReader_p_use := ⟨a_RowReader_p_use, i_RowReader_p_use, k_RowReader_p_use⟩, F_RowReader_p_move := F_RowReader_p_move, B_RowReader_p_move := B_RowReader_p_move, m_RowReader_p_move := ⟨a_RowReader_p_move, i_RowReader_p_move, k_RowReader_p_move⟩, F_RowReader_p_jump := F_RowReader_p_jump, B_RowReader_p_jump := B_RowReader_p_jump, m_RowReader_p_jump := ⟨a_RowReader_p_jump, i_RowReader_p_jump, k_RowReader_p_jump⟩, F_RowReader_p_row_number := F_RowReader_p_row_number, B_RowReader_p_row_number := B_RowReader_p_row_number, m_RowReader_p_row_number := ⟨a_RowReader_p_row_number, i_RowReader_p_row_number, k_RowReader_p_row_number⟩, F_RowReader_p_throw := F_RowReader_p_throw, B_RowReader_p_throw := B_RowReader_p_throw, m_RowReader_p_throw := ⟨a_RowReader_p_throw, i_RowReader_p_throw, k_RowReader_p_throw⟩, F_RowReader_p_laden := F_RowReader_p_laden, B_RowReader_p_laden := B_RowReader_p_laden, m_RowReader_p_laden := ⟨a_RowReader_p_laden, i_RowReader_p_laden, k_RowReader_p_laden⟩, F_RowReader_p_done := F_RowReader_p_done, B_RowReader_p_done := B_RowReader_p_done, m_RowReader_p_done := ⟨a_RowReader_p_done, i_RowReader_p_done, k_RowReader_p_done⟩, F_RowReader_p_end := F_RowReader_p_end, B_RowReader_p_end := B_RowReader_p_end, m_RowReader_p_end := ⟨a_RowReader_p_end, i_RowReader_p_end, k_RowReader_p_end⟩, F_RowReader_p_call := F_RowReader_p_call, B_RowReader_p_call := B_RowReader_p_call, m_RowReader_p_call := ⟨a_RowReader_p_call, i_RowReader_p_call, k_RowReader_p_call⟩, F_RowReader_p_called := F_RowReader_p_called, B_RowReader_p_called := B_RowReader_p_called, m_RowReader_p_called := ⟨a_RowReader_p_called, i_RowReader_p_called, k_RowReader_p_called⟩, F_RowReader_p_handed := F_RowReader_p_handed, B_RowReader_p_handed := B_RowReader_p_handed, m_RowReader_p_handed := ⟨a_RowReader_p_handed, i_RowReader_p_handed, k_RowReader_p_handed⟩, F_RowReader_p_to := F_RowReader_p_to, B_RowReader_p_to := B_RowReader_p_to, m_RowReader_p_to := ⟨a_RowReader_p_to, i_RowReader_p_to, k_RowReader_p_to⟩, F_RowReader_p_catches := F_RowReader_p_catches, B_RowReader_p_catches := B_RowReader_p_catches, m_RowReader_p_catches := ⟨a_RowReader_p_catches, i_RowReader_p_catches, k_RowReader_p_catches⟩, F_Body_init := F_Body_init, B_Body_init := B_Body_init, F_Side_init := F_Side_init, B_Side_init := B_Side_init, F_Side_pacts := F_Side_pacts, B_Side_pacts := B_Side_pacts, m_Side_pacts := ⟨a_Side_pacts, i_Side_pacts, k_Side_pacts⟩, F_Side_number := F_Side_number, B_Side_number := B_Side_number, m_Side_number := ⟨a_Side_number, i_Side_number, k_Side_number⟩, F_Side_body := F_Side_body, B_Side_body := B_Side_body, m_Side_body := ⟨a_Side_body, i_Side_body, k_Side_body⟩, F_Side_rows := F_Side_rows, B_Side_rows := B_Side_rows, m_Side_rows := ⟨a_Side_rows, i_Side_rows, k_Side_rows⟩, F_Side_place := F_Side_place, B_Side_place := B_Side_place, m_Side_place := ⟨a_Side_place, i_Side_place, k_Side_place⟩, F_Side_parsed := F_Side_parsed, B_Side_parsed := B_Side_parsed, m_Side_parsed := ⟨a_Side_parsed, i_Side_parsed, k_Side_parsed⟩, F_Pacts_init := F_Pacts_init, B_Pacts_init := B_Pacts_init, F_Pacts_names := F_Pacts_names, B_Pacts_names := B_Pacts_names, m_Pacts_names := ⟨a_Pacts_names, i_Pacts_names, k_Pacts_names⟩, F_Pacts_pact := F_Pacts_pact, B_Pacts_pact := B_Pacts_pact, m_Pacts_pact := ⟨a_Pacts_pact, i_Pacts_pact, k_Pacts_pact⟩, F_Pacts_laden := F_Pacts_laden, m_Pacts_laden := ⟨a_Pacts_laden, i_Pacts_laden, k_Pacts_laden⟩, F_Pacts_over := F_Pacts_over, m_Pacts_over := ⟨a_Pacts_over, i_Pacts_over, k_Pacts_over⟩, F_Pacts_p_pair := F_Pacts_p_pair, B_Pacts_p_pair := B_Pacts_p_pair, m_Pacts_p_pair := ⟨a_Pacts_p_pair, i_Pacts_p_pair, k_Pacts_p_pair⟩, F_Pacts_errors := F_Pacts_errors, m_Pacts_errors := ⟨a_Pacts_errors, i_Pacts_errors, k_Pacts_errors⟩, F_Pacts_eq := F_Pacts_eq, B_Pacts_eq := B_Pacts_eq, m_Pacts_eq := ⟨a_Pacts_eq, i_Pacts_eq, k_Pacts_eq⟩, F_p_is_pair := F_p_is_pair, B_p_is_pair := B_p_is_pair, g_p_is_pair := PySem.W.mg_of X G a_p_is_pair, k_p_is_pair := k_p_is_pair, F_p_fits_pairs := F_p_fits_pairs, B_p_fits_pairs := B_p_fits_pairs, g_p_fits_pairs := PySem.W.mg_of X G a_p_fits_pairs, k_p_fits_pairs := k_p_fits_pairs, F_p_is_pact := F_p_is_pact, B_p_is_pact := B_p_is_pact, g_p_is_pact := PySem.W.mg_of X G a_p_is_pact, k_p_is_pact := k_p_is_pact, F_p_are_takes := F_p_are_takes, B_p_are_takes := B_p_are_takes, g_p_are_takes := PySem.W.mg_of X G a_p_are_takes, k_p_are_takes := k_p_are_takes, F_p_are_throws := F_p_are_throws, B_p_are_throws := B_p_are_throws, g_p_are_throws := PySem.W.mg_of X G a_p_are_throws, k_p_are_throws := k_p_are_throws, F_p_fits_helpers := F_p_fits_helpers, B_p_fits_helpers := B_p_fits_helpers, g_p_fits_helpers := PySem.W.mg_of X G a_p_fits_helpers, k_p_fits_helpers := k_p_fits_helpers, F_box := F_box, B_box := B_box, g_box := PySem.W.mg_of X G a_box, k_box := k_box, F_mixed := F_mixed, B_mixed := B_mixed, g_mixed := PySem.W.mg_of X G a_mixed, k_mixed := k_mixed, F_take := F_take, B_take := B_take, g_take := PySem.W.mg_of X G a_take, k_take := k_take, F_unlike := F_unlike, B_unlike := B_unlike, g_unlike := PySem.W.mg_of X G a_unlike, k_unlike := k_unlike, F_names := F_names, B_names := B_names, g_names := PySem.W.mg_of X G a_names, k_names := k_names, F_any_deal := F_any_deal, B_any_deal := B_any_deal, g_any_deal := PySem.W.mg_of X G a_any_deal, k_any_deal := k_any_deal, F_pact := F_pact, B_pact := B_pact, g_pact := PySem.W.mg_of X G a_pact, k_pact := k_pact, F_laden := F_laden, B_laden := B_laden, g_laden := PySem.W.mg_of X G a_laden, k_laden := k_laden, F_errors := F_errors, B_errors := B_errors, g_errors := PySem.W.mg_of X G a_errors, k_errors := k_errors, F_of_team := F_of_team, B_of_team := B_of_team, g_of_team := PySem.W.mg_of X G a_of_team, k_of_team := k_of_team, F_any_call := F_any_call, B_any_call := B_any_call, g_any_call := PySem.W.mg_of X G a_any_call, k_any_call := k_any_call, F_any_end := F_any_end, B_any_end := B_any_end, g_any_end := PySem.W.mg_of X G a_any_end, k_any_end := k_any_end, F_any_row := F_any_row, B_any_row := B_any_row, g_any_row := PySem.W.mg_of X G a_any_row, k_any_row := k_any_row, F_any_rows := F_any_rows, B_any_rows := B_any_rows, g_any_rows := PySem.W.mg_of X G a_any_rows, k_any_rows := k_any_rows, F_sided := F_sided, B_sided := B_sided, g_sided := PySem.W.mg_of X G a_sided, k_sided := k_sided, F_no_row := F_no_row, B_no_row := B_no_row, g_no_row := PySem.W.mg_of X G a_no_row, k_no_row := k_no_row, F_told := F_told, B_told := B_told, g_told := PySem.W.mg_of X G a_told, k_told := k_told, F_law := F_law, B_law := B_law, g_law := PySem.W.mg_of X G a_law, k_law := k_law, KN_Pacts_laden_2 := KN_Pacts_laden_2, KN_Pacts_over_2 := KN_Pacts_over_2, KN_Pacts_errors_2 := KN_Pacts_errors_2, v_LONGEST_NAME := PySem.W.mg_of X G v_LONGEST_NAME, v_MOST_PAIRS := PySem.W.mg_of X G v_MOST_PAIRS, v_MOST_HELPERS := PySem.W.mg_of X G v_MOST_HELPERS, v_MOST_TAKES := PySem.W.mg_of X G v_MOST_TAKES, v_MOST_THROWS := PySem.W.mg_of X G v_MOST_THROWS, v_TAKES := PySem.W.mg_of X G v_TAKES, v_PLACES := PySem.W.mg_of X G v_PLACES, v_SHELF := PySem.W.mg_of X G v_SHELF, v_POCKET_ROWS := PySem.W.mg_of X G v_POCKET_ROWS, v_MOST_ROWS := PySem.W.mg_of X G v_MOST_ROWS, kt_TAKES := ⟨_, lk_TAKES, rfl, rfl⟩, q_TAKES := fun H => .inr ⟨_, _, _, lk_TAKES, rfl, rfl, by show 2 ≤ sizeLine; decide, (.cons ⟨_, rfl⟩ (.cons ⟨_, rfl⟩ .nil))⟩, kt_PLACES := ⟨_, lk_PLACES, rfl, rfl⟩, q_PLACES := fun H => .inr ⟨_, _, _, lk_PLACES, rfl, rfl, by show 6 ≤ sizeLine; decide, (.cons ⟨_, rfl⟩ (.cons ⟨_, rfl⟩ (.cons ⟨_, rfl⟩ (.cons ⟨_, rfl⟩ (.cons ⟨_, rfl⟩ (.cons ⟨_, rfl⟩ .nil))))))⟩, kt_POCKET_ROWS := ⟨_, lk_POCKET_ROWS, rfl, rfl⟩, q_POCKET_ROWS := fun H => .inr ⟨_, _, _, lk_POCKET_ROWS, rfl, rfl, by show 6 ≤ sizeLine; decide, (.cons ⟨_, rfl⟩ (.cons ⟨_, rfl⟩ (.cons ⟨_, rfl⟩ (.cons ⟨_, rfl⟩ (.cons ⟨_, rfl⟩ (.cons ⟨_, rfl⟩ .nil))))))⟩, z_ValueError := PySem.W.mg_none_of X G z_ValueError, z_isinstance := PySem.W.mg_none_of X G z_isinstance, z_int := PySem.W.mg_none_of X G z_int, z_bool := PySem.W.mg_none_of X G z_bool, z_tuple := PySem.W.mg_none_of X G z_tuple, z_list := PySem.W.mg_none_of X G z_list, z_str := PySem.W.mg_none_of X G z_str, z_dict := PySem.W.mg_none_of X G z_dict, z_len := PySem.W.mg_none_of X G z_len, z_all := PySem.W.mg_none_of X G z_all, z_range := PySem.W.mg_none_of X G z_range, z_zip := PySem.W.mg_none_of X G z_zip, z_min := PySem.W.mg_none_of X G z_min, z_max := PySem.W.mg_none_of X G z_max, z_enumerate := PySem.W.mg_none_of X G z_enumerate, z_sorted := PySem.W.mg_none_of X G z_sorted }
  exact ⟨_, fun s v => .of_eq rfl, fun base _ _ => (ok_law T).mono (by decide)⟩
theorem walk {l : PySem.W.OpenLaw} {q : Program} {loose : List Str} {XP : (Str → Option Value) → Heap → Prop} {YP : World → Heap → Prop} {d : DefRec} {K : Params → PySem.W.Frag} (hn : l.most = some 63) (hdf : d.params.defaults = [])
    (hY : ∀ (w : World) (h : Heap), YP w h → (K w.params).In h)
    (F : ∀ (w : World) (mg : Str → Option Value) (fa : Addr) (h : Heap), (K w.params).In h → h.Ns mainGlobals mg → mg d.name = some (.ref fa) →
      ∃ fd : FuncData, (∀ (s : Shared) (u : Value), BindsTo s fd ⟨[u], []⟩ [("_law_script", u)]) ∧ ∀ base : Heap, (K w.params).In base → base.Ns mainGlobals mg → FnOk l.prog w (K w.params) mg base CX0 20 fa fd ["_law_script"] (spLaw (K w.params))) :
    PySem.W.WalkO q loose XP YP l.row.toRowW d [] (fun f vs => PySem.call f vs) := L2.walk_of (n := 63) (k := 20) (x := "_law_script") (CX := fun _ => CX0) (sp := fun w => spLaw (K w.params)) hn (by decide) hdf ⟨rfl, by decide, by decide⟩ hY F (fun _ _ a ns hl _ hS => ⟨a, ns, rfl, hS, hl, fun _ => rfl⟩) fun _ _ _ _ _ z => z
end Lw
def _root_.PySem.W.Fast.tw10734257116583259556 : Unit := ()
def _root_.PySem.W.Fast.tw2053959978604104985 : Unit := ()
def _root_.PySem.W.Fast.tw8625644700195124538 : Unit := ()
def _root_.PySem.W.Fast.tw4500696057181306593 : Unit := ()
def _root_.PySem.W.Fast.tw9706253850064933970 : Unit := ()
def _root_.PySem.W.Fast.tw16891236460909594874 : Unit := ()
def _root_.PySem.W.Fast.tw6258353431282638902 : Unit := ()
def _root_.PySem.W.Fast.tw16448767351452183677 : Unit := ()
def _root_.PySem.W.Fast.tw550457274122340492 : Unit := ()
def _root_.PySem.W.Fast.tw7382478758225099164 : Unit := ()
def _root_.PySem.W.Fast.tw7605378138547297674 : Unit := ()
def _root_.PySem.W.Fast.tw2086166766805312302 : Unit := ()
open PySem PySem.W PyProof.Rows
set_option maxRecDepth 100000 in
set_option maxHeartbeats 0 in
theorem PySem.Challenge.cw_pactford_k09_rows_read_holds : PySem.Challenge.rw_pactford_k09_rows_read.Holds := by
  w_on; o_law; k_head; (case hw => w_witness2)
  k_fill
  refine Lw.walk (l := PySem.Challenge.rw_pactford_k09_rows_read) rfl rfl (fun w h Y => PySem.W.kIn_of Y) ?F
  case F =>
    intro w mg fa h KX G hmg
    refine' Lw.all_mk KX G hmg ?a_Pacts ?pg_Pacts ?hd_Pacts ?po_Pacts ?sa_Pacts ?mk_Pacts ?kc_Pacts ?n_Pacts__pairs ?n_Pacts__helpers ?a_RowReader ?pg_RowReader ?hd_RowReader ?po_RowReader ?sa_RowReader ?mk_RowReader ?kc_RowReader ?n_RowReader__pacts ?n_RowReader__pact ?n_RowReader__many ?a_Body ?pg_Body ?hd_Body ?po_Body ?sa_Body ?mk_Body ?kc_Body ?n_Body_text ?n_Body_many ?n_Body_statements ?n_Body_texts ?n_Body_numbers ?n_Body_steps ?a_Side ?pg_Side ?hd_Side ?po_Side ?sa_Side ?mk_Side ?kc_Side ?n_Side__pacts ?n_Side__number ?n_Side__bodies ?n_Side__parsed ?a_NoHelper ?xl_NoHelper ?xm_NoHelper ?xs_NoHelper ?xe_NoHelper ?xy_NoHelper ?xk_NoHelper ?xg_NoHelper ?xo_NoHelper ?xd_NoHelper ?n_NoHelper_name ?a_NoBody ?xl_NoBody ?xm_NoBody ?xs_NoBody ?xe_NoBody ?xy_NoBody ?xk_NoBody ?xg_NoBody ?xo_NoBody ?xd_NoBody ?n_NoBody_name ?n_NoBody_at ?a_NoWord ?xl_NoWord ?xm_NoWord ?xs_NoWord ?xe_NoWord ?xy_NoWord ?xk_NoWord ?xg_NoWord ?xo_NoWord ?xd_NoWord ?n_NoWord_word ?a_NoRow ?xl_NoRow ?xm_NoRow ?xs_NoRow ?xe_NoRow ?xy_NoRow ?xk_NoRow ?xg_NoRow ?xo_NoRow ?xd_NoRow ?n_NoRow_at ?a_PactError ?da_PactError ?dr_PactError ?df_PactError ?v_LONGEST_NAME ?v_MOST_PAIRS ?v_MOST_HELPERS ?v_MOST_TAKES ?v_MOST_THROWS ?v_TAKES ?lk_TAKES ?v_PLACES ?lk_PLACES ?v_SHELF ?v_POCKET_ROWS ?lk_POCKET_ROWS ?v_MOST_ROWS ?fe_BB ?fe_HB ?fe_HH ?fe_WW ?fe_RR ?fg ?ft ?pn_1 ?pn_2 ?pn_3 ?pn_4 ?pn_5 ?pn_6 ?pn_7 ?pn_8 ?pn_9 ?pn_10 ?pn_11 ?pn_12 ?a_NoHelper_init ?i_NoHelper_init ?l_NoHelper_init ?q_NoHelper_init ?k_NoHelper_init ?a_NoWord_init ?i_NoWord_init ?l_NoWord_init ?q_NoWord_init ?k_NoWord_init ?a_NoBody_init ?i_NoBody_init ?l_NoBody_init ?q_NoBody_init ?k_NoBody_init ?a_NoRow_init ?i_NoRow_init ?l_NoRow_init ?q_NoRow_init ?k_NoRow_init ?a_is_whole ?l_is_whole ?q_is_whole ?k_is_whole ?a_is_side ?l_is_side ?q_is_side ?k_is_side ?a_is_name ?l_is_name ?q_is_name ?k_is_name ?a_place_of ?l_place_of ?q_place_of ?k_place_of ?a_pocket_of ?l_pocket_of ?q_pocket_of ?k_pocket_of ?a_read_rows ?l_read_rows ?q_read_rows ?k_read_rows ?a_RowReader_init ?i_RowReader_init ?l_RowReader_init ?q_RowReader_init ?k_RowReader_init ?a_RowReader_step ?i_RowReader_step ?l_RowReader_step ?q_RowReader_step ?k_RowReader_step ?a_RowReader_p_pocket_row ?i_RowReader_p_pocket_row ?l_RowReader_p_pocket_row ?q_RowReader_p_pocket_row ?k_RowReader_p_pocket_row ?a_RowReader_p_use ?i_RowReader_p_use ?l_RowReader_p_use ?q_RowReader_p_use ?k_RowReader_p_use ?a_RowReader_p_move ?i_RowReader_p_move ?l_RowReader_p_move ?q_RowReader_p_move ?k_RowReader_p_move ?a_RowReader_p_jump ?i_RowReader_p_jump ?l_RowReader_p_jump ?q_RowReader_p_jump ?k_RowReader_p_jump ?a_RowReader_p_row_number ?i_RowReader_p_row_number ?l_RowReader_p_row_number ?q_RowReader_p_row_number ?k_RowReader_p_row_number ?a_RowReader_p_throw ?i_RowReader_p_throw ?l_RowReader_p_throw ?q_RowReader_p_throw ?k_RowReader_p_throw ?a_RowReader_p_laden ?i_RowReader_p_laden ?l_RowReader_p_laden ?q_RowReader_p_laden ?k_RowReader_p_laden ?a_RowReader_p_done ?i_RowReader_p_done ?l_RowReader_p_done ?q_RowReader_p_done ?k_RowReader_p_done ?a_RowReader_p_end ?i_RowReader_p_end ?l_RowReader_p_end ?q_RowReader_p_end ?k_RowReader_p_end ?a_RowReader_p_call ?i_RowReader_p_call ?l_RowReader_p_call ?q_RowReader_p_call ?k_RowReader_p_call ?a_RowReader_p_called ?i_RowReader_p_called ?l_RowReader_p_called ?q_RowReader_p_called ?k_RowReader_p_called ?a_RowReader_p_handed ?i_RowReader_p_handed ?l_RowReader_p_handed ?q_RowReader_p_handed ?k_RowReader_p_handed ?a_RowReader_p_to ?i_RowReader_p_to ?l_RowReader_p_to ?q_RowReader_p_to ?k_RowReader_p_to ?a_RowReader_p_catches ?i_RowReader_p_catches ?l_RowReader_p_catches ?q_RowReader_p_catches ?k_RowReader_p_catches ?a_Body_init ?i_Body_init ?l_Body_init ?q_Body_init ?k_Body_init ?a_Side_init ?i_Side_init ?l_Side_init ?q_Side_init ?k_Side_init ?a_Side_pacts ?i_Side_pacts ?l_Side_pacts ?q_Side_pacts ?k_Side_pacts ?a_Side_number ?i_Side_number ?l_Side_number ?q_Side_number ?k_Side_number ?a_Side_body ?i_Side_body ?l_Side_body ?q_Side_body ?k_Side_body ?a_Side_rows ?i_Side_rows ?l_Side_rows ?q_Side_rows ?k_Side_rows ?a_Side_place ?i_Side_place ?l_Side_place ?q_Side_place ?k_Side_place ?a_Side_parsed ?i_Side_parsed ?l_Side_parsed ?q_Side_parsed ?k_Side_parsed ?a_Pacts_init ?i_Pacts_init ?l_Pacts_init ?q_Pacts_init ?k_Pacts_init ?a_Pacts_names ?i_Pacts_names ?l_Pacts_names ?q_Pacts_names ?k_Pacts_names ?a_Pacts_pact ?i_Pacts_pact ?l_Pacts_pact ?q_Pacts_pact ?k_Pacts_pact ?a_Pacts_laden ?i_Pacts_laden ?l_Pacts_laden ?q_Pacts_laden ?k_Pacts_laden ?a_Pacts_over ?i_Pacts_over ?l_Pacts_over ?q_Pacts_over ?k_Pacts_over ?a_Pacts_p_pair ?i_Pacts_p_pair ?l_Pacts_p_pair ?q_Pacts_p_pair ?k_Pacts_p_pair ?a_Pacts_errors ?i_Pacts_errors ?l_Pacts_errors ?q_Pacts_errors ?k_Pacts_errors ?a_Pacts_eq ?i_Pacts_eq ?l_Pacts_eq ?q_Pacts_eq ?k_Pacts_eq ?a_p_is_pair ?l_p_is_pair ?q_p_is_pair ?k_p_is_pair ?a_p_fits_pairs ?l_p_fits_pairs ?q_p_fits_pairs ?k_p_fits_pairs ?a_p_is_pact ?l_p_is_pact ?q_p_is_pact ?k_p_is_pact ?a_p_are_takes ?l_p_are_takes ?q_p_are_takes ?k_p_are_takes ?a_p_are_throws ?l_p_are_throws ?q_p_are_throws ?k_p_are_throws ?a_p_fits_helpers ?l_p_fits_helpers ?q_p_fits_helpers ?k_p_fits_helpers ?a_box ?l_box ?q_box ?k_box ?a_mixed ?l_mixed ?q_mixed ?k_mixed ?a_take ?l_take ?q_take ?k_take ?a_unlike ?l_unlike ?q_unlike ?k_unlike ?a_names ?l_names ?q_names ?k_names ?a_any_deal ?l_any_deal ?q_any_deal ?k_any_deal ?a_pact ?l_pact ?q_pact ?k_pact ?a_laden ?l_laden ?q_laden ?k_laden ?a_errors ?l_errors ?q_errors ?k_errors ?a_of_team ?l_of_team ?q_of_team ?k_of_team ?a_any_call ?l_any_call ?q_any_call ?k_any_call ?a_any_end ?l_any_end ?q_any_end ?k_any_end ?a_any_row ?l_any_row ?q_any_row ?k_any_row ?a_any_rows ?l_any_rows ?q_any_rows ?k_any_rows ?a_sided ?l_sided ?q_sided ?k_sided ?a_no_row ?l_no_row ?q_no_row ?k_no_row ?a_told ?l_told ?q_told ?k_told ?a_law ?l_law ?q_law ?k_law ?z_ValueError ?z_isinstance ?z_int ?z_bool ?z_tuple ?z_list ?z_str ?z_dict ?z_len ?z_all ?z_range ?z_zip ?z_min ?z_max ?z_enumerate ?z_sorted
    (case a_Pacts => first | k_is | kit_is | rfl | decide +kernel | kernel_rfl | (and_intros <;> first | k_is | kit_is | rfl | decide +kernel | kernel_rfl))
    (case pg_Pacts => first | k_is | kit_is | rfl | decide +kernel | kernel_rfl | (and_intros <;> first | k_is | kit_is | rfl | decide +kernel | kernel_rfl))
    (case hd_Pacts => first | k_is | kit_is | rfl | decide +kernel | kernel_rfl | (and_intros <;> first | k_is | kit_is | rfl | decide +kernel | kernel_rfl))
    (case po_Pacts => first | k_is | kit_is | rfl | decide +kernel | kernel_rfl | (and_intros <;> first | k_is | kit_is | rfl | decide +kernel | kernel_rfl))
    (case sa_Pacts => first | k_is | kit_is | rfl | decide +kernel | kernel_rfl | (and_intros <;> first | k_is | kit_is | rfl | decide +kernel | kernel_rfl))
    (case mk_Pacts => first | k_is | kit_is | rfl | decide +kernel | kernel_rfl | (and_intros <;> first | k_is | kit_is | rfl | decide +kernel | kernel_rfl))
    (case kc_Pacts => first | k_is | kit_is | rfl | decide +kernel | kernel_rfl | (and_intros <;> first | k_is | kit_is | rfl | decide +kernel | kernel_rfl))
    (case n_Pacts__pairs => first | k_is | kit_is | rfl | decide +kernel | kernel_rfl | (and_intros <;> first | k_is | kit_is | rfl | decide +kernel | kernel_rfl))
    (case n_Pacts__helpers => first | k_is | kit_is | rfl | decide +kernel | kernel_rfl | (and_intros <;> first | k_is | kit_is | rfl | decide +kernel | kernel_rfl))
    (case a_RowReader => first | k_is | kit_is | rfl | decide +kernel | kernel_rfl | (and_intros <;> first | k_is | kit_is | rfl | decide +kernel | kernel_rfl))
    (case pg_RowReader => first | k_is | kit_is | rfl | decide +kernel | kernel_rfl | (and_intros <;> first | k_is | kit_is | rfl | decide +kernel | kernel_rfl))
    (case hd_RowReader => first | k_is | kit_is | rfl | decide +kernel | kernel_rfl | (and_intros <;> first | k_is | kit_is | rfl | decide +kernel | kernel_rfl))
    (case po_RowReader => first | k_is | kit_is | rfl | decide +kernel | kernel_rfl | (and_intros <;> first | k_is | kit_is | rfl | decide +kernel | kernel_rfl))
    (case sa_RowReader => first | k_is | kit_is | rfl | decide +kernel | kernel_rfl | (and_intros <;> first | k_is | kit_is | rfl | decide +kernel | kernel_rfl))
    (case mk_RowReader => first | k_is | kit_is | rfl | decide +kernel | kernel_rfl | (and_intros <;> first | k_is | kit_is | rfl | decide +kernel | kernel_rfl))
    (case kc_RowReader => first | k_is | kit_is | rfl | decide +kernel | kernel_rfl | (and_intros <;> first | k_is | kit_is | rfl | decide +kernel | kernel_rfl))
    (case n_RowReader__pacts => first | k_is | kit_is | rfl | decide +kernel | kernel_rfl | (and_intros <;> first | k_is | kit_is | rfl | decide +kernel | kernel_rfl))
    (case n_RowReader__pact => first | k_is | kit_is | rfl | decide +kernel | kernel_rfl | (and_intros <;> first | k_is | kit_is | rfl | decide +kernel | kernel_rfl))
    (case n_RowReader__many => first | k_is | kit_is | rfl | decide +kernel | kernel_rfl | (and_intros <;> first | k_is | kit_is | rfl | decide +kernel | kernel_rfl))
    (case a_Body => first | k_is | kit_is | rfl | decide +kernel | kernel_rfl | (and_intros <;> first | k_is | kit_is | rfl | decide +kernel | kernel_rfl))
    (case pg_Body => first | k_is | kit_is | rfl | decide +kernel | kernel_rfl | (and_intros <;> first | k_is | kit_is | rfl | decide +kernel | kernel_rfl))
    (case hd_Body => first | k_is | kit_is | rfl | decide +kernel | kernel_rfl | (and_intros <;> first | k_is | kit_is | rfl | decide +kernel | kernel_rfl))
    (case po_Body => first | k_is | kit_is | rfl | decide +kernel | kernel_rfl | (and_intros <;> first | k_is | kit_is | rfl | decide +kernel | kernel_rfl))
    (case sa_Body => first | k_is | kit_is | rfl | decide +kernel | kernel_rfl | (and_intros <;> first | k_is | kit_is | rfl | decide +kernel | kernel_rfl))
    (case mk_Body => first | k_is | kit_is | rfl | decide +kernel | kernel_rfl | (and_intros <;> first | k_is | kit_is | rfl | decide +kernel | kernel_rfl))
    (case kc_Body => first | k_is | kit_is | rfl | decide +kernel | kernel_rfl | (and_intros <;> first | k_is | kit_is | rfl | decide +kernel | kernel_rfl))
    (case n_Body_text => first | k_is | kit_is | rfl | decide +kernel | kernel_rfl | (and_intros <;> first | k_is | kit_is | rfl | decide +kernel | kernel_rfl))
    (case n_Body_many => first | k_is | kit_is | rfl | decide +kernel | kernel_rfl | (and_intros <;> first | k_is | kit_is | rfl | decide +kernel | kernel_rfl))
    (case n_Body_statements => first | k_is | kit_is | rfl | decide +kernel | kernel_rfl | (and_intros <;> first | k_is | kit_is | rfl | decide +kernel | kernel_rfl))
    (case n_Body_texts => first | k_is | kit_is | rfl | decide +kernel | kernel_rfl | (and_intros <;> first | k_is | kit_is | rfl | decide +kernel | kernel_rfl))
    (case n_Body_numbers => first | k_is | kit_is | rfl | decide +kernel | kernel_rfl | (and_intros <;> first | k_is | kit_is | rfl | decide +kernel | kernel_rfl))
    (case n_Body_steps => first | k_is | kit_is | rfl | decide +kernel | kernel_rfl | (and_intros <;> first | k_is | kit_is | rfl | decide +kernel | kernel_rfl))
    (case a_Side => first | k_is | kit_is | rfl | decide +kernel | kernel_rfl | (and_intros <;> first | k_is | kit_is | rfl | decide +kernel | kernel_rfl))
    (case pg_Side => first | k_is | kit_is | rfl | decide +kernel | kernel_rfl | (and_intros <;> first | k_is | kit_is | rfl | decide +kernel | kernel_rfl))
    (case hd_Side => first | k_is | kit_is | rfl | decide +kernel | kernel_rfl | (and_intros <;> first | k_is | kit_is | rfl | decide +kernel | kernel_rfl))
    (case po_Side => first | k_is | kit_is | rfl | decide +kernel | kernel_rfl | (and_intros <;> first | k_is | kit_is | rfl | decide +kernel | kernel_rfl))
    (case sa_Side => first | k_is | kit_is | rfl | decide +kernel | kernel_rfl | (and_intros <;> first | k_is | kit_is | rfl | decide +kernel | kernel_rfl))
    (case mk_Side => first | k_is | kit_is | rfl | decide +kernel | kernel_rfl | (and_intros <;> first | k_is | kit_is | rfl | decide +kernel | kernel_rfl))
    (case kc_Side => first | k_is | kit_is | rfl | decide +kernel | kernel_rfl | (and_intros <;> first | k_is | kit_is | rfl | decide +kernel | kernel_rfl))
    (case n_Side__pacts => first | k_is | kit_is | rfl | decide +kernel | kernel_rfl | (and_intros <;> first | k_is | kit_is | rfl | decide +kernel | kernel_rfl))
    (case n_Side__number => first | k_is | kit_is | rfl | decide +kernel | kernel_rfl | (and_intros <;> first | k_is | kit_is | rfl | decide +kernel | kernel_rfl))
    (case n_Side__bodies => first | k_is | kit_is | rfl | decide +kernel | kernel_rfl | (and_intros <;> first | k_is | kit_is | rfl | decide +kernel | kernel_rfl))
    (case n_Side__parsed => first | k_is | kit_is | rfl | decide +kernel | kernel_rfl | (and_intros <;> first | k_is | kit_is | rfl | decide +kernel | kernel_rfl))
    (case a_NoHelper => first | k_is | kit_is | rfl | decide +kernel | kernel_rfl | (and_intros <;> first | k_is | kit_is | rfl | decide +kernel | kernel_rfl))
    (case xl_NoHelper => first | k_is | kit_is | rfl | decide +kernel | kernel_rfl | (and_intros <;> first | k_is | kit_is | rfl | decide +kernel | kernel_rfl))
    (case xm_NoHelper => first | k_is | kit_is | rfl | decide +kernel | kernel_rfl | (and_intros <;> first | k_is | kit_is | rfl | decide +kernel | kernel_rfl))
    (case xs_NoHelper => first | k_is | kit_is | rfl | decide +kernel | kernel_rfl | (and_intros <;> first | k_is | kit_is | rfl | decide +kernel | kernel_rfl))
    (case xe_NoHelper => first | k_is | kit_is | rfl | decide +kernel | kernel_rfl | (and_intros <;> first | k_is | kit_is | rfl | decide +kernel | kernel_rfl))
    (case xy_NoHelper => first | k_is | kit_is | rfl | decide +kernel | kernel_rfl | (and_intros <;> first | k_is | kit_is | rfl | decide +kernel | kernel_rfl))
    (case xk_NoHelper => first | k_is | kit_is | rfl | decide +kernel | kernel_rfl | (and_intros <;> first | k_is | kit_is | rfl | decide +kernel | kernel_rfl))
    (case xg_NoHelper => first | k_is | kit_is | rfl | decide +kernel | kernel_rfl | (and_intros <;> first | k_is | kit_is | rfl | decide +kernel | kernel_rfl))
    (case xo_NoHelper => first | k_is | kit_is | rfl | decide +kernel | kernel_rfl | (and_intros <;> first | k_is | kit_is | rfl | decide +kernel | kernel_rfl))
    (case xd_NoHelper => first | k_is | kit_is | rfl | decide +kernel | kernel_rfl | (and_intros <;> first | k_is | kit_is | rfl | decide +kernel | kernel_rfl))
    (case n_NoHelper_name => first | k_is | kit_is | rfl | decide +kernel | kernel_rfl | (and_intros <;> first | k_is | kit_is | rfl | decide +kernel | kernel_rfl))
    (case a_NoBody => first | k_is | kit_is | rfl | decide +kernel | kernel_rfl | (and_intros <;> first | k_is | kit_is | rfl | decide +kernel | kernel_rfl))
    (case xl_NoBody => first | k_is | kit_is | rfl | decide +kernel | kernel_rfl | (and_intros <;> first | k_is | kit_is | rfl | decide +kernel | kernel_rfl))
    (case xm_NoBody => first | k_is | kit_is | rfl | decide +kernel | kernel_rfl | (and_intros <;> first | k_is | kit_is | rfl | decide +kernel | kernel_rfl))
    (case xs_NoBody => first | k_is | kit_is | rfl | decide +kernel | kernel_rfl | (and_intros <;> first | k_is | kit_is | rfl | decide +kernel | kernel_rfl))
    (case xe_NoBody => first | k_is | kit_is | rfl | decide +kernel | kernel_rfl | (and_intros <;> first | k_is | kit_is | rfl | decide +kernel | kernel_rfl))
    (case xy_NoBody => first | k_is | kit_is | rfl | decide +kernel | kernel_rfl | (and_intros <;> first | k_is | kit_is | rfl | decide +kernel | kernel_rfl))
    (case xk_NoBody => first | k_is | kit_is | rfl | decide +kernel | kernel_rfl | (and_intros <;> first | k_is | kit_is | rfl | decide +kernel | kernel_rfl))
    (case xg_NoBody => first | k_is | kit_is | rfl | decide +kernel | kernel_rfl | (and_intros <;> first | k_is | kit_is | rfl | decide +kernel | kernel_rfl))
    (case xo_NoBody => first | k_is | kit_is | rfl | decide +kernel | kernel_rfl | (and_intros <;> first | k_is | kit_is | rfl | decide +kernel | kernel_rfl))
    (case xd_NoBody => first | k_is | kit_is | rfl | decide +kernel | kernel_rfl | (and_intros <;> first | k_is | kit_is | rfl | decide +kernel | kernel_rfl))
    (case n_NoBody_name => first | k_is | kit_is | rfl | decide +kernel | kernel_rfl | (and_intros <;> first | k_is | kit_is | rfl | decide +kernel | kernel_rfl))
    (case n_NoBody_at => first | k_is | kit_is | rfl | decide +kernel | kernel_rfl | (and_intros <;> first | k_is | kit_is | rfl | decide +kernel | kernel_rfl))
    (case a_NoWord => first | k_is | kit_is | rfl | decide +kernel | kernel_rfl | (and_intros <;> first | k_is | kit_is | rfl | decide +kernel | kernel_rfl))
    (case xl_NoWord => first | k_is | kit_is | rfl | decide +kernel | kernel_rfl | (and_intros <;> first | k_is | kit_is | rfl | decide +kernel | kernel_rfl))
    (case xm_NoWord => first | k_is | kit_is | rfl | decide +kernel | kernel_rfl | (and_intros <;> first | k_is | kit_is | rfl | decide +kernel | kernel_rfl))
    (case xs_NoWord => first | k_is | kit_is | rfl | decide +kernel | kernel_rfl | (and_intros <;> first | k_is | kit_is | rfl | decide +kernel | kernel_rfl))
    (case xe_NoWord => first | k_is | kit_is | rfl | decide +kernel | kernel_rfl | (and_intros <;> first | k_is | kit_is | rfl | decide +kernel | kernel_rfl))
    (case xy_NoWord => first | k_is | kit_is | rfl | decide +kernel | kernel_rfl | (and_intros <;> first | k_is | kit_is | rfl | decide +kernel | kernel_rfl))
    (case xk_NoWord => first | k_is | kit_is | rfl | decide +kernel | kernel_rfl | (and_intros <;> first | k_is | kit_is | rfl | decide +kernel | kernel_rfl))
    (case xg_NoWord => first | k_is | kit_is | rfl | decide +kernel | kernel_rfl | (and_intros <;> first | k_is | kit_is | rfl | decide +kernel | kernel_rfl))
    (case xo_NoWord => first | k_is | kit_is | rfl | decide +kernel | kernel_rfl | (and_intros <;> first | k_is | kit_is | rfl | decide +kernel | kernel_rfl))
    (case xd_NoWord => first | k_is | kit_is | rfl | decide +kernel | kernel_rfl | (and_intros <;> first | k_is | kit_is | rfl | decide +kernel | kernel_rfl))
    (case n_NoWord_word => first | k_is | kit_is | rfl | decide +kernel | kernel_rfl | (and_intros <;> first | k_is | kit_is | rfl | decide +kernel | kernel_rfl))
    (case a_NoRow => first | k_is | kit_is | rfl | decide +kernel | kernel_rfl | (and_intros <;> first | k_is | kit_is | rfl | decide +kernel | kernel_rfl))
    (case xl_NoRow => first | k_is | kit_is | rfl | decide +kernel | kernel_rfl | (and_intros <;> first | k_is | kit_is | rfl | decide +kernel | kernel_rfl))
    (case xm_NoRow => first | k_is | kit_is | rfl | decide +kernel | kernel_rfl | (and_intros <;> first | k_is | kit_is | rfl | decide +kernel | kernel_rfl))
    (case xs_NoRow => first | k_is | kit_is | rfl | decide +kernel | kernel_rfl | (and_intros <;> first | k_is | kit_is | rfl | decide +kernel | kernel_rfl))
    (case xe_NoRow => first | k_is | kit_is | rfl | decide +kernel | kernel_rfl | (and_intros <;> first | k_is | kit_is | rfl | decide +kernel | kernel_rfl))
    (case xy_NoRow => first | k_is | kit_is | rfl | decide +kernel | kernel_rfl | (and_intros <;> first | k_is | kit_is | rfl | decide +kernel | kernel_rfl))
    (case xk_NoRow => first | k_is | kit_is | rfl | decide +kernel | kernel_rfl | (and_intros <;> first | k_is | kit_is | rfl | decide +kernel | kernel_rfl))
    (case xg_NoRow => first | k_is | kit_is | rfl | decide +kernel | kernel_rfl | (and_intros <;> first | k_is | kit_is | rfl | decide +kernel | kernel_rfl))
    (case xo_NoRow => first | k_is | kit_is | rfl | decide +kernel | kernel_rfl | (and_intros <;> first | k_is | kit_is | rfl | decide +kernel | kernel_rfl))
    (case xd_NoRow => first | k_is | kit_is | rfl | decide +kernel | kernel_rfl | (and_intros <;> first | k_is | kit_is | rfl | decide +kernel | kernel_rfl))
    (case n_NoRow_at => first | k_is | kit_is | rfl | decide +kernel | kernel_rfl | (and_intros <;> first | k_is | kit_is | rfl | decide +kernel | kernel_rfl))
    (case a_PactError => first | k_is | kit_is | rfl | decide +kernel | kernel_rfl | (and_intros <;> first | k_is | kit_is | rfl | decide +kernel | kernel_rfl))
    (case da_PactError => first | k_is | kit_is | rfl | decide +kernel | kernel_rfl | (and_intros <;> first | k_is | kit_is | rfl | decide +kernel | kernel_rfl))
    (case dr_PactError => first | k_is | kit_is | rfl | decide +kernel | kernel_rfl | (and_intros <;> first | k_is | kit_is | rfl | decide +kernel | kernel_rfl))
    (case df_PactError => first | k_is | kit_is | rfl | decide +kernel | kernel_rfl | (and_intros <;> first | k_is | kit_is | rfl | decide +kernel | kernel_rfl))
    (case v_LONGEST_NAME => first | k_is | kit_is | rfl | decide +kernel | kernel_rfl | (and_intros <;> first | k_is | kit_is | rfl | decide +kernel | kernel_rfl))
    (case v_MOST_PAIRS => first | k_is | kit_is | rfl | decide +kernel | kernel_rfl | (and_intros <;> first | k_is | kit_is | rfl | decide +kernel | kernel_rfl))
    (case v_MOST_HELPERS => first | k_is | kit_is | rfl | decide +kernel | kernel_rfl | (and_intros <;> first | k_is | kit_is | rfl | decide +kernel | kernel_rfl))
    (case v_MOST_TAKES => first | k_is | kit_is | rfl | decide +kernel | kernel_rfl | (and_intros <;> first | k_is | kit_is | rfl | decide +kernel | kernel_rfl))
    (case v_MOST_THROWS => first | k_is | kit_is | rfl | decide +kernel | kernel_rfl | (and_intros <;> first | k_is | kit_is | rfl | decide +kernel | kernel_rfl))
    (case v_TAKES => first | k_is | kit_is | rfl | decide +kernel | kernel_rfl | (and_intros <;> first | k_is | kit_is | rfl | decide +kernel | kernel_rfl))
    (case lk_TAKES => first | k_is | kit_is | rfl | decide +kernel | kernel_rfl | (and_intros <;> first | k_is | kit_is | rfl | decide +kernel | kernel_rfl))
    (case v_PLACES => first | k_is | kit_is | rfl | decide +kernel | kernel_rfl | (and_intros <;> first | k_is | kit_is | rfl | decide +kernel | kernel_rfl))
    (case lk_PLACES => first | k_is | kit_is | rfl | decide +kernel | kernel_rfl | (and_intros <;> first | k_is | kit_is | rfl | decide +kernel | kernel_rfl))
    (case v_SHELF => first | k_is | kit_is | rfl | decide +kernel | kernel_rfl | (and_intros <;> first | k_is | kit_is | rfl | decide +kernel | kernel_rfl))
    (case v_POCKET_ROWS => first | k_is | kit_is | rfl | decide +kernel | kernel_rfl | (and_intros <;> first | k_is | kit_is | rfl | decide +kernel | kernel_rfl))
    (case lk_POCKET_ROWS => first | k_is | kit_is | rfl | decide +kernel | kernel_rfl | (and_intros <;> first | k_is | kit_is | rfl | decide +kernel | kernel_rfl))
    (case v_MOST_ROWS => first | k_is | kit_is | rfl | decide +kernel | kernel_rfl | (and_intros <;> first | k_is | kit_is | rfl | decide +kernel | kernel_rfl))
    (case fe_BB => first | k_is | kit_is | rfl | decide +kernel | kernel_rfl | (and_intros <;> first | k_is | kit_is | rfl | decide +kernel | kernel_rfl))
    (case fe_HB => first | k_is | kit_is | rfl | decide +kernel | kernel_rfl | (and_intros <;> first | k_is | kit_is | rfl | decide +kernel | kernel_rfl))
    (case fe_HH => first | k_is | kit_is | rfl | decide +kernel | kernel_rfl | (and_intros <;> first | k_is | kit_is | rfl | decide +kernel | kernel_rfl))
    (case fe_WW => first | k_is | kit_is | rfl | decide +kernel | kernel_rfl | (and_intros <;> first | k_is | kit_is | rfl | decide +kernel | kernel_rfl))
    (case fe_RR => first | k_is | kit_is | rfl | decide +kernel | kernel_rfl | (and_intros <;> first | k_is | kit_is | rfl | decide +kernel | kernel_rfl))
    (case fg => first | k_is | kit_is | rfl | decide +kernel | kernel_rfl | (and_intros <;> first | k_is | kit_is | rfl | decide +kernel | kernel_rfl))
    (case ft => first | k_is | kit_is | rfl | decide +kernel | kernel_rfl | (and_intros <;> first | k_is | kit_is | rfl | decide +kernel | kernel_rfl))
    (case pn_1 => first | k_is | kit_is | rfl | decide +kernel | kernel_rfl | (and_intros <;> first | k_is | kit_is | rfl | decide +kernel | kernel_rfl))
    (case pn_2 => first | k_is | kit_is | rfl | decide +kernel | kernel_rfl | (and_intros <;> first | k_is | kit_is | rfl | decide +kernel | kernel_rfl))
    (case pn_3 => first | k_is | kit_is | rfl | decide +kernel | kernel_rfl | (and_intros <;> first | k_is | kit_is | rfl | decide +kernel | kernel_rfl))
    (case pn_4 => first | k_is | kit_is | rfl | decide +kernel | kernel_rfl | (and_intros <;> first | k_is | kit_is | rfl | decide +kernel | kernel_rfl))
    (case pn_5 => first | k_is | kit_is | rfl | decide +kernel | kernel_rfl | (and_intros <;> first | k_is | kit_is | rfl | decide +kernel | kernel_rfl))
    (case pn_6 => first | k_is | kit_is | rfl | decide +kernel | kernel_rfl | (and_intros <;> first | k_is | kit_is | rfl | decide +kernel | kernel_rfl))
    (case pn_7 => first | k_is | kit_is | rfl | decide +kernel | kernel_rfl | (and_intros <;> first | k_is | kit_is | rfl | decide +kernel | kernel_rfl))
    (case pn_8 => first | k_is | kit_is | rfl | decide +kernel | kernel_rfl | (and_intros <;> first | k_is | kit_is | rfl | decide +kernel | kernel_rfl))
    (case pn_9 => first | k_is | kit_is | rfl | decide +kernel | kernel_rfl | (and_intros <;> first | k_is | kit_is | rfl | decide +kernel | kernel_rfl))
    (case pn_10 => first | k_is | kit_is | rfl | decide +kernel | kernel_rfl | (and_intros <;> first | k_is | kit_is | rfl | decide +kernel | kernel_rfl))
    (case pn_11 => first | k_is | kit_is | rfl | decide +kernel | kernel_rfl | (and_intros <;> first | k_is | kit_is | rfl | decide +kernel | kernel_rfl))
    (case pn_12 => first | k_is | kit_is | rfl | decide +kernel | kernel_rfl | (and_intros <;> first | k_is | kit_is | rfl | decide +kernel | kernel_rfl))
    (case a_NoHelper_init => first | k_is | kit_is | rfl | decide +kernel | kernel_rfl | (and_intros <;> first | k_is | kit_is | rfl | decide +kernel | kernel_rfl))
    (case i_NoHelper_init => first | k_is | kit_is | rfl | decide +kernel | kernel_rfl | (and_intros <;> first | k_is | kit_is | rfl | decide +kernel | kernel_rfl))
    (case l_NoHelper_init => first | k_is | kit_is | rfl | decide +kernel | kernel_rfl | (and_intros <;> first | k_is | kit_is | rfl | decide +kernel | kernel_rfl))
    (case q_NoHelper_init => first | k_is | kit_is | rfl | decide +kernel | kernel_rfl | (and_intros <;> first | k_is | kit_is | rfl | decide +kernel | kernel_rfl))
    (case k_NoHelper_init => first | k_is | kit_is | rfl | decide +kernel | kernel_rfl | (and_intros <;> first | k_is | kit_is | rfl | decide +kernel | kernel_rfl))
    (case a_NoWord_init => first | k_is | kit_is | rfl | decide +kernel | kernel_rfl | (and_intros <;> first | k_is | kit_is | rfl | decide +kernel | kernel_rfl))
    (case i_NoWord_init => first | k_is | kit_is | rfl | decide +kernel | kernel_rfl | (and_intros <;> first | k_is | kit_is | rfl | decide +kernel | kernel_rfl))
    (case l_NoWord_init => first | k_is | kit_is | rfl | decide +kernel | kernel_rfl | (and_intros <;> first | k_is | kit_is | rfl | decide +kernel | kernel_rfl))
    (case q_NoWord_init => first | k_is | kit_is | rfl | decide +kernel | kernel_rfl | (and_intros <;> first | k_is | kit_is | rfl | decide +kernel | kernel_rfl))
    (case k_NoWord_init => first | k_is | kit_is | rfl | decide +kernel | kernel_rfl | (and_intros <;> first | k_is | kit_is | rfl | decide +kernel | kernel_rfl))
    (case a_NoBody_init => first | k_is | kit_is | rfl | decide +kernel | kernel_rfl | (and_intros <;> first | k_is | kit_is | rfl | decide +kernel | kernel_rfl))
    (case i_NoBody_init => first | k_is | kit_is | rfl | decide +kernel | kernel_rfl | (and_intros <;> first | k_is | kit_is | rfl | decide +kernel | kernel_rfl))
    (case l_NoBody_init => first | k_is | kit_is | rfl | decide +kernel | kernel_rfl | (and_intros <;> first | k_is | kit_is | rfl | decide +kernel | kernel_rfl))
    (case q_NoBody_init => first | k_is | kit_is | rfl | decide +kernel | kernel_rfl | (and_intros <;> first | k_is | kit_is | rfl | decide +kernel | kernel_rfl))
    (case k_NoBody_init => first | k_is | kit_is | rfl | decide +kernel | kernel_rfl | (and_intros <;> first | k_is | kit_is | rfl | decide +kernel | kernel_rfl))
    (case a_NoRow_init => first | k_is | kit_is | rfl | decide +kernel | kernel_rfl | (and_intros <;> first | k_is | kit_is | rfl | decide +kernel | kernel_rfl))
    (case i_NoRow_init => first | k_is | kit_is | rfl | decide +kernel | kernel_rfl | (and_intros <;> first | k_is | kit_is | rfl | decide +kernel | kernel_rfl))
    (case l_NoRow_init => first | k_is | kit_is | rfl | decide +kernel | kernel_rfl | (and_intros <;> first | k_is | kit_is | rfl | decide +kernel | kernel_rfl))
    (case q_NoRow_init => first | k_is | kit_is | rfl | decide +kernel | kernel_rfl | (and_intros <;> first | k_is | kit_is | rfl | decide +kernel | kernel_rfl))
    (case k_NoRow_init => first | k_is | kit_is | rfl | decide +kernel | kernel_rfl | (and_intros <;> first | k_is | kit_is | rfl | decide +kernel | kernel_rfl))
    (case a_is_whole => first | k_is | kit_is | rfl | decide +kernel | kernel_rfl | (and_intros <;> first | k_is | kit_is | rfl | decide +kernel | kernel_rfl))
    (case l_is_whole => first | k_is | kit_is | rfl | decide +kernel | kernel_rfl | (and_intros <;> first | k_is | kit_is | rfl | decide +kernel | kernel_rfl))
    (case q_is_whole => first | k_is | kit_is | rfl | decide +kernel | kernel_rfl | (and_intros <;> first | k_is | kit_is | rfl | decide +kernel | kernel_rfl))
    (case k_is_whole => first | k_is | kit_is | rfl | decide +kernel | kernel_rfl | (and_intros <;> first | k_is | kit_is | rfl | decide +kernel | kernel_rfl))
    (case a_is_side => first | k_is | kit_is | rfl | decide +kernel | kernel_rfl | (and_intros <;> first | k_is | kit_is | rfl | decide +kernel | kernel_rfl))
    (case l_is_side => first | k_is | kit_is | rfl | decide +kernel | kernel_rfl | (and_intros <;> first | k_is | kit_is | rfl | decide +kernel | kernel_rfl))
    (case q_is_side => first | k_is | kit_is | rfl | decide +kernel | kernel_rfl | (and_intros <;> first | k_is | kit_is | rfl | decide +kernel | kernel_rfl))
    (case k_is_side => first | k_is | kit_is | rfl | decide +kernel | kernel_rfl | (and_intros <;> first | k_is | kit_is | rfl | decide +kernel | kernel_rfl))
    (case a_is_name => first | k_is | kit_is | rfl | decide +kernel | kernel_rfl | (and_intros <;> first | k_is | kit_is | rfl | decide +kernel | kernel_rfl))
    (case l_is_name => first | k_is | kit_is | rfl | decide +kernel | kernel_rfl | (and_intros <;> first | k_is | kit_is | rfl | decide +kernel | kernel_rfl))
    (case q_is_name => first | k_is | kit_is | rfl | decide +kernel | kernel_rfl | (and_intros <;> first | k_is | kit_is | rfl | decide +kernel | kernel_rfl))
    (case k_is_name => first | k_is | kit_is | rfl | decide +kernel | kernel_rfl | (and_intros <;> first | k_is | kit_is | rfl | decide +kernel | kernel_rfl))
    (case a_place_of => first | k_is | kit_is | rfl | decide +kernel | kernel_rfl | (and_intros <;> first | k_is | kit_is | rfl | decide +kernel | kernel_rfl))
    (case l_place_of => first | k_is | kit_is | rfl | decide +kernel | kernel_rfl | (and_intros <;> first | k_is | kit_is | rfl | decide +kernel | kernel_rfl))
    (case q_place_of => first | k_is | kit_is | rfl | decide +kernel | kernel_rfl | (and_intros <;> first | k_is | kit_is | rfl | decide +kernel | kernel_rfl))
    (case k_place_of => first | k_is | kit_is | rfl | decide +kernel | kernel_rfl | (and_intros <;> first | k_is | kit_is | rfl | decide +kernel | kernel_rfl))
    (case a_pocket_of => first | k_is | kit_is | rfl | decide +kernel | kernel_rfl | (and_intros <;> first | k_is | kit_is | rfl | decide +kernel | kernel_rfl))
    (case l_pocket_of => first | k_is | kit_is | rfl | decide +kernel | kernel_rfl | (and_intros <;> first | k_is | kit_is | rfl | decide +kernel | kernel_rfl))
    (case q_pocket_of => first | k_is | kit_is | rfl | decide +kernel | kernel_rfl | (and_intros <;> first | k_is | kit_is | rfl | decide +kernel | kernel_rfl))
    (case k_pocket_of => first | k_is | kit_is | rfl | decide +kernel | kernel_rfl | (and_intros <;> first | k_is | kit_is | rfl | decide +kernel | kernel_rfl))
    (case a_read_rows => first | k_is | kit_is | rfl | decide +kernel | kernel_rfl | (and_intros <;> first | k_is | kit_is | rfl | decide +kernel | kernel_rfl))
    (case l_read_rows => first | k_is | kit_is | rfl | decide +kernel | kernel_rfl | (and_intros <;> first | k_is | kit_is | rfl | decide +kernel | kernel_rfl))
    (case q_read_rows => first | k_is | kit_is | rfl | decide +kernel | kernel_rfl | (and_intros <;> first | k_is | kit_is | rfl | decide +kernel | kernel_rfl))
    (case k_read_rows => first | k_is | kit_is | rfl | decide +kernel | kernel_rfl | (and_intros <;> first | k_is | kit_is | rfl | decide +kernel | kernel_rfl))
    (case a_RowReader_init => first | k_is | kit_is | rfl | decide +kernel | kernel_rfl | (and_intros <;> first | k_is | kit_is | rfl | decide +kernel | kernel_rfl))
    (case i_RowReader_init => first | k_is | kit_is | rfl | decide +kernel | kernel_rfl | (and_intros <;> first | k_is | kit_is | rfl | decide +kernel | kernel_rfl))
    (case l_RowReader_init => first | k_is | kit_is | rfl | decide +kernel | kernel_rfl | (and_intros <;> first | k_is | kit_is | rfl | decide +kernel | kernel_rfl))
    (case q_RowReader_init => first | k_is | kit_is | rfl | decide +kernel | kernel_rfl | (and_intros <;> first | k_is | kit_is | rfl | decide +kernel | kernel_rfl))
    (case k_RowReader_init => first | k_is | kit_is | rfl | decide +kernel | kernel_rfl | (and_intros <;> first | k_is | kit_is | rfl | decide +kernel | kernel_rfl))
    (case a_RowReader_step => first | k_is | kit_is | rfl | decide +kernel | kernel_rfl | (and_intros <;> first | k_is | kit_is | rfl | decide +kernel | kernel_rfl))
    (case i_RowReader_step => first | k_is | kit_is | rfl | decide +kernel | kernel_rfl | (and_intros <;> first | k_is | kit_is | rfl | decide +kernel | kernel_rfl))
    (case l_RowReader_step => first | k_is | kit_is | rfl | decide +kernel | kernel_rfl | (and_intros <;> first | k_is | kit_is | rfl | decide +kernel | kernel_rfl))
    (case q_RowReader_step => first | k_is | kit_is | rfl | decide +kernel | kernel_rfl | (and_intros <;> first | k_is | kit_is | rfl | decide +kernel | kernel_rfl))
    (case k_RowReader_step => first | k_is | kit_is | rfl | decide +kernel | kernel_rfl | (and_intros <;> first | k_is | kit_is | rfl | decide +kernel | kernel_rfl))
    (case a_RowReader_p_pocket_row => first | k_is | kit_is | rfl | decide +kernel | kernel_rfl | (and_intros <;> first | k_is | kit_is | rfl | decide +kernel | kernel_rfl))
    (case i_RowReader_p_pocket_row => first | k_is | kit_is | rfl | decide +kernel | kernel_rfl | (and_intros <;> first | k_is | kit_is | rfl | decide +kernel | kernel_rfl))
    (case l_RowReader_p_pocket_row => first | k_is | kit_is | rfl | decide +kernel | kernel_rfl | (and_intros <;> first | k_is | kit_is | rfl | decide +kernel | kernel_rfl))
    (case q_RowReader_p_pocket_row => first | k_is | kit_is | rfl | decide +kernel | kernel_rfl | (and_intros <;> first | k_is | kit_is | rfl | decide +kernel | kernel_rfl))
    (case k_RowReader_p_pocket_row => first | k_is | kit_is | rfl | decide +kernel | kernel_rfl | (and_intros <;> first | k_is | kit_is | rfl | decide +kernel | kernel_rfl))
    (case a_RowReader_p_use => first | k_is | kit_is | rfl | decide +kernel | kernel_rfl | (and_intros <;> first | k_is | kit_is | rfl | decide +kernel | kernel_rfl))
    (case i_RowReader_p_use => first | k_is | kit_is | rfl | decide +kernel | kernel_rfl | (and_intros <;> first | k_is | kit_is | rfl | decide +kernel | kernel_rfl))
    (case l_RowReader_p_use => first | k_is | kit_is | rfl | decide +kernel | kernel_rfl | (and_intros <;> first | k_is | kit_is | rfl | decide +kernel | kernel_rfl))
    (case q_RowReader_p_use => first | k_is | kit_is | rfl | decide +kernel | kernel_rfl | (and_intros <;> first | k_is | kit_is | rfl | decide +kernel | kernel_rfl))
    (case k_RowReader_p_use => first | k_is | kit_is | rfl | decide +kernel | kernel_rfl | (and_intros <;> first | k_is | kit_is | rfl | decide +kernel | kernel_rfl))
    (case a_RowReader_p_move => first | k_is | kit_is | rfl | decide +kernel | kernel_rfl | (and_intros <;> first | k_is | kit_is | rfl | decide +kernel | kernel_rfl))
    (case i_RowReader_p_move => first | k_is | kit_is | rfl | decide +kernel | kernel_rfl | (and_intros <;> first | k_is | kit_is | rfl | decide +kernel | kernel_rfl))
    (case l_RowReader_p_move => first | k_is | kit_is | rfl | decide +kernel | kernel_rfl | (and_intros <;> first | k_is | kit_is | rfl | decide +kernel | kernel_rfl))
    (case q_RowReader_p_move => first | k_is | kit_is | rfl | decide +kernel | kernel_rfl | (and_intros <;> first | k_is | kit_is | rfl | decide +kernel | kernel_rfl))
    (case k_RowReader_p_move => first | k_is | kit_is | rfl | decide +kernel | kernel_rfl | (and_intros <;> first | k_is | kit_is | rfl | decide +kernel | kernel_rfl))
    (case a_RowReader_p_jump => first | k_is | kit_is | rfl | decide +kernel | kernel_rfl | (and_intros <;> first | k_is | kit_is | rfl | decide +kernel | kernel_rfl))
    (case i_RowReader_p_jump => first | k_is | kit_is | rfl | decide +kernel | kernel_rfl | (and_intros <;> first | k_is | kit_is | rfl | decide +kernel | kernel_rfl))
    (case l_RowReader_p_jump => first | k_is | kit_is | rfl | decide +kernel | kernel_rfl | (and_intros <;> first | k_is | kit_is | rfl | decide +kernel | kernel_rfl))
    (case q_RowReader_p_jump => first | k_is | kit_is | rfl | decide +kernel | kernel_rfl | (and_intros <;> first | k_is | kit_is | rfl | decide +kernel | kernel_rfl))
    (case k_RowReader_p_jump => first | k_is | kit_is | rfl | decide +kernel | kernel_rfl | (and_intros <;> first | k_is | kit_is | rfl | decide +kernel | kernel_rfl))
    (case a_RowReader_p_row_number => first | k_is | kit_is | rfl | decide +kernel | kernel_rfl | (and_intros <;> first | k_is | kit_is | rfl | decide +kernel | kernel_rfl))
    (case i_RowReader_p_row_number => first | k_is | kit_is | rfl | decide +kernel | kernel_rfl | (and_intros <;> first | k_is | kit_is | rfl | decide +kernel | kernel_rfl))
    (case l_RowReader_p_row_number => first | k_is | kit_is | rfl | decide +kernel | kernel_rfl | (and_intros <;> first | k_is | kit_is | rfl | decide +kernel | kernel_rfl))
    (case q_RowReader_p_row_number => first | k_is | kit_is | rfl | decide +kernel | kernel_rfl | (and_intros <;> first | k_is | kit_is | rfl | decide +kernel | kernel_rfl))
    (case k_RowReader_p_row_number => first | k_is | kit_is | rfl | decide +kernel | kernel_rfl | (and_intros <;> first | k_is | kit_is | rfl | decide +kernel | kernel_rfl))
    (case a_RowReader_p_throw => first | k_is | kit_is | rfl | decide +kernel | kernel_rfl | (and_intros <;> first | k_is | kit_is | rfl | decide +kernel | kernel_rfl))
    (case i_RowReader_p_throw => first | k_is | kit_is | rfl | decide +kernel | kernel_rfl | (and_intros <;> first | k_is | kit_is | rfl | decide +kernel | kernel_rfl))
    (case l_RowReader_p_throw => first | k_is | kit_is | rfl | decide +kernel | kernel_rfl | (and_intros <;> first | k_is | kit_is | rfl | decide +kernel | kernel_rfl))
    (case q_RowReader_p_throw => first | k_is | kit_is | rfl | decide +kernel | kernel_rfl | (and_intros <;> first | k_is | kit_is | rfl | decide +kernel | kernel_rfl))
    (case k_RowReader_p_throw => first | k_is | kit_is | rfl | decide +kernel | kernel_rfl | (and_intros <;> first | k_is | kit_is | rfl | decide +kernel | kernel_rfl))
    (case a_RowReader_p_laden => first | k_is | kit_is | rfl | decide +kernel | kernel_rfl | (and_intros <;> first | k_is | kit_is | rfl | decide +kernel | kernel_rfl))
    (case i_RowReader_p_laden => first | k_is | kit_is | rfl | decide +kernel | kernel_rfl | (and_intros <;> first | k_is | kit_is | rfl | decide +kernel | kernel_rfl))
    (case l_RowReader_p_laden => first | k_is | kit_is | rfl | decide +kernel | kernel_rfl | (and_intros <;> first | k_is | kit_is | rfl | decide +kernel | kernel_rfl))
    (case q_RowReader_p_laden => first | k_is | kit_is | rfl | decide +kernel | kernel_rfl | (and_intros <;> first | k_is | kit_is | rfl | decide +kernel | kernel_rfl))
    (case k_RowReader_p_laden => first | k_is | kit_is | rfl | decide +kernel | kernel_rfl | (and_intros <;> first | k_is | kit_is | rfl | decide +kernel | kernel_rfl))
    (case a_RowReader_p_done => first | k_is | kit_is | rfl | decide +kernel | kernel_rfl | (and_intros <;> first | k_is | kit_is | rfl | decide +kernel | kernel_rfl))
    (case i_RowReader_p_done => first | k_is | kit_is | rfl | decide +kernel | kernel_rfl | (and_intros <;> first | k_is | kit_is | rfl | decide +kernel | kernel_rfl))
    (case l_RowReader_p_done => first | k_is | kit_is | rfl | decide +kernel | kernel_rfl | (and_intros <;> first | k_is | kit_is | rfl | decide +kernel | kernel_rfl))
    (case q_RowReader_p_done => first | k_is | kit_is | rfl | decide +kernel | kernel_rfl | (and_intros <;> first | k_is | kit_is | rfl | decide +kernel | kernel_rfl))
    (case k_RowReader_p_done => first | k_is | kit_is | rfl | decide +kernel | kernel_rfl | (and_intros <;> first | k_is | kit_is | rfl | decide +kernel | kernel_rfl))
    (case a_RowReader_p_end => first | k_is | kit_is | rfl | decide +kernel | kernel_rfl | (and_intros <;> first | k_is | kit_is | rfl | decide +kernel | kernel_rfl))
    (case i_RowReader_p_end => first | k_is | kit_is | rfl | decide +kernel | kernel_rfl | (and_intros <;> first | k_is | kit_is | rfl | decide +kernel | kernel_rfl))
    (case l_RowReader_p_end => first | k_is | kit_is | rfl | decide +kernel | kernel_rfl | (and_intros <;> first | k_is | kit_is | rfl | decide +kernel | kernel_rfl))
    (case q_RowReader_p_end => first | k_is | kit_is | rfl | decide +kernel | kernel_rfl | (and_intros <;> first | k_is | kit_is | rfl | decide +kernel | kernel_rfl))
    (case k_RowReader_p_end => first | k_is | kit_is | rfl | decide +kernel | kernel_rfl | (and_intros <;> first | k_is | kit_is | rfl | decide +kernel | kernel_rfl))
    (case a_RowReader_p_call => first | k_is | kit_is | rfl | decide +kernel | kernel_rfl | (and_intros <;> first | k_is | kit_is | rfl | decide +kernel | kernel_rfl))
    (case i_RowReader_p_call => first | k_is | kit_is | rfl | decide +kernel | kernel_rfl | (and_intros <;> first | k_is | kit_is | rfl | decide +kernel | kernel_rfl))
    (case l_RowReader_p_call => first | k_is | kit_is | rfl | decide +kernel | kernel_rfl | (and_intros <;> first | k_is | kit_is | rfl | decide +kernel | kernel_rfl))
    (case q_RowReader_p_call => first | k_is | kit_is | rfl | decide +kernel | kernel_rfl | (and_intros <;> first | k_is | kit_is | rfl | decide +kernel | kernel_rfl))
    (case k_RowReader_p_call => first | k_is | kit_is | rfl | decide +kernel | kernel_rfl | (and_intros <;> first | k_is | kit_is | rfl | decide +kernel | kernel_rfl))
    (case a_RowReader_p_called => first | k_is | kit_is | rfl | decide +kernel | kernel_rfl | (and_intros <;> first | k_is | kit_is | rfl | decide +kernel | kernel_rfl))
    (case i_RowReader_p_called => first | k_is | kit_is | rfl | decide +kernel | kernel_rfl | (and_intros <;> first | k_is | kit_is | rfl | decide +kernel | kernel_rfl))
    (case l_RowReader_p_called => first | k_is | kit_is | rfl | decide +kernel | kernel_rfl | (and_intros <;> first | k_is | kit_is | rfl | decide +kernel | kernel_rfl))
    (case q_RowReader_p_called => first | k_is | kit_is | rfl | decide +kernel | kernel_rfl | (and_intros <;> first | k_is | kit_is | rfl | decide +kernel | kernel_rfl))
    (case k_RowReader_p_called => first | k_is | kit_is | rfl | decide +kernel | kernel_rfl | (and_intros <;> first | k_is | kit_is | rfl | decide +kernel | kernel_rfl))
    (case a_RowReader_p_handed => first | k_is | kit_is | rfl | decide +kernel | kernel_rfl | (and_intros <;> first | k_is | kit_is | rfl | decide +kernel | kernel_rfl))
    (case i_RowReader_p_handed => first | k_is | kit_is | rfl | decide +kernel | kernel_rfl | (and_intros <;> first | k_is | kit_is | rfl | decide +kernel | kernel_rfl))
    (case l_RowReader_p_handed => first | k_is | kit_is | rfl | decide +kernel | kernel_rfl | (and_intros <;> first | k_is | kit_is | rfl | decide +kernel | kernel_rfl))
    (case q_RowReader_p_handed => first | k_is | kit_is | rfl | decide +kernel | kernel_rfl | (and_intros <;> first | k_is | kit_is | rfl | decide +kernel | kernel_rfl))
    (case k_RowReader_p_handed => first | k_is | kit_is | rfl | decide +kernel | kernel_rfl | (and_intros <;> first | k_is | kit_is | rfl | decide +kernel | kernel_rfl))
    (case a_RowReader_p_to => first | k_is | kit_is | rfl | decide +kernel | kernel_rfl | (and_intros <;> first | k_is | kit_is | rfl | decide +kernel | kernel_rfl))
    (case i_RowReader_p_to => first | k_is | kit_is | rfl | decide +kernel | kernel_rfl | (and_intros <;> first | k_is | kit_is | rfl | decide +kernel | kernel_rfl))
    (case l_RowReader_p_to => first | k_is | kit_is | rfl | decide +kernel | kernel_rfl | (and_intros <;> first | k_is | kit_is | rfl | decide +kernel | kernel_rfl))
    (case q_RowReader_p_to => first | k_is | kit_is | rfl | decide +kernel | kernel_rfl | (and_intros <;> first | k_is | kit_is | rfl | decide +kernel | kernel_rfl))
    (case k_RowReader_p_to => first | k_is | kit_is | rfl | decide +kernel | kernel_rfl | (and_intros <;> first | k_is | kit_is | rfl | decide +kernel | kernel_rfl))
    (case a_RowReader_p_catches => first | k_is | kit_is | rfl | decide +kernel | kernel_rfl | (and_intros <;> first | k_is | kit_is | rfl | decide +kernel | kernel_rfl))
    (case i_RowReader_p_catches => first | k_is | kit_is | rfl | decide +kernel | kernel_rfl | (and_intros <;> first | k_is | kit_is | rfl | decide +kernel | kernel_rfl))
    (case l_RowReader_p_catches => first | k_is | kit_is | rfl | decide +kernel | kernel_rfl | (and_intros <;> first | k_is | kit_is | rfl | decide +kernel | kernel_rfl))
    (case q_RowReader_p_catches => first | k_is | kit_is | rfl | decide +kernel | kernel_rfl | (and_intros <;> first | k_is | kit_is | rfl | decide +kernel | kernel_rfl))
    (case k_RowReader_p_catches => first | k_is | kit_is | rfl | decide +kernel | kernel_rfl | (and_intros <;> first | k_is | kit_is | rfl | decide +kernel | kernel_rfl))
    (case a_Body_init => first | k_is | kit_is | rfl | decide +kernel | kernel_rfl | (and_intros <;> first | k_is | kit_is | rfl | decide +kernel | kernel_rfl))
    (case i_Body_init => first | k_is | kit_is | rfl | decide +kernel | kernel_rfl | (and_intros <;> first | k_is | kit_is | rfl | decide +kernel | kernel_rfl))
    (case l_Body_init => first | k_is | kit_is | rfl | decide +kernel | kernel_rfl | (and_intros <;> first | k_is | kit_is | rfl | decide +kernel | kernel_rfl))
    (case q_Body_init => first | k_is | kit_is | rfl | decide +kernel | kernel_rfl | (and_intros <;> first | k_is | kit_is | rfl | decide +kernel | kernel_rfl))
    (case k_Body_init => first | k_is | kit_is | rfl | decide +kernel | kernel_rfl | (and_intros <;> first | k_is | kit_is | rfl | decide +kernel | kernel_rfl))
    (case a_Side_init => first | k_is | kit_is | rfl | decide +kernel | kernel_rfl | (and_intros <;> first | k_is | kit_is | rfl | decide +kernel | kernel_rfl))
    (case i_Side_init => first | k_is | kit_is | rfl | decide +kernel | kernel_rfl | (and_intros <;> first | k_is | kit_is | rfl | decide +kernel | kernel_rfl))
    (case l_Side_init => first | k_is | kit_is | rfl | decide +kernel | kernel_rfl | (and_intros <;> first | k_is | kit_is | rfl | decide +kernel | kernel_rfl))
    (case q_Side_init => first | k_is | kit_is | rfl | decide +kernel | kernel_rfl | (and_intros <;> first | k_is | kit_is | rfl | decide +kernel | kernel_rfl))
    (case k_Side_init => first | k_is | kit_is | rfl | decide +kernel | kernel_rfl | (and_intros <;> first | k_is | kit_is | rfl | decide +kernel | kernel_rfl))
    (case a_Side_pacts => first | k_is | kit_is | rfl | decide +kernel | kernel_rfl | (and_intros <;> first | k_is | kit_is | rfl | decide +kernel | kernel_rfl))
    (case i_Side_pacts => first | k_is | kit_is | rfl | decide +kernel | kernel_rfl | (and_intros <;> first | k_is | kit_is | rfl | decide +kernel | kernel_rfl))
    (case l_Side_pacts => first | k_is | kit_is | rfl | decide +kernel | kernel_rfl | (and_intros <;> first | k_is | kit_is | rfl | decide +kernel | kernel_rfl))
    (case q_Side_pacts => first | k_is | kit_is | rfl | decide +kernel | kernel_rfl | (and_intros <;> first | k_is | kit_is | rfl | decide +kernel | kernel_rfl))
    (case k_Side_pacts => first | k_is | kit_is | rfl | decide +kernel | kernel_rfl | (and_intros <;> first | k_is | kit_is | rfl | decide +kernel | kernel_rfl))
    (case a_Side_number => first | k_is | kit_is | rfl | decide +kernel | kernel_rfl | (and_intros <;> first | k_is | kit_is | rfl | decide +kernel | kernel_rfl))
    (case i_Side_number => first | k_is | kit_is | rfl | decide +kernel | kernel_rfl | (and_intros <;> first | k_is | kit_is | rfl | decide +kernel | kernel_rfl))
    (case l_Side_number => first | k_is | kit_is | rfl | decide +kernel | kernel_rfl | (and_intros <;> first | k_is | kit_is | rfl | decide +kernel | kernel_rfl))
    (case q_Side_number => first | k_is | kit_is | rfl | decide +kernel | kernel_rfl | (and_intros <;> first | k_is | kit_is | rfl | decide +kernel | kernel_rfl))
    (case k_Side_number => first | k_is | kit_is | rfl | decide +kernel | kernel_rfl | (and_intros <;> first | k_is | kit_is | rfl | decide +kernel | kernel_rfl))
    (case a_Side_body => first | k_is | kit_is | rfl | decide +kernel | kernel_rfl | (and_intros <;> first | k_is | kit_is | rfl | decide +kernel | kernel_rfl))
    (case i_Side_body => first | k_is | kit_is | rfl | decide +kernel | kernel_rfl | (and_intros <;> first | k_is | kit_is | rfl | decide +kernel | kernel_rfl))
    (case l_Side_body => first | k_is | kit_is | rfl | decide +kernel | kernel_rfl | (and_intros <;> first | k_is | kit_is | rfl | decide +kernel | kernel_rfl))
    (case q_Side_body => first | k_is | kit_is | rfl | decide +kernel | kernel_rfl | (and_intros <;> first | k_is | kit_is | rfl | decide +kernel | kernel_rfl))
    (case k_Side_body => first | k_is | kit_is | rfl | decide +kernel | kernel_rfl | (and_intros <;> first | k_is | kit_is | rfl | decide +kernel | kernel_rfl))
    (case a_Side_rows => first | k_is | kit_is | rfl | decide +kernel | kernel_rfl | (and_intros <;> first | k_is | kit_is | rfl | decide +kernel | kernel_rfl))
    (case i_Side_rows => first | k_is | kit_is | rfl | decide +kernel | kernel_rfl | (and_intros <;> first | k_is | kit_is | rfl | decide +kernel | kernel_rfl))
    (case l_Side_rows => first | k_is | kit_is | rfl | decide +kernel | kernel_rfl | (and_intros <;> first | k_is | kit_is | rfl | decide +kernel | kernel_rfl))
    (case q_Side_rows => first | k_is | kit_is | rfl | decide +kernel | kernel_rfl | (and_intros <;> first | k_is | kit_is | rfl | decide +kernel | kernel_rfl))
    (case k_Side_rows => first | k_is | kit_is | rfl | decide +kernel | kernel_rfl | (and_intros <;> first | k_is | kit_is | rfl | decide +kernel | kernel_rfl))
    (case a_Side_place => first | k_is | kit_is | rfl | decide +kernel | kernel_rfl | (and_intros <;> first | k_is | kit_is | rfl | decide +kernel | kernel_rfl))
    (case i_Side_place => first | k_is | kit_is | rfl | decide +kernel | kernel_rfl | (and_intros <;> first | k_is | kit_is | rfl | decide +kernel | kernel_rfl))
    (case l_Side_place => first | k_is | kit_is | rfl | decide +kernel | kernel_rfl | (and_intros <;> first | k_is | kit_is | rfl | decide +kernel | kernel_rfl))
    (case q_Side_place => first | k_is | kit_is | rfl | decide +kernel | kernel_rfl | (and_intros <;> first | k_is | kit_is | rfl | decide +kernel | kernel_rfl))
    (case k_Side_place => first | k_is | kit_is | rfl | decide +kernel | kernel_rfl | (and_intros <;> first | k_is | kit_is | rfl | decide +kernel | kernel_rfl))
    (case a_Side_parsed => first | k_is | kit_is | rfl | decide +kernel | kernel_rfl | (and_intros <;> first | k_is | kit_is | rfl | decide +kernel | kernel_rfl))
    (case i_Side_parsed => first | k_is | kit_is | rfl | decide +kernel | kernel_rfl | (and_intros <;> first | k_is | kit_is | rfl | decide +kernel | kernel_rfl))
    (case l_Side_parsed => first | k_is | kit_is | rfl | decide +kernel | kernel_rfl | (and_intros <;> first | k_is | kit_is | rfl | decide +kernel | kernel_rfl))
    (case q_Side_parsed => first | k_is | kit_is | rfl | decide +kernel | kernel_rfl | (and_intros <;> first | k_is | kit_is | rfl | decide +kernel | kernel_rfl))
    (case k_Side_parsed => first | k_is | kit_is | rfl | decide +kernel | kernel_rfl | (and_intros <;> first | k_is | kit_is | rfl | decide +kernel | kernel_rfl))
    (case a_Pacts_init => first | k_is | kit_is | rfl | decide +kernel | kernel_rfl | (and_intros <;> first | k_is | kit_is | rfl | decide +kernel | kernel_rfl))
    (case i_Pacts_init => first | k_is | kit_is | rfl | decide +kernel | kernel_rfl | (and_intros <;> first | k_is | kit_is | rfl | decide +kernel | kernel_rfl))
    (case l_Pacts_init => first | k_is | kit_is | rfl | decide +kernel | kernel_rfl | (and_intros <;> first | k_is | kit_is | rfl | decide +kernel | kernel_rfl))
    (case q_Pacts_init => first | k_is | kit_is | rfl | decide +kernel | kernel_rfl | (and_intros <;> first | k_is | kit_is | rfl | decide +kernel | kernel_rfl))
    (case k_Pacts_init => first | k_is | kit_is | rfl | decide +kernel | kernel_rfl | (and_intros <;> first | k_is | kit_is | rfl | decide +kernel | kernel_rfl))
    (case a_Pacts_names => first | k_is | kit_is | rfl | decide +kernel | kernel_rfl | (and_intros <;> first | k_is | kit_is | rfl | decide +kernel | kernel_rfl))
    (case i_Pacts_names => first | k_is | kit_is | rfl | decide +kernel | kernel_rfl | (and_intros <;> first | k_is | kit_is | rfl | decide +kernel | kernel_rfl))
    (case l_Pacts_names => first | k_is | kit_is | rfl | decide +kernel | kernel_rfl | (and_intros <;> first | k_is | kit_is | rfl | decide +kernel | kernel_rfl))
    (case q_Pacts_names => first | k_is | kit_is | rfl | decide +kernel | kernel_rfl | (and_intros <;> first | k_is | kit_is | rfl | decide +kernel | kernel_rfl))
    (case k_Pacts_names => first | k_is | kit_is | rfl | decide +kernel | kernel_rfl | (and_intros <;> first | k_is | kit_is | rfl | decide +kernel | kernel_rfl))
    (case a_Pacts_pact => first | k_is | kit_is | rfl | decide +kernel | kernel_rfl | (and_intros <;> first | k_is | kit_is | rfl | decide +kernel | kernel_rfl))
    (case i_Pacts_pact => first | k_is | kit_is | rfl | decide +kernel | kernel_rfl | (and_intros <;> first | k_is | kit_is | rfl | decide +kernel | kernel_rfl))
    (case l_Pacts_pact => first | k_is | kit_is | rfl | decide +kernel | kernel_rfl | (and_intros <;> first | k_is | kit_is | rfl | decide +kernel | kernel_rfl))
    (case q_Pacts_pact => first | k_is | kit_is | rfl | decide +kernel | kernel_rfl | (and_intros <;> first | k_is | kit_is | rfl | decide +kernel | kernel_rfl))
    (case k_Pacts_pact => first | k_is | kit_is | rfl | decide +kernel | kernel_rfl | (and_intros <;> first | k_is | kit_is | rfl | decide +kernel | kernel_rfl))
    (case a_Pacts_laden => first | k_is | kit_is | rfl | decide +kernel | kernel_rfl | (and_intros <;> first | k_is | kit_is | rfl | decide +kernel | kernel_rfl))
    (case i_Pacts_laden => first | k_is | kit_is | rfl | decide +kernel | kernel_rfl | (and_intros <;> first | k_is | kit_is | rfl | decide +kernel | kernel_rfl))
    (case l_Pacts_laden => first | k_is | kit_is | rfl | decide +kernel | kernel_rfl | (and_intros <;> first | k_is | kit_is | rfl | decide +kernel | kernel_rfl))
    (case q_Pacts_laden => first | k_is | kit_is | rfl | decide +kernel | kernel_rfl | (and_intros <;> first | k_is | kit_is | rfl | decide +kernel | kernel_rfl))
    (case k_Pacts_laden => first | k_is | kit_is | rfl | decide +kernel | kernel_rfl | (and_intros <;> first | k_is | kit_is | rfl | decide +kernel | kernel_rfl))
    (case a_Pacts_over => first | k_is | kit_is | rfl | decide +kernel | kernel_rfl | (and_intros <;> first | k_is | kit_is | rfl | decide +kernel | kernel_rfl))
    (case i_Pacts_over => first | k_is | kit_is | rfl | decide +kernel | kernel_rfl | (and_intros <;> first | k_is | kit_is | rfl | decide +kernel | kernel_rfl))
    (case l_Pacts_over => first | k_is | kit_is | rfl | decide +kernel | kernel_rfl | (and_intros <;> first | k_is | kit_is | rfl | decide +kernel | kernel_rfl))
    (case q_Pacts_over => first | k_is | kit_is | rfl | decide +kernel | kernel_rfl | (and_intros <;> first | k_is | kit_is | rfl | decide +kernel | kernel_rfl))
    (case k_Pacts_over => first | k_is | kit_is | rfl | decide +kernel | kernel_rfl | (and_intros <;> first | k_is | kit_is | rfl | decide +kernel | kernel_rfl))
    (case a_Pacts_p_pair => first | k_is | kit_is | rfl | decide +kernel | kernel_rfl | (and_intros <;> first | k_is | kit_is | rfl | decide +kernel | kernel_rfl))
    (case i_Pacts_p_pair => first | k_is | kit_is | rfl | decide +kernel | kernel_rfl | (and_intros <;> first | k_is | kit_is | rfl | decide +kernel | kernel_rfl))
    (case l_Pacts_p_pair => first | k_is | kit_is | rfl | decide +kernel | kernel_rfl | (and_intros <;> first | k_is | kit_is | rfl | decide +kernel | kernel_rfl))
    (case q_Pacts_p_pair => first | k_is | kit_is | rfl | decide +kernel | kernel_rfl | (and_intros <;> first | k_is | kit_is | rfl | decide +kernel | kernel_rfl))
    (case k_Pacts_p_pair => first | k_is | kit_is | rfl | decide +kernel | kernel_rfl | (and_intros <;> first | k_is | kit_is | rfl | decide +kernel | kernel_rfl))
    (case a_Pacts_errors => first | k_is | kit_is | rfl | decide +kernel | kernel_rfl | (and_intros <;> first | k_is | kit_is | rfl | decide +kernel | kernel_rfl))
    (case i_Pacts_errors => first | k_is | kit_is | rfl | decide +kernel | kernel_rfl | (and_intros <;> first | k_is | kit_is | rfl | decide +kernel | kernel_rfl))
    (case l_Pacts_errors => first | k_is | kit_is | rfl | decide +kernel | kernel_rfl | (and_intros <;> first | k_is | kit_is | rfl | decide +kernel | kernel_rfl))
    (case q_Pacts_errors => first | k_is | kit_is | rfl | decide +kernel | kernel_rfl | (and_intros <;> first | k_is | kit_is | rfl | decide +kernel | kernel_rfl))
    (case k_Pacts_errors => first | k_is | kit_is | rfl | decide +kernel | kernel_rfl | (and_intros <;> first | k_is | kit_is | rfl | decide +kernel | kernel_rfl))
    (case a_Pacts_eq => first | k_is | kit_is | rfl | decide +kernel | kernel_rfl | (and_intros <;> first | k_is | kit_is | rfl | decide +kernel | kernel_rfl))
    (case i_Pacts_eq => first | k_is | kit_is | rfl | decide +kernel | kernel_rfl | (and_intros <;> first | k_is | kit_is | rfl | decide +kernel | kernel_rfl))
    (case l_Pacts_eq => first | k_is | kit_is | rfl | decide +kernel | kernel_rfl | (and_intros <;> first | k_is | kit_is | rfl | decide +kernel | kernel_rfl))
    (case q_Pacts_eq => first | k_is | kit_is | rfl | decide +kernel | kernel_rfl | (and_intros <;> first | k_is | kit_is | rfl | decide +kernel | kernel_rfl))
    (case k_Pacts_eq => first | k_is | kit_is | rfl | decide +kernel | kernel_rfl | (and_intros <;> first | k_is | kit_is | rfl | decide +kernel | kernel_rfl))
    (case a_p_is_pair => first | k_is | kit_is | rfl | decide +kernel | kernel_rfl | (and_intros <;> first | k_is | kit_is | rfl | decide +kernel | kernel_rfl))
    (case l_p_is_pair => first | k_is | kit_is | rfl | decide +kernel | kernel_rfl | (and_intros <;> first | k_is | kit_is | rfl | decide +kernel | kernel_rfl))
    (case q_p_is_pair => first | k_is | kit_is | rfl | decide +kernel | kernel_rfl | (and_intros <;> first | k_is | kit_is | rfl | decide +kernel | kernel_rfl))
    (case k_p_is_pair => first | k_is | kit_is | rfl | decide +kernel | kernel_rfl | (and_intros <;> first | k_is | kit_is | rfl | decide +kernel | kernel_rfl))
    (case a_p_fits_pairs => first | k_is | kit_is | rfl | decide +kernel | kernel_rfl | (and_intros <;> first | k_is | kit_is | rfl | decide +kernel | kernel_rfl))
    (case l_p_fits_pairs => first | k_is | kit_is | rfl | decide +kernel | kernel_rfl | (and_intros <;> first | k_is | kit_is | rfl | decide +kernel | kernel_rfl))
    (case q_p_fits_pairs => first | k_is | kit_is | rfl | decide +kernel | kernel_rfl | (and_intros <;> first | k_is | kit_is | rfl | decide +kernel | kernel_rfl))
    (case k_p_fits_pairs => first | k_is | kit_is | rfl | decide +kernel | kernel_rfl | (and_intros <;> first | k_is | kit_is | rfl | decide +kernel | kernel_rfl))
    (case a_p_is_pact => first | k_is | kit_is | rfl | decide +kernel | kernel_rfl | (and_intros <;> first | k_is | kit_is | rfl | decide +kernel | kernel_rfl))
    (case l_p_is_pact => first | k_is | kit_is | rfl | decide +kernel | kernel_rfl | (and_intros <;> first | k_is | kit_is | rfl | decide +kernel | kernel_rfl))
    (case q_p_is_pact => first | k_is | kit_is | rfl | decide +kernel | kernel_rfl | (and_intros <;> first | k_is | kit_is | rfl | decide +kernel | kernel_rfl))
    (case k_p_is_pact => first | k_is | kit_is | rfl | decide +kernel | kernel_rfl | (and_intros <;> first | k_is | kit_is | rfl | decide +kernel | kernel_rfl))
    (case a_p_are_takes => first | k_is | kit_is | rfl | decide +kernel | kernel_rfl | (and_intros <;> first | k_is | kit_is | rfl | decide +kernel | kernel_rfl))
    (case l_p_are_takes => first | k_is | kit_is | rfl | decide +kernel | kernel_rfl | (and_intros <;> first | k_is | kit_is | rfl | decide +kernel | kernel_rfl))
    (case q_p_are_takes => first | k_is | kit_is | rfl | decide +kernel | kernel_rfl | (and_intros <;> first | k_is | kit_is | rfl | decide +kernel | kernel_rfl))
    (case k_p_are_takes => first | k_is | kit_is | rfl | decide +kernel | kernel_rfl | (and_intros <;> first | k_is | kit_is | rfl | decide +kernel | kernel_rfl))
    (case a_p_are_throws => first | k_is | kit_is | rfl | decide +kernel | kernel_rfl | (and_intros <;> first | k_is | kit_is | rfl | decide +kernel | kernel_rfl))
    (case l_p_are_throws => first | k_is | kit_is | rfl | decide +kernel | kernel_rfl | (and_intros <;> first | k_is | kit_is | rfl | decide +kernel | kernel_rfl))
    (case q_p_are_throws => first | k_is | kit_is | rfl | decide +kernel | kernel_rfl | (and_intros <;> first | k_is | kit_is | rfl | decide +kernel | kernel_rfl))
    (case k_p_are_throws => first | k_is | kit_is | rfl | decide +kernel | kernel_rfl | (and_intros <;> first | k_is | kit_is | rfl | decide +kernel | kernel_rfl))
    (case a_p_fits_helpers => first | k_is | kit_is | rfl | decide +kernel | kernel_rfl | (and_intros <;> first | k_is | kit_is | rfl | decide +kernel | kernel_rfl))
    (case l_p_fits_helpers => first | k_is | kit_is | rfl | decide +kernel | kernel_rfl | (and_intros <;> first | k_is | kit_is | rfl | decide +kernel | kernel_rfl))
    (case q_p_fits_helpers => first | k_is | kit_is | rfl | decide +kernel | kernel_rfl | (and_intros <;> first | k_is | kit_is | rfl | decide +kernel | kernel_rfl))
    (case k_p_fits_helpers => first | k_is | kit_is | rfl | decide +kernel | kernel_rfl | (and_intros <;> first | k_is | kit_is | rfl | decide +kernel | kernel_rfl))
    (case a_box => first | k_is | kit_is | rfl | decide +kernel | kernel_rfl | (and_intros <;> first | k_is | kit_is | rfl | decide +kernel | kernel_rfl))
    (case l_box => first | k_is | kit_is | rfl | decide +kernel | kernel_rfl | (and_intros <;> first | k_is | kit_is | rfl | decide +kernel | kernel_rfl))
    (case q_box => first | k_is | kit_is | rfl | decide +kernel | kernel_rfl | (and_intros <;> first | k_is | kit_is | rfl | decide +kernel | kernel_rfl))
    (case k_box => first | k_is | kit_is | rfl | decide +kernel | kernel_rfl | (and_intros <;> first | k_is | kit_is | rfl | decide +kernel | kernel_rfl))
    (case a_mixed => first | k_is | kit_is | rfl | decide +kernel | kernel_rfl | (and_intros <;> first | k_is | kit_is | rfl | decide +kernel | kernel_rfl))
    (case l_mixed => first | k_is | kit_is | rfl | decide +kernel | kernel_rfl | (and_intros <;> first | k_is | kit_is | rfl | decide +kernel | kernel_rfl))
    (case q_mixed => first | k_is | kit_is | rfl | decide +kernel | kernel_rfl | (and_intros <;> first | k_is | kit_is | rfl | decide +kernel | kernel_rfl))
    (case k_mixed => first | k_is | kit_is | rfl | decide +kernel | kernel_rfl | (and_intros <;> first | k_is | kit_is | rfl | decide +kernel | kernel_rfl))
    (case a_take => first | k_is | kit_is | rfl | decide +kernel | kernel_rfl | (and_intros <;> first | k_is | kit_is | rfl | decide +kernel | kernel_rfl))
    (case l_take => first | k_is | kit_is | rfl | decide +kernel | kernel_rfl | (and_intros <;> first | k_is | kit_is | rfl | decide +kernel | kernel_rfl))
    (case q_take => first | k_is | kit_is | rfl | decide +kernel | kernel_rfl | (and_intros <;> first | k_is | kit_is | rfl | decide +kernel | kernel_rfl))
    (case k_take => first | k_is | kit_is | rfl | decide +kernel | kernel_rfl | (and_intros <;> first | k_is | kit_is | rfl | decide +kernel | kernel_rfl))
    (case a_unlike => first | k_is | kit_is | rfl | decide +kernel | kernel_rfl | (and_intros <;> first | k_is | kit_is | rfl | decide +kernel | kernel_rfl))
    (case l_unlike => first | k_is | kit_is | rfl | decide +kernel | kernel_rfl | (and_intros <;> first | k_is | kit_is | rfl | decide +kernel | kernel_rfl))
    (case q_unlike => first | k_is | kit_is | rfl | decide +kernel | kernel_rfl | (and_intros <;> first | k_is | kit_is | rfl | decide +kernel | kernel_rfl))
    (case k_unlike => first | k_is | kit_is | rfl | decide +kernel | kernel_rfl | (and_intros <;> first | k_is | kit_is | rfl | decide +kernel | kernel_rfl))
    (case a_names => first | k_is | kit_is | rfl | decide +kernel | kernel_rfl | (and_intros <;> first | k_is | kit_is | rfl | decide +kernel | kernel_rfl))
    (case l_names => first | k_is | kit_is | rfl | decide +kernel | kernel_rfl | (and_intros <;> first | k_is | kit_is | rfl | decide +kernel | kernel_rfl))
    (case q_names => first | k_is | kit_is | rfl | decide +kernel | kernel_rfl | (and_intros <;> first | k_is | kit_is | rfl | decide +kernel | kernel_rfl))
    (case k_names => first | k_is | kit_is | rfl | decide +kernel | kernel_rfl | (and_intros <;> first | k_is | kit_is | rfl | decide +kernel | kernel_rfl))
    (case a_any_deal => first | k_is | kit_is | rfl | decide +kernel | kernel_rfl | (and_intros <;> first | k_is | kit_is | rfl | decide +kernel | kernel_rfl))
    (case l_any_deal => first | k_is | kit_is | rfl | decide +kernel | kernel_rfl | (and_intros <;> first | k_is | kit_is | rfl | decide +kernel | kernel_rfl))
    (case q_any_deal => first | k_is | kit_is | rfl | decide +kernel | kernel_rfl | (and_intros <;> first | k_is | kit_is | rfl | decide +kernel | kernel_rfl))
    (case k_any_deal => first | k_is | kit_is | rfl | decide +kernel | kernel_rfl | (and_intros <;> first | k_is | kit_is | rfl | decide +kernel | kernel_rfl))
    (case a_pact => first | k_is | kit_is | rfl | decide +kernel | kernel_rfl | (and_intros <;> first | k_is | kit_is | rfl | decide +kernel | kernel_rfl))
    (case l_pact => first | k_is | kit_is | rfl | decide +kernel | kernel_rfl | (and_intros <;> first | k_is | kit_is | rfl | decide +kernel | kernel_rfl))
    (case q_pact => first | k_is | kit_is | rfl | decide +kernel | kernel_rfl | (and_intros <;> first | k_is | kit_is | rfl | decide +kernel | kernel_rfl))
    (case k_pact => first | k_is | kit_is | rfl | decide +kernel | kernel_rfl | (and_intros <;> first | k_is | kit_is | rfl | decide +kernel | kernel_rfl))
    (case a_laden => first | k_is | kit_is | rfl | decide +kernel | kernel_rfl | (and_intros <;> first | k_is | kit_is | rfl | decide +kernel | kernel_rfl))
    (case l_laden => first | k_is | kit_is | rfl | decide +kernel | kernel_rfl | (and_intros <;> first | k_is | kit_is | rfl | decide +kernel | kernel_rfl))
    (case q_laden => first | k_is | kit_is | rfl | decide +kernel | kernel_rfl | (and_intros <;> first | k_is | kit_is | rfl | decide +kernel | kernel_rfl))
    (case k_laden => first | k_is | kit_is | rfl | decide +kernel | kernel_rfl | (and_intros <;> first | k_is | kit_is | rfl | decide +kernel | kernel_rfl))
    (case a_errors => first | k_is | kit_is | rfl | decide +kernel | kernel_rfl | (and_intros <;> first | k_is | kit_is | rfl | decide +kernel | kernel_rfl))
    (case l_errors => first | k_is | kit_is | rfl | decide +kernel | kernel_rfl | (and_intros <;> first | k_is | kit_is | rfl | decide +kernel | kernel_rfl))
    (case q_errors => first | k_is | kit_is | rfl | decide +kernel | kernel_rfl | (and_intros <;> first | k_is | kit_is | rfl | decide +kernel | kernel_rfl))
    (case k_errors => first | k_is | kit_is | rfl | decide +kernel | kernel_rfl | (and_intros <;> first | k_is | kit_is | rfl | decide +kernel | kernel_rfl))
    (case a_of_team => first | k_is | kit_is | rfl | decide +kernel | kernel_rfl | (and_intros <;> first | k_is | kit_is | rfl | decide +kernel | kernel_rfl))
    (case l_of_team => first | k_is | kit_is | rfl | decide +kernel | kernel_rfl | (and_intros <;> first | k_is | kit_is | rfl | decide +kernel | kernel_rfl))
    (case q_of_team => first | k_is | kit_is | rfl | decide +kernel | kernel_rfl | (and_intros <;> first | k_is | kit_is | rfl | decide +kernel | kernel_rfl))
    (case k_of_team => first | k_is | kit_is | rfl | decide +kernel | kernel_rfl | (and_intros <;> first | k_is | kit_is | rfl | decide +kernel | kernel_rfl))
    (case a_any_call => first | k_is | kit_is | rfl | decide +kernel | kernel_rfl | (and_intros <;> first | k_is | kit_is | rfl | decide +kernel | kernel_rfl))
    (case l_any_call => first | k_is | kit_is | rfl | decide +kernel | kernel_rfl | (and_intros <;> first | k_is | kit_is | rfl | decide +kernel | kernel_rfl))
    (case q_any_call => first | k_is | kit_is | rfl | decide +kernel | kernel_rfl | (and_intros <;> first | k_is | kit_is | rfl | decide +kernel | kernel_rfl))
    (case k_any_call => first | k_is | kit_is | rfl | decide +kernel | kernel_rfl | (and_intros <;> first | k_is | kit_is | rfl | decide +kernel | kernel_rfl))
    (case a_any_end => first | k_is | kit_is | rfl | decide +kernel | kernel_rfl | (and_intros <;> first | k_is | kit_is | rfl | decide +kernel | kernel_rfl))
    (case l_any_end => first | k_is | kit_is | rfl | decide +kernel | kernel_rfl | (and_intros <;> first | k_is | kit_is | rfl | decide +kernel | kernel_rfl))
    (case q_any_end => first | k_is | kit_is | rfl | decide +kernel | kernel_rfl | (and_intros <;> first | k_is | kit_is | rfl | decide +kernel | kernel_rfl))
    (case k_any_end => first | k_is | kit_is | rfl | decide +kernel | kernel_rfl | (and_intros <;> first | k_is | kit_is | rfl | decide +kernel | kernel_rfl))
    (case a_any_row => first | k_is | kit_is | rfl | decide +kernel | kernel_rfl | (and_intros <;> first | k_is | kit_is | rfl | decide +kernel | kernel_rfl))
    (case l_any_row => first | k_is | kit_is | rfl | decide +kernel | kernel_rfl | (and_intros <;> first | k_is | kit_is | rfl | decide +kernel | kernel_rfl))
    (case q_any_row => first | k_is | kit_is | rfl | decide +kernel | kernel_rfl | (and_intros <;> first | k_is | kit_is | rfl | decide +kernel | kernel_rfl))
    (case k_any_row => first | k_is | kit_is | rfl | decide +kernel | kernel_rfl | (and_intros <;> first | k_is | kit_is | rfl | decide +kernel | kernel_rfl))
    (case a_any_rows => first | k_is | kit_is | rfl | decide +kernel | kernel_rfl | (and_intros <;> first | k_is | kit_is | rfl | decide +kernel | kernel_rfl))
    (case l_any_rows => first | k_is | kit_is | rfl | decide +kernel | kernel_rfl | (and_intros <;> first | k_is | kit_is | rfl | decide +kernel | kernel_rfl))
    (case q_any_rows => first | k_is | kit_is | rfl | decide +kernel | kernel_rfl | (and_intros <;> first | k_is | kit_is | rfl | decide +kernel | kernel_rfl))
    (case k_any_rows => first | k_is | kit_is | rfl | decide +kernel | kernel_rfl | (and_intros <;> first | k_is | kit_is | rfl | decide +kernel | kernel_rfl))
    (case a_sided => first | k_is | kit_is | rfl | decide +kernel | kernel_rfl | (and_intros <;> first | k_is | kit_is | rfl | decide +kernel | kernel_rfl))
    (case l_sided => first | k_is | kit_is | rfl | decide +kernel | kernel_rfl | (and_intros <;> first | k_is | kit_is | rfl | decide +kernel | kernel_rfl))
    (case q_sided => first | k_is | kit_is | rfl | decide +kernel | kernel_rfl | (and_intros <;> first | k_is | kit_is | rfl | decide +kernel | kernel_rfl))
    (case k_sided => first | k_is | kit_is | rfl | decide +kernel | kernel_rfl | (and_intros <;> first | k_is | kit_is | rfl | decide +kernel | kernel_rfl))
    (case a_no_row => first | k_is | kit_is | rfl | decide +kernel | kernel_rfl | (and_intros <;> first | k_is | kit_is | rfl | decide +kernel | kernel_rfl))
    (case l_no_row => first | k_is | kit_is | rfl | decide +kernel | kernel_rfl | (and_intros <;> first | k_is | kit_is | rfl | decide +kernel | kernel_rfl))
    (case q_no_row => first | k_is | kit_is | rfl | decide +kernel | kernel_rfl | (and_intros <;> first | k_is | kit_is | rfl | decide +kernel | kernel_rfl))
    (case k_no_row => first | k_is | kit_is | rfl | decide +kernel | kernel_rfl | (and_intros <;> first | k_is | kit_is | rfl | decide +kernel | kernel_rfl))
    (case a_told => first | k_is | kit_is | rfl | decide +kernel | kernel_rfl | (and_intros <;> first | k_is | kit_is | rfl | decide +kernel | kernel_rfl))
    (case l_told => first | k_is | kit_is | rfl | decide +kernel | kernel_rfl | (and_intros <;> first | k_is | kit_is | rfl | decide +kernel | kernel_rfl))
    (case q_told => first | k_is | kit_is | rfl | decide +kernel | kernel_rfl | (and_intros <;> first | k_is | kit_is | rfl | decide +kernel | kernel_rfl))
    (case k_told => first | k_is | kit_is | rfl | decide +kernel | kernel_rfl | (and_intros <;> first | k_is | kit_is | rfl | decide +kernel | kernel_rfl))
    (case a_law => first | k_is | kit_is | rfl | decide +kernel | kernel_rfl | (and_intros <;> first | k_is | kit_is | rfl | decide +kernel | kernel_rfl))
    (case l_law => first | k_is | kit_is | rfl | decide +kernel | kernel_rfl | (and_intros <;> first | k_is | kit_is | rfl | decide +kernel | kernel_rfl))
    (case q_law => first | k_is | kit_is | rfl | decide +kernel | kernel_rfl | (and_intros <;> first | k_is | kit_is | rfl | decide +kernel | kernel_rfl))
    (case k_law => first | k_is | kit_is | rfl | decide +kernel | kernel_rfl | (and_intros <;> first | k_is | kit_is | rfl | decide +kernel | kernel_rfl))
    (case z_ValueError => first | k_is | kit_is | rfl | decide +kernel | kernel_rfl | (and_intros <;> first | k_is | kit_is | rfl | decide +kernel | kernel_rfl))
    (case z_isinstance => first | k_is | kit_is | rfl | decide +kernel | kernel_rfl | (and_intros <;> first | k_is | kit_is | rfl | decide +kernel | kernel_rfl))
    (case z_int => first | k_is | kit_is | rfl | decide +kernel | kernel_rfl | (and_intros <;> first | k_is | kit_is | rfl | decide +kernel | kernel_rfl))
    (case z_bool => first | k_is | kit_is | rfl | decide +kernel | kernel_rfl | (and_intros <;> first | k_is | kit_is | rfl | decide +kernel | kernel_rfl))
    (case z_tuple => first | k_is | kit_is | rfl | decide +kernel | kernel_rfl | (and_intros <;> first | k_is | kit_is | rfl | decide +kernel | kernel_rfl))
    (case z_list => first | k_is | kit_is | rfl | decide +kernel | kernel_rfl | (and_intros <;> first | k_is | kit_is | rfl | decide +kernel | kernel_rfl))
    (case z_str => first | k_is | kit_is | rfl | decide +kernel | kernel_rfl | (and_intros <;> first | k_is | kit_is | rfl | decide +kernel | kernel_rfl))
    (case z_dict => first | k_is | kit_is | rfl | decide +kernel | kernel_rfl | (and_intros <;> first | k_is | kit_is | rfl | decide +kernel | kernel_rfl))
    (case z_len => first | k_is | kit_is | rfl | decide +kernel | kernel_rfl | (and_intros <;> first | k_is | kit_is | rfl | decide +kernel | kernel_rfl))
    (case z_all => first | k_is | kit_is | rfl | decide +kernel | kernel_rfl | (and_intros <;> first | k_is | kit_is | rfl | decide +kernel | kernel_rfl))
    (case z_range => first | k_is | kit_is | rfl | decide +kernel | kernel_rfl | (and_intros <;> first | k_is | kit_is | rfl | decide +kernel | kernel_rfl))
    (case z_zip => first | k_is | kit_is | rfl | decide +kernel | kernel_rfl | (and_intros <;> first | k_is | kit_is | rfl | decide +kernel | kernel_rfl))
    (case z_min => first | k_is | kit_is | rfl | decide +kernel | kernel_rfl | (and_intros <;> first | k_is | kit_is | rfl | decide +kernel | kernel_rfl))
    (case z_max => first | k_is | kit_is | rfl | decide +kernel | kernel_rfl | (and_intros <;> first | k_is | kit_is | rfl | decide +kernel | kernel_rfl))
    (case z_enumerate => first | k_is | kit_is | rfl | decide +kernel | kernel_rfl | (and_intros <;> first | k_is | kit_is | rfl | decide +kernel | kernel_rfl))
    (case z_sorted => first | k_is | kit_is | rfl | decide +kernel | kernel_rfl | (and_intros <;> first | k_is | kit_is | rfl | decide +kernel | kernel_rfl))
