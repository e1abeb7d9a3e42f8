import PyProof.Rows.All
import Wide.All
import OpenK.AllK
import Wide.FinOn
import HandS.ForMost
import HandS.Gcd
import HandS.Wide
import HandS.EndBits
import HandS.IsInst
import HandS.SortInts
import HandS.NoneIn
import HandS.More
import HandS.Codes
import HandS.Zip
import HandS.ClsMeth
import HandS.ExcInit
import HandS.ExcIs
import HandS.ExcField
import HandS.ExcOwn
import HandS.WordsExc
import HandS.TryOnly
import HandS.TryMany
import HandS.FStrTup
import HandS.FStr
import KE.KExcIs
import KE.RegKIsAll
import PySem.Challenge.RW_pactford_k06_handles_refused
namespace My
def g (ns : List Int) (i : Nat) : Int := ns.getD i 0
def swp (ns : List Int) (i j : Nat) : List Int := (ns.set i (g ns j)).set j (g ns i)
theorem swp_len (ns : List Int) (i j : Nat) : (swp ns i j).length = ns.length := by unfold swp; rw [List.length_set, List.length_set]
theorem g_lt {ns : List Int} {i : Nat} (h : i < ns.length) : ns[i]? = some (g ns i) := by
  unfold g
  rw [List.getD_eq_getElem?_getD, List.getElem?_eq_getElem h]
  rfl
theorem g_swp {ns : List Int} {i j : Nat} (hi : i < ns.length) (hj : j < ns.length) (k : Nat) : g (swp ns i j) k = if k = j then g ns i else if k = i then g ns j else g ns k := by
  show (swp ns i j).getD k 0 = _
  unfold swp
  rw [List.getD_eq_getElem?_getD, List.getElem?_set, List.length_set, List.getElem?_set]
  by_cases h1 : j = k
  · subst h1
    simp only [if_true, if_pos hj]
    rfl
  · have h1' : ¬ k = j := fun q => h1 q.symm
    simp only [if_neg h1, if_neg h1']
    by_cases h2 : i = k
    · subst h2
      simp only [if_true, if_pos hi]
      rfl
    · have h2' : ¬ k = i := fun q => h2 q.symm
      simp only [if_neg h2, if_neg h2']
      unfold g
      rw [List.getD_eq_getElem?_getD]
theorem swp_perm {ns : List Int} {i j : Nat} (hi : i < ns.length) (hj : j < ns.length) : (swp ns i j).Perm ns := by
  have e1 : g ns j = ns[j] := by
    have := g_lt hj
    rw [List.getElem?_eq_getElem hj] at this
    exact (Option.some.inj this).symm
  have e2 : g ns i = ns[i] := by
    have := g_lt hi
    rw [List.getElem?_eq_getElem hi] at this
    exact (Option.some.inj this).symm
  unfold swp
  rw [e1, e2]
  exact List.set_set_perm hi hj
def IsHeap (ns : List Int) : Prop := ∀ i, 0 < i → i < ns.length → g ns ((i - 1) / 2) ≤ g ns i
def UpI (ns : List Int) (pos : Nat) : Prop := (∀ i, 0 < i → i < ns.length → i ≠ pos → g ns ((i - 1) / 2) ≤ g ns i) ∧
  ∀ c, 0 < c → c < ns.length → (c - 1) / 2 = pos → 0 < pos → g ns ((pos - 1) / 2) ≤ g ns c
def DnI (ns : List Int) (pos : Nat) : Prop := (∀ i, 0 < i → i < ns.length → i ≠ pos → (i - 1) / 2 ≠ pos → g ns ((i - 1) / 2) ≤ g ns i) ∧
  ∀ c, 0 < c → c < ns.length → (c - 1) / 2 = pos → 0 < pos → g ns ((pos - 1) / 2) ≤ g ns c
theorem UpI.done {ns : List Int} {pos : Nat} (h : UpI ns pos) (hp : pos = 0 ∨ g ns ((pos - 1) / 2) ≤ g ns pos) : IsHeap ns := by
  intro i h0 hl
  by_cases e : i = pos
  · subst e
    rcases hp with e | e
    · omega
    · exact e
  · exact h.1 i h0 hl e
theorem UpI.step {ns : List Int} {pos : Nat} (h : UpI ns pos) (h0 : 0 < pos) (hl : pos < ns.length) (hlt : g ns pos < g ns ((pos - 1) / 2)) : UpI (swp ns ((pos - 1) / 2) pos) ((pos - 1) / 2) := by
  have hq : (pos - 1) / 2 < ns.length := by omega
  have G := g_swp hq hl
  refine ⟨fun i i0 il ne => ?_, fun c c0 cl e q0 => ?_⟩
  · rw [swp_len] at il
    rw [G, G]
    by_cases e1 : i = pos
    · subst e1
      rw [if_pos rfl, if_neg (by omega), if_pos rfl]
      omega
    · rw [if_neg e1, if_neg ne]
      by_cases e2 : (i - 1) / 2 = pos
      · rw [if_pos e2]
        exact h.2 i i0 il e2 h0
      · rw [if_neg e2]
        by_cases e3 : (i - 1) / 2 = (pos - 1) / 2
        · rw [if_pos e3]
          have := h.1 i i0 il e1
          rw [e3] at this
          omega
        · rw [if_neg e3]
          exact h.1 i i0 il e1
  · rw [swp_len] at cl
    rw [G, G]
    have k1 := h.1 ((pos - 1) / 2) q0 hq (by omega)
    rw [if_neg (by omega), if_neg (by omega)]
    by_cases e1 : c = pos
    · rw [if_pos e1]
      exact k1
    · rw [if_neg e1, if_neg (by omega)]
      have k2 := h.1 c c0 cl e1
      rw [e] at k2
      omega
theorem DnI.leaf {ns : List Int} {pos : Nat} (h : DnI ns pos) (hl : ¬ pos < ns.length / 2) : UpI ns pos :=
  ⟨fun i i0 il ne => h.1 i i0 il ne (by omega), h.2⟩
theorem DnI.step {ns : List Int} {pos m : Nat} (h : DnI ns pos) (hm : m < ns.length) (m0 : 0 < m) (e : (m - 1) / 2 = pos) (hmin : ∀ c, 0 < c → c < ns.length → (c - 1) / 2 = pos → g ns m ≤ g ns c) : DnI (swp ns m pos) m := by
  have hp : pos < ns.length := by omega
  have G := g_swp hm hp
  refine ⟨fun i i0 il n1 n2 => ?_, fun c c0 cl ec _ => ?_⟩
  · rw [swp_len] at il
    rw [G, G]
    by_cases e1 : i = pos
    · rw [if_pos e1, if_neg (by omega), if_neg n2]
      subst e1
      exact h.2 m m0 hm e i0
    · rw [if_neg e1, if_neg n1]
      by_cases e2 : (i - 1) / 2 = pos
      · rw [if_pos e2]
        exact hmin i i0 il e2
      · rw [if_neg e2, if_neg n2]
        exact h.1 i i0 il e1 e2
  · rw [swp_len] at cl
    rw [G, G]
    rw [e, if_pos rfl, if_neg (by omega), if_neg (by omega)]
    have := h.1 c c0 cl (by omega) (by omega)
    rw [ec] at this
    exact this
theorem IsHeap.least {ns : List Int} (h : IsHeap ns) : ∀ i, i < ns.length → g ns 0 ≤ g ns i := by
  intro i
  induction i using Nat.strongRecOn with
  | _ i ih =>
    intro hl
    by_cases h0 : i = 0
    · subst h0; exact Int.le_refl _
    · exact Int.le_trans (ih ((i - 1) / 2) (by omega) (by omega)) (h i (by omega) hl)
theorem IsHeap.least_mem {ns : List Int} (h : IsHeap ns) {x : Int} (hx : x ∈ ns) : g ns 0 ≤ x := by
  obtain ⟨i, hi, e⟩ := List.mem_iff_getElem.mp hx
  have := h.least i hi
  have q := g_lt hi
  rw [List.getElem?_eq_getElem hi, e] at q
  rw [← Option.some.inj q] at this
  exact this
/-- one more at the end -/
theorem IsHeap.push {ns : List Int} (h : IsHeap ns) (x : Int) : UpI (ns ++ [x]) ns.length := by
  have ga : ∀ i, i < ns.length → g (ns ++ [x]) i = g ns i := fun i hi => by
    unfold g
    rw [List.getD_eq_getElem?_getD, List.getElem?_append_left hi, List.getD_eq_getElem?_getD]
  refine ⟨fun i i0 il ne => ?_, fun c c0 cl e _ => ?_⟩
  · rw [List.length_append, List.length_singleton] at il
    rw [ga i (by omega), ga _ (by omega)]
    exact h i i0 (by omega)
  · rw [List.length_append, List.length_singleton] at cl
    omega
/-- the last one put in the first one's place -/
theorem IsHeap.pop {ns : List Int} (h : IsHeap ns) (x : Int) : DnI (ns.dropLast.set 0 x) 0 := by
  have hlen : (ns.dropLast.set 0 x).length = ns.length - 1 := by rw [List.length_set, List.length_dropLast]
  have ga : ∀ i, 0 < i → i < ns.length - 1 → g (ns.dropLast.set 0 x) i = g ns i := fun i i0 hi => by
    unfold g
    rw [List.getD_eq_getElem?_getD, List.getElem?_set, if_neg (by omega), List.getD_eq_getElem?_getD, List.getElem?_dropLast, if_pos hi]
  refine ⟨fun i i0 il n1 n2 => ?_, fun c c0 cl e q => absurd q (by omega)⟩
  rw [hlen] at il
  rw [ga i i0 il, ga _ (by omega) (by omega)]
  exact h i i0 (by omega)
theorem pop_perm {ns : List Int} (h2 : 2 ≤ ns.length) : (g ns 0 :: (ns.dropLast.set 0 (g ns (ns.length - 1)))).Perm ns := by
  match ns, h2 with
  | a :: b :: r, _ =>
    have e1 : g (a :: b :: r) 0 = a := rfl
    have e2 : g (a :: b :: r) ((a :: b :: r).length - 1) = (b :: r).getLast (by simp) := by
      unfold g
      rw [List.getD_eq_getElem?_getD, ← List.getLast?_eq_getElem?, List.getLast?_cons_cons, List.getLast?_eq_some_getLast (by simp)]
      rfl
    rw [e1, e2, List.dropLast_cons_cons, List.set_cons_zero]
    refine List.Perm.cons _ ?_
    have e3 : (b :: r).dropLast ++ [(b :: r).getLast (by simp)] = b :: r := List.dropLast_concat_getLast _
    exact (List.perm_append_comm (l₁ := [(b :: r).getLast (by simp)]) (l₂ := (b :: r).dropLast)).trans (by rw [e3])
end My

set_option maxRecDepth 100000
set_option maxHeartbeats 4000000
namespace My
open PySem
theorem plain_sift : plainId "_heapq.heapify.sift" = true := by decide +kernel
theorem entry_sift : entryFor table "_heapq.heapify.sift" = some Builtin.«_heapq.heapify.sift» := entryFor_of_tree (by kernel_rfl)
theorem entry_push : entryFor table "_heapq.heappush" = some Builtin.«_heapq.heappush» := entryFor_of_tree (by kernel_rfl)
theorem kind_push : builtinKind "_heapq.heappush" = none := by kernel_rfl
theorem plain_push : plainId "_heapq.heappush" = true := by decide +kernel
theorem args_push (a b : Value) : argsOk "_heapq.heappush" ⟨[a, b], []⟩ := by unfold argsOk; kernel_rfl
theorem entry_pop : entryFor table "_heapq.heappop" = some Builtin.«_heapq.heappop» := entryFor_of_tree (by kernel_rfl)
theorem kind_pop : builtinKind "_heapq.heappop" = none := by kernel_rfl
theorem plain_pop : plainId "_heapq.heappop" = true := by decide +kernel
theorem args_pop (a : Value) : argsOk "_heapq.heappop" ⟨[a], []⟩ := by unfold argsOk; kernel_rfl

abbrev lobj (its : List Value) (n : Nat) : Obj := { cls := .type "list", dict := none, data := .seq its.toArray n, slots := #[] }
def Ints (its : List Value) (ns : List Int) : Prop := L2.Vals (ns.map L2.V.int) its
theorem Ints.len {its : List Value} {ns : List Int} (h : Ints its ns) : its.length = ns.length := by
  have := L2.Vals.length h
  rw [List.length_map] at this
  exact this.symm
theorem Ints.at_ {its : List Value} {ns : List Int} (h : Ints its ns) {i : Nat} (hi : i < ns.length) : ∃ t, its[i]? = some (.int (g ns i) t) := by
  have e : (ns.map L2.V.int)[i]? = some (.int (g ns i)) := by rw [List.getElem?_map, g_lt hi]; rfl
  obtain ⟨u, hu, t, rfl⟩ := L2.Vals.get h e
  exact ⟨t, hu⟩
theorem Ints.set {its : List Value} {ns : List Int} (h : Ints its ns) (i : Nat) (x : Int) (t : Tok) : Ints (its.set i (.int x t)) (ns.set i x) := by
  unfold Ints
  rw [List.map_set]
  exact L2.Vals.set (x := .int x) (u := .int x t) ⟨t, rfl⟩ i h
theorem less_int {prog : Program} {w : World} {A : Around} {E : Value → Shared → Prop} {s : Shared} {a b : Int} {t u : Tok} {Q : Value → Shared → Prop} (h : Q (.bool (decide (a < b))) s) :
    wpAny (model prog w) A (richCompare .Lt (.int a t) (.int b u)) Q E s := wpAny_lt_int h
/-- what the sifting leaves -/
def Sifted (l : Addr) (n : Nat) (ns : List Int) (r : Value) (R : Result → Shared → Prop) (s : Shared) : Prop :=
  ∀ (its' : List Value) (ns' : List Int) (h' : Heap) (tk' : Nat), Ints its' ns' → ns'.Perm ns → IsHeap ns' → h'.get? l = some (lobj its' n) → (∀ b o, b ≠ l → s.heap.get? b = some o → h'.get? b = some o) →
    R (.ok (.ret r)) { s with heap := h', toks := tk' }
section
variable {prog : Program} {w : World} {A : Around} {E : Value → Shared → Prop} {hh : Heap} {gg : Array GenState} {d : Drawn} {tk : Nat} {os : OsState} {l : Addr} {its : List Value} {n : Nat}
abbrev swf (i j : Nat) (x y : Value) : Array Value → Array Value := fun xs => (xs.setIfInBounds i x).setIfInBounds j y
theorem swap_rule {M : Model} {i j : Nat} {x y : Value} {Q : Unit → Shared → Prop} (hl : hh.get? l = some (lobj its n)) (hz : its.length ≤ sizeLine)
    (h : Q () ⟨hh.update l (Obj.mapSeq (swf i j x y)), gg, d, tk, os⟩) : wpAny M A (updateSeq l fun xs => (xs.setIfInBounds i x).setIfInBounds j y) Q E ⟨hh, gg, d, tk, os⟩ :=
  wpAny_updateSeq (s := ⟨hh, gg, d, tk, os⟩) (xs := its.toArray) (n := n) hl rfl h (by rw [List.size_toArray]; exact hz) (by rw [Array.size_setIfInBounds, Array.size_setIfInBounds, List.size_toArray]; omega)
theorem swapped {i j : Nat} {x y : Value} (hl : hh.get? l = some (lobj its n)) : (hh.update l (Obj.mapSeq (swf i j x y))).get? l = some (lobj ((its.set i x).set j y) n) := by
  rw [Heap.get?_update_self _ hl rfl]
  simp [Obj.mapSeq, swf, lobj]
theorem sift_again {args : Args} {R : Result → Shared → Prop} {s : Shared}
    (h : wpAny (model prog w) A.in1 (Builtin.«_heapq.heapify.sift» args) (fun fin s' => match fin with | .done f => R (.ok f) s' | .again c' => c'.quiet = true ∧ codeAny (model prog w) A c' R s') (fun e s' => R (.error e) s') s) :
    wpAny (model prog w) A.in1 (again (.builtin "_heapq.heapify.sift" args)) (fun fin s' => match fin with | .done f => R (.ok f) s' | .again c' => c'.quiet = true ∧ codeAny (model prog w) A c' R s') (fun e s' => R (.error e) s') s :=
  wpAny_pure ⟨plainId_quiet plain_sift _, codeAny_builtin entry_sift (by rw [Around.under_plainId plain_sift _]; exact h)⟩
end
theorem up_loop (l : Addr) (n : Nat) (r : Value) : ∀ (k pos : Nat) (its : List Value) (ns : List Int), pos ≤ k → Ints its ns → ns.length ≤ sizeLine → pos < ns.length → UpI ns pos →
    Meets (Builtin.«_heapq.heapify.sift» ⟨[.ref l, .bool false, .bool false, rawInt pos, rawInt 0, r, rawInt (-1)], []⟩)
      (fun _ R s => s.heap.get? l = some (lobj its n) ∧ Sifted l n ns r R s) := by
  intro k
  induction k with
  | zero =>
    intro pos its ns hk hv hz hp hI prog w A R s h
    obtain rfl : pos = 0 := by omega
    obtain ⟨hp, g, d, tk, os⟩ := s; obtain ⟨hl, h⟩ := h
    wp_walk using PySem.AutoSeq1.wpAny_loadPart' hl
    exact h its ns hp tk hv (List.Perm.refl _) (hI.done (.inl rfl)) hl fun b o _ e => e
  | succ k ih =>
    intro pos its ns hk hv hz hp hI prog w A R s h
    by_cases h0 : pos = 0
    · subst h0
      obtain ⟨hp, g, d, tk, os⟩ := s; obtain ⟨hl, h⟩ := h
      wp_walk using PySem.AutoSeq1.wpAny_loadPart' hl
      exact h its ns hp tk hv (List.Perm.refl _) (hI.done (.inl rfl)) hl fun b o _ e => e
    have hp0 : 0 < pos := by omega
    obtain ⟨hh, gg, d, tk, os⟩ := s; obtain ⟨hl, h⟩ := h
    have hq : (pos - 1) / 2 < ns.length := by omega
    obtain ⟨t1, e1⟩ := hv.at_ hp
    obtain ⟨t2, e2⟩ := hv.at_ hq
    have f1 : its.toArray[((pos : Nat) : Int).toNat]? = some (.int (g ns pos) t1) := by simpa using e1
    have f2 : its.toArray[(((pos : Nat) : Int).toNat - 1) / 2]? = some (.int (g ns ((pos - 1) / 2)) t2) := by simpa using e2
    wp_walk using PySem.AutoSeq1.wpAny_loadPart' hl
    rw [f1]
    wp_walk using PySem.AutoSeq1.wpAny_loadPart' hl
    rw [f2]
    wp_walk using PySem.AutoSeq1.wpAny_loadPart' hl, less_int
    by_cases hlt : g ns pos < g ns ((pos - 1) / 2)
    · rw [decide_eq_true hlt]
      wp_walk using PySem.AutoSeq1.wpAny_loadPart' hl
      rw [f2]
      wp_walk using PySem.AutoSeq1.wpAny_loadPart' hl
      rw [f1]
      refine wpAny_pure (swap_rule hl (by rw [hv.len]; exact hz) ?_)
      refine sift_again ?_
      have ep : (((pos : Nat) : Int).toNat - 1) / 2 = (pos - 1) / 2 := by rw [Int.toNat_natCast]
      rw [ep, Int.toNat_natCast]
      have hv' : Ints ((its.set ((pos - 1) / 2) (.int (g ns pos) t1)).set pos (.int (g ns ((pos - 1) / 2)) t2)) (swp ns ((pos - 1) / 2) pos) := (hv.set _ _ _).set _ _ _
      refine ih ((pos - 1) / 2) _ _ (by omega) hv' (by rw [swp_len]; exact hz) (by rw [swp_len]; exact hq) (hI.step hp0 hp hlt) prog w A R _ ⟨swapped hl, fun its' ns' h' tk' a1 a2 a3 a4 a5 => ?_⟩
      exact h its' ns' h' tk' a1 (a2.trans (swp_perm hq hp)) a3 a4 fun b o hb e => a5 b o hb ((Heap.get?_update_other hh _ (Ne.symm hb)).trans e)
    · rw [decide_eq_false hlt]
      wp_walk using PySem.AutoSeq1.wpAny_loadPart' hl
      exact h its ns hh tk hv (List.Perm.refl _) (hI.done (.inr (by omega))) hl fun b o _ e => e

theorem dn_loop (l : Addr) (n : Nat) (r : Value) : ∀ (k pos : Nat) (its : List Value) (ns : List Int), ns.length - pos ≤ k → Ints its ns → ns.length ≤ sizeLine → pos < ns.length → DnI ns pos →
    Meets (Builtin.«_heapq.heapify.sift» ⟨[.ref l, .bool false, .bool true, rawInt pos, rawInt 0, r, rawInt (-1)], []⟩)
      (fun _ R s => s.heap.get? l = some (lobj its n) ∧ Sifted l n ns r R s) := by
  intro k
  induction k with
  | zero =>
    intro pos its ns hk hv hz hp hI prog w A R s h
    omega
  | succ k ih =>
    intro pos its ns hk hv hz hp hI prog w A R s h
    obtain ⟨hh, gg, d, tk, os⟩ := s; obtain ⟨hl, h⟩ := h
    have hsz : its.toArray.size = ns.length := by rw [List.size_toArray, hv.len]
    by_cases hlf : pos < ns.length / 2
    · have hlf' : ((pos : Nat) : Int).toNat < its.toArray.size / 2 := by rw [hsz, Int.toNat_natCast]; exact hlf
      have hL : 2 * pos + 1 < ns.length := by omega
      obtain ⟨t1, e1⟩ := hv.at_ hp
      obtain ⟨t2, e2⟩ := hv.at_ hL
      have f1 : its.toArray[((pos : Nat) : Int).toNat]? = some (.int (g ns pos) t1) := by simpa using e1
      have f2 : its.toArray[2 * ((pos : Nat) : Int).toNat + 1]? = some (.int (g ns (2 * pos + 1)) t2) := by simpa using e2
      have go : ∀ (m : Nat) (t : Tok) (Q : Unit → Shared → Prop), m < ns.length → 0 < m → (m - 1) / 2 = pos → (∀ c, 0 < c → c < ns.length → (c - 1) / 2 = pos → g ns m ≤ g ns c) →
          wpAny (model prog w) A.in1 (updateSeq l fun xs => (xs.setIfInBounds m (.int (g ns pos) t1)).setIfInBounds pos (.int (g ns m) t))
            (fun _ s' => wpAny (model prog w) A.in1 (again (.builtin "_heapq.heapify.sift" ⟨[.ref l, .bool false, .bool true, rawInt m, rawInt 0, r, rawInt (-1)], []⟩))
              (fun fin s' => match fin with | .done f => R (.ok f) s' | .again c' => c'.quiet = true ∧ codeAny (model prog w) A c' R s') (fun e s' => R (.error e) s') s')
            (fun e s' => R (.error e) s') ⟨hh, gg, d, tk, os⟩ := by
        intro m t Q hm m0 em hmin
        refine swap_rule hl (by rw [hv.len]; exact hz) ?_
        refine sift_again ?_
        have hv' : Ints ((its.set m (.int (g ns pos) t1)).set pos (.int (g ns m) t)) (swp ns m pos) := (hv.set _ _ _).set _ _ _
        refine ih m _ _ (by rw [swp_len]; omega) hv' (by rw [swp_len]; exact hz) (by rw [swp_len]; exact hm) (hI.step hm m0 em hmin) prog w A R _ ⟨swapped hl, fun its' ns' h' tk' a1 a2 a3 a4 a5 => ?_⟩
        exact h its' ns' h' tk' a1 (a2.trans (swp_perm hm hp)) a3 a4 fun b o hb e => a5 b o hb ((Heap.get?_update_other hh _ (Ne.symm hb)).trans e)
      by_cases hR : 2 * pos + 1 + 1 < ns.length
      · have hR' : 2 * ((pos : Nat) : Int).toNat + 1 + 1 < its.toArray.size := by rw [hsz, Int.toNat_natCast]; exact hR
        obtain ⟨t3, e3⟩ := hv.at_ hR
        have f3 : its.toArray[2 * ((pos : Nat) : Int).toNat + 1 + 1]? = some (.int (g ns (2 * pos + 1 + 1)) t3) := by simpa using e3
        wp_walk using PySem.AutoSeq1.wpAny_loadPart' hl
        rw [f2]
        wp_walk using PySem.AutoSeq1.wpAny_loadPart' hl
        rw [f3]
        wp_walk using PySem.AutoSeq1.wpAny_loadPart' hl, less_int
        by_cases hlt : g ns (2 * pos + 1) < g ns (2 * pos + 1 + 1)
        · rw [decide_eq_true hlt]
          wp_walk using PySem.AutoSeq1.wpAny_loadPart' hl
          rw [f2]
          wp_walk using PySem.AutoSeq1.wpAny_loadPart' hl
          rw [f1]
          refine wpAny_pure ?_
          rw [Int.toNat_natCast]
          refine go (2 * pos + 1) t2 (fun _ _ => True) hL (by omega) (by omega) fun c c0 cl ec => ?_
          have : c = 2 * pos + 1 ∨ c = 2 * pos + 1 + 1 := by omega
          rcases this with rfl | rfl <;> omega
        · rw [decide_eq_false hlt]
          wp_walk using PySem.AutoSeq1.wpAny_loadPart' hl
          rw [f3]
          wp_walk using PySem.AutoSeq1.wpAny_loadPart' hl
          rw [f1]
          refine wpAny_pure ?_
          rw [Int.toNat_natCast]
          refine go (2 * pos + 1 + 1) t3 (fun _ _ => True) hR (by omega) (by omega) fun c c0 cl ec => ?_
          have : c = 2 * pos + 1 ∨ c = 2 * pos + 1 + 1 := by omega
          rcases this with rfl | rfl <;> omega
      · have hR' : ¬ 2 * ((pos : Nat) : Int).toNat + 1 + 1 < its.toArray.size := by rw [hsz, Int.toNat_natCast]; exact hR
        wp_walk using PySem.AutoSeq1.wpAny_loadPart' hl
        rw [f2]
        wp_walk using PySem.AutoSeq1.wpAny_loadPart' hl
        rw [f1]
        refine wpAny_pure ?_
        rw [Int.toNat_natCast]
        refine go (2 * pos + 1) t2 (fun _ _ => True) hL (by omega) (by omega) fun c c0 cl ec => ?_
        have : c = 2 * pos + 1 := by omega
        subst this
        exact Int.le_refl _
    · have hlf' : ¬ ((pos : Nat) : Int).toNat < its.toArray.size / 2 := by rw [hsz, Int.toNat_natCast]; exact hlf
      wp_walk using PySem.AutoSeq1.wpAny_loadPart' hl
      refine ⟨plainId_quiet plain_sift _, codeAny_builtin entry_sift (by rw [Around.under_plainId plain_sift _]; exact up_loop l n r pos pos its ns (Nat.le_refl _) hv hz hp (hI.leaf hlf) prog w A R _ ⟨hl, h⟩)⟩
end My

set_option Elab.async false
set_option linter.all false
set_option maxRecDepth 100000
set_option maxHeartbeats 4000000
namespace L2
open PySem PySem.Spec PyProof.Rows
theorem iteD {p A B : Prop} [Decidable p] (h1 : p → A) (h2 : ¬ p → B) : if decide p = true then A else B := by
  by_cases h : p
  · rw [decide_eq_true h, if_pos rfl]; exact h1 h
  · rw [decide_eq_false h, if_neg Bool.false_ne_true]; exact h2 h
theorem iteB {b : Bool} {A B : Prop} (h1 : b = true → A) (h2 : b = false → B) : if b = true then A else B := by
  cases b with
  | true => rw [if_pos rfl]; exact h1 rfl
  | false => rw [if_neg Bool.false_ne_true]; exact h2 rfl
/-- a word that no step opens -/
@[irreducible] def Blk (p : Prop) : Prop := p
theorem Blk.of {p : Prop} (h : p) : Blk p := by unfold Blk; exact h
theorem Blk.out {p : Prop} (h : Blk p) : p := by unfold Blk at h; exact h
/-- all but the addresses of S stays -/
def Keeps (S : List Addr) (H H' : Hp) : Prop := ∀ b o, H b = some o → b ∉ S → H' b = some o
theorem Keeps.refl (S : List Addr) (H : Hp) : Keeps S H H := fun _ _ h _ => h
theorem Keeps.trans {S : List Addr} {H H1 H2 : Hp} (a : Keeps S H H1) (b : Keeps S H1 H2) : Keeps S H H2 := fun c o h n => b c o (a c o h n) n
theorem Keeps.mono {S S' : List Addr} {H H1 : Hp} (a : Keeps S H H1) (h : ∀ x ∈ S, x ∈ S') : Keeps S' H H1 := fun c o e n => a c o e fun q => n (h c q)
theorem Keeps.upd {S : List Addr} {H H1 : Hp} {x : Addr} {o : HO} (a : Keeps S H H1) (hx : x ∈ S ∨ H x = none) : Keeps S H (upd H1 x o) := fun c u e n => by
  have ne : c ≠ x := fun q => by
    subst q
    rcases hx with h | h
    · exact n h
    · rw [h] at e; cases e
  rw [upd_ne ne]
  exact a c u e n
/-- fresh at H1, so fresh at H (or in S) -/
theorem Keeps.fresh {S : List Addr} {H H1 : Hp} {x : Addr} (a : Keeps S H H1) (h : H1 x = none) : x ∈ S ∨ H x = none := by
  cases e : H x with
  | none => exact .inr rfl
  | some o =>
    by_cases hm : x ∈ S
    · exact .inl hm
    · rw [a x o e hm] at h; cases h
section
variable {X : Cx}
/-- xs[i], by values -/
def rGetL (K : PySem.W.Frag) : V → V → Hp → VK → Prop := fun x y H Q => ∃ p xs i v, x = .ref p ∧ y = .int i ∧ SqL K H p xs ∧ 0 ≤ i ∧ xs[i.toNat]? = some v ∧ Q v H
theorem pget_list : PGet X (rGetL X.K) := by
  intro pins s σ H o i ov iv Q I ro ri h
  obtain ⟨p, xs, j, v, rfl, rfl, hq, h0, hv, q⟩ := h
  cases ro
  obtain ⟨t, rfl⟩ := ri
  obtain ⟨its, r, pl, hz⟩ := I.list hq
  obtain ⟨w, ew, rw'⟩ := r.get hv
  have hl := r.length
  have hlt : j.toNat < xs.length := (List.getElem?_eq_some_iff.mp hv).1
  have hn := line63
  exact wpAny_getItem_list pl.isList h0 (by omega) (by simpa using ew) ⟨v, H, I, rw', q⟩
/-- the keywords alone: each parameter but the first by its name, in their order -/
structure KwB (K : PySem.W.Frag) (fd : FuncData) (ps ks : List Str) : Prop where
  to : ∀ (s : Shared) (u : Value) (ws : List Value), K.In s.heap → ws.length = ks.length → BindsTo s fd ⟨[u], ks.zip ws⟩ (ps.zip (u :: ws))
  len : ps.length = ks.length + 1
def tMethKw (C : Addr) (m : Str) (sp : Sp) (E : XK) (ta : TE) (tk : TA) : TE := fun σ H Q => ta σ H fun x H1 => ∃ a dx fs, x = .ref a ∧ H1 a = some (.ins C dx fs) ∧ fs.lookup m = none ∧
  tk σ H1 fun vs H2 => sp (x :: vs) H2 Q E
variable {CX : CXT} {k : Nat} {f C : Addr} {fd : FuncData} {ps ks : List Str} {sp : Sp} {E : XK} {m : Str} {pos apos : Pos} {o : Expr} {kws : List Keyword} {ta : TE} {tk : TA}
theorem run_kwm {pins : List (Addr × Obj)} {σ : St} {H : Hp} {s : Shared} {Q : VK} {u : Value} {v : V} {ws : List Value} {zs : List V} (F : FnOk X.prog X.w X.K X.mg X.base CX k f fd ps sp) (hr : Room k X.A) (hb : KwB X.K fd ps ks) (hx : Passes CX X E)
    (I : Inv X pins σ H s) (r : RelV v u) (rz : Vals zs ws) (h : sp (v :: zs) H Q E) : wpAny (model X.prog X.w) X.A (call (.ref f) [u] (ks.zip ws)) (EP X pins σ Q) X.xe s := by
  have r2 : Vals (v :: zs) (u :: ws) := .cons r rz
  have hl : (u :: ws).length = ps.length := by rw [← r2.length]; exact F.len _ _ _ _ h
  have hl2 : ws.length = ks.length := by have := hb.len; rw [List.length_cons] at hl; omega
  refine wpAny_call (codeAny_mono (F.run X.A X.stack s H ⟨[u], ks.zip ws⟩ (u :: ws) (v :: zs) Q E hr I.env0 (hb.to s u ws I.kIn hl2) r2 h) fun r s' hq => ?_)
  cases r with
  | error e => exact hx pins σ H s e s' I hq
  | ok fl =>
    cases fl with
    | ret u => exact I.after hq
    | next => exact False.elim hq
    | brk => exact False.elim hq
    | cont => exact False.elim hq
/-- o.m(k = v, ..) -/
theorem pe_methKw {pl : Sem Bool} (he : PE X o ta) (c : Cls X.K C) (hm : Meth X.K C m f) (F : FnOk X.prog X.w X.K X.mg X.base CX k f fd ps sp) (hr : Room k X.A) (hb : KwB X.K fd ps ks) (hx : Passes CX X E) (hkw : PK X kws tk)
    (hall : (backToKw pos (keywordEach kws X.env)).all (·.1.isSome) = true := by rfl) (hks : (backToKw pos (keywordEach kws X.env)).filterMap (·.1) = ks := by rfl)
    (hpl : ((backTo pos (starEach [] X.env)).any (·.1) || (backToKw pos (keywordEach kws X.env)).any (·.1.isNone)) = false := by rfl)
    (ht : eval (.Call (.Attribute o m apos) [] kws pos) X.env = (do
      let v0 ← eval o X.env
      standAt apos.atName
      let (g, frst) ← holding [v0] (getMethod v0 m pl)
      callWith pos g frst (backTo pos (starEach [] X.env)) (backToKw pos (keywordEach kws X.env))) := by rfl) :
    PE X (.Call (.Attribute o m apos) [] kws pos) (tMethKw C m sp E ta tk) := by
  constructor
  intro pins s σ H Q I h
  refine PySem.W.methodCall_KW (pl := pl) (thn (he.run pins s σ H _ I h) fun w s1 ⟨y, H1, I1, ry, a, dx, fs, ey, ea, l, q⟩ => ?_) ht
  subst ey
  obtain rfl : w = Value.ref a := ry
  refine getmeth_ok I1 ea c hm l (PySem.W.callWith_KW0 (h₀ := X.base) I.ok.mod.kin hm.kp hall (thn (hkw.run pos pins s1 σ H1 _ I1 q) fun ws s2 ⟨zs, H2, I2, rz, q2⟩ => ⟨I2.kIn, ?_⟩) hpl)
  rw [hks]
  exact run_kwm (v := .ref a) F hr hb hx I2 rfl rz q2
end
theorem kwb_mk {K : PySem.W.Frag} {x qual : Str} {st : Stmt} {f : Addr} {fd : FuncData} {ps ks : List Str} (F : Fun K x qual st f fd) (hl : ps.length = ks.length + 1)
    (h : ∀ (kV doc pm : Value) (an : Option Addr) (cdv ct : Value) (u : Value) (ws : List Value), ws.length = ks.length → bindArgs (PySem.W.fnOf x qual (defArgs st) (defBody st) (defScope st) .none kV doc pm an cdv ct) ⟨[u], ks.zip ws⟩ = pure (ps.zip (u :: ws))) : KwB K fd ps ks := by
  obtain ⟨_, _, kV, doc, pm, an, cdv, ct, _, rfl, _, _⟩ := F.ex
  exact ⟨fun s u ws _ hw => .of_eq (h kV doc pm an cdv ct u ws hw), hl⟩
/-! ### the box of draws -/
/-- a box at b: its great cells at g, the rest of the one that is drawn from, the lesser cells at l, how many draws -/
def BoxAt (H : Hp) (b g l : Addr) (n : Int) : Prop := ∃ (gs ls : List Int) (cur : Int), H b = some (.lst [.ref g, .int cur, .ref l, .int n]) ∧ H g = some (.lst (gs.map V.int)) ∧ H l = some (.lst (ls.map V.int)) ∧ b ≠ g ∧ b ≠ l ∧ g ≠ l ∧ gs.length ≤ 63 ∧ ls.length ≤ 63
theorem ints_get {ns : List Int} {i : Nat} {y : V} (h : (ns.map V.int)[i]? = some y) : ∃ z, ns[i]? = some z ∧ y = V.int z := by
  rw [List.getElem?_map] at h
  cases e : ns[i]? with
  | none => rw [e] at h; cases h
  | some z => rw [e] at h; exact ⟨z, rfl, (Option.some.inj h).symm⟩
theorem get_lt {α : Type} {xs : List α} {i : Nat} {y : α} (h : xs[i]? = some y) : i < xs.length := (List.getElem?_eq_some_iff.mp h).1
theorem Same.upd {H H1 : Hp} {x : Addr} {o : HO} (a : Same H H1) (h : H x = none) : Same H (upd H1 x o) := fun c u e => by
  rw [upd_ne (ne_of_none e h)]
  exact a c u e
theorem small {n : Nat} (h : n ≤ 100000) : n < sizeLine := Nat.lt_of_le_of_lt h (by decide)
theorem ixN_at {n j : Nat} (h : j < n) : ixN n ((j : Nat) : Int) = some j := by
  have h2 : ((j : Nat) : Int) < ((n : Nat) : Int) := Int.ofNat_lt.mpr h
  simp [ixN, h2]
theorem BoxAt.upd {H : Hp} {b g l x : Addr} {n : Int} {o : HO} (h : BoxAt H b g l n) (hx : H x = none) : BoxAt (upd H x o) b g l n := by
  obtain ⟨gs, ls, cur, e1, e2, e3, r⟩ := h
  exact ⟨gs, ls, cur, by rw [upd_ne (ne_of_none e1 hx)]; exact e1, by rw [upd_ne (ne_of_none e2 hx)]; exact e2, by rw [upd_ne (ne_of_none e3 hx)]; exact e3, r⟩
theorem BoxAt.keep {H H' : Hp} {b g l : Addr} {n : Int} {S : List Addr} (h : BoxAt H b g l n) (k : Keeps S H H') (a : b ∉ S) (c : g ∉ S) (d : l ∉ S) : BoxAt H' b g l n := by
  obtain ⟨gs, ls, cur, e1, e2, e3, r⟩ := h
  exact ⟨gs, ls, cur, k _ _ e1 a, k _ _ e2 c, k _ _ e3 d, r⟩
theorem BoxAt.same {H H' : Hp} {b g l : Addr} {n : Int} (h : BoxAt H b g l n) (k : Same H H') : BoxAt H' b g l n := by
  obtain ⟨gs, ls, cur, e1, e2, e3, r⟩ := h
  exact ⟨gs, ls, cur, k _ _ e1, k _ _ e2, k _ _ e3, r⟩
theorem BoxAt.off {H : Hp} {b g l q : Addr} {n : Int} (h : BoxAt H b g l n) (hq : H q = none) : q ∉ [b, g] := by
  obtain ⟨gs, ls, cur, e1, e2, _⟩ := h
  intro c
  simp at c
  rcases c with rfl | rfl
  · rw [e1] at hq; cases hq
  · rw [e2] at hq; cases hq
end L2

set_option maxRecDepth 100000
set_option maxHeartbeats 4000000
namespace My
open PySem
theorem sub_ll : isSubtype (.type "list") (.type "list") = pure true := by rw [isSubtype_type]; kernel_rfl
theorem push_meets (l : Addr) (n : Nat) (its : List Value) (ns : List Int) (x : Int) (t : Tok) (hv : Ints its ns) (hz : ns.length < sizeLine) (hI : IsHeap ns) :
    Meets (Builtin.«_heapq.heappush» ⟨[.ref l, .int x t], []⟩) (fun _ R s => s.heap.get? l = some (lobj its n) ∧ Sifted l (n + 1) (ns ++ [x]) .none R s) := by
  intro prog w A R s h
  obtain ⟨hh, gg, d, tk, os⟩ := s; obtain ⟨hl, h⟩ := h
  have hT : Shared.TypeIs ⟨hh, gg, d, tk, os⟩ (.ref l) "list" := ⟨_, hl, rfl⟩
  have hs := sub_ll
  have hv' : Ints (its ++ [.int x t]) (ns ++ [x]) := by
    unfold Ints
    rw [List.map_append]
    exact L2.Vals.append hv (.cons (show L2.RelV (.int x) (.int x t) from ⟨t, rfl⟩) .nil)
  have hu : (hh.update l (Obj.mapSeq (·.push (.int x t)))).get? l = some (lobj (its ++ [.int x t]) (n + 1)) := by
    have q := PySem.IsL.update (h := hh) (l := l) (items := its.toArray) (n := n) hl (·.push (.int x t))
    have e : ((its.toArray.push (.int x t)).size == its.toArray.size) = false := by rw [Array.size_push]; exact beq_eq_false_iff_ne.mpr (by omega)
    rw [e, List.push_toArray] at q
    exact q
  have pr : ∀ (Q : Unit → Shared → Prop) (E : Value → Shared → Prop), Q () ⟨hh.update l (Obj.mapSeq fun xs => xs.push (.int x t)), gg, d, tk, os⟩ → wpAny (model prog w) A.in1 (updateSeq l fun xs => xs.push (.int x t)) Q E ⟨hh, gg, d, tk, os⟩ := fun Q E q =>
    wpAny_updateSeq (s := ⟨hh, gg, d, tk, os⟩) (xs := its.toArray) (n := n) (f := fun xs => xs.push (.int x t)) hl rfl q (by rw [List.size_toArray, hv.len]; omega) (by rw [Array.size_push, List.size_toArray, hv.len]; omega)
  wp_walk using pr, PySem.AutoSeq1.wpAny_loadPart' hl
  wp_walk using PySem.AutoSeq1.wpAny_loadPart' hu
  have e1 : ((its ++ [Value.int x t]).toArray.size - 1) = ns.length := by rw [List.size_toArray, List.length_append, hv.len]; simp
  rw [e1]
  refine ⟨plainId_quiet plain_sift _, codeAny_builtin entry_sift (by rw [Around.under_plainId plain_sift _]; refine up_loop l (n + 1) .none ns.length ns.length _ (ns ++ [x]) (Nat.le_refl _) hv' (by rw [List.length_append, List.length_singleton]; exact hz) (by rw [List.length_append]; simp) (hI.push x) prog w A R _ ⟨hu, fun its' ns' h' tk' a1 a2 a3 a4 a5 => h its' ns' h' tk' a1 a2 a3 a4 fun b o hb e => a5 b o hb ((Heap.get?_update_other hh _ (Ne.symm hb)).trans e)⟩)⟩
theorem pop_meets (l : Addr) (n : Nat) (its : List Value) (ns : List Int) (hv : Ints its ns) (hz : ns.length ≤ sizeLine) (h0 : 0 < ns.length) (hI : IsHeap ns) :
    Meets (Builtin.«_heapq.heappop» ⟨[.ref l], []⟩) (fun _ R s => s.heap.get? l = some (lobj its n) ∧
      ∀ (t : Tok) (its' : List Value) (ns' : List Int) (h' : Heap) (tk' : Nat), Ints its' ns' → (g ns 0 :: ns').Perm ns → IsHeap ns' → h'.get? l = some (lobj its' (n + 1)) → (∀ b o, b ≠ l → s.heap.get? b = some o → h'.get? b = some o) →
        R (.ok (.ret (.int (g ns 0) t))) { s with heap := h', toks := tk' }) := by
  intro prog w A R s h
  obtain ⟨hh, gg, d, tk, os⟩ := s; obtain ⟨hl, h⟩ := h
  have hT : Shared.TypeIs ⟨hh, gg, d, tk, os⟩ (.ref l) "list" := ⟨_, hl, rfl⟩
  have hs := sub_ll
  obtain ⟨t0, e0⟩ := hv.at_ h0
  obtain ⟨t1, e1⟩ := hv.at_ (show ns.length - 1 < ns.length by omega)
  have fb : its.toArray.back? = some (.int (g ns (ns.length - 1)) t1) := by
    rw [List.back?_toArray, List.getLast?_eq_getElem?, hv.len]
    exact e1
  have f0 : its.toArray[0]? = some (.int (g ns 0) t0) := by simpa using e0
  have hu : (hh.update l (Obj.mapSeq (fun xs => xs.pop))).get? l = some (lobj its.dropLast (n + 1)) := by
    have q := PySem.IsL.update (h := hh) (l := l) (items := its.toArray) (n := n) hl (fun xs => xs.pop)
    have e : (its.toArray.pop.size == its.toArray.size) = false := by rw [Array.size_pop, List.size_toArray, hv.len]; exact beq_eq_false_iff_ne.mpr (by omega)
    rw [e, List.pop_toArray] at q
    exact q
  have hvd : Ints its.dropLast ns.dropLast := by
    unfold Ints
    rw [List.dropLast_eq_take, List.dropLast_eq_take, List.map_take, hv.len]
    exact L2.Vals.take _ hv
  have keep1 : ∀ b o, b ≠ l → hh.get? b = some o → (hh.update l (Obj.mapSeq (fun xs => xs.pop))).get? b = some o := fun b o hb e => (Heap.get?_update_other hh _ (Ne.symm hb)).trans e
  wp_walk using PySem.AutoSeq1.wpAny_loadPart' hl
  rw [fb]
  dsimp only
  refine wpAny_bind (wpAny_updateSeq (s := ⟨hh, gg, d, tk, os⟩) (xs := its.toArray) (n := n) (f := fun xs => xs.pop) hl rfl ?_ (by rw [List.size_toArray, hv.len]; omega) (by rw [Array.size_pop, List.size_toArray, hv.len]; omega))
  by_cases h1 : ns.length = 1
  · have hb : (its.toArray.size == 1) = true := by rw [List.size_toArray, hv.len, h1]; rfl
    refine wpAny_ite_true (decide_eq_true hb) ?_
    wp_walk
    have eg : g ns (ns.length - 1) = g ns 0 := by rw [h1]
    rw [eg]
    match ns, h1 with
    | [a], _ => exact h t1 _ [] _ tk hvd (List.Perm.refl _) (fun i _ il => by simp at il) hu keep1
  · have hb : (its.toArray.size == 1) = false := by rw [List.size_toArray, hv.len]; exact beq_eq_false_iff_ne.mpr h1
    refine wpAny_ite_false (decide_eq_false (by rw [hb]; exact Bool.false_ne_true)) ?_
    refine wpAny_bind ?_
    wp_delta
    rw [f0]
    refine wpAny_pure ?_
    have hu2 : ((hh.update l (Obj.mapSeq (fun xs => xs.pop))).update l (Obj.mapSeq (·.setIfInBounds 0 (.int (g ns (ns.length - 1)) t1)))).get? l = some (lobj (its.dropLast.set 0 (.int (g ns (ns.length - 1)) t1)) (n + 1)) := by
      rw [Heap.get?_update_self _ hu rfl]
      simp [Obj.mapSeq, lobj]
    have hld : its.dropLast.length = ns.length - 1 := by rw [List.length_dropLast, hv.len]
    refine wpAny_bind (wpAny_updateSeq (s := ⟨hh.update l (Obj.mapSeq (fun xs => xs.pop)), gg, d, tk, os⟩) (xs := its.dropLast.toArray) (n := n + 1) (f := fun xs => xs.setIfInBounds 0 (.int (g ns (ns.length - 1)) t1)) hu rfl ?_ (by rw [List.size_toArray, hld]; omega) (by rw [Array.size_setIfInBounds, List.size_toArray, hld]; omega))
    have hv2 : Ints (its.dropLast.set 0 (.int (g ns (ns.length - 1)) t1)) (ns.dropLast.set 0 (g ns (ns.length - 1))) := hvd.set _ _ _
    have hl2 : (ns.dropLast.set 0 (g ns (ns.length - 1))).length = ns.length - 1 := by rw [List.length_set, List.length_dropLast]
    refine sift_again ?_
    refine dn_loop l (n + 1) (.int (g ns 0) t0) ns.length 0 _ _ (by rw [hl2]; omega) hv2 (by rw [hl2]; omega) (by rw [hl2]; omega) (hI.pop _) prog w A R _ ⟨hu2, fun its' ns' h' tk' a1 a2 a3 a4 a5 => ?_⟩
    exact h t0 its' ns' h' tk' a1 ((a2.cons _).trans (pop_perm (by omega))) a3 a4 fun b o hb e => a5 b o hb ((Heap.get?_update_other _ _ (Ne.symm hb)).trans (keep1 b o hb e))
end My
namespace L2
open PySem PySem.Spec PyProof.Rows My
section
variable {X : Cx}
/-- heappush(l, x): l a list of ints in heap order -/
def rPush : List V → Hp → VK → Prop := fun vs H Q => ∃ (l : Addr) (ns : List Int) (x : Int), vs = [.ref l, .int x] ∧ H l = some (.lst (ns.map V.int)) ∧ ns.length < sizeLine ∧ IsHeap ns ∧
  ∀ ns' : List Int, ns'.Perm (ns ++ [x]) → IsHeap ns' → Q .non (upd H l (.lst (ns'.map V.int)))
theorem cr_push : CallR X (.builtin "_heapq.heappush") rPush := by
  intro pins s σ H vs us Q I r h
  obtain ⟨l, ns, x, rfl, hH, hz, hI, q⟩ := h
  cases r with
  | cons r1 r2 =>
    cases r2 with
    | cons r2 r3 =>
      cases r3
      obtain rfl := r1
      obtain ⟨t, rfl⟩ := r2
      obtain ⟨z, its, n, rv, hl, e⟩ := I.lstM hH
      refine call_function_meets kind_push plain_push entry_push (args_push _ _) (push_meets l n its ns x t rv hz hI) ⟨e, fun its' ns' h' tk' a1 a2 a3 a4 a5 => ?_⟩
      refine ⟨.non, upd H l (.lst (ns'.map V.int)), I.write (x := l) (e := l) (by rw [hH]; exact trivial) (.inl rfl) a5 ⟨_, a4⟩ ⟨?_, its', _, a1, a4⟩, rfl, q ns' a2 a3⟩
      rw [List.length_map, a2.length_eq, List.length_append, List.length_singleton]
      exact hz
/-- heappop(l): the least one -/
def rPopH : List V → Hp → VK → Prop := fun vs H Q => ∃ (l : Addr) (ns : List Int), vs = [.ref l] ∧ H l = some (.lst (ns.map V.int)) ∧ 0 < ns.length ∧ IsHeap ns ∧
  ∀ (m : Int) (ns' : List Int), (m :: ns').Perm ns → IsHeap ns' → (∀ x, x ∈ ns → m ≤ x) → Q (.int m) (upd H l (.lst (ns'.map V.int)))
theorem cr_popH : CallR X (.builtin "_heapq.heappop") rPopH := by
  intro pins s σ H vs us Q I r h
  obtain ⟨l, ns, rfl, hH, h0, hI, q⟩ := h
  cases r with
  | cons r1 r2 =>
    cases r2
    obtain rfl := r1
    obtain ⟨z, its, n, rv, hl, e⟩ := I.lstM hH
    rw [List.length_map] at z
    refine call_function_meets kind_pop plain_pop entry_pop (args_pop _) (pop_meets l n its ns rv z h0 hI) ⟨e, fun t its' ns' h' tk' a1 a2 a3 a4 a5 => ?_⟩
    refine ⟨.int (g ns 0), upd H l (.lst (ns'.map V.int)), I.write (x := l) (e := l) (by rw [hH]; exact trivial) (.inl rfl) a5 ⟨_, a4⟩ ⟨?_, its', _, a1, a4⟩, ⟨t, rfl⟩, q _ ns' a2 a3 fun x hx => hI.least_mem hx⟩
    have e1 : ns'.length + 1 = ns.length := a2.length_eq
    rw [List.length_map]
    omega
end
end L2

set_option Elab.async false
set_option linter.all false
set_option maxRecDepth 100000
set_option maxHeartbeats 4000000
namespace L2
open PySem PySem.Spec PyProof.Rows
section
variable {X : Cx}
/-- sorted(d), all keys ints, any number of them -/
def rSortDA : List V → Hp → VK → Prop := fun xs H Q => ∃ (d : Addr) (kvs : List (Key × V)) (ks : List Int), xs = [.ref d] ∧ Rd H d (.dK kvs) ∧ kvs.map (·.1) = ks.map Sum.inl ∧
  ∀ (ys : List Int) (q : Addr), ys.Perm ks → ys.Pairwise (· ≤ ·) → H q = none → Q (.ref q) (upd H q (.lst (ys.map V.int)))
theorem cr_sortDA (hcalm : X.calm = true) : CallR X (.builtin "sorted") rSortDA := by
  intro pins s σ H xs us Q I r ⟨d, kvs, ks, ex, hd, hks, kq⟩
  subst ex
  obtain ⟨u, eu, rx⟩ := vals1 r
  subst eu; cases rx
  obtain ⟨z, lo, vs, rel, dd⟩ := dk_rd I.hok hd
  obtain ⟨ep, hat⟩ := dd.dictAt
  have hkey : vs.map (·.1) = ks.map Sum.inl := rel.keys.symm.trans hks
  have hlen : vs.length = ks.length := by simpa using congrArg List.length hkey
  have hklen : kvs.length = ks.length := by simpa using congrArg List.length hks
  have hz : vs.length ≤ sizeLine := by omega
  refine Calls.call_function_entry kind_sorted plain_sorted entry_sorted (args_sorted1 _) ?_
  unfold Builtin.«sorted»
  refine wpAny_bind (m := checkCount "sorted" 1 1 _) (wpAny_pure (wpAny_bind (PySem.W.kdu_collect (A := X.A.in1) (PySem.W.kdl_dict (knd := mixKind X.prog X.w) (kvs := vs) (ep := ep) lo) (I.ok.hd hcalm) hat hz fun hh tt acc hkeep hacc => ?_)))
  have hal : acc.toList.length = ks.length := by rw [Array.length_toList, hacc.1, hlen]
  have hI : IntsAre acc.toList ks := ints_each hal fun j v e => by
    obtain ⟨k, x, f1, f2⟩ := hacc.2 j v (by rw [← Array.getElem?_toList]; exact e)
    have f3 : (ks.map Sum.inl)[j]? = some k := by rw [← hkey, List.getElem?_map, f1]; rfl
    rw [List.getElem?_map] at f3
    cases f4 : ks[j]? with
    | none => rw [f4] at f3; cases f3
    | some y =>
      rw [f4] at f3
      obtain rfl : Sum.inl y = k := Option.some.inj f3
      rcases keyIs_shape (k := Sum.inl y) (v := v) f2 with ⟨i, t, ek, ev⟩ | ⟨w', t, ek, ev⟩
      · cases ek; exact ⟨y, t, rfl, ev⟩
      · cases ek
  have J : Inv X pins σ H { s with heap := hh, toks := tt } := I.kept hkeep
  have hz2 : acc.toList.length ≤ sizeLine := by rw [hal]; omega
  refine wpAny_bind (wpAny_newList ?_ hz2)
  have hoL : (hh.push (seqObj "list" acc.toList.toArray 0)).get? hh.objs.size = some (seqObj "list" acc.toList.toArray 0) := Heap.get?_push_size _ rfl
  show wpAny _ _ _ _ _ { s with heap := hh.push (seqObj "list" acc.toList.toArray 0), toks := tt }
  refine wpAny_bind (wpAny_holding (wpAny_call_entry slot_list_sort ⟨_, hoL, rfl⟩ entry_list_sort (SrtO.list_sort_ord (s := { s with heap := hh.push (seqObj "list" acc.toList.toArray 0), toks := tt }) SrtO.swo_int hoL hz2 (fun h2 => SrtO.ints_sortable hI h2) fun out g1 g2 => ⟨_, rfl, ?_⟩) (args_list_sort _)))
  obtain ⟨k1, k2, k3⟩ := SrtO.ints_out hI g1 g2
  obtain ⟨e', he'⟩ := sortedHeap_at (vs := acc.toList) (out := out.toArray) hoL
  have hl3 : ((out.map SrtO.iv).map V.int).length ≤ sizeLine := by rw [List.length_map, k2.length_eq]; omega
  refine wpAny_pure ⟨_, rfl, .ref hh.objs.size, upd H hh.objs.size (.lst ((out.map SrtO.iv).map V.int)), J.laid (t' := tt) (fun b u e => ?_) (Nat.le_refl _) ⟨hl3, out, e', vals_of_ints k1, he'⟩, rfl, kq _ _ k2 k3 (J.hok.fresh (Nat.le_refl _))⟩
  have hb : b < hh.objs.size := Heap.lt_size e
  rw [sortedHeap_old (Nat.ne_of_lt hb) (by rw [size_push']; exact Nat.lt_succ_of_lt hb)]
  exact Heap.get?_push_of_some _ e
end
end L2

namespace My
/-- a table's plain state: by place how many handles had it; the living handles' places and numbers in the order of their beginning; the greatest count -/
structure Tab where
  turns : List Nat
  nums : List (Nat × Int)
  most : Nat
def Tab.keys (t : Tab) : List Nat := t.nums.map (·.1)
def Tab.turn (t : Tab) (p : Nat) : Nat := t.turns.getD p 0
structure Tab.Ok (t : Tab) (free : List Int) : Prop where
  nd : t.keys.Nodup
  lt : ∀ p, p ∈ t.keys → p < t.turns.length
  pos : ∀ p, p < t.turns.length → 1 ≤ t.turn p
  heap : IsHeap free
  fr : ∀ x : Int, x ∈ free ↔ ∃ p : Nat, x = (p : Int) ∧ p < t.turns.length ∧ p ∉ t.keys
  fnd : free.Nodup
  cnt : free.length + t.nums.length = t.turns.length
def Tab.Next (t : Tab) (p : Nat) : Prop := p ∉ t.keys ∧ ∀ q, q < p → q ∈ t.keys
theorem Tab.Next.same {t : Tab} {p q : Nat} (a : t.Next p) (b : t.Next q) : p = q := by
  rcases Nat.lt_trichotomy p q with h | h | h
  · exact absurd (b.2 p h) a.1
  · exact h
  · exact absurd (a.2 q h) b.1
def Tab.begun (t : Tab) (p : Nat) (x : Int) : Tab :=
  { turns := if p < t.turns.length then t.turns.set p (t.turn p + 1) else t.turns ++ [1], nums := t.nums ++ [(p, x)], most := max t.most (t.nums.length + 1) }
def Tab.ended (t : Tab) (p : Nat) : Tab := { t with nums := t.nums.filter fun q => decide (q.1 ≠ p) }
def Tab.none : Tab := ⟨[], [], 0⟩
theorem Tab.none_ok : Tab.none.Ok [] := by
  refine ⟨List.nodup_nil, fun p h => by simp [Tab.keys, Tab.none] at h, fun p h => by simp [Tab.none] at h, fun i _ h => by simp at h, fun x => ?_, List.nodup_nil, rfl⟩
  constructor
  · intro h; simp at h
  · rintro ⟨p, _, h, _⟩; simp [Tab.none] at h
theorem Tab.begun_keys (t : Tab) (p : Nat) (x : Int) : (t.begun p x).keys = t.keys ++ [p] := by simp [Tab.begun, Tab.keys]
theorem nodup_snoc {α : Type} {l : List α} {x : α} (h : l.Nodup) (n : x ∉ l) : (l ++ [x]).Nodup := by
  rw [List.nodup_append]
  exact ⟨h, by simp, fun a ha b hb => by simp at hb; subst hb; exact fun e => n (e ▸ ha)⟩
theorem Tab.begun_pop {t : Tab} {free free' : List Int} (ok : t.Ok free) {m : Int} (hp : (m :: free').Perm free) (hh : IsHeap free') (hm : ∀ x, x ∈ free → m ≤ x) (x : Int) :
    ∃ p : Nat, m = (p : Int) ∧ t.Next p ∧ p < t.turns.length ∧ (t.begun p x).Ok free' := by
  obtain ⟨p, rfl, hl, hk⟩ := (ok.fr m).mp (hp.mem_iff.mp List.mem_cons_self)
  have nd2 : ((p : Int) :: free').Nodup := hp.nodup_iff.mpr ok.fnd
  have nx : t.Next p := ⟨hk, fun q hq => by
    refine Classical.byContradiction fun h => ?_
    have := hm (q : Int) ((ok.fr _).mpr ⟨q, rfl, by omega, h⟩)
    omega⟩
  have hlen : (t.begun p x).turns.length = t.turns.length := by simp [Tab.begun, hl]
  refine ⟨p, rfl, nx, hl, ?_⟩
  constructor
  · rw [Tab.begun_keys]; exact nodup_snoc ok.nd hk
  · intro q hq
    rw [Tab.begun_keys] at hq
    rw [hlen]
    rcases List.mem_append.mp hq with h | h
    · exact ok.lt q h
    · simp at h; omega
  · intro q hq
    rw [hlen] at hq
    show 1 ≤ (t.begun p x).turns.getD q 0
    simp only [Tab.begun, if_pos hl]
    rw [List.getD_eq_getElem?_getD, List.getElem?_set]
    by_cases e : p = q
    · subst e; simp [hl]
    · simp only [if_neg e]
      have := ok.pos q hq
      unfold Tab.turn at this
      rw [List.getD_eq_getElem?_getD] at this
      exact this
  · exact hh
  · intro y
    rw [hlen, Tab.begun_keys]
    have hy : y ∈ free' ↔ y ∈ free ∧ y ≠ (p : Int) := by
      have := hp.mem_iff (a := y)
      rw [List.mem_cons] at this
      constructor
      · intro h
        exact ⟨this.mp (.inr h), fun e => (List.nodup_cons.mp nd2).1 (e ▸ h)⟩
      · rintro ⟨h, n⟩
        rcases this.mpr h with e | e
        · exact absurd e n
        · exact e
    rw [hy, ok.fr]
    constructor
    · rintro ⟨⟨q, rfl, a, b⟩, n⟩
      exact ⟨q, rfl, a, by simp [b]; omega⟩
    · rintro ⟨q, rfl, a, b⟩
      simp at b
      exact ⟨⟨q, rfl, a, b.1⟩, by omega⟩
  · exact (List.nodup_cons.mp nd2).2
  · have a := ok.cnt
    have b := hp.length_eq
    rw [List.length_cons] at b
    rw [hlen]
    simp [Tab.begun]
    omega
theorem Tab.begun_new {t : Tab} (ok : t.Ok []) (x : Int) : t.Next t.turns.length ∧ (t.begun t.turns.length x).Ok [] := by
  have nx : t.Next t.turns.length := ⟨fun h => by have := ok.lt _ h; omega, fun q hq => by
    refine Classical.byContradiction fun h => ?_
    have := (ok.fr (q : Int)).mpr ⟨q, rfl, hq, h⟩
    simp at this⟩
  have hlen : (t.begun t.turns.length x).turns.length = t.turns.length + 1 := by simp [Tab.begun]
  refine ⟨nx, ?_⟩
  constructor
  · rw [Tab.begun_keys]; exact nodup_snoc ok.nd nx.1
  · intro q hq
    rw [Tab.begun_keys] at hq
    rw [hlen]
    rcases List.mem_append.mp hq with h | h
    · have := ok.lt q h; omega
    · simp at h; omega
  · intro q hq
    rw [hlen] at hq
    show 1 ≤ (t.begun t.turns.length x).turns.getD q 0
    simp only [Tab.begun, Nat.lt_irrefl, if_false]
    rw [List.getD_eq_getElem?_getD]
    by_cases e : q < t.turns.length
    · rw [List.getElem?_append_left e]
      have := ok.pos q e
      unfold Tab.turn at this
      rw [List.getD_eq_getElem?_getD] at this
      exact this
    · obtain rfl : q = t.turns.length := by omega
      simp
  · exact ok.heap
  · intro y
    rw [hlen, Tab.begun_keys]
    constructor
    · intro h; simp at h
    · rintro ⟨q, rfl, a, b⟩
      simp at b
      exact (ok.fr (q : Int)).mpr ⟨q, rfl, by omega, b.1⟩
  · exact List.nodup_nil
  · have a := ok.cnt
    rw [hlen]
    simp [Tab.begun] at a ⊢
    omega
theorem Tab.ended_keys (t : Tab) (p : Nat) : (t.ended p).keys = t.keys.filter fun q => decide (q ≠ p) := by
  unfold Tab.ended Tab.keys
  simp only [List.filter_map]
  rfl
theorem filter_len : ∀ {l : List (Nat × Int)} {p : Nat}, (l.map (·.1)).Nodup → p ∈ l.map (·.1) → (l.filter fun q => decide (q.1 ≠ p)).length + 1 = l.length
  | [], _, _, h => by simp at h
  | a :: l, p, nd, h => by
    rw [List.map_cons, List.nodup_cons] at nd
    rw [List.filter_cons]
    by_cases e : a.1 = p
    · have hn : p ∉ l.map (·.1) := e ▸ nd.1
      have : (l.filter fun q => decide (q.1 ≠ p)) = l := by
        rw [List.filter_eq_self]
        intro q hq
        exact decide_eq_true fun c => hn (List.mem_map.mpr ⟨q, hq, c⟩)
      rw [if_neg (by simp [e]), this]
      rfl
    · rw [if_pos (by simp [e]), List.length_cons, List.length_cons]
      rw [List.map_cons, List.mem_cons] at h
      have := filter_len nd.2 (h.resolve_left fun c => e c.symm)
      omega
theorem Tab.ended_ok {t : Tab} {free free' : List Int} (ok : t.Ok free) {p : Nat} (hk : p ∈ t.keys) (hp : free'.Perm (free ++ [(p : Int)])) (hh : IsHeap free') : (t.ended p).Ok free' := by
  have hm : ∀ q, q ∈ (t.ended p).keys ↔ q ∈ t.keys ∧ q ≠ p := fun q => by rw [Tab.ended_keys, List.mem_filter]; simp
  have nf : (p : Int) ∉ free := fun h => by
    obtain ⟨q, e, _, n⟩ := (ok.fr _).mp h
    obtain rfl : p = q := by omega
    exact n hk
  constructor
  · rw [Tab.ended_keys]; exact ok.nd.filter _
  · intro q hq; exact ok.lt q ((hm q).mp hq).1
  · exact ok.pos
  · exact hh
  · intro y
    rw [hp.mem_iff, List.mem_append, ok.fr]
    constructor
    · rintro (⟨q, rfl, a, b⟩ | h)
      · exact ⟨q, rfl, a, fun c => b ((hm q).mp c).1⟩
      · simp at h
        exact ⟨p, h, ok.lt p hk, fun c => ((hm p).mp c).2 rfl⟩
    · rintro ⟨q, rfl, a, b⟩
      by_cases e : q = p
      · right; simp [e]
      · left; exact ⟨q, rfl, a, fun c => b ((hm q).mpr ⟨c, e⟩)⟩
  · exact hp.nodup_iff.mpr (nodup_snoc ok.fnd nf)
  · have a := ok.cnt
    have b := hp.length_eq
    have c := filter_len ok.nd hk
    rw [List.length_append, List.length_singleton] at b
    show free'.length + (t.nums.filter fun q => decide (q.1 ≠ p)).length = t.turns.length
    omega
/-- a living place's number -/
def Tab.num (t : Tab) (p : Nat) : Option Int := (t.nums.find? fun q => decide (q.1 = p)).map (·.2)
theorem Tab.num_some {t : Tab} {p : Nat} (h : p ∈ t.keys) : ∃ x, t.num p = some x := by
  unfold Tab.num
  cases e : t.nums.find? fun q => decide (q.1 = p) with
  | some q => exact ⟨q.2, rfl⟩
  | none =>
    obtain ⟨q, hq, e2⟩ := List.mem_map.mp h
    have := List.find?_eq_none.mp e q hq
    simp [e2] at this
theorem Tab.begun_old {t : Tab} {p : Nat} (h : p < t.turns.length) (x : Int) : t.turns[p]? = some (t.turn p) ∧ t.turns.set p (t.turn p + 1) = (t.begun p x).turns := by
  refine ⟨?_, by simp [Tab.begun, h]⟩
  unfold Tab.turn
  rw [List.getD_eq_getElem?_getD, List.getElem?_eq_getElem h]
  rfl
theorem Tab.begun_end (t : Tab) (x : Int) : (t.turns ++ [0])[t.turns.length]? = some (t.turn t.turns.length) ∧ (t.turns ++ [0]).set t.turns.length (t.turn t.turns.length + 1) = (t.begun t.turns.length x).turns := by
  have e : t.turn t.turns.length = 0 := by
    unfold Tab.turn
    rw [List.getD_eq_getElem?_getD, List.getElem?_eq_none (Nat.le_refl _)]
    rfl
  rw [e]
  refine ⟨by simp, ?_⟩
  simp [Tab.begun, e]
theorem Tab.begun_turn (t : Tab) {p : Nat} (hp : p ≤ t.turns.length) (x : Int) (q : Nat) : (t.begun p x).turn q = if q = p then t.turn p + 1 else t.turn q := by
  unfold Tab.turn Tab.begun
  rw [List.getD_eq_getElem?_getD, List.getD_eq_getElem?_getD, List.getD_eq_getElem?_getD]
  by_cases h : p < t.turns.length
  · simp only [if_pos h]
    rw [List.getElem?_set]
    by_cases e : p = q
    · subst e; simp [h, Tab.turn]
    · have e' : ¬ q = p := fun z => e z.symm
      simp only [if_neg e, if_neg e']
  · obtain rfl : p = t.turns.length := by omega
    simp only [if_neg h]
    by_cases e : q = t.turns.length
    · subst e; simp
    · simp only [if_neg e]
      by_cases h2 : q < t.turns.length
      · rw [List.getElem?_append_left h2]
      · rw [List.getElem?_eq_none (by simp; omega), List.getElem?_eq_none (by omega)]
theorem num_find : ∀ {l : List (Nat × Int)} {q : Nat × Int}, (l.map (·.1)).Nodup → q ∈ l → (l.find? fun z => decide (z.1 = q.1)) = some q
  | [], _, _, h => by simp at h
  | a :: l, q, nd, h => by
    rw [List.map_cons, List.nodup_cons] at nd
    rw [List.find?_cons]
    rcases List.mem_cons.mp h with e | e
    · subst e; simp
    · have ne : ¬ a.1 = q.1 := fun c => nd.1 (c ▸ List.mem_map.mpr ⟨q, e, rfl⟩)
      simp only [decide_eq_false ne]
      exact num_find nd.2 e
theorem Tab.num_mem {t : Tab} (nd : t.keys.Nodup) {q : Nat × Int} (h : q ∈ t.nums) : t.num q.1 = some q.2 := by
  unfold Tab.num
  rw [num_find nd h]
  rfl
end My

set_option linter.all false
set_option maxRecDepth 100000
namespace L2
open PySem PySem.Spec PyProof.Rows
/-- pairs of ints as data -/
def pD (z : Int × Int) : PyData := .tuple [.int z.1, .int z.2]
theorem pD_lay (z : Int × Int) : (pD z).canLay0 = true := by simp [pD, PyData.canLay0, PyData.canLayAll0]
theorem pD_deep (z : Int × Int) : (pD z).depth = 1 := by simp [pD, PyData.depth, PyData.depthAll]
theorem pDs_lay : ∀ zs : List (Int × Int), PyData.canLayAll0 (zs.map pD) = true
  | [] => rfl
  | z :: r => by rw [List.map_cons, PyData.canLayAll0, pD_lay, pDs_lay r]; rfl
theorem pDs_deep : ∀ zs : List (Int × Int), PyData.depthAll (zs.map pD) ≤ 1
  | [] => by simp [PyData.depthAll]
  | z :: r => by
    rw [List.map_cons, PyData.depthAll, pD_deep]
    have := pDs_deep r
    omega
theorem pD_shaped (z : Int × Int) : SeqAt.shaped (pD z) = true := by
  unfold SeqAt.shaped
  rw [pD_lay, pD_deep]
  rfl
theorem lD_lay (zs : List (Int × Int)) : (PyData.list (zs.map pD)).canLay0 = true := by rw [PyData.canLay0]; exact pDs_lay zs
theorem lD_shaped (zs : List (Int × Int)) : SeqAt.shaped (.list (zs.map pD)) = true := by
  unfold SeqAt.shaped
  rw [lD_lay, PyData.depth]
  have := pDs_deep zs
  exact decide_eq_true (by omega)
theorem pD_same (z : Int × Int) : PyData.eqv (pD z) (pD z) = true := SeqAt.eqv_refl _ (pD_lay z)
theorem lD_same (zs : List (Int × Int)) : PyData.eqv (.list (zs.map pD)) (.list (zs.map pD)) = true := SeqAt.eqv_refl _ (lD_lay zs)
theorem dp_pair {K : PySem.W.Frag} {H : Hp} {h : Addr} {z : Int × Int} (e : H h = some (.tup [.int z.1, .int z.2])) : Dp K H (.ref h) (pD z) := .tup (SqT.of e) (.cons (.int _) (.cons (.int _) .nil))
theorem dp_pairs {K : PySem.W.Frag} {H : Hp} : ∀ {hs : List Addr} {zs : List (Int × Int)}, hs.length = zs.length → (∀ (i : Nat) (h : Addr) (z : Int × Int), hs[i]? = some h → zs[i]? = some z → H h = some (.tup [.int z.1, .int z.2])) → DpAll K H (hs.map V.ref) (zs.map pD)
  | [], [], _, _ => .nil
  | h :: hs, z :: zs, hl, e => .cons (dp_pair (e 0 h z rfl rfl)) (dp_pairs (by simpa using hl) fun i h' z' a b => e (i + 1) h' z' (by simpa using a) (by simpa using b))
  | [], _ :: _, hl, _ => by simp at hl
  | _ :: _, [], hl, _ => by simp at hl
theorem dp_list {K : PySem.W.Frag} {H : Hp} {l : Addr} {hs : List Addr} {zs : List (Int × Int)} (e0 : H l = some (.lst (hs.map V.ref))) (hl : hs.length = zs.length)
    (e : ∀ (i : Nat) (h : Addr) (z : Int × Int), hs[i]? = some h → zs[i]? = some z → H h = some (.tup [.int z.1, .int z.2])) : Dp K H (.ref l) (.list (zs.map pD)) := .lst (SqL.of e0) (dp_pairs hl e)
end L2

set_option linter.all false
set_option maxRecDepth 100000
set_option maxHeartbeats 4000000
namespace L2
open PySem PySem.Spec PyProof.Rows
section
variable {X : Cx} {CX : CXT} {k : Nat} {g C : Addr} {fd : FuncData} {sp : Sp} {E : XK}
/-- len(o), o an instance whose class has its own __len__ -/
def rLenOwn (C : Addr) (sp : Sp) (E : XK) : List V → Hp → VK → Prop := fun xs H Q => ∃ a dx fs, xs = [V.ref a] ∧ H a = some (.ins C dx fs) ∧ sp [.ref a] H (fun v H' => ∃ n : Int, v = .int n ∧ 0 ≤ n ∧ n < 2 ^ 63 ∧ Q (.int n) H') E
theorem call_lenOwn (hm : Meth X.K C "__len__" g) (F : FnOk X.prog X.w X.K X.mg X.base CX k g fd ["self"] sp) (hr : Room (k + 1) X.A) (hb : Binds X.K fd ["self"] []) (hx : Passes CX X E) : CallR X (.builtin "len") (rLenOwn C sp E) := by
  intro pins s σ H xs us Q I r h
  obtain ⟨a, dx, fs, rfl, ha, q⟩ := h
  obtain ⟨u, rfl, ru⟩ := r.one
  cases (show u = Value.ref a from ru)
  obtain ⟨_, _, _, e, mA, ⟨od, es, ep, e2, _⟩, _⟩ := I.hok a _ ha
  have J : PySem.W.InstAt s.heap a (PySem.W.instObj C dx) C (some od) := ⟨e, rfl, rfl, e2⟩
  obtain ⟨m, hF⟩ := I.fr
  have r2 : Vals [V.ref a] [Value.ref a] := .cons (show RelV (.ref a) (.ref a) from rfl) .nil
  have key : codeAny (model X.prog X.w) X.A.in1 (.call (.ref g) ⟨[.ref a], []⟩) (fun r s' => match r with
    | .ok (.ret v) => EP X pins σ (fun v H' => ∃ n : Int, v = .int n ∧ 0 ≤ n ∧ n < 2 ^ 63 ∧ Q (.int n) H') v s'
    | .ok _ => False
    | .error e => X.xe e s') s := by
    refine codeAny_mono (F.run X.A.in1 X.stack s H ⟨[.ref a], []⟩ [.ref a] [.ref a] _ E hr.in1 I.env0.in1 (hb s [.ref a] I.kIn rfl) r2 q) fun r s' hq => ?_
    cases r with
    | error e => exact hx pins σ H s e s' I hq
    | ok fl =>
      cases fl with
      | ret u => exact I.after hq
      | next => exact False.elim hq
      | brk => exact False.elim hq
      | cont => exact False.elim hq
  refine PySem.W.len_K hF I.ok.mod.kin J hm.at_ hm.fn (wpAny_mono (wpAny_call key) (fun v s' hv => ?_) fun _ _ x => x)
  obtain ⟨z, H', I', rz, n, rfl, n0, n1, qz⟩ := hv
  obtain ⟨t, rfl⟩ := (show ∃ t, v = Value.int n t from rz)
  exact ⟨⟨n0, n1⟩, .int n, H', I'.tok _, ⟨_, rfl⟩, qz⟩
end
/-- a loop over a locked dict's keys, by an invariant -/
theorem for_keys {d : Addr} {o : Obj} {kvs : List (Key × V)} {g : TG} {tb : TS} {D : Ends} {σ : St} {H : Hp} (Pv : Nat → St → Hp → Prop) (h0 : Pv 0 σ H) (hl : ∀ i σ H, Pv i σ H → H d = some (.frz o (.dK kvs)))
    (hs : ∀ i k v σ H, kvs[i]? = some (k, v) → Pv i σ H → g (kV k) σ H fun σ2 H2 => tb { D with nx := Pv (i + 1), ct := Pv (i + 1), bk := D.nx } σ2 H2) (hd : ∀ σ H, Pv kvs.length σ H → D.nx σ H) :
    ∃ W : Nat → Nat → St → Hp → Prop, (∃ m, W 0 m σ H) ∧ ∀ i m σ H, W i m σ H → ((Itk d o kvs).stop i H ∧ D.nx σ H) ∨
      ((Itk d o kvs).go i H ∧ ∃ N : St → Hp → Prop, (∀ σ' H', N σ' H' → ∃ m', m' < m ∧ W (i + 1) m' σ' H') ∧ ∀ x H', (Itk d o kvs).yld i H x H' → g x σ H' fun σ2 H2 => tb { D with nx := N, ct := N, bk := D.nx } σ2 H2) := by
  refine ⟨fun i m σ H => m + i = kvs.length ∧ Pv i σ H, ⟨kvs.length, rfl, h0⟩, fun i m σ H ⟨hm, p⟩ => ?_⟩
  have q := hl i σ H p
  by_cases hlt : i < kvs.length
  · refine .inr ⟨⟨q, hlt⟩, Pv (i + 1), fun σ' H' p' => ⟨m - 1, by omega, by omega, p'⟩, fun x H' y => ?_⟩
    obtain ⟨rfl, k, v, hk, rfl⟩ := y
    exact hs i k v σ _ hk p
  · obtain rfl : i = kvs.length := by omega
    exact .inl ⟨⟨q, Nat.le_refl _⟩, hd σ H p⟩
end L2

set_option linter.all false
set_option maxRecDepth 100000
set_option maxHeartbeats 4000000
namespace L2
open PySem PySem.Spec PyProof.Rows
/-- what the top says of a class over ValueError without an own __init__ -/
structure MidC (K : PySem.W.Frag) (D : Addr) : Prop where
  ga : PySem.W.specialIn K (.ref D) "__getattribute__" = some (some (.builtin "type.__getattribute__"))
  rd : PySem.W.readsIn K D (.type "type") = true
  fi : PySem.W.findCls K (.ref D) (.type "type") "__init__" = some (.val (.builtin "ValueError.__init__"))
section
variable {X : Cx} {e : Expr} {es : List Expr} {ta : TA} {n : Str} {D : Addr} {p1 p2 pos : Pos}
/-- D.__init__(self, ..), D an own class over ValueError that has no __init__ of its own -/
theorem pe_midInit {pl : Sem Bool} (T : MidC X.K D) (hg : Gl X n) (hm : X.mg n = some (.ref D)) (ha : PA X (e :: es) ta)
    (hc : eval (.Call (.Attribute (.Name n p1) "__init__" p2) (e :: es) [] pos) X.env = (do
      let ov ← eval (.Name n p1) X.env
      standAt p2.atName
      let (g, frst) ← holding [ov] (getMethod ov "__init__" pl)
      callWith pos g frst (backTo pos (starEach (e :: es) X.env)) (backToKw pos (keywordEach [] X.env))) := by rfl)
    (hdb : (n == ("__debug__" : Str)) = false := by decide)
    (st1 : starEach (e :: es) X.env = (false, eval e X.env) :: starEach es X.env := by rfl) (st2 : (backTo pos (starEach es X.env)).any (·.1) = false := by rfl) :
    PE X (.Call (.Attribute (.Name n p1) "__init__" p2) (e :: es) [] pos) (tVeI X.K ta) := by
  refine ⟨fun pins s σ H Q I h => ?_⟩
  refine PySem.W.methodCall_KW (ld_glob I hg hm ?_ hdb) hc
  refine PySem.W.method_cls I.kIn T.ga (PySem.W.cls_value I.kIn T.rd T.fi (by decide +kernel) ?_)
  refine PyProof.Rows.callWith_method1 (id := "ValueError.__init__") (thn (ha.run pos pins _ σ H _ (I.tok _) h) fun us s1 ⟨vs, H1, I1, r1, a, C, ws, ev, hl, T2, ea, q⟩ => ?_) st1 st2
  subst ev
  cases r1 with
  | @cons _ u0 _ ur ra rw' =>
    obtain rfl : u0 = Value.ref a := ra
    have hlen : ur.length ≤ sizeLine := by
      rw [← Paired.length rw', sizeLine_eq]
      omega
    exact oinit_ok T2 I1 ea hlen fun s' J => ⟨.non, H1, J, rfl, q⟩
end
/-- two promises of one def: one that lets nothing out, one that may -/
theorem FnOk.orX {P : Program} {w : World} {K : PySem.W.Frag} {mg : Str → Option Value} {base : Heap} {CX : CXT} {k : Nat} {f : Addr} {fd : FuncData} {ps : List Str} {sp1 sp2 : Sp} (F1 : FnOk P w K mg base CX0 k f fd ps sp1) (F2 : FnOk P w K mg base CX k f fd ps sp2) :
    FnOk P w K mg base CX k f fd ps (fun vs H Q E => sp1 vs H Q E ∨ sp2 vs H Q E) := by
  constructor
  · intro vs H Q E h
    rcases h with h | h
    · exact F1.len _ _ _ _ h
    · exact F2.len _ _ _ _ h
  · intro A outer s H args us vs Q E hr he hb hv h
    rcases h with h | h
    · refine codeAny_mono (F1.run A outer s H args us vs Q E hr he hb hv h) fun r s' z => ?_
      cases r with
      | error e => exact False.elim z
      | ok fl =>
        cases fl with
        | ret u => exact z
        | next => exact z
        | brk => exact z
        | cont => exact z
    · exact F2.run A outer s H args us vs Q E hr he hb hv h
/-! ### a method whose errors are taken by the body around -/
def tMethAt (C : Addr) (m : Str) (sp : Sp) (E : St → XK) (ta : TE) (t : TA) : TE := fun σ H Q => ta σ H fun x H1 => ∃ a dx fs, x = .ref a ∧ H1 a = some (.ins C dx fs) ∧ fs.lookup m = none ∧ t σ H1 fun vs H2 => sp (x :: vs) H2 Q (E σ)
section
variable {X : Cx} {CX : CXT} {k : Nat} {f C : Addr} {fd : FuncData} {ps : List Str} {sp : Sp} {E : St → XK} {m : Str} {pos apos : Pos} {e o : Expr} {es : List Expr} {ta : TE} {t : TA}
theorem pe_methAt {pl : Sem Bool} (ho : PE X o ta) (c : Cls X.K C) (hm : Meth X.K C m f) (F : FnOk X.prog X.w X.K X.mg X.base CX k f fd ps sp) (hr : Room k X.A) (hb : Binds X.K fd ps []) (hx : ∀ σ, PassesAt CX X σ (E σ)) (ha : PA X (e :: es) t)
    (h1 : starEach (e :: es) X.env = (false, eval e X.env) :: starEach es X.env := by rfl) (h2 : (backTo pos (starEach es X.env)).any (·.1) = false := by rfl)
    (h3 : eval (.Call (.Attribute o m apos) (e :: es) [] pos) X.env = (do
      let v0 ← eval o X.env
      standAt apos.atName
      let (g, first) ← holding [v0] (getMethod v0 m pl)
      callWith pos g first (backTo pos (starEach (e :: es) X.env)) (backToKw pos (keywordEach [] X.env))) := by rfl) :
    PE X (.Call (.Attribute o m apos) (e :: es) [] pos) (tMethAt C m sp E ta t) := by
  constructor
  intro pins s σ H Q I h
  refine PySem.W.methodCall_KW (pl := pl) (thn (ho.run pins s σ H _ I h) fun u s1 ⟨x, H1, I1, rx, a, dx, fs, ex, ea, l, q⟩ => ?_) h3
  subst ex
  obtain rfl : u = Value.ref a := rx
  refine getmeth_ok I1 ea c hm l (PySem.W.callWith_K (h₀ := X.base) (first := [.ref a]) I.ok.mod.kin hm.kp (thn (ha.run pos pins s1 σ H1 _ I1 q) fun us s2 ⟨vs, H2, I2, r, q2⟩ => ⟨I2.kIn, ?_⟩) h1 h2)
  exact run_fnS (vs := .ref a :: vs) (us := .ref a :: us) F hr hb (hx σ) I2 (.cons rfl r) q2
end
/-! ### a tuple of numbers in an f-string -/
theorem reprs_int {prog : Program} {w : World} : ∀ {l : List Int} {its : List Value}, Vals (l.map V.int) its → (∀ y ∈ l, y.natAbs.log2 < 1920) → ReprAll prog w its (l.map fun i => Str.ofString (toString i))
  | [], _, r, _ => by
    cases r
    exact .nil
  | y :: l, _, r, h => by
    cases r with
    | cons r1 r2 =>
      obtain ⟨t, rfl⟩ := r1
      exact .cons (ReprIs.int t (h y List.mem_cons_self)) (reprs_int r2 fun z hz => h z (List.mem_cons_of_mem _ hz))
theorem piled_int : ∀ l : List Int, (∀ y ∈ l, y.natAbs.log2 < 1920) → piled (l.map fun i => Str.ofString (toString i)) ≤ 1923 * l.length
  | [], _ => Nat.zero_le _
  | y :: l, h => by
    have h1 := int_text_len_1921 (h y List.mem_cons_self)
    have h2 := piled_int l fun z hz => h z (List.mem_cons_of_mem _ hz)
    rw [List.map_cons, piled_cons, List.length_cons]
    omega
/-- {t}, t a tuple of numbers: some text -/
def tFmtI (K : PySem.W.Frag) (te : TE) : TE := fun σ H Q => te σ H fun x H1 => ∃ (a : Addr) (l : List Int), x = .ref a ∧ SqT K H1 a (l.map V.int) ∧ (∀ y ∈ l, y.natAbs.log2 < 1920) ∧ l.length ≤ 20 ∧ ∀ m : Str, m.length ≤ 40000 → Q (.str m) H1
theorem pe_fmtI {X : Cx} {e : Expr} {te : TE} {pos : Pos} {k : Nat} (hr : Room k X.A) (he : PE X e te) : PE X (.FormattedValue e (-1) none pos) (tFmtI X.K te) := by
  refine ⟨fun pins s σ H Q I h => ?_⟩
  refine wpAny_FormattedValue_plain (thn (he.run pins s σ H _ I h) fun v s1 got => ?_)
  obtain ⟨x, H1, I1, r1, a, l, rfl, ht, hc, hz, q⟩ := got
  cases r1
  obtain ⟨its, rv, ⟨ox, ho, hcl, nx, hd⟩, _⟩ := I1.tuple ht
  have hp := piled_int l hc
  have htx := fmt_text (l.map fun i => Str.ofString (toString i))
  have hu := hr.units
  have hb : 40000 ≤ sizeLine := by rw [sizeLine_eq]; decide
  exact fmt_tuple (by omega) ho hcl hd (reprs_int rv hc) (by omega) fun m u tk hm => ⟨.str m, H1, I1.tok _, ⟨u, rfl⟩, q m (by omega)⟩
end L2

set_option linter.all false
set_option maxRecDepth 100000
set_option maxHeartbeats 4000000
/-! several clauses `except C as n` -/
namespace L2
open PySem PySem.Spec PyProof.Rows
/-- the ends of a suite whose name, in slot i, is let go of -/
def unb (i : Nat) (D : Ends) : Ends where
  nx := fun σ' H' => D.nx (σ'.set i none) H'
  rt := D.rt
  bk := fun σ' H' => D.bk (σ'.set i none) H'
  ct := fun σ' H' => D.ct (σ'.set i none) H'
abbrev Clause := Value × Nat × (Addr → Value → Option Addr → TS)
def wNamed (K : PySem.W.Frag) (Wout : WX) (D : Ends) : List Clause → WX
  | [] => Wout
  | c :: r => fun cls d σ H => ∃ b : Bool, PySem.W.exmOne K cls c.1 = some b ∧ (b = true → ∀ z, H z = none → c.2.2 z cls d (unb c.2.1 D) (σ.set c.2.1 (some (.ref z))) H) ∧ (b = false → wNamed K Wout D r cls d σ H)
inductive HdN (X : Cx) : List ExceptHandler → List Clause → Prop
  | nil : HdN X [] []
  | cons {x n : Str} {c : Value} {i : Nat} {ts : Addr → Value → Option Addr → TS} {q0 : Stmt} {qs : List Stmt} {p1 p2 : Pos} {hds : List ExceptHandler} {l : List Clause} (hc : Names X x c) (hi : X.N[i]? = some n) (hk : X.env.kindOf n = some .local)
      (hq : ∀ (z : Addr) (oz : Obj) (cls : Value) (d : Option Addr) (pn : List (Addr × Obj)), Zc cls d oz → (∃ fv, oz.data = .fields fv) → PSs (X.suite z ((z, oz) :: pn)) (q0 :: qs) (ts z cls d)) (rest : HdN X hds l) :
      HdN X (.ExceptHandler (some (.Name x p1)) (some n) (q0 :: qs) p2 :: hds) ((c, i, ts) :: l)
/-- an exception at a on its way through the body of X, the state around as told -/
structure Fly (X : Cx) (pins : List (Addr × Obj)) (a : Addr) (cls : Value) (d : Option Addr) (σ : St) (H : Hp) (B : Heap) (sI s3 : Shared) : Prop where
  inv : Inv X pins σ H sI
  nb : ∀ b o, sI.heap.get? b = some o → b ∉ frs X.stack → B.get? b = some o
  up : sI.heap.UpToSlots s3.heap
  fly : HandSPX.FlyingZ B (X.env :: X.outer) a (Zc cls d) s3.heap
  na : H a = none
  os : s3.os = sI.os
  ag : AllBare s3.gens
section
variable {X : Cx} {pins : List (Addr × Obj)} {a : Addr} {cls : Value} {d : Option Addr} {σ : St} {H : Hp} {B : Heap} {sI s3 : Shared}
theorem Fly.stands (F : Fly X pins a cls d σ H B sI s3) : Inv X pins σ H s3 := F.inv.landed F.nb F.fly.1 F.up F.os F.ag
theorem Fly.held (F : Fly X pins a cls d σ H B sI s3) (hf : X.env.frame = some X.env.locals) :
    ∃ (oz : Obj) (fv : Array Value), s3.heap.get? a = some oz ∧ Zc cls d oz ∧ oz.data = .fields fv ∧ Inv (X.suite a ((a, oz) :: (X.pn ++ pins))) [] σ H s3 := by
  obtain ⟨oz, fv, e, z, hd⟩ := F.fly.there
  have off : a ∉ frs (X.env :: X.outer) := by
    intro m
    obtain ⟨_, o2, e2, nf⟩ := F.fly.2.2.1.mem m
    obtain rfl := Option.some.inj (e.symm.trans e2)
    exact nf _ hd
  refine ⟨oz, fv, e, z, hd, F.stands.suite e hd F.na (fun q => off ?_) (fun q => off ?_)⟩
  · rw [q]
    exact List.mem_filterMap.mpr ⟨X.env, List.mem_cons_self, hf⟩
  · obtain ⟨v, hv, hv2⟩ := List.mem_filterMap.mp q
    exact List.mem_filterMap.mpr ⟨v, List.mem_cons_of_mem _ hv, hv2⟩
/-- the clauses, one after the other -/
theorem Fly.clauses {l : List Clause} {hds : List ExceptHandler} {Wout : WX} {D : Ends} (hs : X.stack = X.env :: X.outer) (hf : X.env.frame = some X.env.locals) (hN : X.N.Nodup) (tk : Takes X Wout) (h : HdN X hds l) (F : Fly X pins a cls d σ H B sI s3)
    (w : wNamed X.K Wout D l cls d σ H) : wpAny (model X.prog X.w) X.A (handleBy (.ref a) X.env hds) (SP X pins D) X.xe s3 := by
  induction h with
  | nil =>
    refine wpAny_handleBy_nil ?_
    obtain ⟨_, _, _, oz, fv, tb0, oT, tn, e, z, hd, h1, hr⟩ := id F.fly
    unfold PySem.passOn
    refine wpAny_bind (wpAny_field e hd h1 ?_)
    rw [if_neg (by simp : ¬ ((Value.ref tb0 == Value.none) = true))]
    have out : wpAny (model X.prog X.w) X.A (setFlight (.ref a) X.env.frame) (fun _ s4 => wpAny (model X.prog X.w) X.A (throw (.ref a) : Sem Flow) (SP X pins D) X.xe s4) X.xe s3 := by
      rw [hf]
      refine HandSPX.setFlight_upZ F.fly fun h4 held up4 => wpAny_throw (tk _ _ ?_)
      refine ⟨a, B, sI, pins, σ, H, cls, d, rfl, F.inv, F.nb, F.up.trans up4, ?_, F.na, F.os, F.ag, w⟩
      rw [hs]
      exact .inr (.inr held)
    first
      | exact wpAny_bind (wpAny_pure (wpAny_bind out))
      | exact wpAny_bind out
  | @cons x n c i ts q0 qs p1 p2 hds l hc hi hk hq rest ih =>
    obtain ⟨b, hb, yes, no⟩ := w
    obtain ⟨oz, fv, e, z, hd, S3⟩ := F.held hf
    refine wpAny_handleBy_cons (codeAny_handlers_test ?_) (fun w => by cases w)
    have LC : PySem.W.Looks (model X.prog X.w) s3.heap (typeOf (.ref a)) cls := fun _ _ _ _ k q => wpAny_typeOf_ref (k _ _ e) (by rw [z.1]; exact q)
    have LM := PySem.W.exm_one (M := model X.prog X.w) F.stands.kIn LC hb
    have named : ∀ {Q E : Value → Shared → Prop}, Q c s3 → wpAny (model X.prog X.w) (X.A.mark (some (.ref a))) (eval (.Name x p1) X.env) Q E s3 := by
      intro Q E q
      obtain ⟨hg, hdb, hm | ⟨hm, hv, hn⟩⟩ := hc
      · exact ld_glob S3 hg hm q hdb
      · exact ld_blt S3 hg hm hv q hn hdb
    refine named (LM.here ?_)
    cases b with
    | false => exact ih (no rfl)
    | true =>
      refine codeAny_handlers_suite_as (HandSPX.lands_againZ F.fly fun h4 fl4 up4 => ?_)
      have F4 : Fly X pins a cls d σ H B sI { s3 with heap := h4 } := ⟨F.inv, F.nb, F.up.trans up4, fl4, F.na, F.os, F.ag⟩
      obtain ⟨oy, fy, ey, zy, dy, S4⟩ := F4.held hf
      refine store_ok (X := X.suite a ((a, oy) :: (X.pn ++ pins))) (v := .ref a) S4 hN hi (.inl hk) rfl (fun s5 S5 => ?_) (.inr hk)
      refine wpAny_mono ((hq a oy cls d (X.pn ++ pins) zy ⟨_, dy⟩).run [] s5 _ H _ S5 (yes rfl a F.na)) (fun f s6 hsp => ?_) (fun _ _ q => q.elim)
      have ok := F.inv.ok
      have fin : ∀ {τ : St} {H6 : Hp} {P : Shared → Prop}, Inv (X.suite a ((a, oy) :: (X.pn ++ pins))) [] τ H6 s6 → (∀ s7, Inv X pins (τ.set i none) H6 s7 → P s7) →
          wpAny (model X.prog X.w) X.A (do bindName X.env n .none; unbindBehindTheSuite X.env n p2) (fun _ s7 => P s7) X.xe s6 := fun I6 q => gone_ok (I6.unsuite ok) hN hi hk q
      cases f with
      | next =>
        obtain ⟨τ, H6, I6, q6⟩ := hsp
        exact fin I6 fun _ I7 => ⟨_, _, I7, q6⟩
      | brk =>
        obtain ⟨τ, H6, I6, q6⟩ := hsp
        exact fin I6 fun _ I7 => ⟨_, _, I7, q6⟩
      | cont =>
        obtain ⟨τ, H6, I6, q6⟩ := hsp
        exact fin I6 fun _ I7 => ⟨_, _, I7, q6⟩
      | ret u =>
        obtain ⟨v, τ, H6, I6, r6, q6⟩ := hsp
        exact fin I6 fun _ I7 => ⟨_, _, _, I7, r6, q6⟩
theorem ps_try_named {body : List Stmt} {h0 : ExceptHandler} {hds : List ExceptHandler} {l : List Clause} {pos : Pos} {tb : WX → TS} {Wout : WX} (hs : X.stack = X.env :: X.outer) (hf : X.env.frame = some X.env.locals) (hN : X.N.Nodup) (tk : Takes X Wout)
    (hb : ∀ (W : WX) (qs : List (Addr × Obj)) (xe : Value → Shared → Prop), Takes (X.tr qs xe) W → PassesOwn (model X.prog X.w) X.A X.env xe → PSs (X.tr qs xe) body (tb W))
    (hh : HdN X (h0 :: hds) l) : PS X (.Try body (h0 :: hds) [] [] pos) (fun D σ H => tb (wNamed X.K Wout D l) D σ H) := by
  constructor
  intro pins s σ H D I h
  have ok := I.ok
  have hfr : X.A.frames = some (X.env :: X.outer) := ok.frames.trans (by rw [hs])
  refine wpAny_Try_except (wpAny_mono ((hb (wNamed X.K Wout D l) (X.pn ++ pins) (fun e t1 => wpAny (model X.prog X.w) X.A (noteFrame e X.env) (fun _ t2 => wpAny (model X.prog X.w) X.A (setFlight e none)
    (fun _ t3 => wpAny (model X.prog X.w) X.A (handleBy e X.env (h0 :: hds)) (SP X pins D) X.xe t3) X.xe t2) X.xe t1) (fun u s' hx => ?_) PassesOwn.looking).run [] s σ H D (I.toTry _) h) (fun f s1 hsp => ?_) (fun _ _ q => q))
  · obtain ⟨a, B, sI, pn', τ, H', cls, d, rfl, J, nb, up, sky, na, os, ag, w⟩ := hx
    have sky2 : Sky B (X.env :: X.outer) a (Zc cls d) X.env.locals s'.heap := hs ▸ sky
    refine Sky.land (a := a) Zc.steady hfr hf sky2 fun h3 fl up3 => ?_
    exact Fly.clauses (s3 := { s' with heap := h3 }) hs hf hN tk hh ⟨J.ofTry ok, nb, up.trans up3, fl, na, os, ag⟩ w
  · cases f with
    | next =>
      obtain ⟨τ, H', J, q⟩ := hsp
      exact wpAny_execs_nil ⟨τ, H', J.ofTry ok, q⟩
    | brk =>
      obtain ⟨τ, H', J, q⟩ := hsp
      exact ⟨τ, H', J.ofTry ok, q⟩
    | cont =>
      obtain ⟨τ, H', J, q⟩ := hsp
      exact ⟨τ, H', J.ofTry ok, q⟩
    | ret u =>
      obtain ⟨v, τ, H', J, r, q⟩ := hsp
      exact ⟨v, τ, H', J.ofTry ok, r, q⟩
end
/-- isinstance(e, c), e the caught exception, which has its dict -/
def rIsD (K : PySem.W.Frag) (z : Addr) (cls : Value) (d : Option Addr) : List V → Hp → VK → Prop := fun xs H Q => ∃ (D dd : Addr) (fs : List (Str × V)) (c : V) (cv : Value) (b : Bool),
  cls = .ref D ∧ d = some dd ∧ H dd = some (.xd fs) ∧ ExcC K D ∧ xs = [.ref z, c] ∧ (∀ u, RelV c u → u = cv) ∧ PySem.W.kitOne K (.ref D) cv = some b ∧ Q (.bl b) H
theorem call_isD {X : Cx} {z : Addr} {cls : Value} {d : Option Addr} {oz : Obj} {pn : List (Addr × Obj)} (hz : Zc cls d oz) (hf : ∃ fv, oz.data = .fields fv) : CallR (X.suite z ((z, oz) :: pn)) (.builtin "isinstance") (rIsD X.K z cls d) := by
  intro pins s σ H xs us Q I r h
  obtain ⟨D, dd, fs, c, cv, b, rfl, rfl, ed, T, rfl, hcv, e, q⟩ := h
  obtain ⟨u1, u2, rfl, r1, r2⟩ : ∃ u1 u2, us = [u1, u2] ∧ RelV (.ref z) u1 ∧ RelV c u2 := by
    cases r with
    | cons r1 r =>
      cases r with
      | cons r2 r =>
        cases r
        exact ⟨_, _, rfl, r1, r2⟩
  obtain rfl : u1 = Value.ref z := r1
  obtain rfl := hcv _ r2
  obtain ⟨at1, _⟩ := I.pin (z, oz) (List.mem_append_left _ List.mem_cons_self)
  obtain ⟨fv, hd⟩ := hf
  have hx : ObjOk X.prog X.w H s.heap dd (.xd fs) := I.hok dd _ ed
  obtain ⟨mA, hns, hr⟩ := hx
  obtain ⟨od, ho, _⟩ := lookIn_ns hns
  have J : PySem.W.InstAt s.heap z oz D (some od) := ⟨at1, hz.1, by unfold PySem.W.notCls; rw [hd] <;> rfl, by rw [hz.2]; exact ho⟩
  have hcl : (PySem.W.clsIn X.K D).isSome = true := by
    obtain ⟨cd, hc, _⟩ := PySem.W.any_some T.hd
    rw [hc]
    rfl
  exact PySem.W.kia_one (PySem.W.kitx_exc hcl T.hg T.hk T.hs T.ha T.hn T.ht T.hm) I.kIn J e (fun w => nomatch w) fun tk => ⟨.bl b, H, I.kept (t' := tk) fun _ _ w => w, rfl, q⟩
end L2

set_option Elab.async false
set_option linter.all false
set_option maxRecDepth 100000
set_option maxHeartbeats 4000000
namespace Lw
open PySem L2
local macro_rules | `(tactic| walk_at "hp") => `(tactic| (repeat (first | exact upd_same | assumption | (refine (upd_ne (by first | assumption | exact Ne.symm (by assumption) | exact ne_of_none (by assumption) (by assumption) | exact Ne.symm (ne_of_none (by assumption) (by assumption)))).trans ?_))))
local macro_rules | `(tactic| walk_at "r1") => `(tactic| (first
  | (refine ⟨_, rfl, ?_⟩) | (refine ⟨_, _, rfl, rfl, ?_⟩) | (refine ⟨_, _, _, _, rfl, rfl, SqL.of (by walk_at "hp"), rfl, ?_⟩) | (refine ⟨_, _, _, _, rfl, rfl, (by walk_at "hp"), rfl, ?_⟩) | (refine ⟨rfl, ?_⟩)
  | (refine ⟨_, .inl ⟨_, SqL.of (by walk_at "hp"), rfl⟩, ?_⟩) | (refine ⟨_, _, rfl, .inl (SqL.of (by walk_at "hp")), ?_⟩) | (refine ⟨.inl ⟨rfl, _, SqL.of (by walk_at "hp")⟩, ?_⟩)
  | (refine ⟨_, _, _, _, _, rfl, (by walk_at "hp"), (by assumption), (by assumption), (by assumption), ?_⟩) | (refine ⟨_, _, _, _, rfl, (by walk_at "hp"), (by assumption), (by assumption), (by first | (show 0 < 1000; decide) | (show 1 < 1000; decide) | (show 2 < 1000; decide) | (show 3 < 1000; decide) | (show 4 < 1000; decide)), ?_⟩)
  | (refine ⟨(by show (0 : Int) < _; first | decide | omega), ?_⟩) | (refine ⟨⟨by assumption, by assumption⟩, ?_⟩) | (refine ⟨.inl ⟨by decide, by decide⟩, ?_⟩) | (refine ⟨.inr ⟨by decide, by decide⟩, ?_⟩)))
local macro_rules | `(tactic| walk_at "rd") => `(tactic| (repeat walk_at "r1"))
def top (i : Nat) : Stmt := PySem.Challenge.pw_pactford_k06_handles_refused.main.body.getD i (.Pass ⟨0, 0, 0, 0⟩)
abbrev s_p_copied : Stmt := top 3
theorem sc_p_copied : FnScope ["thing", "part"] ["thing"] (defScope s_p_copied) := ⟨rfl, rfl, rfl, by decide +kernel, rfl, by decide +kernel, by decide +kernel⟩
abbrev s_NoHandle_init : Stmt := inClass (top 5) 0
theorem sc_NoHandle_init : FnScope ["self", "handle"] ["self", "handle"] (defScope s_NoHandle_init) := ⟨rfl, rfl, rfl, by decide +kernel, rfl, by decide +kernel, by decide +kernel⟩
abbrev s_Ended_init : Stmt := inClass (top 6) 0
theorem sc_Ended_init : FnScope ["self", "handle"] ["self", "handle"] (defScope s_Ended_init) := ⟨rfl, rfl, rfl, by decide +kernel, rfl, by decide +kernel, by decide +kernel⟩
abbrev s_is_whole : Stmt := top 8
theorem sc_is_whole : FnScope ["thing"] ["thing"] (defScope s_is_whole) := ⟨rfl, rfl, rfl, by decide +kernel, rfl, by decide +kernel, by decide +kernel⟩
abbrev s_Table_init : Stmt := inClass (top 10) 0
theorem sc_Table_init : FnScope ["self"] ["self"] (defScope s_Table_init) := ⟨rfl, rfl, rfl, by decide +kernel, rfl, by decide +kernel, by decide +kernel⟩
abbrev s_Table_begin : Stmt := inClass (top 10) 1
theorem sc_Table_begin : FnScope ["self", "number", "place", "turn"] ["self", "number"] (defScope s_Table_begin) := ⟨rfl, rfl, rfl, by decide +kernel, rfl, by decide +kernel, by decide +kernel⟩
abbrev s_Table_look : Stmt := inClass (top 10) 2
theorem sc_Table_look : FnScope ["self", "handle"] ["self", "handle"] (defScope s_Table_look) := ⟨rfl, rfl, rfl, by decide +kernel, rfl, by decide +kernel, by decide +kernel⟩
abbrev s_Table_end : Stmt := inClass (top 10) 3
theorem sc_Table_end : FnScope ["self", "handle", "place"] ["self", "handle"] (defScope s_Table_end) := ⟨rfl, rfl, rfl, by decide +kernel, rfl, by decide +kernel, by decide +kernel⟩
abbrev s_Table_p_living_place : Stmt := inClass (top 10) 4
theorem sc_Table_p_living_place : FnScope ["self", "handle", "place", "turn"] ["self", "handle"] (defScope s_Table_p_living_place) := ⟨rfl, rfl, rfl, by decide +kernel, rfl, by decide +kernel, by decide +kernel⟩
abbrev s_Table_alive : Stmt := inClass (top 10) 5
theorem sc_Table_alive : FnScope ["self", "place"] ["self"] (defScope s_Table_alive) := ⟨rfl, rfl, rfl, by decide +kernel, rfl, by decide +kernel, by decide +kernel⟩
abbrev s_Table_most : Stmt := inClass (top 10) 6
theorem sc_Table_most : FnScope ["self"] ["self"] (defScope s_Table_most) := ⟨rfl, rfl, rfl, by decide +kernel, rfl, by decide +kernel, by decide +kernel⟩
abbrev s_Table_twin : Stmt := inClass (top 10) 7
theorem sc_Table_twin : FnScope ["self"] ["self"] (defScope s_Table_twin) := ⟨rfl, rfl, rfl, by decide +kernel, rfl, by decide +kernel, by decide +kernel⟩
abbrev s_Table_len : Stmt := inClass (top 10) 8
theorem sc_Table_len : FnScope ["self"] ["self"] (defScope s_Table_len) := ⟨rfl, rfl, rfl, by decide +kernel, rfl, by decide +kernel, by decide +kernel⟩
abbrev s_p_is_handle : Stmt := top 11
theorem sc_p_is_handle : FnScope ["thing", "part"] ["thing"] (defScope s_p_is_handle) := ⟨rfl, rfl, rfl, by decide +kernel, rfl, by decide +kernel, by decide +kernel⟩
abbrev s_box : Stmt := top 13
theorem sc_box : FnScope ["_law_script", "_law_great", "_law_cell"] ["_law_script"] (defScope s_box) := ⟨rfl, rfl, rfl, by decide +kernel, rfl, by decide +kernel, by decide +kernel⟩
abbrev s_mixed : Stmt := top 14
theorem sc_mixed : FnScope ["_law_cell", "_law_k", "_law_whole"] ["_law_cell", "_law_k"] (defScope s_mixed) := ⟨rfl, rfl, rfl, by decide +kernel, rfl, by decide +kernel, by decide +kernel⟩
abbrev s_take : Stmt := top 15
theorem sc_take : FnScope ["_law_box_here", "_law_size", "_law_found", "_law_cell", "_law_reach"] ["_law_box_here", "_law_size"] (defScope s_take) := ⟨rfl, rfl, rfl, by decide +kernel, rfl, by decide +kernel, by decide +kernel⟩
abbrev s_figure : Stmt := top 16
theorem sc_figure : FnScope ["_law_box_here", "_law_found"] ["_law_box_here"] (defScope s_figure) := ⟨rfl, rfl, rfl, by decide +kernel, rfl, by decide +kernel, by decide +kernel⟩
abbrev s_begun : Stmt := top 17
theorem sc_begun : FnScope ["_law_model", "_law_figure_here", "_law_turns", "_law_lives", "_law_peak", "_law_place"] ["_law_model", "_law_figure_here"] (defScope s_begun) := ⟨rfl, rfl, rfl, by decide +kernel, rfl, by decide +kernel, by decide +kernel⟩
abbrev s_stands : Stmt := top 19
theorem sc_stands : FnScope ["_law_table", "_law_model", "_law_turns", "_law_lives", "_law_peak", "_law_due_here", "_law_told", "_law_place"] ["_law_table", "_law_model"] (defScope s_stands) := ⟨rfl, rfl, rfl, by decide +kernel, rfl, by decide +kernel, by decide +kernel⟩
abbrev s_odd : Stmt := top 20
theorem sc_odd : FnScope ["_law_box_here", "_law_model", "_law_turns", "_law_far", "_law_way", "_law_place"] ["_law_box_here", "_law_model"] (defScope s_odd) := ⟨rfl, rfl, rfl, by decide +kernel, rfl, by decide +kernel, by decide +kernel⟩
abbrev s_due : Stmt := top 21
theorem sc_due : FnScope ["_law_model", "_law_grip", "_law_turns", "_law_lives", "_law_peak", "_law_place", "_law_turn"] ["_law_model", "_law_grip"] (defScope s_due) := ⟨rfl, rfl, rfl, by decide +kernel, rfl, by decide +kernel, by decide +kernel⟩
abbrev s_asked : Stmt := top 22
theorem sc_asked : FnScope ["_law_table", "_law_word", "_law_grip", "_law_found", "e"] ["_law_table", "_law_word", "_law_grip"] (defScope s_asked) := ⟨rfl, rfl, rfl, by decide +kernel, rfl, by decide +kernel, by decide +kernel⟩
abbrev s_law : Stmt := top 23
theorem sc_law : FnScope ["_law_script", "_law_box_here", "_law_table", "_law_model", "_law_k", "_law_figure_here", "_law_place", "_law_turn", "_law_grip", "_law_word", "_law_due_here"] ["_law_script"] (defScope s_law) := ⟨rfl, rfl, rfl, by decide +kernel, rfl, by decide +kernel, by decide +kernel⟩
/-- the addresses -/
structure Ad where
  c_Table : Addr
  c_NoHandle : Addr
  c_Ended : Addr
  c_PactError : Addr
  f_p_copied : Addr
  d_p_copied : FuncData
  f_NoHandle_init : Addr
  d_NoHandle_init : FuncData
  f_Ended_init : Addr
  d_Ended_init : FuncData
  f_is_whole : Addr
  d_is_whole : FuncData
  f_Table_init : Addr
  d_Table_init : FuncData
  f_Table_begin : Addr
  d_Table_begin : FuncData
  f_Table_look : Addr
  d_Table_look : FuncData
  f_Table_end : Addr
  d_Table_end : FuncData
  f_Table_p_living_place : Addr
  d_Table_p_living_place : FuncData
  f_Table_alive : Addr
  d_Table_alive : FuncData
  f_Table_most : Addr
  d_Table_most : FuncData
  f_Table_twin : Addr
  d_Table_twin : FuncData
  f_Table_len : Addr
  d_Table_len : FuncData
  f_p_is_handle : Addr
  d_p_is_handle : FuncData
  f_box : Addr
  d_box : FuncData
  f_mixed : Addr
  d_mixed : FuncData
  f_take : Addr
  d_take : FuncData
  f_figure : Addr
  d_figure : FuncData
  f_begun : Addr
  d_begun : FuncData
  f_stands : Addr
  d_stands : FuncData
  f_odd : Addr
  d_odd : FuncData
  f_due : Addr
  d_due : FuncData
  f_asked : Addr
  d_asked : FuncData
  f_law : Addr
  d_law : FuncData
/-- what the top has written -/
structure Txt (K : PySem.W.Frag) (mg : Str → Option Value) (a : Ad) : Prop where
  cl_Table : Cls K a.c_Table
  mk_Table : Mk K a.c_Table a.f_Table_init
  g_Table : mg "Table" = some (.ref a.c_Table)
  n_Table__turns : NoAttr K a.c_Table "_turns"
  n_Table__numbers : NoAttr K a.c_Table "_numbers"
  n_Table__free : NoAttr K a.c_Table "_free"
  n_Table__most : NoAttr K a.c_Table "_most"
  x_NoHandle : OexC K a.c_NoHandle
  xi_NoHandle : PySem.W.findIn K (.ref a.c_NoHandle) "__init__" = some (some (.ref a.f_NoHandle_init))
  xt_NoHandle : PySem.W.typeIn K (.ref a.f_NoHandle_init) = some (.type "function")
  xf_NoHandle : XfC K a.c_NoHandle
  g_NoHandle : mg "NoHandle" = some (.ref a.c_NoHandle)
  n_NoHandle_handle : PySem.W.findIn K (.ref a.c_NoHandle) "handle" = some none
  x_Ended : OexC K a.c_Ended
  xi_Ended : PySem.W.findIn K (.ref a.c_Ended) "__init__" = some (some (.ref a.f_Ended_init))
  xt_Ended : PySem.W.typeIn K (.ref a.f_Ended_init) = some (.type "function")
  xf_Ended : XfC K a.c_Ended
  g_Ended : mg "Ended" = some (.ref a.c_Ended)
  n_Ended_handle : PySem.W.findIn K (.ref a.c_Ended) "handle" = some none
  md_PactError : MidC K a.c_PactError
  g_PactError : mg "PactError" = some (.ref a.c_PactError)
  fa_NoHandle : PySem.W.findIn K (.ref a.c_NoHandle) "__class__" = some (some (.builtin "object.__class__"))
  fm_NoHandle : PySem.W.mroIn K a.c_NoHandle (.type "object") = some true
  fp_NoHandle : PySem.W.kitOne K (.ref a.c_NoHandle) (.ref a.c_PactError) = some true
  fv_NoHandle : PySem.W.kitOne K (.ref a.c_NoHandle) (.type "ValueError") = some true
  fa_Ended : PySem.W.findIn K (.ref a.c_Ended) "__class__" = some (some (.builtin "object.__class__"))
  fm_Ended : PySem.W.mroIn K a.c_Ended (.type "object") = some true
  fp_Ended : PySem.W.kitOne K (.ref a.c_Ended) (.ref a.c_PactError) = some true
  fv_Ended : PySem.W.kitOne K (.ref a.c_Ended) (.type "ValueError") = some true
  fx_1 : PySem.W.kitOne K (.ref a.c_NoHandle) (.ref a.c_Ended) = some false
  fe_1 : PySem.W.exmOne K (.ref a.c_NoHandle) (.ref a.c_NoHandle) = some true
  fe_2 : PySem.W.exmOne K (.ref a.c_Ended) (.ref a.c_NoHandle) = some false
  fe_3 : PySem.W.exmOne K (.ref a.c_Ended) (.ref a.c_Ended) = some true
  fg : PySem.W.specialIn K (.builtin "object.__class__") "__get__" = some (some (.builtin "getset_descriptor.__get__"))
  ft : PySem.W.takesIn K (.builtin "object.__class__") = some true
  F_p_copied : Fun K "_copied" "_copied" s_p_copied a.f_p_copied a.d_p_copied
  B_p_copied : Binds K a.d_p_copied ["thing"] []
  g_p_copied : mg "_copied" = some (.ref a.f_p_copied)
  k_p_copied : PySem.W.keepIn K (.ref a.f_p_copied) = true
  F_NoHandle_init : Fun K "__init__" "NoHandle.__init__" s_NoHandle_init a.f_NoHandle_init a.d_NoHandle_init
  B_NoHandle_init : Binds K a.d_NoHandle_init ["self", "handle"] []
  F_Ended_init : Fun K "__init__" "Ended.__init__" s_Ended_init a.f_Ended_init a.d_Ended_init
  B_Ended_init : Binds K a.d_Ended_init ["self", "handle"] []
  F_is_whole : Fun K "is_whole" "is_whole" s_is_whole a.f_is_whole a.d_is_whole
  B_is_whole : Binds K a.d_is_whole ["thing"] []
  g_is_whole : mg "is_whole" = some (.ref a.f_is_whole)
  k_is_whole : PySem.W.keepIn K (.ref a.f_is_whole) = true
  F_Table_init : Fun K "__init__" "Table.__init__" s_Table_init a.f_Table_init a.d_Table_init
  B_Table_init : Binds K a.d_Table_init ["self"] []
  F_Table_begin : Fun K "begin" "Table.begin" s_Table_begin a.f_Table_begin a.d_Table_begin
  B_Table_begin : Binds K a.d_Table_begin ["self", "number"] []
  m_Table_begin : Meth K a.c_Table "begin" a.f_Table_begin
  F_Table_look : Fun K "look" "Table.look" s_Table_look a.f_Table_look a.d_Table_look
  B_Table_look : Binds K a.d_Table_look ["self", "handle"] []
  m_Table_look : Meth K a.c_Table "look" a.f_Table_look
  F_Table_end : Fun K "end" "Table.end" s_Table_end a.f_Table_end a.d_Table_end
  B_Table_end : Binds K a.d_Table_end ["self", "handle"] []
  m_Table_end : Meth K a.c_Table "end" a.f_Table_end
  F_Table_p_living_place : Fun K "_living_place" "Table._living_place" s_Table_p_living_place a.f_Table_p_living_place a.d_Table_p_living_place
  B_Table_p_living_place : Binds K a.d_Table_p_living_place ["self", "handle"] []
  m_Table_p_living_place : Meth K a.c_Table "_living_place" a.f_Table_p_living_place
  F_Table_alive : Fun K "alive" "Table.alive" s_Table_alive a.f_Table_alive a.d_Table_alive
  B_Table_alive : Binds K a.d_Table_alive ["self"] []
  m_Table_alive : Meth K a.c_Table "alive" a.f_Table_alive
  F_Table_most : Fun K "most" "Table.most" s_Table_most a.f_Table_most a.d_Table_most
  B_Table_most : Binds K a.d_Table_most ["self"] []
  m_Table_most : Meth K a.c_Table "most" a.f_Table_most
  F_Table_twin : Fun K "twin" "Table.twin" s_Table_twin a.f_Table_twin a.d_Table_twin
  B_Table_twin : Binds K a.d_Table_twin ["self"] []
  m_Table_twin : Meth K a.c_Table "twin" a.f_Table_twin
  F_Table_len : Fun K "__len__" "Table.__len__" s_Table_len a.f_Table_len a.d_Table_len
  B_Table_len : Binds K a.d_Table_len ["self"] []
  m_Table_len : Meth K a.c_Table "__len__" a.f_Table_len
  F_p_is_handle : Fun K "_is_handle" "_is_handle" s_p_is_handle a.f_p_is_handle a.d_p_is_handle
  B_p_is_handle : Binds K a.d_p_is_handle ["thing"] []
  g_p_is_handle : mg "_is_handle" = some (.ref a.f_p_is_handle)
  k_p_is_handle : PySem.W.keepIn K (.ref a.f_p_is_handle) = true
  F_box : Fun K "_law_box" "_law_box" s_box a.f_box a.d_box
  B_box : Binds K a.d_box ["_law_script"] []
  g_box : mg "_law_box" = some (.ref a.f_box)
  k_box : PySem.W.keepIn K (.ref a.f_box) = true
  F_mixed : Fun K "_law_mixed" "_law_mixed" s_mixed a.f_mixed a.d_mixed
  B_mixed : Binds K a.d_mixed ["_law_cell", "_law_k"] []
  g_mixed : mg "_law_mixed" = some (.ref a.f_mixed)
  k_mixed : PySem.W.keepIn K (.ref a.f_mixed) = true
  F_take : Fun K "_law_take" "_law_take" s_take a.f_take a.d_take
  B_take : Binds K a.d_take ["_law_box_here", "_law_size"] []
  g_take : mg "_law_take" = some (.ref a.f_take)
  k_take : PySem.W.keepIn K (.ref a.f_take) = true
  F_figure : Fun K "_law_figure" "_law_figure" s_figure a.f_figure a.d_figure
  B_figure : Binds K a.d_figure ["_law_box_here"] []
  g_figure : mg "_law_figure" = some (.ref a.f_figure)
  k_figure : PySem.W.keepIn K (.ref a.f_figure) = true
  F_begun : Fun K "_law_begun" "_law_begun" s_begun a.f_begun a.d_begun
  B_begun : Binds K a.d_begun ["_law_model", "_law_figure_here"] []
  g_begun : mg "_law_begun" = some (.ref a.f_begun)
  k_begun : PySem.W.keepIn K (.ref a.f_begun) = true
  F_stands : Fun K "_law_stands" "_law_stands" s_stands a.f_stands a.d_stands
  B_stands : Binds K a.d_stands ["_law_table", "_law_model"] []
  g_stands : mg "_law_stands" = some (.ref a.f_stands)
  k_stands : PySem.W.keepIn K (.ref a.f_stands) = true
  F_odd : Fun K "_law_odd" "_law_odd" s_odd a.f_odd a.d_odd
  B_odd : Binds K a.d_odd ["_law_box_here", "_law_model"] []
  g_odd : mg "_law_odd" = some (.ref a.f_odd)
  k_odd : PySem.W.keepIn K (.ref a.f_odd) = true
  F_due : Fun K "_law_due" "_law_due" s_due a.f_due a.d_due
  B_due : Binds K a.d_due ["_law_model", "_law_grip"] []
  g_due : mg "_law_due" = some (.ref a.f_due)
  k_due : PySem.W.keepIn K (.ref a.f_due) = true
  F_asked : Fun K "_law_asked" "_law_asked" s_asked a.f_asked a.d_asked
  B_asked : Binds K a.d_asked ["_law_table", "_law_word", "_law_grip"] []
  g_asked : mg "_law_asked" = some (.ref a.f_asked)
  k_asked : PySem.W.keepIn K (.ref a.f_asked) = true
  F_law : Fun K "law" "law" s_law a.f_law a.d_law
  B_law : Binds K a.d_law ["_law_script"] []
  g_law : mg "law" = some (.ref a.f_law)
  k_law : PySem.W.keepIn K (.ref a.f_law) = true
  z_ValueError : mg "ValueError" = none
  z_isinstance : mg "isinstance" = none
  z_int : mg "int" = none
  z_bool : mg "bool" = none
  z_tuple : mg "tuple" = none
  z_list : mg "list" = none
  z_len : mg "len" = none
  z_max : mg "max" = none
  z_sorted : mg "sorted" = none
  z_all : mg "all" = none
  z_any : mg "any" = none
  z_range : mg "range" = none
  z_dict : mg "dict" = none
  z_zip : mg "zip" = none
  h_heappop : mg "heappop" = some (.builtin "_heapq.heappop")
  h_heappush : mg "heappush" = some (.builtin "_heapq.heappush")
section
variable {P : Program} {w : World} {K : PySem.W.Frag} {mg : Str → Option Value} {base : Heap} {a : Ad}
/-! ### _copied, the refusals' making -/
def sp_copied0 : Sp := fun vs H Q _ => ∃ i : Int, vs = [.int i] ∧ Q (.int i) H
theorem ok_p_copied0 (T : Txt K mg a) : FnOk P w K mg base CX0 1 a.f_p_copied a.d_p_copied ["thing"] sp_copied0 := by
  refine T.F_p_copied.ok sc_p_copied (fun vs H Q E h => ?_) (fun cdv A outer s H vs Q E hr h => ?_)
  · obtain ⟨i, rfl, _⟩ := h
    rfl
  · obtain ⟨i, rfl, kk⟩ := h
    refine ⟨_, (pss_cons (ps_if (pt_val (pe_callB call_isi (by rfl) T.z_isinstance (by decide +kernel) (pa_cons (pv 0) (pa_cons (pe_bltn (v := .ty "list") (by rfl) T.z_list (by decide +kernel) rfl) pa_nil)))) (pss_one (ps_never)) pss_nil)
      (pss_cons (ps_if (pt_val (pe_callB call_isi (by rfl) T.z_isinstance (by decide +kernel) (pa_cons (pv 0) (pa_cons (pe_bltn (v := .ty "tuple") (by rfl) T.z_tuple (by decide +kernel) rfl) pa_nil)))) (pss_one (ps_never)) pss_nil)
      (pss_one (ps_ret (pv 0))))), ?_⟩
    refine ⟨_, rfl, _, _, _, _, false, rfl, .ty "list", .base (.int i), kit_ty (by decide +kernel), false, rfl, ?_⟩
    refine iteF ?_
    refine ⟨_, rfl, _, _, _, _, false, rfl, .ty "tuple", .base (.int i), kit_ty (by decide +kernel), false, rfl, ?_⟩
    refine iteF ?_
    exact ⟨_, rfl, kk⟩
def sp_copied : Sp := fun vs H Q _ => ∃ (h : Addr) (ns : List Int), vs = [.ref h] ∧ H h = some (.tup (ns.map V.int)) ∧ ns.length ≤ 20 ∧ ∀ (p : Addr) (H' : Hp), H p = none → H' p = some (.tup (ns.map V.int)) → Same H H' → Q (.ref p) H'
theorem ok_p_copied (T : Txt K mg a) : FnOk P w K mg base CX0 2 a.f_p_copied a.d_p_copied ["thing"] sp_copied := by
  refine T.F_p_copied.ok sc_p_copied (fun vs H Q E h => ?_) (fun cdv A outer s H vs Q E hr h => ?_)
  · obtain ⟨h, ns, rfl, _⟩ := h
    rfl
  · obtain ⟨h, ns, rfl, e, hl, kk⟩ := h
    refine ⟨_, (pss_cons (ps_if (pt_val (pe_callB call_isi (by rfl) T.z_isinstance (by decide +kernel) (pa_cons (pv 0) (pa_cons (pe_bltn (v := .ty "list") (by rfl) T.z_list (by decide +kernel) rfl) pa_nil)))) (pss_one (ps_never)) pss_nil)
      (pss_cons (ps_if (pt_val (pe_callB call_isi (by rfl) T.z_isinstance (by decide +kernel) (pa_cons (pv 0) (pa_cons (pe_bltn (v := .ty "tuple") (by rfl) T.z_tuple (by decide +kernel) rfl) pa_nil)))) (pss_one (ps_ret (pe_callTy call_tuple_of (by rfl) T.z_tuple (by decide +kernel) (pa_cons (pe_lc (own := [("part", 1)]) (g := gName 1) (tt := tYes) rfl sc_p_copied.nd (pi_tup (pv 0)) (blkOk_by (own := [("part", 1)]) (N := ["thing", "part"]) (sc := defScope s_p_copied) (by decide +kernel)) (fun _ _ _ _ _ => pg_name (i := 1) sc_p_copied.nd rfl (Or.inl rfl)) (fun _ _ _ _ _ => pts_nil) (fun _ _ _ _ _ => by exact (pe_call (ok_p_copied0 T) (hr.mono (by decide)) rfl T.g_p_copied T.k_p_copied T.B_p_copied .nil pass0 (pa_cons (pv 1) pa_nil)))) pa_nil)))) pss_nil)
      (pss_one (ps_never)))), ?_⟩
    refine ⟨_, rfl, _, _, _, _, false, rfl, .ty "list", .base (.tup e), kit_ty (by decide +kernel), false, rfl, ?_⟩
    refine iteF ?_
    refine ⟨_, rfl, _, _, _, _, true, rfl, .ty "tuple", .base (.tup e), kit_ty (by decide +kernel), true, rfl, ?_⟩
    refine iteT ?_
    refine ⟨_, rfl, h, rfl, ⟨_, SqT.of e⟩, fun D hD => ?_⟩
    have nD : h ≠ D := ne_of_none e hD
    have sD : ∀ o, Same H (upd H D o) := fun o => (Same.refl H).upd hD
    refine lc_tup (K := K) (a := h) (xs := ns.map V.int) (fun i H1 => Blk (H1 = upd H D (.lst ((ns.take i).map V.int)) ∧ i ≤ ns.length)) (Blk.of ⟨rfl, by omega⟩) (fun i H1 _ hB => ?_) ?_ ?_
    · obtain ⟨rfl, _⟩ := hB.out
      exact SqT.of (by walk_at "hp")
    · intro i y H1 hi hB
      obtain ⟨rfl, _⟩ := hB.out
      rw [List.getElem?_map] at hi
      obtain ⟨q, hq, rfl⟩ : ∃ q, ns[i]? = some q ∧ V.int q = y := by
        cases e2 : ns[i]? with
        | none => rw [e2] at hi; cases hi
        | some q => rw [e2] at hi; exact ⟨q, rfl, Option.some.inj hi⟩
      have hil := get_lt hq
      have et : ns.take (i + 1) = ns.take i ++ [q] := by rw [List.take_add_one, hq]; rfl
      refine ⟨rfl, ?_⟩
      dsimp only [tYes]
      refine iteT ?_
      refine ⟨_, rfl, q, rfl, _, upd_same, ?_, Blk.of ⟨?_, by omega⟩⟩
      · rw [List.length_map, List.length_take]
        exact small (by omega)
      · rw [upd_upd, et, List.map_append]
        rfl
    · intro H1 hB
      obtain ⟨rfl, _⟩ := hB.out
      refine ⟨D, _, rfl, .inl ⟨SqL.of upd_same, fun l hl0 => ?_⟩⟩
      rw [List.length_map, List.take_length]
      have nl : D ≠ l := ne_of_none upd_same hl0
      refine kk l _ ?_ upd_same (((Same.refl H).upd hD).upd ?_)
      · exact (upd_ne nl.symm).symm.trans hl0
      · exact (upd_ne nl.symm).symm.trans hl0
/-- a refusal that bears a handle is being made -/
def sp_bears (C : Addr) : Sp := fun vs H Q _ => ∃ (e h : Addr) (ns : List Int), vs = [.ref e, .ref h] ∧ H e = some (exo e C none) ∧ H h = some (.tup (ns.map V.int)) ∧ ns.length ≤ 20 ∧ (∀ y, y ∈ ns → y.natAbs.log2 < 1920) ∧
  ∀ (d p : Addr) (H' : Hp), H d = none → H p = none → d ≠ p → d ≠ e → H' e = some (exo e C (some d)) → H' d = some (exd d [("handle", .ref p)]) → H' p = some (.tup (ns.map V.int)) → Keeps [e] H H' → Q .non H'
theorem str_small {m k : Str} {n : Nat} (h : m.length ≤ 40000) (hk : k.length = n) (hn : n ≤ 1000) : (k ++ m).length ≤ sizeLine := by
  rw [strLen_append, hk, sizeLine_eq]
  omega
theorem ok_NoHandle_init (T : Txt K mg a) : FnOk P w K mg base CX0 3 a.f_NoHandle_init a.d_NoHandle_init ["self", "handle"] (sp_bears a.c_NoHandle) := by
  refine T.F_NoHandle_init.ok sc_NoHandle_init (fun vs H Q E h => ?_) (fun cdv A outer s H vs Q E hr h => ?_)
  · obtain ⟨e, h, ns, rfl, _⟩ := h
    rfl
  · obtain ⟨e, h, ns, rfl, he, eh, hl, hz, kk⟩ := h
    refine ⟨_, (pss_cons (ps_expr (pe_midInit T.md_PactError (by rfl) T.g_PactError (pa_cons (pv 0) (pa_cons (pe_joined (.cons pe_str (.cons (pe_fmtI hr (pv 1)) .nil))) pa_nil))))
      (pss_one (ps_ost (pv 0) (pe_call (ok_p_copied T) (hr.mono (by decide)) rfl T.g_p_copied T.k_p_copied T.B_p_copied .nil pass0 (pa_cons (pv 1) pa_nil)) rfl))), ?_⟩
    refine ⟨_, rfl, _, rfl, by rw [sizeLine_eq]; decide +kernel, ?_⟩
    refine ⟨_, rfl, h, ns, rfl, SqT.of eh, hz, hl, fun m hm => ⟨m, rfl, str_small hm (by decide +kernel : _ = 16) (by decide), ?_⟩⟩
    refine ⟨e, a.c_NoHandle, _, rfl, by show 1 ≤ 1000; decide, T.x_NoHandle, he, ?_⟩
    refine ⟨_, rfl, h, ns, rfl, eh, hl, fun p H1 hp hp1 s1 => ?_⟩
    refine ⟨_, rfl, e, a.c_NoHandle, rfl, T.x_NoHandle, T.n_NoHandle_handle, .inl ⟨s1 _ _ he, fun d hd nd => ?_⟩⟩
    have npe : p ≠ e := fun q => by rw [q, he] at hp; cases hp
    have ndp : d ≠ p := fun q => by rw [q, hp1] at hd; cases hd
    refine kk d p _ (s1.free hd) hp ndp nd upd_same ?_ ?_ ?_
    · rw [upd_ne nd, upd_same]
    · rw [upd_ne npe, upd_ne ndp.symm]
      exact hp1
    · exact ((show Keeps [e] H H1 from fun c o z _ => s1 c o z).upd (.inr (s1.free hd))).upd (.inl (by simp))
theorem ok_Ended_init (T : Txt K mg a) : FnOk P w K mg base CX0 3 a.f_Ended_init a.d_Ended_init ["self", "handle"] (sp_bears a.c_Ended) := by
  refine T.F_Ended_init.ok sc_Ended_init (fun vs H Q E h => ?_) (fun cdv A outer s H vs Q E hr h => ?_)
  · obtain ⟨e, h, ns, rfl, _⟩ := h
    rfl
  · obtain ⟨e, h, ns, rfl, he, eh, hl, hz, kk⟩ := h
    refine ⟨_, (pss_cons (ps_expr (pe_midInit T.md_PactError (by rfl) T.g_PactError (pa_cons (pv 0) (pa_cons (pe_joined (.cons pe_str (.cons (pe_fmtI hr (pv 1)) .nil))) pa_nil))))
      (pss_one (ps_ost (pv 0) (pe_call (ok_p_copied T) (hr.mono (by decide)) rfl T.g_p_copied T.k_p_copied T.B_p_copied .nil pass0 (pa_cons (pv 1) pa_nil)) rfl))), ?_⟩
    refine ⟨_, rfl, _, rfl, by rw [sizeLine_eq]; decide +kernel, ?_⟩
    refine ⟨_, rfl, h, ns, rfl, SqT.of eh, hz, hl, fun m hm => ⟨m, rfl, str_small hm (by decide +kernel : _ = 22) (by decide), ?_⟩⟩
    refine ⟨e, a.c_Ended, _, rfl, by show 1 ≤ 1000; decide, T.x_Ended, he, ?_⟩
    refine ⟨_, rfl, h, ns, rfl, eh, hl, fun p H1 hp hp1 s1 => ?_⟩
    refine ⟨_, rfl, e, a.c_Ended, rfl, T.x_Ended, T.n_Ended_handle, .inl ⟨s1 _ _ he, fun d hd nd => ?_⟩⟩
    have npe : p ≠ e := fun q => by rw [q, he] at hp; cases hp
    have ndp : d ≠ p := fun q => by rw [q, hp1] at hd; cases hd
    refine kk d p _ (s1.free hd) hp ndp nd upd_same ?_ ?_ ?_
    · rw [upd_ne nd, upd_same]
    · rw [upd_ne npe, upd_ne ndp.symm]
      exact hp1
    · exact ((show Keeps [e] H H1 from fun c o z _ => s1 c o z).upd (.inr (s1.free hd))).upd (.inl (by simp))

/-! ### _law_mixed -/
def sp_mixed : Sp := fun vs H Q _ => ∃ (c k : Int), vs = [.int c, .int k] ∧ 0 ≤ k ∧ k < 100000000 ∧ ∀ r : Int, 0 ≤ r → r < 1000000007 → Q (.int r) H
theorem mixed_bound {c k : Int} (h0 : 0 ≤ k) (h1 : k < 100000000) : (c % 2147483647 + 1009 * k * k + 48611 * k + 17).natAbs < 2 ^ 64 := by
  have a0 := Int.emod_nonneg c (by decide : (2147483647 : Int) ≠ 0)
  have a1 := Int.emod_lt_of_pos c (by decide : (0 : Int) < 2147483647)
  have b0 : 0 ≤ 1009 * k * k := Int.mul_nonneg (by omega) h0
  have b1 : 1009 * k * k ≤ 1009 * 100000000 * 100000000 := Int.mul_le_mul (by omega) (by omega) h0 (by omega)
  have e : (2 : Nat) ^ 64 = 18446744073709551616 := by decide
  rw [e]
  omega
theorem ok_mixed (T : Txt K mg a) : FnOk P w K mg base CX0 1 a.f_mixed a.d_mixed ["_law_cell", "_law_k"] sp_mixed := by
  refine T.F_mixed.ok sc_mixed (fun vs H Q E h => ?_) (fun cdv A outer s H vs Q E hr h => ?_)
  · obtain ⟨c, k, rfl, _⟩ := h
    rfl
  · obtain ⟨c, k, rfl, h0, h1, kk⟩ := h
    refine ⟨_, (pss_cons (ps_set (i := 2) sc_mixed.nd rfl (Or.inl rfl) (pe_op op_mod (pe_op op_pow (pe_op op_add (pe_op op_add (pe_op op_add (pe_op op_mod (pv 0) pe_int) (pe_op op_mul (pe_op op_mul pe_int (pv 1)) (pv 1))) (pe_op op_mul pe_int (pv 1))) pe_int) pe_int) pe_int))
      (pss_one (ps_ret (pe_op op_mod (pe_op op_add (pe_op op_mul (pv 2) pe_int) (pe_op op_mul pe_int (pv 1))) pe_int)))), ?_⟩
    have eb := mixed_bound (c := c) h0 h1
    generalize hx : c % 2147483647 + 1009 * k * k + 48611 * k + 17 = x at eb
    refine ⟨_, rfl, _, _, rfl, rfl, (by show (0 : Int) < _; decide), _, rfl, _, _, rfl, rfl, .inl ⟨by decide, by decide⟩, _, rfl, _, _, rfl, rfl, .inl ⟨by omega, by omega⟩, _, _, rfl, rfl, _, rfl, _, _, rfl, rfl, .inl ⟨by decide, by decide⟩,
      _, _, rfl, rfl, _, _, rfl, rfl, _, _, rfl, rfl, ⟨by decide, by decide, by rw [hx]; exact eb⟩, _, _, rfl, rfl, (by show (0 : Int) < _; decide), ?_⟩
    rw [hx]
    generalize x ^ Int.toNat 5 % 2147483647 = y
    refine ⟨_, rfl, _, _, rfl, rfl, .inr ⟨by decide, by decide⟩, _, rfl, _, _, rfl, rfl, .inl ⟨by decide, by decide⟩, _, _, rfl, rfl, _, _, rfl, rfl, (by show (0 : Int) < _; decide), ?_⟩
    exact kk _ (Int.emod_nonneg _ (by decide)) (Int.emod_lt_of_pos _ (by decide))

/-! ### _law_take -/
def sp_take : Sp := fun vs H Q _ => ∃ (b g l : Addr) (n size : Int), vs = [.ref b, .int size] ∧ BoxAt H b g l n ∧ 0 ≤ n ∧ n < 10000000 ∧ 0 < size ∧ size.natAbs.log2 < 9000 ∧
  ∀ (k : Int) (H' : Hp), 0 ≤ k → k < size → BoxAt H' b g l (n + 1) → Keeps [b, g] H H' → Q (.int k) H'
theorem ok_take (T : Txt K mg a) : FnOk P w K mg base CX0 2 a.f_take a.d_take ["_law_box_here", "_law_size"] sp_take := by
  refine T.F_take.ok sc_take (fun vs H Q E h => ?_) (fun cdv A outer s H vs Q E hr h => ?_)
  · obtain ⟨b, g, l, n, size, rfl, _⟩ := h
    rfl
  · obtain ⟨b, g, l, n, size, rfl, ⟨gs, ls, cur, hb, hg, hl, nbg, nbl, ngl, zg, zl⟩, n0, n1, s0, s1, kk⟩ := h
    refine ⟨_, (pss_cons (ps_asg (pe_op op_add (pe_ix ix_list (pv 0) pe_int (fun _ _ => rfl)) pe_int) (pg_sub (pv 0) pe_int set_list))
      (C8.pss_cut (ps_if (PW.pt (pw_and (pt_cmpR op_eq (pe_ix ix_list (pv 0) pe_int (fun _ _ => rfl)) pe_int (nomark _)) (pw_and1 (pt_cmpR op_gt (pe_callB call_len_seq (by rfl) T.z_len (by decide +kernel) (pa_cons (pe_ix ix_list (pv 0) pe_int (fun _ _ => rfl)) pa_nil)) pe_int (nomark _))))) (pss_one (ps_asg (pe_bm PySem.F.plainAttrs_list PySem.F.slot_list_pop PySem.F.type_list_pop mt_popAt (pe_ix ix_list (pv 0) pe_int (fun _ _ => rfl)) (pa_cons pe_int pa_nil)) (pg_sub (pv 0) pe_int set_list))) pss_nil)
      (pss_cons (ps_if (pt_cmpR op_gt (pe_ix ix_list (pv 0) pe_int (fun _ _ => rfl)) pe_int (nomark _)) (pss_cons (ps_set (i := 2) sc_take.nd rfl (Or.inl rfl) (pe_op op_mod (pe_ix ix_list (pv 0) pe_int (fun _ _ => rfl)) (pv 1)))
      (pss_cons (ps_asg (pe_op op_fdivW (pe_ix ix_list (pv 0) pe_int (fun _ _ => rfl)) (pv 1)) (pg_sub (pv 0) pe_int set_list))
      (pss_one (ps_ret (pv 2))))) pss_nil)
      (pss_cons (ps_set (i := 3) sc_take.nd rfl (Or.inl rfl) (pe_op op_mul pe_int (pe_ix ix_list (pv 0) pe_int (fun _ _ => rfl))))
      (C8.pss_cut (ps_if (pt_cmpR op_gt (pe_callB call_len_seq (by rfl) T.z_len (by decide +kernel) (pa_cons (pe_ix ix_list (pv 0) pe_int (fun _ _ => rfl)) pa_nil)) pe_int (nomark _)) (pss_one (ps_set (i := 3) sc_take.nd rfl (Or.inl rfl) (pe_ix ix_list (pe_ix ix_list (pv 0) pe_int (fun _ _ => rfl)) (pe_op op_mod (pe_ix ix_list (pv 0) pe_int (fun _ _ => rfl)) (pe_callB call_len_seq (by rfl) T.z_len (by decide +kernel) (pa_cons (pe_ix ix_list (pv 0) pe_int (fun _ _ => rfl)) pa_nil))) (fun _ _ => rfl)))) pss_nil)
      (pss_cons (ps_set (i := 2) sc_take.nd rfl (Or.inl rfl) pe_int)
      (pss_cons (ps_set (i := 4) sc_take.nd rfl (Or.inl rfl) pe_int)
      (pss_cons (ps_while PassesOwn.never (pt_cmpR op_lt (pv 4) (pv 1) (nomark _)) (pss_cons (ps_set (i := 2) sc_take.nd rfl (Or.inl rfl) (pe_op op_add (pe_op op_mul (pv 2) pe_int) (pe_call (ok_mixed T) (hr.mono (by decide)) rfl T.g_mixed T.k_mixed T.B_mixed .nil pass0 (pa_cons (pv 3) (pa_cons (pe_op op_add (pe_ix ix_list (pv 0) pe_int (fun _ _ => rfl)) (pe_op op_mul pe_int (pe_op op_mod (pv 2) pe_int))) pa_nil)))))
      (pss_one (ps_set (i := 4) sc_take.nd rfl (Or.inl rfl) (pe_op op_mul (pv 4) pe_int)))))
      (pss_one (ps_ret (pe_op op_mod (pv 2) (pv 1)))))))))))), ?_⟩
    -- box[3] = box[3] + 1
    walk_at "rd"
    have kp0 : Keeps [b, g] H (upd H b (.lst [.ref g, .int cur, .ref l, .int (n + 1)])) := (Keeps.refl _ H).upd (.inl (List.mem_cons_self))
    refine ⟨fun σ H1 => Blk (σ = [some (.ref b), some (.int size), none, none, none] ∧ ∃ (gs : List Int) (cur : Int), H1 b = some (.lst [.ref g, .int cur, .ref l, .int (n + 1)]) ∧ H1 g = some (.lst (gs.map V.int)) ∧ gs.length ≤ 63 ∧ H1 l = some (.lst (ls.map V.int)) ∧ Keeps [b, g] H H1), ?_, ?_⟩
    · walk_at "rd"
      refine iteD (fun hc => ?_) (fun hc => ?_)
      · walk_at "rd"
        refine iteD (fun hc => ?_) (fun hc => ?_)
        · rw [List.length_map] at hc
          match gs, hc with
          | x :: gs, _ =>
            walk_at "rd"
            refine ⟨_, _, _, _, _, rfl, rfl, (by walk_at "hp"), by decide, by decide, seqIndex_of (by decide) (by simp), rfl, ?_⟩
            walk_at "rd"
            refine Blk.of ⟨rfl, gs, x, upd_same, (by walk_at "hp"), by rw [List.length_cons] at zg; omega, by walk_at "hp", ?_⟩
            exact (kp0.upd (.inl (by simp))).upd (.inl (by simp))
        · refine Blk.of ⟨rfl, gs, cur, upd_same, by walk_at "hp", zg, by walk_at "hp", kp0⟩
      · refine iteF ?_
        refine Blk.of ⟨rfl, gs, cur, upd_same, by walk_at "hp", zg, by walk_at "hp", kp0⟩
    · rintro σ H1 hB
      obtain ⟨rfl, gs, cur, hb, hg, zg, hl, kp⟩ := hB.out
      walk_at "rd"
      refine iteD (fun hc => ?_) (fun hc => ?_)
      · walk_at "rd"
        refine kk _ _ (Int.emod_nonneg _ (by omega)) (Int.emod_lt_of_pos _ s0) ⟨gs, ls, _, upd_same, by walk_at "hp", by walk_at "hp", nbg, nbl, ngl, zg, zl⟩ (kp.upd (.inl (by simp)))
      · walk_at "rd"
        refine ⟨fun σ H2 => Blk (H2 = H1 ∧ ∃ cell : Int, σ = [some (.ref b), some (.int size), none, some (.int cell), none]), ?_, ?_⟩
        · walk_at "rd"
          refine iteD (fun hc2 => ?_) (fun hc2 => ?_)
          · have hpos : (0 : Int) < ((ls.map V.int).length : Int) := hc2
            walk_at "rd"
            have i0 := Int.emod_nonneg (n + 1) (show (((ls.map V.int).length : Nat) : Int) ≠ 0 by omega)
            have i1 := Int.emod_lt_of_pos (n + 1) hpos
            have hx : (ls.map V.int)[((n + 1) % (((ls.map V.int).length : Nat) : Int)).toNat]? = some (.int (My.g ls ((n + 1) % (((ls.map V.int).length : Nat) : Int)).toNat)) := by
              rw [List.getElem?_map, My.g_lt (by rw [List.length_map] at *; omega)]; rfl
            refine ⟨_, _, _, _, rfl, rfl, SqL.of (by walk_at "hp"), at_of (j := ((n + 1) % (((ls.map V.int).length : Nat) : Int)).toNat) (by omega) hx, ?_⟩
            exact Blk.of ⟨rfl, _, rfl⟩
          · exact Blk.of ⟨rfl, _, rfl⟩
        · rintro σ H2 hB
          obtain ⟨rfl, cell, rfl⟩ := hB.out
          walk_at "rd"
          refine while_by (fun σ H1 => H1 = H2 ∧ ∃ found reach : Int, σ = [some (.ref b), some (.int size), some (.int found), some (.int cell), some (.int reach)] ∧ 0 < reach)
            (fun σ _ => match σ with | [_, _, _, _, some (.int r)] => (size - r).toNat | _ => 0) ⟨rfl, 0, 1, rfl, by decide⟩ ?_ ?_
          · rintro σ H1 ⟨rfl, found, reach, rfl, hr0⟩
            walk_at "rd"
            refine iteD (fun hlt => ?_) (fun hlt => ?_)
            · walk_at "rd"
              have f0 := Int.emod_nonneg found (show (89 : Int) ≠ 0 by decide)
              have f1 := Int.emod_lt_of_pos found (show (0 : Int) < 89 by decide)
              refine ⟨_, _, rfl, (by show 0 ≤ n + 1 + 1000 * (found % 89); omega), (by show n + 1 + 1000 * (found % 89) < 100000000; omega), fun r r0 r1 => ?_⟩
              walk_at "rd"
              refine ⟨⟨rfl, _, _, rfl, by omega⟩, ?_⟩
              show (size - reach * 1000000007).toNat < (size - reach).toNat
              omega
            · walk_at "rd"
              exact kk _ _ (Int.emod_nonneg _ (by omega)) (Int.emod_lt_of_pos _ s0) ⟨gs, ls, _, hb, hg, hl, nbg, nbl, ngl, zg, zl⟩ kp
          · intro σ H Q Q' hq h
            obtain ⟨v, h1, u, h2, i, j, e1, e2, k, e3, q⟩ := h
            exact ⟨v, h1, u, h2, i, j, e1, e2, k, e3, hq _ _ q⟩

/-! ### _law_box -/
def sp_box (K : PySem.W.Frag) : Sp := fun vs H Q _ => ∃ (s : Addr) (ns : List Int), vs = [.ref s] ∧ SqL K H s (ns.map V.int) ∧ ns.length ≤ 63 ∧
  ∀ (b g l : Addr) (H' : Hp), H b = none → H g = none → H l = none → BoxAt H' b g l 0 → Same H H' → Q (.ref b) H'
theorem ok_box (T : Txt K mg a) : FnOk P w K mg base CX0 1 a.f_box a.d_box ["_law_script"] (sp_box K) := by
  refine T.F_box.ok sc_box (fun vs H Q E h => ?_) (fun cdv A outer s H vs Q E hr h => ?_)
  · obtain ⟨s, ns, rfl, _⟩ := h
    rfl
  · obtain ⟨sc, ns, rfl, hS, hz, kk⟩ := h
    refine ⟨_, (pss_cons (ps_setLc (i := 1) (own := [("_law_cell", 2)]) (g := gName 2) rfl sc_box.nd rfl rfl (sw_true rfl rfl rfl (by decide +kernel)) (pi_list (pv 0)) (blkOk_by (own := [("_law_cell", 2)]) (N := ["_law_script", "_law_great", "_law_cell"]) (sc := defScope s_box) (by decide +kernel)) (fun _ _ _ _ _ => pg_name (i := 2) sc_box.nd rfl (Or.inl rfl)) (fun _ _ _ _ _ => pts_one (pt_cmpR op_ge (pv 2) (pe_op op_pow pe_int pe_int) (nomark _))) (fun _ _ _ _ _ => by exact (pv 2)))
      (pss_one (ps_ret (pe_lst (pa_cons (pv 1) (pa_cons pe_int (pa_cons (pe_lc (own := [("_law_cell", 2)]) (g := gName 2) rfl sc_box.nd (pi_list (pv 0)) (blkOk_by (own := [("_law_cell", 2)]) (N := ["_law_script", "_law_great", "_law_cell"]) (sc := defScope s_box) (by decide +kernel)) (fun _ _ _ _ _ => pg_name (i := 2) sc_box.nd rfl (Or.inl rfl)) (fun _ _ _ _ _ => pts_one (pt_cmpR op_lt (pv 2) (pe_op op_pow pe_int pe_int) (nomark _))) (fun _ _ _ _ _ => by exact (pv 2))) (pa_cons pe_int pa_nil)))))))), ?_⟩
    refine ⟨_, rfl, sc, rfl, ⟨_, hS⟩, fun g hg => ?_⟩
    have sG : ∀ o, Same H (upd H g o) := fun o => (Same.refl H).upd hg
    refine lc_list (K := K) (a := sc) (xs := ns.map V.int) (fun i H1 => Blk (∃ gs : List Int, H1 = upd H g (.lst (gs.map V.int)) ∧ gs.length ≤ i)) (Blk.of ⟨[], rfl, Nat.le_refl _⟩) (fun i H1 _ hB => ?_) ?_ ?_
    · obtain ⟨gs, rfl, _⟩ := hB.out
      exact (sG _).seq hS
    · intro i y H1 hi hB
      obtain ⟨gs, rfl, hl⟩ := hB.out
      obtain ⟨z, hz, rfl⟩ := ints_get hi
      have := get_lt hi
      rw [List.length_map] at this
      refine ⟨rfl, _, rfl, _, _, rfl, rfl, ⟨by decide, by decide, by decide⟩, _, _, rfl, rfl, _, rfl, iteD (fun hc => ?_) (fun hc => ?_)⟩
      · refine ⟨_, rfl, _, upd_same, by rw [List.length_map]; exact small (by omega), Blk.of ⟨gs ++ [z], ?_, by rw [List.length_append]; simp; omega⟩⟩
        rw [upd_upd, List.map_append]; rfl
      · exact Blk.of ⟨gs, rfl, by omega⟩
    · intro H1 hB
      obtain ⟨gs, rfl, hgl⟩ := hB.out
      rw [List.length_map] at hgl
      refine ⟨_, rfl, ?_⟩
      refine ⟨_, rfl, sc, rfl, ⟨_, (sG _).seq hS⟩, fun l hl => ?_⟩
      have ngl : g ≠ l := ne_of_none upd_same hl
      have hl0 : H l = none := by rw [upd_ne ngl.symm] at hl; exact hl
      refine lc_list (K := K) (a := sc) (xs := ns.map V.int) (fun i H1 => Blk (∃ ls : List Int, H1 = upd (upd H g (.lst (gs.map V.int))) l (.lst (ls.map V.int)) ∧ ls.length ≤ i)) (Blk.of ⟨[], rfl, Nat.le_refl _⟩) (fun i H1 _ hB => ?_) ?_ ?_
      · obtain ⟨ls, rfl, _⟩ := hB.out
        exact ((sG _).upd hl0).seq hS
      · intro i y H1 hi hB
        obtain ⟨ls, rfl, hl⟩ := hB.out
        obtain ⟨z, hz, rfl⟩ := ints_get hi
        have := get_lt hi
        rw [List.length_map] at this
        refine ⟨rfl, _, rfl, _, _, rfl, rfl, ⟨by decide, by decide, by decide⟩, _, _, rfl, rfl, _, rfl, iteD (fun hc => ?_) (fun hc => ?_)⟩
        · refine ⟨_, rfl, _, upd_same, by rw [List.length_map]; exact small (by omega), Blk.of ⟨ls ++ [z], ?_, by rw [List.length_append]; simp; omega⟩⟩
          rw [upd_upd, List.map_append]; rfl
        · exact Blk.of ⟨ls, rfl, by omega⟩
      · intro H1 hB
        obtain ⟨ls, rfl, hll⟩ := hB.out
        rw [List.length_map] at hll
        refine ⟨by show 4 ≤ sizeLine; decide, fun b hb => ?_⟩
        have nlb : l ≠ b := ne_of_none upd_same hb
        have hb' : upd H g (.lst (gs.map V.int)) b = none := by rw [upd_ne nlb.symm] at hb; exact hb
        have ngb : g ≠ b := ne_of_none upd_same hb'
        have hb0 : H b = none := by rw [upd_ne ngb.symm] at hb'; exact hb'
        exact kk b g l _ hb0 hg hl0 ⟨gs, ls, 0, upd_same, by rw [upd_ne ngb, upd_ne ngl, upd_same], by rw [upd_ne nlb, upd_same], ngb.symm, nlb.symm, ngl, by omega, by omega⟩ (((sG _).upd hl0).upd hb0)

/-! ### the table -/
abbrev tfs (tl nd fl : Addr) (m : Int) : List (Str × V) := [("_turns", .ref tl), ("_numbers", .ref nd), ("_free", .ref fl), ("_most", .int m)]
theorem tfs_t {tl nd fl : Addr} {m : Int} : (tfs tl nd fl m).lookup ("_turns" : Str) = some (.ref tl) := by kernel_rfl
theorem tfs_n {tl nd fl : Addr} {m : Int} : (tfs tl nd fl m).lookup ("_numbers" : Str) = some (.ref nd) := by kernel_rfl
theorem tfs_f {tl nd fl : Addr} {m : Int} : (tfs tl nd fl m).lookup ("_free" : Str) = some (.ref fl) := by kernel_rfl
theorem tfs_m {tl nd fl : Addr} {m : Int} : (tfs tl nd fl m).lookup ("_most" : Str) = some (.int m) := by kernel_rfl
theorem tfs_put {tl nd fl : Addr} {m x : Int} : putF "_most" (.int x) (tfs tl nd fl m) = tfs tl nd fl x := by kernel_rfl
theorem tfs_make {tl nd fl : Addr} {m : Int} : putF "_most" (.int m) (putF "_free" (.ref fl) (putF "_numbers" (.ref nd) (putF "_turns" (.ref tl) []))) = tfs tl nd fl m := by kernel_rfl
def nkv (nums : List (Nat × Int)) : List (Key × V) := nums.map fun q => (Sum.inl (q.1 : Int), V.int q.2)
def tls (ts : List Nat) : List V := ts.map fun (n : Nat) => V.int (n : Int)
/-- the table at t stands as T -/
structure TabAt (C : Addr) (H : Hp) (t tl nd fl : Addr) (T : My.Tab) : Prop where
  ob : ∃ dx, H t = some (.ins C dx (tfs tl nd fl T.most))
  hl : H tl = some (.lst (tls T.turns))
  hd : H nd = some (.dK (nkv T.nums))
  hf : ∃ free : List Int, H fl = some (.lst (free.map V.int)) ∧ T.Ok free
  ne : tl ≠ fl
theorem TabAt.keep {C : Addr} {H H' : Hp} {S : List Addr} {t tl nd fl : Addr} {T : My.Tab} (h : TabAt C H t tl nd fl T) (k : Keeps S H H') (a : t ∉ S) (b : tl ∉ S) (c : nd ∉ S) (d : fl ∉ S) : TabAt C H' t tl nd fl T := by
  obtain ⟨⟨dx, e⟩, e1, e2, ⟨free, e3, ok⟩, ne⟩ := h
  exact ⟨⟨dx, k _ _ e a⟩, k _ _ e1 b, k _ _ e2 c, ⟨free, k _ _ e3 d, ok⟩, ne⟩
theorem TabAt.same {C : Addr} {H H' : Hp} {t tl nd fl : Addr} {T : My.Tab} (h : TabAt C H t tl nd fl T) (k : Same H H') : TabAt C H' t tl nd fl T := by
  obtain ⟨⟨dx, e⟩, e1, e2, ⟨free, e3, ok⟩, ne⟩ := h
  exact ⟨⟨dx, k _ _ e⟩, k _ _ e1, k _ _ e2, ⟨free, k _ _ e3, ok⟩, ne⟩
def sp_init (C : Addr) : Sp := fun vs H Q _ => ∃ p dx : Addr, vs = [.ref p] ∧ H p = some (.ins C dx []) ∧
  ∀ (tl nd fl : Addr) (H' : Hp), H tl = none → H nd = none → H fl = none → TabAt C H' p tl nd fl My.Tab.none → Keeps [p] H H' → Q .non H'
theorem ok_Table_init (T : Txt K mg a) : FnOk P w K mg base CX0 1 a.f_Table_init a.d_Table_init ["self"] (sp_init a.c_Table) := by
  refine T.F_Table_init.ok sc_Table_init (fun vs H Q E h => ?_) (fun cdv A outer s H vs Q E hr h => ?_)
  · obtain ⟨p, dx, rfl, _⟩ := h
    rfl
  · obtain ⟨p, dx, rfl, hp, kk⟩ := h
    refine ⟨_, (pss_cons (ps_fld (pv 0) (pe_lst pa_nil) rfl)
      (pss_cons (ps_fld (pv 0) pe_dnewK rfl)
      (pss_cons (ps_fld (pv 0) (pe_lst pa_nil) rfl)
      (pss_one (ps_fld (pv 0) pe_int rfl))))), ?_⟩
    have c0 := T.cl_Table
    have c1 := T.n_Table__turns
    have c2 := T.n_Table__numbers
    have c3 := T.n_Table__free
    have c4 := T.n_Table__most
    refine ⟨by show 0 ≤ sizeLine; decide, fun tl htl => ?_⟩
    have n1 : p ≠ tl := ne_of_none hp htl
    walk_at "rd"
    intro nd hnd
    have n2 : p ≠ nd := fun e => by subst e; rw [upd_same] at hnd; cases hnd
    have hnd2 : upd H tl (.lst []) nd = none := by rw [upd_ne n2.symm] at hnd; exact hnd
    have n3 : tl ≠ nd := ne_of_none upd_same hnd2
    have hnd3 : H nd = none := by rw [upd_ne n3.symm] at hnd2; exact hnd2
    walk_at "rd"
    refine ⟨by show 0 ≤ sizeLine; decide, fun fl hfl => ?_⟩
    have n4 : p ≠ fl := fun e => by subst e; rw [upd_same] at hfl; cases hfl
    have hfl2 := (upd_ne n4.symm).symm.trans hfl
    have n5 : nd ≠ fl := fun e => by subst e; rw [upd_same] at hfl2; cases hfl2
    have hfl3 := (upd_ne n5.symm).symm.trans hfl2
    have hfl4 := (upd_ne n4.symm).symm.trans hfl3
    have n6 : tl ≠ fl := fun e => by subst e; rw [upd_same] at hfl4; cases hfl4
    have hfl5 := (upd_ne n6.symm).symm.trans hfl4
    walk_at "rd"
    refine kk tl nd fl _ htl hnd3 hfl5 ⟨⟨dx, ?_⟩, ?_, ?_, ⟨[], ?_, My.Tab.none_ok⟩, n6⟩ ?_
    · rw [upd_same]
      exact congrArg (fun q => some (HO.ins a.c_Table dx q)) tfs_make
    · walk_at "hp"
    · walk_at "hp"
    · walk_at "hp"
    · exact ((((((((Keeps.refl [p] H).upd (.inr htl)).upd (.inl (by simp))).upd (.inr hnd3)).upd (.inl (by simp))).upd (.inr hfl5)).upd (.inl (by simp))).upd (.inl (by simp)))

/-! ### Table.begin -/
theorem nkv_not {nums : List (Nat × Int)} {p : Nat} (h : p ∉ nums.map (·.1)) : valV (nkv nums) (Sum.inl (p : Int) : Key) = none := by
  cases e : valV (nkv nums) (Sum.inl (p : Int) : Key) with
  | none => rfl
  | some v =>
    have := valV_in e
    unfold nkv at this
    rw [List.map_map] at this
    obtain ⟨q, hq, e2⟩ := List.mem_map.mp this
    have e3 : (q.1 : Int) = p := Sum.inl.inj e2
    exact absurd (List.mem_map.mpr ⟨q, hq, by omega⟩) h
theorem tls_set (ts : List Nat) (p n : Nat) : (tls ts).set p (.int (n : Int)) = tls (ts.set p n) := by unfold tls; rw [List.map_set]
theorem tls_get {ts : List Nat} {p n : Nat} (h : ts[p]? = some n) : (tls ts)[p]? = some (.int (n : Int)) := by unfold tls; rw [List.getElem?_map, h]; rfl
def sp_begin (C : Addr) : Sp := fun vs H Q _ => ∃ (t tl nd fl : Addr) (T : My.Tab) (x : Int), vs = [.ref t, .int x] ∧ TabAt C H t tl nd fl T ∧ T.turns.length ≤ 50000 ∧
  ∀ (p : Nat) (h : Addr) (H' : Hp), T.Next p → H h = none → H' h = some (.tup [.int p, .int (T.turn p)]) → TabAt C H' t tl nd fl (T.begun p x) → Keeps [t, tl, nd, fl] H H' → Q (.ref h) H'
theorem ok_Table_begin (T : Txt K mg a) : FnOk P w K mg base CX0 1 a.f_Table_begin a.d_Table_begin ["self", "number"] (sp_begin a.c_Table) := by
  refine T.F_Table_begin.ok sc_Table_begin (fun vs H Q E h => ?_) (fun cdv A outer s H vs Q E hr h => ?_)
  · obtain ⟨t, tl, nd, fl, T, x, rfl, _⟩ := h
    rfl
  · obtain ⟨t, tl, nd, fl, S, x, rfl, ⟨⟨dx, e0⟩, e1, e2, ⟨free, e3, ok⟩, ne⟩, hz, kk⟩ := h
    have c0 := T.cl_Table
    have c1 := T.n_Table__turns
    have c2 := T.n_Table__numbers
    have c3 := T.n_Table__free
    have c4 := T.n_Table__most
    have k1 := @tfs_t tl nd fl S.most
    have k2 := @tfs_n tl nd fl S.most
    have k3 := @tfs_f tl nd fl S.most
    have k4 := @tfs_m tl nd fl S.most
    have n1 : t ≠ tl := ne_of e0 e1 (fun q => by cases q)
    have n2 : t ≠ nd := ne_of e0 e2 (fun q => by cases q)
    have n3 : t ≠ fl := ne_of e0 e3 (fun q => by cases q)
    have n4 : tl ≠ nd := ne_of e1 e2 (fun q => by cases q)
    have n5 : fl ≠ nd := ne_of e3 e2 (fun q => by cases q)
    have cnt := ok.cnt
    refine ⟨_, (C8.pss_cut (ps_if (pt_truth (pe_fld (pv 0) rfl) (by intro _; rfl)) (pss_one (ps_set (i := 2) sc_Table_begin.nd rfl (Or.inl rfl) (pe_callBfun cr_popH (by rfl) T.h_heappop (pa_cons (pe_fld (pv 0) rfl) pa_nil)))) (pss_cons (ps_set (i := 2) sc_Table_begin.nd rfl (Or.inl rfl) (pe_callB call_len_seq (by rfl) T.z_len (by decide +kernel) (pa_cons (pe_fld (pv 0) rfl) pa_nil)))
      (pss_one (ps_expr (pe_bm PySem.F.plainAttrs_list PySem.F.slot_list_append PySem.F.type_list_append mt_append (pe_fld (pv 0) rfl) (pa_cons pe_int pa_nil))))))
      (pss_cons (ps_set (i := 3) sc_Table_begin.nd rfl (Or.inl rfl) (pe_ix ix_list (pe_fld (pv 0) rfl) (pv 2) (fun _ _ => rfl)))
      (pss_cons (ps_asg (pe_op op_add (pv 3) pe_int) (pg_sub (pe_fld (pv 0) rfl) (pv 2) set_list))
      (pss_cons (ps_dput (hu_of hr) (pe_fld (pv 0) rfl) (pv 2) (pv 1) rfl)
      (pss_cons (ps_fld (pv 0) (pe_callB (call_max2 rfl) (by rfl) T.z_max (by decide +kernel) (pa_cons (pe_fld (pv 0) rfl) (pa_cons (pe_callB call_lenD (by rfl) T.z_len (by decide +kernel) (pa_cons (pe_fld (pv 0) rfl) pa_nil)) pa_nil))) rfl)
      (pss_one (ps_ret (pe_tup (pa_cons (pv 2) (pa_cons (pv 3) pa_nil)))))))))), ?_⟩
    refine ⟨fun σ H1 => Blk (∃ (p : Nat) (free' : List Int) (ts : List Nat), σ = [some (.ref t), some (.int x), some (.int p), none] ∧ S.Next p ∧ (S.begun p x).Ok free' ∧ ts[p]? = some (S.turn p) ∧ ts.set p (S.turn p + 1) = (S.begun p x).turns ∧
      H1 t = some (.ins a.c_Table dx (tfs tl nd fl S.most)) ∧ H1 tl = some (.lst (tls ts)) ∧ H1 nd = some (.dK (nkv S.nums)) ∧ H1 fl = some (.lst (free'.map V.int)) ∧ Keeps [t, tl, nd, fl] H H1), ?_, ?_⟩
    · walk_at "rd"
      refine iteB (fun hb => ?_) (fun hb => ?_)
      · walk_at "rd"
        have h0 : 0 < free.length := by cases free with
          | nil => simp at hb
          | cons z zs => simp
        refine ⟨_, free, rfl, (by walk_at "hp"), h0, ok.heap, fun m free' pm ih lm => ?_⟩
        obtain ⟨p, rfl, nx, hl, ok'⟩ := My.Tab.begun_pop ok pm ih lm x
        obtain ⟨g1, g2⟩ := My.Tab.begun_old hl x
        exact Blk.of ⟨p, free', S.turns, rfl, nx, ok', g1, g2, (by walk_at "hp"), (by walk_at "hp"), (by walk_at "hp"), upd_same, (Keeps.refl _ H).upd (.inl (by simp))⟩
      · have hf : free = [] := by cases free with
          | nil => rfl
          | cons z zs => simp at hb
        subst hf
        obtain ⟨nx, ok'⟩ := My.Tab.begun_new ok x
        obtain ⟨g1, g2⟩ := My.Tab.begun_end S x
        walk_at "rd"
        refine ⟨_, _, _, rfl, rfl, (by walk_at "hp"), ?_, ?_⟩
        · unfold tls
          rw [List.length_map]
          exact small (by omega)
        have el : (((tls S.turns).length : Nat) : Int) = ((S.turns.length : Nat) : Int) := by unfold tls; rw [List.length_map]
        exact Blk.of ⟨S.turns.length, [], S.turns ++ [0], (by rw [← el]; rfl), nx, ok', g1, g2, (by walk_at "hp"), (by rw [upd_same]; unfold tls; rw [List.map_append]; rfl), (by walk_at "hp"), (by walk_at "hp"), (Keeps.refl _ H).upd (.inl (by simp))⟩
    · rintro σ H1 hB
      obtain ⟨p, free', ts, rfl, nx, ok', g1, g2, f0, f1, f2, f3, kp⟩ := hB.out
      have hpl : p < (tls ts).length := get_lt (tls_get g1)
      have ed : putK (nkv S.nums) (Sum.inl (p : Int) : Key) (.int x) = nkv (S.begun p x).nums := by
        rw [putK_new _ (nkv_not nx.1)]
        simp [nkv, My.Tab.begun]
      have et : (tls ts).set p (.int ((S.turn p : Int) + 1)) = tls (S.begun p x).turns := by
        rw [← g2, ← tls_set]
        rfl
      walk_at "rd"
      refine ⟨_, _, _, _, rfl, rfl, SqL.of (by walk_at "hp"), at_of (j := p) rfl (tls_get g1), ?_⟩
      walk_at "rd"
      refine ⟨_, _, _, _, rfl, rfl, (by walk_at "hp"), ixN_at hpl, ?_⟩
      walk_at "rd"
      refine ⟨_, _, rfl, DPut.k (k := Sum.inl (p : Int)) (by walk_at "hp") ?_, ?_⟩
      · unfold nkv
        rw [List.length_map]
        exact small (by omega)
      walk_at "rd"
      refine ⟨_, _, rfl, (by walk_at "hp"), _, _, rfl, ?_⟩
      walk_at "rd"
      refine ⟨by show 2 ≤ sizeLine; decide, fun h hh => ?_⟩
      have m1 : t ≠ h := fun e => by subst e; rw [upd_same] at hh; cases hh
      have hh1 := (upd_ne m1.symm).symm.trans hh
      have m2 : nd ≠ h := fun e => by subst e; rw [upd_same] at hh1; cases hh1
      have hh2 := (upd_ne m2.symm).symm.trans hh1
      have m3 : tl ≠ h := fun e => by subst e; rw [upd_same] at hh2; cases hh2
      have hh3 := (upd_ne m3.symm).symm.trans hh2
      have m4 : fl ≠ h := ne_of_none f3 hh3
      have hh4 : H h = none := by
        rcases kp.fresh hh3 with q | q
        · simp at q
          rcases q with q | q | q | q
          · exact absurd q.symm m1
          · exact absurd q.symm m3
          · exact absurd q.symm m2
          · exact absurd q.symm m4
        · exact q
      have emost : (if ((putK (nkv S.nums) (Sum.inl (p : Int) : Key) (V.int x)).length : Int) > (S.most : Int) then ((putK (nkv S.nums) (Sum.inl (p : Int) : Key) (V.int x)).length : Int) else (S.most : Int)) = ((S.begun p x).most : Int) := by
        rw [ed]
        have e1 : (nkv (S.begun p x).nums).length = S.nums.length + 1 := by simp [nkv, My.Tab.begun]
        have e2 : (S.begun p x).most = max S.most (S.nums.length + 1) := rfl
        rw [e1, e2]
        split <;> omega
      refine kk p h _ nx hh4 upd_same ⟨⟨dx, ?_⟩, ?_, ?_, ⟨free', ?_, ok'⟩, ne⟩ ?_
      · rw [upd_ne m1, upd_same, emost]
        exact congrArg (fun q => some (HO.ins a.c_Table dx q)) tfs_put
      · rw [upd_ne m3, upd_ne n1.symm, upd_ne n4, upd_same]
        exact congrArg (fun q => some (HO.lst q)) et
      · rw [upd_ne m2, upd_ne n2.symm, upd_same, ed]
      · walk_at "hp"
      · exact (((kp.upd (.inl (by simp))).upd (.inl (by simp))).upd (.inl (by simp))).upd (.inr hh4)

/-! ### is_whole, _is_handle -/
def sp_is_whole : Sp := fun vs H Q _ => ∃ i : Int, vs = [.int i] ∧ Q (.bl true) H
theorem ok_is_whole (T : Txt K mg a) : FnOk P w K mg base CX0 1 a.f_is_whole a.d_is_whole ["thing"] sp_is_whole := by
  refine T.F_is_whole.ok sc_is_whole (fun vs H Q E h => ?_) (fun cdv A outer s H vs Q E hr h => ?_)
  · obtain ⟨i, rfl, _⟩ := h
    rfl
  · obtain ⟨i, rfl, kk⟩ := h
    refine ⟨_, (pss_one (ps_ret (pe_and (pe_callB call_isi (by rfl) T.z_isinstance (by decide +kernel) (pa_cons (pv 0) (pa_cons (pe_bltn (v := .ty "int") (by rfl) T.z_int (by decide +kernel) rfl) pa_nil))) (pe_one (pe_not (pe_callB call_isi (by rfl) T.z_isinstance (by decide +kernel) (pa_cons (pv 0) (pa_cons (pe_bltn (v := .ty "bool") (by rfl) T.z_bool (by decide +kernel) rfl) pa_nil)))))))), ?_⟩
    refine ⟨_, rfl, _, _, _, _, true, rfl, .ty "int", .base (.int i), kit_ty (by decide +kernel), true, rfl, ?_⟩
    refine iteT ?_
    refine ⟨_, rfl, _, _, _, _, false, rfl, .ty "bool", .base (.int i), kit_ty (by decide +kernel), ?_⟩
    refine ⟨_, rfl, ?_⟩
    exact kk
def sp_is_handle (K : PySem.W.Frag) : Sp := fun vs H Q _ => ∃ (h : Addr) (p t : Int), vs = [.ref h] ∧ H h = some (.tup [.int p, .int t]) ∧ 0 ≤ p ∧ 0 ≤ t ∧ ∀ H', Same H H' → Q (.bl true) H'
theorem ok_p_is_handle (T : Txt K mg a) : FnOk P w K mg base CX0 2 a.f_p_is_handle a.d_p_is_handle ["thing"] (sp_is_handle K) := by
  refine T.F_p_is_handle.ok sc_p_is_handle (fun vs H Q E h => ?_) (fun cdv A outer s H vs Q E hr h => ?_)
  · obtain ⟨h, p, t, rfl, _⟩ := h
    rfl
  · obtain ⟨h, p, t, rfl, e, p0, t0, kk⟩ := h
    refine ⟨_, (pss_cons (ps_if (PW.pt (pw_or (pt_not (pt_val (pe_callB call_isi (by rfl) T.z_isinstance (by decide +kernel) (pa_cons (pv 0) (pa_cons (pe_bltn (v := .ty "tuple") (by rfl) T.z_tuple (by decide +kernel) rfl) pa_nil))))) (pw_or1 (pt_cmpR op_ne (pe_callB call_len_seq (by rfl) T.z_len (by decide +kernel) (pa_cons (pv 0) pa_nil)) pe_int (nomark _))))) (pss_one (ps_ret pe_bl)) pss_nil)
      (pss_one (ps_ret (pe_callB (cr_all rfl) (by rfl) T.z_all (by decide +kernel) (pa_cons (pe_lc (own := [("part", 1)]) (g := gName 1) (tt := tYes) rfl sc_p_is_handle.nd (pi_tup (pv 0)) (blkOk_by (own := [("part", 1)]) (N := ["thing", "part"]) (sc := defScope s_p_is_handle) (by decide +kernel)) (fun _ _ _ _ _ => pg_name (i := 1) sc_p_is_handle.nd rfl (Or.inl rfl)) (fun _ _ _ _ _ => pts_nil) (fun _ _ _ _ _ => by exact (pe_and (pe_call (ok_is_whole T) (hr.mono (by decide)) rfl T.g_is_whole T.k_is_whole T.B_is_whole .nil pass0 (pa_cons (pv 1) pa_nil)) (pe_one (pe_cmpR op_ge (pv 1) pe_int (nomark _)))))) pa_nil))))), ?_⟩
    refine ⟨_, rfl, _, _, _, _, true, rfl, .ty "tuple", .base (.tup e), kit_ty (by decide +kernel), true, rfl, ?_⟩
    refine iteF ?_
    refine ⟨_, rfl, _, _, rfl, .inr (SqT.of e), rfl, _, rfl, ?_⟩
    refine iteNS rfl ?_
    refine ⟨_, rfl, h, rfl, ⟨_, SqT.of e⟩, fun D hD => ?_⟩
    have nD : h ≠ D := ne_of_none e hD
    have sD : ∀ o, Same H (upd H D o) := fun o => (Same.refl H).upd hD
    refine lc_tup (K := K) (a := h) (xs := [.int p, .int t]) (fun i H1 => Blk (H1 = upd H D (.lst ((List.replicate i true).map V.bl)) ∧ i ≤ 2)) (Blk.of ⟨rfl, by omega⟩) (fun i H1 _ hB => ?_) ?_ ?_
    · obtain ⟨rfl, _⟩ := hB.out
      exact SqT.of (by walk_at "hp")
    · intro i y H1 hi hB
      obtain ⟨rfl, _⟩ := hB.out
      obtain ⟨q, rfl, q0⟩ : ∃ q : Int, y = .int q ∧ 0 ≤ q := by
        match i, hi with
        | 0, hi => exact ⟨p, (Option.some.inj hi).symm, p0⟩
        | 1, hi => exact ⟨t, (Option.some.inj hi).symm, t0⟩
      have hl := get_lt hi
      simp at hl
      refine ⟨rfl, ?_⟩
      dsimp only [tYes]
      refine iteT ?_
      refine ⟨_, rfl, q, rfl, true, rfl, ?_⟩
      refine iteT ?_
      refine ⟨_, rfl, _, _, rfl, rfl, _, upd_same, by rw [List.length_map, List.length_replicate]; exact small (by omega), Blk.of ⟨?_, by omega⟩⟩
      rw [upd_upd, List.replicate_succ', List.map_append]
      have ed : (V.bl (decide ((0 : Int) ≤ q))) = V.bl true := by rw [decide_eq_true q0]
      exact congrArg (fun z => upd H D (.lst ((List.replicate i true).map V.bl ++ [z]))) ed
    · intro H1 hB
      obtain ⟨rfl, _⟩ := hB.out
      exact ⟨_, List.replicate 2 true, rfl, SqL.of upd_same, kk _ (sD _)⟩
/-! ### Table._living_place, look, end, most, __len__ -/
def TabH (H : Hp) (h : Addr) (S : My.Tab) (p : Nat) : Prop := H h = some (.tup [.int p, .int ((S.turn p : Int) - 1)]) ∧ p ∈ S.keys
def sp_living (C : Addr) : Sp := fun vs H Q _ => ∃ (t tl nd fl h : Addr) (S : My.Tab) (p : Nat), vs = [.ref t, .ref h] ∧ TabAt C H t tl nd fl S ∧ TabH H h S p ∧ ∀ H', Same H H' → Q (.int p) H'
theorem nkv_get {nums : List (Nat × Int)} {p : Nat} : valV (nkv nums) (Sum.inl (p : Int) : Key) = ((nums.find? fun q => decide (q.1 = p)).map (·.2)).map V.int := by
  induction nums with
  | nil => rfl
  | cons q r ih =>
    show valV ((Sum.inl (q.1 : Int), V.int q.2) :: nkv r) (Sum.inl (p : Int) : Key) = _
    by_cases e : q.1 = p
    · rw [valV_pos (by show (Sum.inl (q.1 : Int) : Key) = _; rw [e])]
      simp [List.find?_cons, e]
    · rw [valV_neg (by show ¬ (Sum.inl (q.1 : Int) : Key) = _; intro z; exact e (by have := Sum.inl.inj z; omega)), ih]
      simp [List.find?_cons, e]
theorem nkv_num {S : My.Tab} {p : Nat} : valV (nkv S.nums) (Sum.inl (p : Int) : Key) = (S.num p).map V.int := nkv_get
theorem ok_Table_p_living_place (T : Txt K mg a) : FnOk P w K mg base CX0 3 a.f_Table_p_living_place a.d_Table_p_living_place ["self", "handle"] (sp_living a.c_Table) := by
  refine T.F_Table_p_living_place.ok sc_Table_p_living_place (fun vs H Q E h => ?_) (fun cdv A outer s H vs Q E hr h => ?_)
  · obtain ⟨t, tl, nd, fl, h, S, p, rfl, _⟩ := h
    rfl
  · obtain ⟨t, tl, nd, fl, h, S, p, rfl, ⟨⟨dx, e0⟩, e1, e2, ⟨free, e3, ok⟩, ne⟩, ⟨eh, hk⟩, kk⟩ := h
    have c0 := T.cl_Table
    have c1 := T.n_Table__turns
    have c2 := T.n_Table__numbers
    have k1 := @tfs_t tl nd fl S.most
    have k2 := @tfs_n tl nd fl S.most
    have hl := ok.lt p hk
    have hpos := ok.pos p hl
    obtain ⟨x, hx⟩ := My.Tab.num_some hk
    have hget : S.turns[p]? = some (S.turn p) := (My.Tab.begun_old hl 0).1
    refine ⟨_, (pss_cons (ps_if (PW.pt (pw_or (pt_not (pt_val (pe_call (ok_p_is_handle T) (hr.mono (by decide)) rfl T.g_p_is_handle T.k_p_is_handle T.B_p_is_handle .nil pass0 (pa_cons (pv 1) pa_nil)))) (pw_or1 (pt_cmpR op_ge (pe_ix ix_tup (pv 1) pe_int (fun _ _ => rfl)) (pe_callB call_len_seq (by rfl) T.z_len (by decide +kernel) (pa_cons (pe_fld (pv 0) rfl) pa_nil)) (nomark _))))) (pss_one ps_never) pss_nil)
      (pss_cons (ps_asg (pv 1) (pg_tup rfl (pgs_cons (pg_name (i := 2) sc_Table_p_living_place.nd rfl (Or.inl rfl)) (pgs_cons (pg_name (i := 3) sc_Table_p_living_place.nd rfl (Or.inl rfl)) pgs_nil))))
      (pss_cons (ps_if (pt_cmpR op_ge (pv 3) (pe_ix ix_list (pe_fld (pv 0) rfl) (pv 2) (fun _ _ => rfl)) (nomark _)) (pss_one ps_never) pss_nil)
      (pss_cons (ps_if (PW.pt (pw_or (pt_cmp (pc_dnotin (hu_of hr) (pv 2) (pe_fld (pv 0) rfl))) (pw_or1 (pt_cmpR op_lt (pv 3) (pe_op op_sub (pe_ix ix_list (pe_fld (pv 0) rfl) (pv 2) (fun _ _ => rfl)) pe_int) (nomark _))))) (pss_one ps_never) pss_nil)
      (pss_one (ps_ret (pv 2))))))), ?_⟩
    refine ⟨_, rfl, h, p, _, rfl, eh, by omega, by omega, fun H1 s1 => ?_⟩
    have f0 := s1 _ _ e0
    have f1 := s1 _ _ e1
    have f2 := s1 _ _ e2
    have fh := s1 _ _ eh
    refine ⟨true, rfl, ?_⟩
    refine iteF ?_
    refine ⟨_, rfl, _, _, _, _, rfl, rfl, SqT.of fh, rfl, ?_⟩
    walk_at "rd"
    have el : (((tls S.turns).length : Nat) : Int) = (S.turns.length : Int) := by unfold tls; rw [List.length_map]
    refine iteD (fun hc => absurd hc (by rw [el]; omega)) (fun _ => ?_)
    refine ⟨_, rfl, h, _, rfl, SqT.of fh, rfl, ?_⟩
    walk_at "rd"
    refine ⟨_, _, rfl, _, _, rfl, rfl, ?_⟩
    walk_at "rd"
    refine ⟨_, _, _, _, rfl, rfl, SqL.of (by walk_at "hp"), at_of (j := p) rfl (tls_get hget), ?_⟩
    walk_at "rd"
    refine iteD (fun hc => absurd hc (by omega)) (fun _ => ?_)
    walk_at "rd"
    refine ⟨_, _, rfl, DGet.k (k := Sum.inl (p : Int)) f2, ?_⟩
    rw [nkv_num, hx]
    walk_at "rd"
    refine ⟨_, _, _, _, rfl, rfl, SqL.of (by walk_at "hp"), at_of (j := p) rfl (tls_get hget), ?_⟩
    walk_at "rd"
    refine iteD (fun hc => absurd hc (by omega)) (fun _ => ?_)
    exact ⟨_, rfl, kk _ s1⟩

/-! ### _is_handle of any pair of numbers -/
def nn2 (p t : Int) : List Bool := [decide (0 ≤ p), decide (0 ≤ t)]
def sp_is_handle2 : Sp := fun vs H Q _ => ∃ (h : Addr) (p t : Int), vs = [.ref h] ∧ H h = some (.tup [.int p, .int t]) ∧ ∀ H', Same H H' → Q (.bl (decide (0 ≤ p) && decide (0 ≤ t))) H'
theorem ok_p_is_handle2 (T : Txt K mg a) : FnOk P w K mg base CX0 2 a.f_p_is_handle a.d_p_is_handle ["thing"] sp_is_handle2 := by
  refine T.F_p_is_handle.ok sc_p_is_handle (fun vs H Q E h => ?_) (fun cdv A outer s H vs Q E hr h => ?_)
  · obtain ⟨h, p, t, rfl, _⟩ := h
    rfl
  · obtain ⟨h, p, t, rfl, e, kk⟩ := h
    refine ⟨_, (pss_cons (ps_if (PW.pt (pw_or (pt_not (pt_val (pe_callB call_isi (by rfl) T.z_isinstance (by decide +kernel) (pa_cons (pv 0) (pa_cons (pe_bltn (v := .ty "tuple") (by rfl) T.z_tuple (by decide +kernel) rfl) pa_nil))))) (pw_or1 (pt_cmpR op_ne (pe_callB call_len_seq (by rfl) T.z_len (by decide +kernel) (pa_cons (pv 0) pa_nil)) pe_int (nomark _))))) (pss_one (ps_ret pe_bl)) pss_nil)
      (pss_one (ps_ret (pe_callB (cr_all rfl) (by rfl) T.z_all (by decide +kernel) (pa_cons (pe_lc (own := [("part", 1)]) (g := gName 1) (tt := tYes) rfl sc_p_is_handle.nd (pi_tup (pv 0)) (blkOk_by (own := [("part", 1)]) (N := ["thing", "part"]) (sc := defScope s_p_is_handle) (by decide +kernel)) (fun _ _ _ _ _ => pg_name (i := 1) sc_p_is_handle.nd rfl (Or.inl rfl)) (fun _ _ _ _ _ => pts_nil) (fun _ _ _ _ _ => by exact (pe_and (pe_call (ok_is_whole T) (hr.mono (by decide)) rfl T.g_is_whole T.k_is_whole T.B_is_whole .nil pass0 (pa_cons (pv 1) pa_nil)) (pe_one (pe_cmpR op_ge (pv 1) pe_int (nomark _)))))) pa_nil))))), ?_⟩
    refine ⟨_, rfl, _, _, _, _, true, rfl, .ty "tuple", .base (.tup e), kit_ty (by decide +kernel), true, rfl, ?_⟩
    refine iteF ?_
    refine ⟨_, rfl, _, _, rfl, .inr (SqT.of e), rfl, _, rfl, ?_⟩
    refine iteNS rfl ?_
    refine ⟨_, rfl, h, rfl, ⟨_, SqT.of e⟩, fun D hD => ?_⟩
    have nD : h ≠ D := ne_of_none e hD
    have sD : ∀ o, Same H (upd H D o) := fun o => (Same.refl H).upd hD
    refine lc_tup (K := K) (a := h) (xs := [.int p, .int t]) (fun i H1 => Blk (H1 = upd H D (.lst (((nn2 p t).take i).map V.bl)) ∧ i ≤ 2)) (Blk.of ⟨rfl, by omega⟩) (fun i H1 _ hB => ?_) ?_ ?_
    · obtain ⟨rfl, _⟩ := hB.out
      exact SqT.of (by walk_at "hp")
    · intro i y H1 hi hB
      obtain ⟨rfl, _⟩ := hB.out
      obtain ⟨q, rfl, q0⟩ : ∃ q : Int, y = .int q ∧ (nn2 p t)[i]? = some (decide (0 ≤ q)) := by
        match i, hi with
        | 0, hi => exact ⟨p, (Option.some.inj hi).symm, rfl⟩
        | 1, hi => exact ⟨t, (Option.some.inj hi).symm, rfl⟩
      have hl := get_lt hi
      simp at hl
      have et : (nn2 p t).take (i + 1) = (nn2 p t).take i ++ [decide (0 ≤ q)] := by rw [List.take_add_one, q0]; rfl
      refine ⟨rfl, ?_⟩
      dsimp only [tYes]
      refine iteT ?_
      refine ⟨_, rfl, q, rfl, true, rfl, ?_⟩
      refine iteT ?_
      refine ⟨_, rfl, _, _, rfl, rfl, _, upd_same, by rw [List.length_map, List.length_take]; exact small (by omega), Blk.of ⟨?_, by omega⟩⟩
      rw [upd_upd, et, List.map_append]
      rfl
    · intro H1 hB
      obtain ⟨rfl, _⟩ := hB.out
      refine ⟨_, nn2 p t, rfl, SqL.of upd_same, ?_⟩
      have := kk _ (sD (.lst (((nn2 p t).take 2).map V.bl)))
      simpa [nn2] using this

/-! ### handles that are refused -/
def Begun (S : My.Tab) (p q : Int) : Prop := 0 ≤ p ∧ p < S.turns.length ∧ 0 ≤ q ∧ q < S.turn p.toNat
def Lives (S : My.Tab) (p q : Int) : Prop := Begun S p q ∧ p.toNat ∈ S.keys ∧ q = (S.turn p.toNat : Int) - 1
/-- what comes out: a refusal of the class that is due, with the handle -/
def Out (CN CE : Addr) (S : My.Tab) (p q : Int) (H : Hp) (E : XK) : Prop := ∀ (C d z : Addr) (H' : Hp), (Begun S p q → C = CE) → (¬ Begun S p q → C = CN) → Same H H' → H d = none → H' d = some (.xd [("handle", .ref z)]) → H z = none → H' z = some (.tup [.int p, .int q]) → E (.ref C) (some d) H'
def sp_livingX (CN CE C : Addr) : Sp := fun vs H _ E => ∃ (t tl nd fl h : Addr) (S : My.Tab) (p q : Int), vs = [.ref t, .ref h] ∧ TabAt C H t tl nd fl S ∧ H h = some (.tup [.int p, .int q]) ∧ p.natAbs.log2 < 1920 ∧ q.natAbs.log2 < 1920 ∧ S.turns.length ≤ 100000 ∧ ¬ Lives S p q ∧ Out CN CE S p q H E
theorem mk_bears {C h : Addr} {H H1 : Hp} {p q : Int} {E : XK} {σ : L2.St} (s1 : Same H H1) (eh : H1 h = some (.tup [.int p, .int q])) (lp : p.natAbs.log2 < 1920) (lq : q.natAbs.log2 < 1920) (hσ : σ[1]? = some (some (.ref h)))
    (kk : ∀ (d z : Addr) (H' : Hp), Same H H' → H d = none → H' d = some (.xd [("handle", .ref z)]) → H z = none → H' z = some (.tup [.int p, .int q]) → E (.ref C) (some d) H') :
    tMkO C (sp_bears C) [] (tCons (tVar 1) tNil) σ H1 (fun cls d H' => E cls d H') := by
  refine ⟨_, hσ, by show 1 ≤ 1000; decide, fun e he => ?_⟩
  have nhe : h ≠ e := ne_of_none eh he
  refine ⟨e, h, [p, q], rfl, upd_same, (upd_ne nhe).trans eh, by show 2 ≤ 20; decide, fun y hy => ?_, fun d z H2 hd hz ndz nde h1 h2 h3 kp => ⟨rfl, d, _, h1, h2, ?_, ?_⟩⟩
  · simp at hy
    rcases hy with rfl | rfl
    · exact lp
    · exact lq
  · exact (upd_ne nde).symm.trans hd
  · have hd1 : H1 d = none := (upd_ne nde).symm.trans hd
    have nze : z ≠ e := fun w => by subst w; rw [upd_same] at hz; cases hz
    have hz1 : H1 z = none := (upd_ne nze).symm.trans hz
    refine kk d z _ (fun c o ec => ?_) (s1.free hd1) upd_same (s1.free hz1) ?_
    · have e1 := s1 _ _ ec
      have n1 : c ≠ e := ne_of_none e1 he
      have n2 : c ≠ d := ne_of_none e1 hd1
      rw [upd_ne n2, del_ne n1]
      exact kp c o ((upd_ne n1).trans e1) (by simp [n1])
    · rw [upd_ne ndz.symm, del_ne nze]
      exact h3
theorem ok_Table_p_living_placeX (T : Txt K mg a) : FnOk P w K mg base (L2.CX P w) 5 a.f_Table_p_living_place a.d_Table_p_living_place ["self", "handle"] (sp_livingX a.c_NoHandle a.c_Ended a.c_Table) := by
  refine T.F_Table_p_living_place.okX sc_Table_p_living_place (fun vs H Q E h => ?_) (fun cdv A outer s H vs Q E hr h => ?_)
  · obtain ⟨t, tl, nd, fl, h, S, p, q, rfl, _⟩ := h
    rfl
  · obtain ⟨t, tl, nd, fl, h, S, p, q, rfl, ⟨⟨dx, e0⟩, e1, e2, ⟨free, e3, ok⟩, ne⟩, eh, lp, lq, hz, nl, kk⟩ := h
    have c0 := T.cl_Table
    have c1 := T.n_Table__turns
    have c2 := T.n_Table__numbers
    have k1 := @tfs_t tl nd fl S.most
    have k2 := @tfs_n tl nd fl S.most
    refine ⟨_, (pss_cons (ps_if (PW.pt (pw_or (pt_not (pt_val (pe_call (ok_p_is_handle2 T) (hr.mono (by decide)) rfl T.g_p_is_handle T.k_p_is_handle T.B_p_is_handle .nil pass0 (pa_cons (pv 1) pa_nil)))) (pw_or1 (pt_cmpR op_ge (pe_ix ix_tup (pv 1) pe_int (fun _ _ => rfl)) (pe_callB call_len_seq (by rfl) T.z_len (by decide +kernel) (pa_cons (pe_fld (pv 0) rfl) pa_nil)) (nomark _))))) (pss_one (ps_raise rfl (W := fun cls d _ H => E cls d H) (takes_of rfl rfl rfl rfl) (pmk_oex T.x_NoHandle T.xi_NoHandle T.xt_NoHandle (ok_NoHandle_init T) (hr.mono (by decide)) T.B_NoHandle_init .nil pass0 (by rfl) T.g_NoHandle (pa_cons (pv 1) pa_nil)))) pss_nil)
      (pss_cons (ps_asg (pv 1) (pg_tup rfl (pgs_cons (pg_name (i := 2) sc_Table_p_living_place.nd rfl (Or.inl rfl)) (pgs_cons (pg_name (i := 3) sc_Table_p_living_place.nd rfl (Or.inl rfl)) pgs_nil))))
      (pss_cons (ps_if (pt_cmpR op_ge (pv 3) (pe_ix ix_list (pe_fld (pv 0) rfl) (pv 2) (fun _ _ => rfl)) (nomark _)) (pss_one (ps_raise rfl (W := fun cls d _ H => E cls d H) (takes_of rfl rfl rfl rfl) (pmk_oex T.x_NoHandle T.xi_NoHandle T.xt_NoHandle (ok_NoHandle_init T) (hr.mono (by decide)) T.B_NoHandle_init .nil pass0 (by rfl) T.g_NoHandle (pa_cons (pv 1) pa_nil)))) pss_nil)
      (pss_cons (ps_if (PW.pt (pw_or (pt_cmp (pc_dnotin (hu_of hr) (pv 2) (pe_fld (pv 0) rfl))) (pw_or1 (pt_cmpR op_lt (pv 3) (pe_op op_sub (pe_ix ix_list (pe_fld (pv 0) rfl) (pv 2) (fun _ _ => rfl)) pe_int) (nomark _))))) (pss_one (ps_raise rfl (W := fun cls d _ H => E cls d H) (takes_of rfl rfl rfl rfl) (pmk_oex T.x_Ended T.xi_Ended T.xt_Ended (ok_Ended_init T) (hr.mono (by decide)) T.B_Ended_init .nil pass0 (by rfl) T.g_Ended (pa_cons (pv 1) pa_nil)))) pss_nil)
      (pss_one (ps_ret (pv 2))))))), ?_⟩
    refine ⟨_, rfl, h, p, q, rfl, eh, fun H1 s1 => ?_⟩
    have f1 := s1 _ _ e1
    have f2 := s1 _ _ e2
    have fh := s1 _ _ eh
    have f0 := s1 _ _ e0
    have el : (((tls S.turns).length : Nat) : Int) = (S.turns.length : Int) := by unfold tls; rw [List.length_map]
    have no : ¬ Begun S p q → ∀ σ : L2.St, σ[1]? = some (some (.ref h)) → tMkO a.c_NoHandle (sp_bears a.c_NoHandle) [] (tCons (tVar 1) tNil) σ H1 (fun cls d H' => E cls d H') := fun nb σ hσ =>
      mk_bears s1 fh lp lq hσ fun d z H' s2 hd h1 hz h2 => kk _ d z H' (fun b => absurd b nb) (fun _ => rfl) s2 hd h1 hz h2
    refine ⟨_, rfl, ?_⟩
    refine iteB (fun hn => ?_) (fun hn => ?_)
    · refine iteT (no (fun b => ?_) _ rfl)
      obtain ⟨b1, b2, b3, b4⟩ := b
      simp [b1, b3] at hn
    · have p0 : 0 ≤ p := by
        simp at hn
        exact hn.1
      have q0 : 0 ≤ q := by
        simp at hn
        exact hn.2
      obtain ⟨pn, rfl⟩ : ∃ n : Nat, p = n := ⟨p.toNat, by omega⟩
      obtain ⟨qn, rfl⟩ : ∃ n : Nat, q = n := ⟨q.toNat, by omega⟩
      refine ⟨_, rfl, _, _, _, _, rfl, rfl, SqT.of fh, rfl, ?_⟩
      walk_at "rd"
      refine iteD (fun hc => no (fun b => ?_) _ rfl) (fun hc => ?_)
      · have := b.2.1
        rw [el] at hc
        omega
      rw [el] at hc
      have hl : pn < S.turns.length := by omega
      have hget : S.turns[pn]? = some (S.turn pn) := (My.Tab.begun_old hl 0).1
      refine ⟨_, rfl, h, _, rfl, SqT.of fh, rfl, ?_⟩
      walk_at "rd"
      refine ⟨_, _, rfl, _, _, rfl, rfl, ?_⟩
      walk_at "rd"
      refine ⟨_, _, _, _, rfl, rfl, SqL.of (by walk_at "hp"), at_of (j := pn) rfl (tls_get hget), ?_⟩
      walk_at "rd"
      refine iteD (fun hc2 => no (fun b => ?_) _ rfl) (fun hc2 => ?_)
      · have := b.2.2.2
        rw [Int.toNat_natCast] at this
        omega
      have bg : Begun S pn qn := ⟨p0, by omega, q0, by rw [Int.toNat_natCast]; omega⟩
      have nl2 : ¬ (pn ∈ S.keys ∧ (qn : Int) = (S.turn pn : Int) - 1) := fun z => nl ⟨bg, by rw [Int.toNat_natCast]; exact z⟩
      have yes : ∀ σ : L2.St, σ[1]? = some (some (.ref h)) → tMkO a.c_Ended (sp_bears a.c_Ended) [] (tCons (tVar 1) tNil) σ H1 (fun cls d H' => E cls d H') := fun σ hσ =>
        mk_bears s1 fh lp lq hσ fun d z H' s2 hd h1 hz h2 => kk _ d z H' (fun _ => rfl) (fun nb => absurd bg nb) s2 hd h1 hz h2
      walk_at "rd"
      refine ⟨_, _, rfl, DGet.k (k := Sum.inl (pn : Int)) f2, ?_⟩
      by_cases hk : pn ∈ S.keys
      · obtain ⟨x, hx⟩ := My.Tab.num_some hk
        rw [nkv_num, hx]
        refine ⟨_, rfl, ?_⟩
        refine iteF ?_
        walk_at "rd"
        refine ⟨_, _, _, _, rfl, rfl, SqL.of (by walk_at "hp"), at_of (j := pn) rfl (tls_get hget), ?_⟩
        walk_at "rd"
        refine iteD (fun hc3 => yes _ rfl) (fun hc3 => ?_)
        exact absurd ⟨hk, by omega⟩ nl2
      · have hx : S.num pn = none := by
          cases e : S.num pn with
          | none => rfl
          | some x =>
            exfalso
            apply hk
            unfold My.Tab.num at e
            obtain ⟨z, hz1, hz2⟩ := Option.map_eq_some_iff.mp e
            have hm := List.mem_of_find?_eq_some hz1
            have hp := List.find?_some hz1
            simp at hp
            exact List.mem_map.mpr ⟨z, hm, hp⟩
        rw [nkv_num, hx]
        refine ⟨_, rfl, ?_⟩
        refine iteT ?_
        exact iteT (yes _ rfl)

theorem tfs_no1 {tl nd fl : Addr} {m : Int} : (tfs tl nd fl m).lookup ("_living_place" : Str) = none := by kernel_rfl
def sp_look (C : Addr) : Sp := fun vs H Q _ => ∃ (t tl nd fl h : Addr) (S : My.Tab) (p : Nat) (x : Int), vs = [.ref t, .ref h] ∧ TabAt C H t tl nd fl S ∧ TabH H h S p ∧ S.num p = some x ∧ ∀ H', Same H H' → Q (.int x) H'
theorem ok_Table_look (T : Txt K mg a) : FnOk P w K mg base CX0 4 a.f_Table_look a.d_Table_look ["self", "handle"] (sp_look a.c_Table) := by
  refine T.F_Table_look.ok sc_Table_look (fun vs H Q E h => ?_) (fun cdv A outer s H vs Q E hr h => ?_)
  · obtain ⟨t, tl, nd, fl, h, S, p, x, rfl, _⟩ := h
    rfl
  · obtain ⟨t, tl, nd, fl, h, S, p, x, rfl, tab, hh, hx, kk⟩ := h
    obtain ⟨dx, e0⟩ := tab.ob
    have e2 := tab.hd
    have c0 := T.cl_Table
    have c2 := T.n_Table__numbers
    have k2 := @tfs_n tl nd fl S.most
    refine ⟨_, (pss_one (ps_ret (pe_dget (hu_of hr) (pe_fld (pv 0) rfl) (pe_meth (pv 0) T.cl_Table T.m_Table_p_living_place (ok_Table_p_living_place T) (hr.mono (by decide)) T.B_Table_p_living_place .nil pass0 (pa_cons (pv 1) pa_nil)) (fun _ _ => rfl)))), ?_⟩
    walk_at "rd"
    refine ⟨t, dx, _, rfl, e0, tfs_no1, _, rfl, t, tl, nd, fl, h, S, p, rfl, tab, hh, fun H1 s1 => ?_⟩
    have ev : valV (nkv S.nums) (Sum.inl (p : Int) : Key) = some (.int x) := by rw [nkv_num, hx]; rfl
    exact ⟨nd, .int x, rfl, ev ▸ DGet.k (k := Sum.inl (p : Int)) (s1 _ _ e2), kk _ s1⟩
def sp_end (C : Addr) : Sp := fun vs H Q _ => ∃ (t tl nd fl h : Addr) (S : My.Tab) (p : Nat) (x : Int), vs = [.ref t, .ref h] ∧ TabAt C H t tl nd fl S ∧ TabH H h S p ∧ S.num p = some x ∧ S.turns.length ≤ 50000 ∧
  ∀ H', TabAt C H' t tl nd fl (S.ended p) → Keeps [t, tl, nd, fl] H H' → Q (.int x) H'
theorem nkv_drop (S : My.Tab) (p : Nat) : dropK (nkv S.nums) (Sum.inl (p : Int) : Key) = nkv (S.ended p).nums := by
  unfold dropK nkv My.Tab.ended
  simp only [List.filter_map]
  congr 1
  refine List.filter_congr fun q _ => ?_
  show decide ((Sum.inl (q.1 : Int) : Key) ≠ Sum.inl (p : Int)) = decide (q.1 ≠ p)
  by_cases e : q.1 = p
  · simp [e]
  · have e2 : ¬ ((Sum.inl (q.1 : Int) : Key) = Sum.inl (p : Int)) := fun z => e (by have := Sum.inl.inj z; omega)
    rw [decide_eq_true e2, decide_eq_true e]
theorem ok_Table_end (T : Txt K mg a) : FnOk P w K mg base CX0 4 a.f_Table_end a.d_Table_end ["self", "handle"] (sp_end a.c_Table) := by
  refine T.F_Table_end.ok sc_Table_end (fun vs H Q E h => ?_) (fun cdv A outer s H vs Q E hr h => ?_)
  · obtain ⟨t, tl, nd, fl, h, S, p, x, rfl, _⟩ := h
    rfl
  · obtain ⟨t, tl, nd, fl, h, S, p, x, rfl, tab, hh, hx, hz, kk⟩ := h
    obtain ⟨dx, e0⟩ := tab.ob
    have c0 := T.cl_Table
    have c2 := T.n_Table__numbers
    have c3 := T.n_Table__free
    have k2 := @tfs_n tl nd fl S.most
    have k3 := @tfs_f tl nd fl S.most
    refine ⟨_, (pss_cons (ps_set (i := 2) sc_Table_end.nd rfl (Or.inl rfl) (pe_meth (pv 0) T.cl_Table T.m_Table_p_living_place (ok_Table_p_living_place T) (hr.mono (by decide)) T.B_Table_p_living_place .nil pass0 (pa_cons (pv 1) pa_nil)))
      (pss_cons (ps_expr (pe_callBfun cr_push (by rfl) T.h_heappush (pa_cons (pe_fld (pv 0) rfl) (pa_cons (pv 2) pa_nil))))
      (pss_one (ps_ret (pe_dpop1 (pe_fld (pv 0) rfl) (pv 2) ⟨rfl, rfl, rfl, rfl⟩))))), ?_⟩
    refine ⟨_, rfl, t, dx, _, rfl, e0, tfs_no1, _, rfl, t, tl, nd, fl, h, S, p, rfl, tab, hh, fun H1 s1 => ?_⟩
    have tab1 := tab.same s1
    obtain ⟨⟨dy, f0⟩, f1, f2, ⟨free, f3, ok⟩, ne⟩ := id tab1
    have n1 : t ≠ tl := ne_of f0 f1 (fun q => by cases q)
    have n2 : t ≠ nd := ne_of f0 f2 (fun q => by cases q)
    have n3 : t ≠ fl := ne_of f0 f3 (fun q => by cases q)
    have n4 : tl ≠ nd := ne_of f1 f2 (fun q => by cases q)
    have n5 : fl ≠ nd := ne_of f3 f2 (fun q => by cases q)
    have cnt := ok.cnt
    walk_at "rd"
    refine ⟨fl, free, p, rfl, (by walk_at "hp"), small (by omega), ok.heap, fun free' pm ih => ?_⟩
    walk_at "rd"
    have ev : valV (nkv S.nums) (Sum.inl (p : Int) : Key) = some (.int x) := by rw [nkv_num, hx]; rfl
    refine ⟨.inl ⟨_, .inl (by walk_at "hp")⟩, _, rfl, _, Sum.inl (p : Int), _, (by walk_at "hp"), rfl, ev, ?_⟩
    rw [nkv_drop]
    refine kk _ ⟨⟨dy, (by walk_at "hp")⟩, (by walk_at "hp"), upd_same, ⟨free', (by walk_at "hp"), My.Tab.ended_ok ok hh.2 pm ih⟩, ne⟩ ?_
    have kk1 : Keeps [t, tl, nd, fl] H H1 := fun b o e _ => s1 b o e
    exact (kk1.upd (.inl (by simp))).upd (.inl (by simp))
/-! ### most, len, alive -/
def sp_most (C : Addr) : Sp := fun vs H Q _ => ∃ (t tl nd fl : Addr) (S : My.Tab), vs = [.ref t] ∧ TabAt C H t tl nd fl S ∧ Q (.int S.most) H
theorem ok_Table_most (T : Txt K mg a) : FnOk P w K mg base CX0 1 a.f_Table_most a.d_Table_most ["self"] (sp_most a.c_Table) := by
  refine T.F_Table_most.ok sc_Table_most (fun vs H Q E h => ?_) (fun cdv A outer s H vs Q E hr h => ?_)
  · obtain ⟨t, tl, nd, fl, S, rfl, _⟩ := h
    rfl
  · obtain ⟨t, tl, nd, fl, S, rfl, tab, kk⟩ := h
    obtain ⟨dx, e0⟩ := tab.ob
    have c0 := T.cl_Table
    have c4 := T.n_Table__most
    have k4 := @tfs_m tl nd fl S.most
    refine ⟨_, (pss_one (ps_ret (pe_fld (pv 0) rfl))), ?_⟩
    walk_at "rd"
    exact kk
def sp_len (C : Addr) : Sp := fun vs H Q _ => ∃ (t tl nd fl : Addr) (S : My.Tab), vs = [.ref t] ∧ TabAt C H t tl nd fl S ∧ Q (.int S.nums.length) H
theorem ok_Table_len (T : Txt K mg a) : FnOk P w K mg base CX0 1 a.f_Table_len a.d_Table_len ["self"] (sp_len a.c_Table) := by
  refine T.F_Table_len.ok sc_Table_len (fun vs H Q E h => ?_) (fun cdv A outer s H vs Q E hr h => ?_)
  · obtain ⟨t, tl, nd, fl, S, rfl, _⟩ := h
    rfl
  · obtain ⟨t, tl, nd, fl, S, rfl, tab, kk⟩ := h
    obtain ⟨dx, e0⟩ := tab.ob
    have e2 := tab.hd
    have c0 := T.cl_Table
    have c2 := T.n_Table__numbers
    have k2 := @tfs_n tl nd fl S.most
    refine ⟨_, (pss_one (ps_ret (pe_callB call_lenD (by rfl) T.z_len (by decide +kernel) (pa_cons (pe_fld (pv 0) rfl) pa_nil)))), ?_⟩
    walk_at "rd"
    refine ⟨_, _, rfl, e2, ?_⟩
    have el : (nkv S.nums).length = S.nums.length := by simp [nkv]
    rw [el]
    exact kk
theorem cast_perm {ys : List Int} {ks : List Nat} (h : ys.Perm (ks.map fun (n : Nat) => (n : Int))) : ∃ ps : List Nat, ys = ps.map (fun (n : Nat) => (n : Int)) ∧ ps.Perm ks := by
  refine ⟨ys.map Int.toNat, ?_, ?_⟩
  · rw [List.map_map]
    exact List.ext_getElem? fun j => by
      rw [List.getElem?_map]
      cases e2 : ys[j]? with
      | none => rfl
      | some y =>
        obtain ⟨n, _, e3⟩ := List.mem_map.mp (h.mem_iff.mp (List.mem_of_getElem? e2))
        subst e3
        simp
  · have := h.map Int.toNat
    rw [List.map_map] at this
    refine this.trans (by rw [show (Int.toNat ∘ fun (n : Nat) => (n : Int)) = id from funext fun n => by simp]; simp)
/-- a list of new handles: of the places ps -/
def Grips (H' : Hp) (S : My.Tab) (hs : List Addr) (ps : List Nat) : Prop := hs.length = ps.length ∧ ∀ (i : Nat) (h : Addr) (p : Nat), hs[i]? = some h → ps[i]? = some p → H' h = some (.tup [.int p, .int ((S.turn p : Int) - 1)])
def sp_alive (C : Addr) : Sp := fun vs H Q _ => ∃ (t tl nd fl : Addr) (S : My.Tab), vs = [.ref t] ∧ TabAt C H t tl nd fl S ∧ S.turns.length ≤ 50000 ∧
  ∀ (l : Addr) (hs : List Addr) (ps : List Nat) (H' : Hp), H l = none → H' l = some (.lst (hs.map V.ref)) → ps.Perm S.keys → ps.Pairwise (· ≤ ·) → Grips H' S hs ps → (∀ h, h ∈ hs → H h = none) → Same H H' → Q (.ref l) H'
theorem ok_Table_alive (T : Txt K mg a) : FnOk P w K mg base CX0 1 a.f_Table_alive a.d_Table_alive ["self"] (sp_alive a.c_Table) := by
  refine T.F_Table_alive.ok sc_Table_alive (fun vs H Q E h => ?_) (fun cdv A outer s H vs Q E hr h => ?_)
  · obtain ⟨t, tl, nd, fl, S, rfl, _⟩ := h
    rfl
  · obtain ⟨t, tl, nd, fl, S, rfl, tab, hz, kk⟩ := h
    obtain ⟨⟨dx, e0⟩, e1, e2, ⟨free, e3, ok⟩, ne⟩ := id tab
    have c0 := T.cl_Table
    have c1 := T.n_Table__turns
    have c2 := T.n_Table__numbers
    have k1 := @tfs_t tl nd fl S.most
    have k2 := @tfs_n tl nd fl S.most
    refine ⟨_, (pss_one (ps_ret (pe_lc (own := [("place", 1)]) (g := gName 1) (te := tTup (tCons (tVar 1) (tCons (tOp (rI0 fun i j => .int (i - j)) (tOp (rIxL K) (tFld K (tVar 0) "_turns") (tVar 1)) (tC (.int 1))) tNil))) (tt := tYes) rfl sc_Table_alive.nd (pi_list (pe_callB (cr_sortDA rfl) (by rfl) T.z_sorted (by decide +kernel) (pa_cons (pe_fld (pv 0) rfl) pa_nil))) (blkOk_by (own := [("place", 1)]) (N := ["self", "place"]) (sc := defScope s_Table_alive) (by decide +kernel)) (fun _ _ _ _ _ => pg_name (i := 1) sc_Table_alive.nd rfl (Or.inl rfl)) (fun _ _ _ _ _ => pts_nil) (fun _ _ _ _ _ => by exact (pe_tup (pa_cons (pv 1) (pa_cons (pe_op op_sub (pe_ix ix_list (pe_fld (pv 0) rfl) (pv 1) (fun _ _ => rfl)) pe_int) pa_nil))))))), ?_⟩
    walk_at "rd"
    refine ⟨nd, nkv S.nums, S.keys.map fun (n : Nat) => (n : Int), rfl, .inl e2, ?_, fun ys q pm srt hq => ?_⟩
    · unfold nkv My.Tab.keys
      rw [List.map_map, List.map_map, List.map_map]
      rfl
    obtain ⟨ps, rfl, pp⟩ := cast_perm pm
    have srt2 : ps.Pairwise (· ≤ ·) := (List.pairwise_map.mp srt).imp (fun {x y} h => Int.ofNat_le.mp h)
    have plen : ps.length ≤ 50000 := by
      rw [pp.length_eq]
      have c := ok.cnt
      unfold My.Tab.keys
      rw [List.length_map]
      omega
    have sq : Same H (upd H q (.lst ((ps.map fun (n : Nat) => (n : Int)).map V.int))) := (Same.refl H).upd hq
    refine ⟨q, rfl, ⟨_, SqL.of upd_same⟩, fun D hD => ?_⟩
    refine lc_list (K := K) (a := q) (xs := (ps.map fun (n : Nat) => (n : Int)).map V.int) (fun i H1 => Blk (∃ hs : List Addr, H1 D = some (.lst (hs.map V.ref)) ∧ hs.length = i ∧ (∀ (j : Nat) (h : Addr) (p : Nat), hs[j]? = some h → ps[j]? = some p → H1 h = some (.tup [.int p, .int ((S.turn p : Int) - 1)])) ∧
      (∀ h, h ∈ hs → H h = none) ∧ Same (upd H q (.lst ((ps.map fun (n : Nat) => (n : Int)).map V.int))) H1)) (Blk.of ⟨[], upd_same, rfl, fun j h p e => by simp at e, fun h e => by simp at e, (Same.refl _).upd hD⟩) (fun i H1 _ hB => ?_) ?_ ?_
    · obtain ⟨hs, _, _, _, _, s1⟩ := hB.out
      exact s1.seq (SqL.of upd_same)
    · intro i y H1 hi hB
      obtain ⟨hs, g1, g2, g3, g4, s1⟩ := hB.out
      obtain ⟨z, hz1, rfl⟩ := ints_get hi
      rw [List.getElem?_map] at hz1
      obtain ⟨p, hp, rfl⟩ : ∃ p, ps[i]? = some p ∧ z = ((p : Nat) : Int) := by
        cases e : ps[i]? with
        | none => rw [e] at hz1; cases hz1
        | some p => rw [e] at hz1; exact ⟨p, rfl, (Option.some.inj hz1).symm⟩
      have hil := get_lt hp
      have f0 := s1 _ _ (sq _ _ e0)
      have f1 := s1 _ _ (sq _ _ e1)
      have hpl : p < S.turns.length := ok.lt p (pp.mem_iff.mp (List.mem_of_getElem? hp))
      refine ⟨rfl, ?_⟩
      dsimp only [tYes]
      refine iteT ?_
      walk_at "rd"
      refine ⟨_, _, _, _, rfl, rfl, SqL.of (by walk_at "hp"), at_of (j := p) rfl (tls_get (My.Tab.begun_old hpl 0).1), ?_⟩
      walk_at "rd"
      refine ⟨by show 2 ≤ sizeLine; decide, fun h hh => ?_⟩
      have nh : D ≠ h := ne_of_none g1 hh
      refine ⟨_, (by walk_at "hp"), by rw [List.length_map]; exact small (by omega), Blk.of ⟨hs ++ [h], (by rw [upd_same, List.map_append]; rfl), by rw [List.length_append]; simp [g2], ?_, ?_, ?_⟩⟩
      · intro j h' p' e1 e2
        by_cases hj : j < hs.length
        · rw [List.getElem?_append_left hj] at e1
          have q1 := g3 j h' p' e1 e2
          rw [upd_ne (fun z => by subst z; rw [g1] at q1; cases q1), upd_ne (ne_of_none q1 hh)]
          exact q1
        · have hj2 := get_lt e1
          rw [List.length_append, List.length_singleton] at hj2
          obtain rfl : j = hs.length := by omega
          rw [g2] at e2
          rw [hp] at e2
          obtain rfl := Option.some.inj e2
          simp at e1
          subst e1
          rw [upd_ne nh.symm, upd_same]
      · intro h' hm
        rcases List.mem_append.mp hm with e | e
        · exact g4 h' e
        · simp at e
          subst e
          exact sq.free (s1.free hh)
      · exact (s1.upd (s1.free hh)).upd hD
    · intro H1 hB
      obtain ⟨hs, g1, g2, g3, g4, s1⟩ := hB.out
      rw [List.length_map, List.length_map] at g2
      have hD0 : H D = none := sq.free hD
      exact kk D hs ps H1 hD0 g1 pp srt2 ⟨g2, g3⟩ g4 (sq.trans s1)

/-! ### look and end of a handle that doesn't live -/
theorem ok_Table_lookX (T : Txt K mg a) : FnOk P w K mg base (L2.CX P w) 6 a.f_Table_look a.d_Table_look ["self", "handle"] (sp_livingX a.c_NoHandle a.c_Ended a.c_Table) := by
  refine T.F_Table_look.okX sc_Table_look (fun vs H Q E h => ?_) (fun cdv A outer s H vs Q E hr h => ?_)
  · obtain ⟨t, tl, nd, fl, h, S, p, q, rfl, _⟩ := h
    rfl
  · obtain ⟨t, tl, nd, fl, h, S, p, q, rfl, tab, rest⟩ := h
    obtain ⟨dx, e0⟩ := tab.ob
    have c0 := T.cl_Table
    have c2 := T.n_Table__numbers
    have k2 := @tfs_n tl nd fl S.most
    refine ⟨_, (pss_one (ps_ret (pe_dget (hu_of hr) (pe_fld (pv 0) rfl) (pe_meth (pv 0) T.cl_Table T.m_Table_p_living_place (ok_Table_p_living_placeX T) (hr.mono (by decide)) T.B_Table_p_living_place .nil (passes_call (W := fun cls d _ H => E cls d H) (takes_of rfl rfl rfl rfl) (fun _ _ _ _ z => z)) (pa_cons (pv 1) pa_nil)) (fun _ _ => rfl)))), ?_⟩
    walk_at "rd"
    exact ⟨t, dx, _, rfl, e0, tfs_no1, _, rfl, t, tl, nd, fl, h, S, p, q, rfl, tab, rest⟩
theorem ok_Table_endX (T : Txt K mg a) : FnOk P w K mg base (L2.CX P w) 6 a.f_Table_end a.d_Table_end ["self", "handle"] (sp_livingX a.c_NoHandle a.c_Ended a.c_Table) := by
  refine T.F_Table_end.okX sc_Table_end (fun vs H Q E h => ?_) (fun cdv A outer s H vs Q E hr h => ?_)
  · obtain ⟨t, tl, nd, fl, h, S, p, q, rfl, _⟩ := h
    rfl
  · obtain ⟨t, tl, nd, fl, h, S, p, q, rfl, tab, rest⟩ := h
    obtain ⟨dx, e0⟩ := tab.ob
    refine ⟨_, (pss_cons (ps_set (i := 2) sc_Table_end.nd rfl (Or.inl rfl) (pe_meth (pv 0) T.cl_Table T.m_Table_p_living_place (ok_Table_p_living_placeX T) (hr.mono (by decide)) T.B_Table_p_living_place .nil (passes_call (W := fun cls d _ H => E cls d H) (takes_of rfl rfl rfl rfl) (fun _ _ _ _ z => z)) (pa_cons (pv 1) pa_nil)))
      (pss_cons (ps_expr (pe_callBfun cr_push (by rfl) T.h_heappush (pa_cons (pe_fld (pv 0) rfl) (pa_cons (pv 2) pa_nil))))
      (pss_one (ps_ret (pe_dpop1 (pe_fld (pv 0) rfl) (pv 2) ⟨rfl, rfl, rfl, rfl⟩))))), ?_⟩
    exact ⟨_, rfl, t, dx, _, rfl, e0, tfs_no1, _, rfl, t, tl, nd, fl, h, S, p, q, rfl, tab, rest⟩
/-- both ways of a handle -/
def sp_look2 (CN CE C : Addr) : Sp := fun vs H Q E => sp_look C vs H Q E ∨ sp_livingX CN CE C vs H Q E
theorem ok_Table_look2 (T : Txt K mg a) : FnOk P w K mg base (L2.CX P w) 6 a.f_Table_look a.d_Table_look ["self", "handle"] (sp_look2 a.c_NoHandle a.c_Ended a.c_Table) := ((ok_Table_look T).mono (by decide)).orX (ok_Table_lookX T)
def sp_end2 (CN CE C : Addr) : Sp := fun vs H Q E => sp_end C vs H Q E ∨ sp_livingX CN CE C vs H Q E
theorem ok_Table_end2 (T : Txt K mg a) : FnOk P w K mg base (L2.CX P w) 6 a.f_Table_end a.d_Table_end ["self", "handle"] (sp_end2 a.c_NoHandle a.c_Ended a.c_Table) := ((ok_Table_end T).mono (by decide)).orX (ok_Table_endX T)

/-! ### _law_figure -/
def sp_figure : Sp := fun vs H Q _ => ∃ (b g l : Addr) (n : Int), vs = [.ref b] ∧ BoxAt H b g l n ∧ 0 ≤ n ∧ n < 9000000 ∧ ∀ (x : Int) (H' : Hp), BoxAt H' b g l (n + 3) → Keeps [b, g] H H' → Q (.int x) H'
theorem ok_figure (T : Txt K mg a) : FnOk P w K mg base CX0 3 a.f_figure a.d_figure ["_law_box_here"] sp_figure := by
  refine T.F_figure.ok sc_figure (fun vs H Q E h => ?_) (fun cdv A outer s H vs Q E hr h => ?_)
  · obtain ⟨b, g, l, n, rfl, _⟩ := h
    rfl
  · obtain ⟨b, g, l, n, rfl, bx, n0, n1, kk⟩ := h
    refine ⟨_, (pss_cons (ps_set (i := 1) sc_figure.nd rfl (Or.inl rfl) (pe_call (ok_take T) (hr.mono (by decide)) rfl T.g_take T.k_take T.B_take .nil pass0 (pa_cons (pv 0) (pa_cons (pe_ix ix_list (pe_lst (pa_cons pe_int (pa_cons pe_int (pa_cons (pe_op op_pow pe_int pe_int) (pa_cons (pe_op op_pow pe_int pe_int) pa_nil))))) (pe_call (ok_take T) (hr.mono (by decide)) rfl T.g_take T.k_take T.B_take .nil pass0 (pa_cons (pv 0) (pa_cons pe_int pa_nil))) (fun _ _ => rfl)) pa_nil))))
      (pss_one (ps_ret (pe_ix ix_list (pe_lst (pa_cons (pv 1) (pa_cons (pe_un un_neg (pv 1)) pa_nil))) (pe_call (ok_take T) (hr.mono (by decide)) rfl T.g_take T.k_take T.B_take .nil pass0 (pa_cons (pv 0) (pa_cons pe_int pa_nil))) (fun _ _ => rfl))))), ?_⟩
    walk_at "rd"
    refine ⟨⟨by decide, by decide, by decide⟩, ?_⟩
    walk_at "rd"
    refine ⟨⟨by decide, by decide, by decide⟩, ?_⟩
    refine ⟨by show 4 ≤ sizeLine; decide, fun L hL => ?_⟩
    walk_at "rd"
    refine ⟨b, g, l, n, 4, rfl, bx.upd hL, n0, by omega, by decide, by decide, fun k H1 k0 k1 bx1 kp1 => ?_⟩
    have hL1 : H1 L = some (.lst [.int 3, .int 20, .int (10 ^ Int.toNat 9), .int (10 ^ Int.toNat 40)]) := kp1 _ _ upd_same (by
      obtain ⟨gs, ls, cur, e1, e2, _⟩ := bx
      have m1 := ne_of_none e1 hL
      have m2 := ne_of_none e2 hL
      simp [m1.symm, m2.symm])
    obtain ⟨z, hz, z0, z1⟩ : ∃ z : Int, atI [V.int 3, .int 20, .int (10 ^ Int.toNat 9), .int (10 ^ Int.toNat 40)] k = some (.int z) ∧ 0 < z ∧ z.natAbs.log2 < 9000 := by
      have : k = 0 ∨ k = 1 ∨ k = 2 ∨ k = 3 := by omega
      rcases this with rfl | rfl | rfl | rfl
      · exact ⟨_, rfl, by decide, by decide⟩
      · exact ⟨_, rfl, by decide, by decide⟩
      · exact ⟨_, rfl, by decide, by decide⟩
      · exact ⟨_, rfl, by decide, by decide⟩
    refine ⟨_, _, _, _, rfl, rfl, SqL.of hL1, hz, ?_⟩
    refine ⟨b, g, l, n + 1, z, rfl, bx1, by omega, by omega, z0, z1, fun x H2 _ _ bx2 kp2 => ?_⟩
    walk_at "rd"
    refine ⟨by show 2 ≤ sizeLine; decide, fun M hM => ?_⟩
    walk_at "rd"
    refine ⟨b, g, l, n + 1 + 1, 2, rfl, bx2.upd hM, by omega, by omega, by decide, by decide, fun k H3 k0 k1 bx3 kp3 => ?_⟩
    have hM3 : H3 M = some (.lst [.int x, .int (-x)]) := kp3 _ _ upd_same (by
      obtain ⟨gs, ls, cur, e1, e2, _⟩ := bx2
      have m1 := ne_of_none e1 hM
      have m2 := ne_of_none e2 hM
      simp [m1.symm, m2.symm])
    obtain ⟨y, hy⟩ : ∃ y : Int, atI [V.int x, .int (-x)] k = some (.int y) := by
      have : k = 0 ∨ k = 1 := by omega
      rcases this with rfl | rfl
      · exact ⟨_, rfl⟩
      · exact ⟨_, rfl⟩
    refine ⟨_, _, _, _, rfl, rfl, SqL.of hM3, hy, kk y H3 ?_ ?_⟩
    · have e : n + 1 + 1 + 1 = n + 3 := by omega
      rw [← e]; exact bx3
    · have a1 : Keeps [b, g] H H1 := ((Keeps.refl [b, g] H).upd (.inr hL)).trans kp1
      exact (a1.trans kp2).trans (((Keeps.refl [b, g] H2).upd (.inr hM)).trans kp3)

/-! ### the law's own model of a table -/
abbrev Trip := Nat × Int × Addr
def lkv (ks : List Trip) : List (Key × V) := ks.map fun z => (Sum.inl (z.1 : Int), V.ref z.2.2)
structure ModAt (H : Hp) (M mt ml : Addr) (S : My.Tab) (ks : List Trip) : Prop where
  e0 : H M = some (.lst [.ref mt, .ref ml, .int S.most])
  e1 : H mt = some (.lst (tls S.turns))
  e2 : H ml = some (.dK (lkv ks))
  ek : ks.map (fun z => (z.1, z.2.1)) = S.nums
  ev : ∀ z, z ∈ ks → H z.2.2 = some (.tup [.int ((S.turn z.1 : Int) - 1), .int z.2.1])
  ne : M ≠ mt
theorem ModAt.keep {H H' : Hp} {R : List Addr} {M mt ml : Addr} {S : My.Tab} {ks : List Trip} (h : ModAt H M mt ml S ks) (k : Keeps R H H') (a : M ∉ R) (b : mt ∉ R) (c : ml ∉ R) (d : ∀ x, x ∈ R → ∀ zs, H x ≠ some (.tup zs)) : ModAt H' M mt ml S ks :=
  ⟨k _ _ h.e0 a, k _ _ h.e1 b, k _ _ h.e2 c, h.ek, fun z hz => k _ _ (h.ev z hz) fun q => d _ q _ (h.ev z hz), h.ne⟩
theorem ModAt.same {H H' : Hp} {M mt ml : Addr} {S : My.Tab} {ks : List Trip} (h : ModAt H M mt ml S ks) (k : Same H H') : ModAt H' M mt ml S ks :=
  ⟨k _ _ h.e0, k _ _ h.e1, k _ _ h.e2, h.ek, fun z hz => k _ _ (h.ev z hz), h.ne⟩
theorem lkv_keys {ks : List Trip} {S : My.Tab} (h : ks.map (fun z => (z.1, z.2.1)) = S.nums) : ks.map (·.1) = S.keys := by
  unfold My.Tab.keys
  rw [← h, List.map_map]
  rfl
theorem lkv_isSome {ks : List Trip} {p : Nat} : (valV (lkv ks) (Sum.inl (p : Int) : Key)).isSome = decide (p ∈ ks.map (·.1)) := by
  induction ks with
  | nil => rfl
  | cons q r ih =>
    show (valV ((Sum.inl (q.1 : Int), V.ref q.2.2) :: lkv r) (Sum.inl (p : Int) : Key)).isSome = _
    by_cases e : q.1 = p
    · rw [valV_pos (by show (Sum.inl (q.1 : Int) : Key) = _; rw [e])]
      simp [e]
    · rw [valV_neg (by show ¬ (Sum.inl (q.1 : Int) : Key) = _; intro z; exact e (by have := Sum.inl.inj z; omega)), ih]
      have : (p = q.1) = False := eq_false fun z => e z.symm
      simp [this]
def sp_begun : Sp := fun vs H Q _ => ∃ (M mt ml : Addr) (S : My.Tab) (ks : List Trip) (free : List Int) (x : Int), vs = [.ref M, .int x] ∧ ModAt H M mt ml S ks ∧ S.Ok free ∧ S.turns.length ≤ 50000 ∧
  ∀ (p : Nat) (h q : Addr) (H' : Hp), S.Next p → H h = none → H' h = some (.tup [.int p, .int (S.turn p)]) → H q = none → ModAt H' M mt ml (S.begun p x) (ks ++ [(p, x, q)]) → Keeps [M, mt, ml] H H' → Q (.ref h) H'
theorem ok_begun (T : Txt K mg a) : FnOk P w K mg base CX0 1 a.f_begun a.d_begun ["_law_model", "_law_figure_here"] sp_begun := by
  refine T.F_begun.ok sc_begun (fun vs H Q E h => ?_) (fun cdv A outer s H vs Q E hr h => ?_)
  · obtain ⟨M, mt, ml, S, ks, free, x, rfl, _⟩ := h
    rfl
  · obtain ⟨M, mt, ml, S, ks, free, x, rfl, md, ok, hz, kk⟩ := h
    obtain ⟨e0, e1, e2, ek, ev, ne⟩ := id md
    have n1 : M ≠ ml := ne_of e0 e2 (fun q => by cases q)
    have n2 : mt ≠ ml := ne_of e1 e2 (fun q => by cases q)
    have hks := lkv_keys ek
    have hlk : ks.length = S.nums.length := by rw [← ek, List.length_map]
    have cnt := ok.cnt
    refine ⟨_, (pss_cons (ps_asg (pv 0) (pg_unl rfl (pgs_cons (pg_name (i := 2) sc_begun.nd rfl (Or.inl rfl)) (pgs_cons (pg_name (i := 3) sc_begun.nd rfl (Or.inl rfl)) (pgs_cons (pg_name (i := 4) sc_begun.nd rfl (Or.inl rfl)) pgs_nil)))))
      (pss_cons (ps_set (i := 5) sc_begun.nd rfl (Or.inl rfl) pe_int)
      (pss_cons (ps_while PassesOwn.never (pt_cmp (pc_din (hu_of hr) (pv 5) (pv 3))) (pss_one (ps_aug (i := 5) sc_begun.nd rfl (Or.inl rfl) pe_int ip_add)))
      (C8.pss_cut (ps_if (pt_cmpR op_eq (pv 5) (pe_callB call_len_seq (by rfl) T.z_len (by decide +kernel) (pa_cons (pv 2) pa_nil)) (nomark _)) (pss_one (ps_expr (pe_bm PySem.F.plainAttrs_list PySem.F.slot_list_append PySem.F.type_list_append mt_append (pv 2) (pa_cons pe_int pa_nil)))) pss_nil)
      (pss_cons (ps_dput (hu_of hr) (pv 3) (pv 5) (pe_tup (pa_cons (pe_ix ix_list (pv 2) (pv 5) (fun _ _ => rfl)) (pa_cons (pv 1) pa_nil))) rfl)
      (pss_cons (ps_augS (pv 2) (pv 5) pget_list pe_int ip_add set_list)
      (pss_cons (ps_asg (pe_callB (call_max2 rfl) (by rfl) T.z_max (by decide +kernel) (pa_cons (pv 4) (pa_cons (pe_callB call_lenD (by rfl) T.z_len (by decide +kernel) (pa_cons (pv 3) pa_nil)) pa_nil))) (pg_sub (pv 0) pe_int set_list))
      (pss_one (ps_ret (pe_tup (pa_cons (pv 5) (pa_cons (pe_op op_sub (pe_ix ix_list (pv 2) (pv 5) (fun _ _ => rfl)) pe_int) pa_nil)))))))))))), ?_⟩
    refine ⟨_, rfl, M, _, rfl, SqL.of e0, rfl, ?_⟩
    refine ⟨_, _, rfl, _, _, rfl, _, _, rfl, rfl, ?_⟩
    walk_at "rd"
    refine while_by (fun σ H1 => H1 = H ∧ ∃ p : Nat, σ = [some (.ref M), some (.int x), some (.ref mt), some (.ref ml), some (.int S.most), some (.int p)] ∧ p ≤ S.turns.length ∧ ∀ q, q < p → q ∈ S.keys)
      (fun σ _ => match σ with | [_, _, _, _, _, some (.int p)] => S.turns.length - p.toNat | _ => 0) ⟨rfl, 0, rfl, Nat.zero_le _, fun q h => absurd h (by omega)⟩ ?_ ?_
    · rintro σ H1 ⟨rfl, p, rfl, hp1, hp2⟩
      walk_at "rd"
      refine ⟨_, _, rfl, DGet.k (k := Sum.inl (p : Int)) e2, _, rfl, ?_⟩
      refine iteB (fun hb => ?_) (fun hb => ?_)
      · rw [lkv_isSome, hks] at hb
        have hm := of_decide_eq_true hb
        have := ok.lt p hm
        refine ⟨_, rfl, _, _, rfl, rfl, ?_⟩
        refine ⟨⟨rfl, p + 1, rfl, by omega, fun q hq => ?_⟩, ?_⟩
        · by_cases e : q = p
          · subst e; exact hm
          · exact hp2 q (by omega)
        · show S.turns.length - ((p : Int) + 1).toNat < S.turns.length - (p : Int).toNat
          omega
      · rw [lkv_isSome, hks] at hb
        have nx : S.Next p := ⟨of_decide_eq_false hb, hp2⟩
        have hnew : valV (lkv ks) (Sum.inl (p : Int) : Key) = none := by
          cases e : valV (lkv ks) (Sum.inl (p : Int) : Key) with
          | none => rfl
          | some v =>
            have := lkv_isSome (ks := ks) (p := p)
            rw [e, hks, hb] at this
            cases this
        refine ⟨fun σ H2 => Blk (∃ ts : List Nat, σ = [some (.ref M), some (.int x), some (.ref mt), some (.ref ml), some (.int S.most), some (.int p)] ∧ ts[p]? = some (S.turn p) ∧ ts.set p (S.turn p + 1) = (S.begun p x).turns ∧
          H2 mt = some (.lst (tls ts)) ∧ Keeps [mt] H1 H2), ?_, ?_⟩
        · walk_at "rd"
          have el : (((tls S.turns).length : Nat) : Int) = (S.turns.length : Int) := by unfold tls; rw [List.length_map]
          refine iteD (fun hc => ?_) (fun hc => ?_)
          · have hpl : p = S.turns.length := by
              have := V.int.inj hc
              rw [el] at this
              omega
            subst hpl
            obtain ⟨g1, g2⟩ := My.Tab.begun_end S x
            walk_at "rd"
            refine ⟨_, _, _, rfl, rfl, e1, ?_, ?_⟩
            · unfold tls
              rw [List.length_map]
              exact small (by omega)
            exact Blk.of ⟨S.turns ++ [0], rfl, g1, g2, (by rw [upd_same]; unfold tls; rw [List.map_append]; rfl), (Keeps.refl _ H1).upd (.inl (by simp))⟩
          · have hpl : p < S.turns.length := by
              rcases Nat.lt_or_eq_of_le hp1 with h | h
              · exact h
              · exact absurd (by rw [el, h]) hc
            obtain ⟨g1, g2⟩ := My.Tab.begun_old hpl x
            exact Blk.of ⟨S.turns, rfl, g1, g2, e1, Keeps.refl _ H1⟩
        · rintro σ H2 hB
          obtain ⟨ts, rfl, g1, g2, f1, kp⟩ := hB.out
          have f0 := kp _ _ e0 (by simp [ne])
          have f2 := kp _ _ e2 (by simp [n2.symm])
          have hpl : p < (tls ts).length := get_lt (tls_get g1)
          walk_at "rd"
          refine ⟨_, _, _, _, rfl, rfl, SqL.of f1, at_of (j := p) rfl (tls_get g1), ?_⟩
          walk_at "rd"
          refine ⟨by show 2 ≤ sizeLine; decide, fun q hq => ?_⟩
          have nq : mt ≠ q := ne_of_none f1 hq
          have hq1 : H1 q = none := by
            rcases kp.fresh hq with z | z
            · simp at z; exact absurd z.symm nq
            · exact z
          have nqM : M ≠ q := ne_of_none e0 hq1
          have nql : ml ≠ q := ne_of_none e2 hq1
          have ed : putK (lkv ks) (Sum.inl (p : Int) : Key) (V.ref q) = lkv (ks ++ [(p, x, q)]) := by
            rw [putK_new _ hnew]
            simp [lkv]
          have et : (tls ts).set p (.int ((S.turn p : Int) + 1)) = tls (S.begun p x).turns := by
            rw [← g2, ← tls_set]
            rfl
          have hget : ((tls ts).set p (.int ((S.turn p : Int) + 1)))[p]? = some (.int ((S.turn p : Int) + 1)) := List.getElem?_set_self hpl
          walk_at "rd"
          refine ⟨_, _, rfl, DPut.k (k := Sum.inl (p : Int)) (by walk_at "hp") ?_, ?_⟩
          · unfold lkv
            rw [List.length_map]
            exact small (by omega)
          walk_at "rd"
          refine ⟨_, _, _, _, rfl, rfl, SqL.of (by walk_at "hp"), by omega, (show (tls ts)[((p : Nat) : Int).toNat]? = _ by rw [Int.toNat_natCast]; exact tls_get g1), ?_⟩
          walk_at "rd"
          refine ⟨_, _, _, _, rfl, rfl, (by walk_at "hp"), ixN_at hpl, ?_⟩
          walk_at "rd"
          refine ⟨_, _, rfl, (by walk_at "hp"), _, _, rfl, ?_⟩
          walk_at "rd"
          refine ⟨_, _, _, _, rfl, rfl, SqL.of (by walk_at "hp"), at_of (j := p) rfl hget, ?_⟩
          walk_at "rd"
          refine ⟨by show 2 ≤ sizeLine; decide, fun h hh => ?_⟩
          have m1 : M ≠ h := fun e => by subst e; rw [upd_same] at hh; cases hh
          have hh1 := (upd_ne m1.symm).symm.trans hh
          have m2 : mt ≠ h := fun e => by subst e; rw [upd_same] at hh1; cases hh1
          have hh2 := (upd_ne m2.symm).symm.trans hh1
          have m3 : ml ≠ h := fun e => by subst e; rw [upd_same] at hh2; cases hh2
          have hh3 := (upd_ne m3.symm).symm.trans hh2
          have m4 : q ≠ h := fun e => by subst e; rw [upd_same] at hh3; cases hh3
          have hh4 := (upd_ne m4.symm).symm.trans hh3
          have hh5 : H1 h = none := by
            rcases kp.fresh hh4 with z | z
            · simp at z; exact absurd z.symm m2
            · exact z
          have emost : (if ((putK (lkv ks) (Sum.inl (p : Int) : Key) (V.ref q)).length : Int) > (S.most : Int) then ((putK (lkv ks) (Sum.inl (p : Int) : Key) (V.ref q)).length : Int) else (S.most : Int)) = ((S.begun p x).most : Int) := by
            rw [ed]
            have q1 : (lkv (ks ++ [(p, x, q)])).length = S.nums.length + 1 := by unfold lkv; rw [List.length_map, List.length_append, hlk]; rfl
            have q2 : (S.begun p x).most = max S.most (S.nums.length + 1) := rfl
            rw [q1, q2]
            split <;> omega
          have hrt : (S.turn p : Int) + 1 - 1 = (S.turn p : Int) := by omega
          have kf : ∀ z, z ∈ ks → H1 z.2.2 = some (.tup [.int ((S.turn z.1 : Int) - 1), .int z.2.1]) := ev
          refine kk p h q _ nx hh5 ?_ hq1 ⟨?_, ?_, ?_, ?_, ?_, ne⟩ ?_
          · rw [upd_same]
            exact congrArg (fun z => some (HO.tup [.int p, .int z])) hrt
          · rw [upd_ne m1, upd_same]
            exact congrArg (fun z => some (HO.lst [.ref mt, .ref ml, .int z])) emost
          · rw [upd_ne m2, upd_ne ne.symm, upd_same]
            exact congrArg (fun z => some (HO.lst z)) et
          · rw [upd_ne m3, upd_ne n1.symm, upd_ne n2.symm, upd_same, ed]
          · rw [List.map_append, ek]; rfl
          · intro z hz1
            rw [My.Tab.begun_turn S hp1]
            rcases List.mem_append.mp hz1 with hz1 | hz1
            · have nz : z.1 ≠ p := fun e => nx.1 (by rw [← hks, ← e]; exact List.mem_map.mpr ⟨z, hz1, rfl⟩)
              rw [if_neg nz]
              have e := kf z hz1
              have e2' := kp _ _ e (by
                intro c
                simp at c
                rw [c, e1] at e
                cases e)
              have y0 : z.2.2 ≠ q := ne_of_none e2' hq
              have y1 : z.2.2 ≠ ml := ne_of e2' f2 (fun c => by cases c)
              have y2 : z.2.2 ≠ mt := ne_of e2' f1 (fun c => by cases c)
              have y3 : z.2.2 ≠ M := ne_of e2' f0 (fun c => by cases c)
              have y4 : z.2.2 ≠ h := ne_of_none e2' hh4
              rw [upd_ne y4, upd_ne y3, upd_ne y2, upd_ne y1, upd_ne y0]
              exact e2'
            · simp at hz1
              subst hz1
              rw [if_pos rfl, upd_ne m4, upd_ne nqM.symm, upd_ne nq.symm, upd_ne nql.symm, upd_same]
              have : (((S.turn p + 1 : Nat) : Int) - 1) = (S.turn p : Int) := by omega
              rw [this]
          · have k0 : Keeps [M, mt, ml] H1 H2 := kp.mono (by simp)
            exact ((((k0.upd (.inr hq1)).upd (.inl (by simp))).upd (.inl (by simp))).upd (.inl (by simp))).upd (.inr hh5)
    · intro σ H Q Q' hq h
      obtain ⟨v, h1, u, h2, d, o, e1, e2, c, e3, q⟩ := h
      exact ⟨v, h1, u, h2, d, o, e1, e2, c, e3, hq _ _ q⟩

/-! ### _law_stands -/
theorem lkv_get {ks : List Trip} {p : Nat} (h : p ∈ ks.map (·.1)) : ∃ z, z ∈ ks ∧ z.1 = p ∧ valV (lkv ks) (Sum.inl (p : Int) : Key) = some (.ref z.2.2) := by
  induction ks with
  | nil => simp at h
  | cons q r ih =>
    by_cases e : q.1 = p
    · refine ⟨q, List.mem_cons_self, e, ?_⟩
      show valV ((Sum.inl (q.1 : Int), V.ref q.2.2) :: lkv r) (Sum.inl (p : Int) : Key) = _
      rw [valV_pos (by show (Sum.inl (q.1 : Int) : Key) = _; rw [e])]
    · rw [List.map_cons, List.mem_cons] at h
      obtain ⟨z, hz, h1, h2⟩ := ih (h.resolve_left fun c => e c.symm)
      refine ⟨z, List.mem_cons_of_mem _ hz, h1, ?_⟩
      show valV ((Sum.inl (q.1 : Int), V.ref q.2.2) :: lkv r) (Sum.inl (p : Int) : Key) = _
      rw [valV_neg (by show ¬ (Sum.inl (q.1 : Int) : Key) = _; intro z; exact e (by have := Sum.inl.inj z; omega)), h2]
theorem lkv_ints {ks : List Trip} {S : My.Tab} (h : ks.map (fun z => (z.1, z.2.1)) = S.nums) : (lkv ks).map (·.1) = (S.keys.map fun (n : Nat) => (n : Int)).map Sum.inl := by
  rw [← lkv_keys h]
  unfold lkv
  rw [List.map_map, List.map_map, List.map_map]
  rfl
theorem dget_some {H : Hp} {d : Addr} {kvs : List (Key × V)} {k : Key} {v : V} (e : H d = some (.dK kvs)) (h : valV kvs k = some v) : DGet H d (kV k) (some v) := h ▸ DGet.k e
def gp (S : My.Tab) (p : Nat) : Int × Int := ((p : Int), (S.turn p : Int) - 1)
theorem grips_dp {H : Hp} {S : My.Tab} {hs : List Addr} {ps : List Nat} {l : Addr} (K : PySem.W.Frag) (e : H l = some (.lst (hs.map V.ref))) (g : Grips H S hs ps) : Dp K H (.ref l) (.list ((ps.map (gp S)).map pD)) :=
  dp_list e (by rw [List.length_map]; exact g.1) fun i h z a b => by
    rw [List.getElem?_map] at b
    cases e2 : ps[i]? with
    | none => rw [e2] at b; cases b
    | some p =>
      rw [e2] at b
      obtain rfl : gp S p = z := Option.some.inj b
      exact g.2 i h p a e2
theorem Grips.same {H H' : Hp} {S : My.Tab} {hs : List Addr} {ps : List Nat} (g : Grips H S hs ps) (k : Same H H') : Grips H' S hs ps := ⟨g.1, fun i h p a b => k _ _ (g.2 i h p a b)⟩
theorem sorted_one {a b c : List Nat} (h1 : a.Perm c) (h2 : b.Perm c) (s1 : a.Pairwise (· ≤ ·)) (s2 : b.Pairwise (· ≤ ·)) : a = b :=
  List.Perm.eq_of_pairwise (fun x y _ _ u v => Nat.le_antisymm u v) s1 s2 (h1.trans h2.symm)
def sp_stands (C : Addr) : Sp := fun vs H Q _ => ∃ (t tl nd fl M mt ml : Addr) (S : My.Tab) (ks : List Trip), vs = [.ref t, .ref M] ∧ TabAt C H t tl nd fl S ∧ ModAt H M mt ml S ks ∧ nd ≠ ml ∧ S.turns.length ≤ 50000 ∧ ∀ H', Same H H' → Q (.bl true) H'
theorem tfs_no2 {tl nd fl : Addr} {m : Int} : (tfs tl nd fl m).lookup ("alive" : Str) = none := by kernel_rfl
theorem tfs_no3 {tl nd fl : Addr} {m : Int} : (tfs tl nd fl m).lookup ("most" : Str) = none := by kernel_rfl
theorem tfs_no4 {tl nd fl : Addr} {m : Int} : (tfs tl nd fl m).lookup ("look" : Str) = none := by kernel_rfl
theorem ok_stands (T : Txt K mg a) : FnOk P w K mg base CX0 6 a.f_stands a.d_stands ["_law_table", "_law_model"] (sp_stands a.c_Table) := by
  refine T.F_stands.ok sc_stands (fun vs H Q E h => ?_) (fun cdv A outer s H vs Q E hr h => ?_)
  · obtain ⟨t, tl, nd, fl, M, mt, ml, S, ks, rfl, _⟩ := h
    rfl
  · obtain ⟨t, tl, nd, fl, M, mt, ml, S, ks, rfl, tab, md, nml, hz, kk⟩ := h
    refine ⟨_, (pss_cons (ps_asg (pv 1) (pg_unl rfl (pgs_cons (pg_name (i := 2) sc_stands.nd rfl (Or.inl rfl)) (pgs_cons (pg_name (i := 3) sc_stands.nd rfl (Or.inr rfl)) (pgs_cons (pg_name (i := 4) sc_stands.nd rfl (Or.inl rfl)) pgs_nil)))))
      (pss_cons (ps_setLc (i := 5) (own := [("_law_place", 7)]) (g := gName 7) (te := tTup (tCons (tVar 7) (tCons (tOp (rIxT K) (tDGet (tVar 3) (tVar 7)) (tC (.int 0))) tNil))) (tt := tYes) rfl sc_stands.nd rfl rfl (sw_true rfl rfl rfl (by decide +kernel)) (pi_list (pe_callB (cr_sortDA rfl) (by rfl) T.z_sorted (by decide +kernel) (pa_cons (pv 3) pa_nil))) (blkOk_by (own := [("_law_place", 7)]) (N := ["_law_table", "_law_model", "_law_turns", "_law_lives", "_law_peak", "_law_due_here", "_law_told", "_law_place"]) (sc := defScope s_stands) (by decide +kernel)) (fun _ _ _ _ _ => pg_name (i := 7) sc_stands.nd rfl (Or.inl rfl)) (fun _ _ _ _ _ => pts_nil) (fun _ _ _ _ _ => by exact (pe_tup (pa_cons (pv 7) (pa_cons (pe_ix ix_tup (pe_dget (hu_of hr) (pv 3) (pv 7) (fun _ _ => rfl)) pe_int (fun _ _ => rfl)) pa_nil)))))
      (pss_cons (ps_set (i := 6) sc_stands.nd rfl (Or.inl rfl) (pe_meth0 (pv 0) T.cl_Table T.m_Table_alive (ok_Table_alive T) (hr.mono (by decide)) T.B_Table_alive .nil pass0))
      (pss_cons (ps_if (PW.pt (pw_or (pt_not (pt_val (pe_callB call_isi (by rfl) T.z_isinstance (by decide +kernel) (pa_cons (pv 6) (pa_cons (pe_bltn (v := .ty "list") (by rfl) T.z_list (by decide +kernel) rfl) pa_nil))))) (pw_or (pt_cmpR (op_neD hr.units) (pv 6) (pv 5) (nomark _)) (pw_or (pt_cmpR op_ne (pe_callB (call_lenOwn T.m_Table_len (ok_Table_len T) (hr.mono (by decide)) T.B_Table_len pass0) (by rfl) T.z_len (by decide +kernel) (pa_cons (pv 0) pa_nil)) (pe_callB call_len_seq (by rfl) T.z_len (by decide +kernel) (pa_cons (pv 5) pa_nil)) (nomark _)) (pw_or1 (pt_cmpR op_ne (pe_meth0 (pv 0) T.cl_Table T.m_Table_most (ok_Table_most T) (hr.mono (by decide)) T.B_Table_most .nil pass0) (pv 4) (nomark _))))))) (pss_one (ps_ret pe_bl)) pss_nil)
      (pss_cons (ps_expr (pe_bm PySem.F.plainAttrs_list PySem.F.slot_list_append PySem.F.type_list_append mt_append (pv 6) (pa_cons (pe_tup (pa_cons pe_int (pa_cons pe_int pa_nil))) pa_nil)))
      (pss_cons (ps_expr (pe_bm0 PySem.F.plainAttrs_list PySem.F.slot_list_reverse PySem.F.type_list_reverse mt_reverse (pv 6)))
      (pss_cons (ps_lock (ps_for PassesOwn.never rfl (pi_keys (pv 3)) (pg_name (i := 7) sc_stands.nd rfl (Or.inl rfl)) (pss_one (ps_if (pt_cmpR op_ne (pe_meth (pv 0) T.cl_Table T.m_Table_look (ok_Table_look T) (hr.mono (by decide)) T.B_Table_look .nil pass0 (pa_cons (pe_tup (pa_cons (pv 7) (pa_cons (pe_ix ix_tup (pe_dget (hu_of hr) (pv 3) (pv 7) (fun _ _ => rfl)) pe_int (fun _ _ => rfl)) pa_nil))) pa_nil)) (pe_ix ix_tup (pe_dget (hu_of hr) (pv 3) (pv 7) (fun _ _ => rfl)) pe_int (fun _ _ => rfl)) (nomark _)) (pss_one (ps_ret pe_bl)) pss_nil))))
      (pss_one (ps_ret (pe_cmpR (op_eqD hr.units) (pe_meth0 (pv 0) T.cl_Table T.m_Table_alive (ok_Table_alive T) (hr.mono (by decide)) T.B_Table_alive .nil pass0) (pv 5) (nomark _))))))))))), ?_⟩
    refine ⟨_, rfl, M, _, rfl, SqL.of md.e0, rfl, ?_⟩
    refine ⟨_, _, rfl, _, _, rfl, _, _, rfl, rfl, ?_⟩
    obtain ⟨⟨dx, e0⟩, e1, e2, ⟨free, e3, ok⟩, ne⟩ := id tab
    have hks := lkv_keys md.ek
    walk_at "rd"
    refine ⟨ml, lkv ks, S.keys.map fun (n : Nat) => (n : Int), rfl, .inl md.e2, lkv_ints md.ek, fun ys q pm srt hq => ?_⟩
    obtain ⟨ps, rfl, pp⟩ := cast_perm pm
    have srt2 : ps.Pairwise (· ≤ ·) := (List.pairwise_map.mp srt).imp (fun {x y} h => Int.ofNat_le.mp h)
    have plen : ps.length = S.nums.length := by rw [pp.length_eq]; unfold My.Tab.keys; rw [List.length_map]
    have cnt := ok.cnt
    have sq : Same H (upd H q (.lst ((ps.map fun (n : Nat) => (n : Int)).map V.int))) := (Same.refl H).upd hq
    refine ⟨q, rfl, ⟨_, SqL.of upd_same⟩, fun D hD => ?_⟩
    refine lc_list (K := K) (a := q) (xs := (ps.map fun (n : Nat) => (n : Int)).map V.int) (fun i H1 => Blk (∃ hs : List Addr, H1 D = some (.lst (hs.map V.ref)) ∧ hs.length = i ∧ (∀ (j : Nat) (h : Addr) (p : Nat), hs[j]? = some h → ps[j]? = some p → H1 h = some (.tup [.int p, .int ((S.turn p : Int) - 1)])) ∧
      Same (upd H q (.lst ((ps.map fun (n : Nat) => (n : Int)).map V.int))) H1)) (Blk.of ⟨[], upd_same, rfl, fun j h p e => by simp at e, (Same.refl _).upd hD⟩) (fun i H1 _ hB => ?_) ?_ ?_
    · obtain ⟨hs, _, _, _, s1⟩ := hB.out
      exact s1.seq (SqL.of upd_same)
    · intro i y H1 hi hB
      obtain ⟨hs, g1, g2, g3, s1⟩ := hB.out
      obtain ⟨z, hz1, rfl⟩ := ints_get hi
      rw [List.getElem?_map] at hz1
      obtain ⟨p, hp, rfl⟩ : ∃ p, ps[i]? = some p ∧ z = ((p : Nat) : Int) := by
        cases e : ps[i]? with
        | none => rw [e] at hz1; cases hz1
        | some p => rw [e] at hz1; exact ⟨p, rfl, (Option.some.inj hz1).symm⟩
      have hil := get_lt hp
      have hpk : p ∈ ks.map (·.1) := by rw [hks]; exact pp.mem_iff.mp (List.mem_of_getElem? hp)
      obtain ⟨z, hzm, hz1, hz2⟩ := lkv_get hpk
      have f2 := s1 _ _ (sq _ _ md.e2)
      have fz := s1 _ _ (sq _ _ (md.ev z hzm))
      refine ⟨rfl, ?_⟩
      dsimp only [tYes]
      refine iteT ?_
      walk_at "rd"
      refine ⟨_, _, rfl, dget_some (k := Sum.inl (p : Int)) f2 hz2, ?_⟩
      refine ⟨_, _, _, _, rfl, rfl, SqT.of fz, rfl, ?_⟩
      refine ⟨by show 2 ≤ sizeLine; decide, fun h hh => ?_⟩
      have nh : D ≠ h := ne_of_none g1 hh
      rw [hz1]
      refine ⟨_, (by walk_at "hp"), by rw [List.length_map]; exact small (by omega), Blk.of ⟨hs ++ [h], (by rw [upd_same, List.map_append]; rfl), by rw [List.length_append]; simp [g2], ?_, ?_⟩⟩
      · intro j h' p' e1 e2
        by_cases hj : j < hs.length
        · rw [List.getElem?_append_left hj] at e1
          have q1 := g3 j h' p' e1 e2
          rw [upd_ne (fun z => by subst z; rw [g1] at q1; cases q1), upd_ne (ne_of_none q1 hh)]
          exact q1
        · have hj2 := get_lt e1
          rw [List.length_append, List.length_singleton] at hj2
          obtain rfl : j = hs.length := by omega
          rw [g2] at e2
          rw [hp] at e2
          obtain rfl := Option.some.inj e2
          simp at e1
          subst e1
          rw [upd_ne nh.symm, upd_same]
      · exact (s1.upd (s1.free hh)).upd hD
    · intro H1 hB
      obtain ⟨hs, g1, g2, g3, s1⟩ := hB.out
      rw [List.length_map, List.length_map] at g2
      have hD0 : H D = none := sq.free hD
      have s01 : Same H H1 := sq.trans s1
      have gr1 : Grips H1 S hs ps := ⟨g2, g3⟩
      have gr0 := gr1
      have tab1 := tab.same s01
      have md1 := md.same s01
      walk_at "rd"
      refine ⟨t, dx, _, rfl, s01 _ _ e0, tfs_no2, t, tl, nd, fl, S, rfl, tab1, hz, fun l hs2 ps2 H2 hl0 f1 pp2 srt3 gr2 fr2 s12 => ?_⟩
      obtain rfl := sorted_one pp pp2 srt2 srt3
      have f0 := s12 _ _ g1
      have gr1 := gr1.same s12
      have s02 := s01.trans s12
      refine ⟨_, rfl, _, _, _, _, true, rfl, .ty "list", .base (.lst f1), kit_ty (by decide +kernel), true, rfl, ?_⟩
      refine iteF ?_
      refine ⟨_, rfl, _, rfl, _, _, grips_dp K f1 gr2, grips_dp K f0 gr1, lD_shaped _, lD_shaped _, ?_⟩
      rw [lD_same]
      refine ⟨_, rfl, ?_⟩
      refine iteF ?_
      refine ⟨_, rfl, t, dx, _, rfl, s02 _ _ e0, t, tl, nd, fl, S, rfl, tab.same s02, _, rfl, by omega, by omega, ?_⟩
      refine ⟨_, rfl, _, _, rfl, .inl (SqL.of f0), rfl, _, rfl, ?_⟩
      refine iteNS (by rw [List.length_map, g2, plen]) ?_
      refine ⟨_, rfl, t, dx, _, rfl, s02 _ _ e0, tfs_no3, t, tl, nd, fl, S, rfl, tab.same s02, ?_⟩
      refine ⟨_, rfl, rfl, _, rfl, ?_⟩
      refine iteNS rfl ?_
      refine ⟨_, rfl, .inl ⟨rfl, _, SqL.of f1⟩, by show 2 ≤ sizeLine; decide, fun z hz0 => ?_⟩
      have nz : l ≠ z := ne_of_none f1 hz0
      refine ⟨_, _, _, rfl, rfl, (by walk_at "hp"), by rw [List.length_map, gr2.1]; exact small (by omega), ?_⟩
      refine ⟨_, rfl, .inl ⟨rfl, _, SqL.of upd_same⟩, _, _, rfl, rfl, upd_same, ?_⟩
      have k2 : ∀ o1 o2 o3, Same H (upd (upd (upd H2 z o1) l o2) l o3) := fun o1 o2 o3 => ((s02.upd (s02.free hz0)).upd (s01.free hl0)).upd (s01.free hl0)
      have k3 : ∀ o1 o2 o3, Same H1 (upd (upd (upd H2 z o1) l o2) l o3) := fun o1 o2 o3 => ((s12.upd (s12.free hz0)).upd hl0).upd hl0
      generalize hH3 : upd (upd (upd H2 z _) l _) l _ = H3
      have k4 : Same H H3 := by rw [← hH3]; exact k2 _ _ _
      have k5 : Same H1 H3 := by rw [← hH3]; exact k3 _ _ _
      have x1 : t ≠ ml := ne_of e0 md.e2 (fun c => by cases c)
      have x2 : tl ≠ ml := ne_of e1 md.e2 (fun c => by cases c)
      have x3 : fl ≠ ml := ne_of e3 md.e2 (fun c => by cases c)
      refine ⟨ml, .dK (lkv ks), k4 _ _ md.e2, trivial, fun od => ?_⟩
      refine ⟨_, rfl, ml, od, rfl, .inl ⟨lkv ks, upd_same, ?_⟩⟩
      refine for_keys (fun i σ H5 => Blk (∃ v7, σ = [some (.ref t), some (.ref M), some (.ref mt), some (.ref ml), some (.int S.most), some (.ref D), some (.ref l), v7] ∧ Same (upd H3 ml (.frz od (.dK (lkv ks)))) H5)) (Blk.of ⟨_, rfl, Same.refl _⟩) (fun i σ H5 hB => ?_) ?_ ?_
      · obtain ⟨_, _, s5⟩ := hB.out
        exact s5 _ _ upd_same
      · intro i k v σ H5 hk hB
        obtain ⟨v7, rfl, s5⟩ := hB.out
        obtain ⟨z, hz1, hz2⟩ : ∃ z, ks[i]? = some z ∧ k = Sum.inl (z.1 : Int) := by
          unfold lkv at hk
          rw [List.getElem?_map] at hk
          cases e : ks[i]? with
          | none => rw [e] at hk; cases hk
          | some z => rw [e] at hk; exact ⟨z, rfl, (congrArg Prod.fst (Option.some.inj hk)).symm⟩
        subst hz2
        have hzm := List.mem_of_getElem? hz1
        have hpk : z.1 ∈ ks.map (·.1) := List.mem_map.mpr ⟨z, hzm, rfl⟩
        obtain ⟨z', hzm', hz3, hz4⟩ := lkv_get hpk
        have hkey : z.1 ∈ S.keys := by rw [← hks]; exact hpk
        have hnum : S.num z.1 = some z'.2.1 := by
          rw [← hz3]
          exact My.Tab.num_mem ok.nd (q := (z'.1, z'.2.1)) (by rw [← md.ek]; exact List.mem_map.mpr ⟨z', hzm', rfl⟩)
        have up : ∀ c o, H c = some o → c ≠ ml → H5 c = some o := fun c o e n => s5 _ _ (by rw [upd_ne n]; exact k4 _ _ e)
        have tab5 : TabAt a.c_Table H5 t tl nd fl S := ⟨⟨dx, up _ _ e0 x1⟩, up _ _ e1 x2, up _ _ e2 nml, ⟨free, up _ _ e3 x3, ok⟩, ne⟩
        have ev5 := up _ _ (md.ev z' hzm') (ne_of (md.ev z' hzm') md.e2 (fun c => by cases c))
        have dg : DGet H5 ml (.int (z.1 : Int)) (some (.ref z'.2.2)) := .inl ⟨lkv ks, Sum.inl (z.1 : Int), .inr ⟨od, s5 _ _ upd_same⟩, rfl, hz4.symm⟩
        refine ⟨_, rfl, t, dx, _, rfl, up _ _ e0 x1, tfs_no4, _, rfl, _, rfl, _, rfl, _, _, rfl, dg, _, _, _, _, rfl, rfl, SqT.of ev5, rfl, by show 2 ≤ sizeLine; decide, fun h hh => ?_⟩
        rw [hz3]
        refine ⟨t, tl, nd, fl, h, S, z.1, z'.2.1, rfl, tab5.same ((Same.refl H5).upd hh), ⟨upd_same, hkey⟩, hnum, fun H6 s6 => ?_⟩
        have s56 : Same H5 H6 := ((Same.refl H5).upd hh).trans s6
        have dg6 : DGet H6 ml (.int (z.1 : Int)) (some (.ref z'.2.2)) := .inl ⟨lkv ks, Sum.inl (z.1 : Int), .inr ⟨od, s56 _ _ (s5 _ _ upd_same)⟩, rfl, hz4.symm⟩
        refine ⟨_, rfl, _, rfl, _, _, rfl, dg6, _, _, _, _, rfl, rfl, SqT.of (s56 _ _ ev5), rfl, rfl, _, rfl, ?_⟩
        refine iteNS rfl ?_
        exact Blk.of ⟨_, rfl, s5.trans s56⟩
      · intro σ H5 hB
        obtain ⟨v7, rfl, s5⟩ := hB.out
        refine ⟨s5 _ _ upd_same, ?_⟩
        have k7 : ∀ Hx : Hp, Same Hx H3 → Hx ml = some (.dK (lkv ks)) → Same Hx (upd H5 ml (.dK (lkv ks))) := fun Hx sx hx c o e => by
          by_cases n : c = ml
          · subst n
            rw [upd_same]
            rw [hx] at e
            exact e
          · rw [upd_ne n]
            exact s5 _ _ (by rw [upd_ne n]; exact sx _ _ e)
        have k8 := k7 H k4 md.e2
        have k9 := k7 H1 k5 (s01 _ _ md.e2)
        refine ⟨_, rfl, t, dx, _, rfl, k8 _ _ e0, tfs_no2, t, tl, nd, fl, S, rfl, tab.same k8, hz, fun l3 hs3 ps3 H8 hl3 f3 pp3 srt4 gr3 fr3 s8 => ?_⟩
        obtain rfl := sorted_one pp pp3 srt2 srt4
        refine ⟨_, rfl, _, _, grips_dp K f3 gr3, grips_dp K (s8 _ _ (k9 _ _ g1)) (gr0.same (k9.trans s8)), lD_shaped _, lD_shaped _, ?_⟩
        rw [lD_same]
        exact kk _ (k8.trans s8)

/-! ### _law_asked -/
def tb_asked (CT CN CE : Addr) (W : WX) : TS := tIfS (tTest (tOp rEq (tVar 1) (tC (.str "look"))))
  (tAsg (tTup (tCons (tC (.str "told")) (tCons (tMethAt CT "look" (sp_look2 CN CE CT) (WE W) (tVar 0) (tCons (tVar 2) tNil)) tNil))) (gName 3))
  (tAsg (tTup (tCons (tC (.str "told")) (tCons (tMethAt CT "end" (sp_end2 CN CE CT) (WE W) (tVar 0) (tCons (tVar 2) tNil)) tNil))) (gName 3))
def tIs (K : PySem.W.Frag) (z : Addr) (cls : Value) (d : Option Addr) (c : V) : TT := tB (tCB (rIsD K z cls d) (tCons (tVar 4) (tCons (tC c) tNil)))
def tOdd : TS := tAsg (tTup (tCons (tC (.str "odd")) (tCons (tC .non) tNil))) (gName 3)
def ts_asked1 (K : PySem.W.Frag) (CP CN CE : Addr) : Addr → Value → Option Addr → TS := fun z cls d => tSeq (tAsg (tTup (tCons (tC (.str "NoHandle")) (tCons (tXf z cls d CN "handle" (tVar 4)) tNil))) (gName 3))
  (tIfS (tOr (tNot (tIs K z cls d (.ref CP))) (tOr (tNot (tIs K z cls d (.ty "ValueError"))) (tIs K z cls d (.ref CE)))) tOdd tNext)
def ts_asked2 (K : PySem.W.Frag) (CP CE : Addr) : Addr → Value → Option Addr → TS := fun z cls d => tSeq (tAsg (tTup (tCons (tC (.str "Ended")) (tCons (tXf z cls d CE "handle" (tVar 4)) tNil))) (gName 3))
  (tIfS (tOr (tNot (tIs K z cls d (.ref CP))) (tNot (tIs K z cls d (.ty "ValueError")))) tOdd tNext)
/-- what is told of a tuple: the number of a living handle, or the word of the refusal and the tuple -/
structure Told (S : My.Tab) (p q : Int) (H : Hp) (w v : V) : Prop where
  l : Lives S p q → w = .str "told" ∧ ∃ x, v = .int x ∧ S.num p.toNat = some x
  n : ¬ Begun S p q → w = .str "NoHandle" ∧ ∃ z, v = .ref z ∧ H z = some (.tup [.int p, .int q])
  e : Begun S p q → ¬ Lives S p q → w = .str "Ended" ∧ ∃ z, v = .ref z ∧ H z = some (.tup [.int p, .int q])
def sp_asked (C : Addr) : Sp := fun vs H Q _ => ∃ (t tl nd fl h : Addr) (S : My.Tab) (p q : Int) (lk : Bool), vs = [.ref t, .str (if lk then "look" else "end"), .ref h] ∧ TabAt C H t tl nd fl S ∧ H h = some (.tup [.int p, .int q]) ∧ p.natAbs.log2 < 1920 ∧ q.natAbs.log2 < 1920 ∧ S.turns.length ≤ 50000 ∧
  ∀ (r : Addr) (H' : Hp) (w v : V) (S' : My.Tab), H r = none → H' r = some (.tup [w, v]) → Told S p q H' w v → (Lives S p q → lk = false → S' = S.ended p.toNat) → (¬ (Lives S p q ∧ lk = false) → S' = S) → TabAt C H' t tl nd fl S' → Keeps [t, tl, nd, fl] H H' → Q (.ref r) H'
theorem excC_NoHandle (T : Txt K mg a) : ExcC K a.c_NoHandle := ⟨T.xf_NoHandle.ga, T.xf_NoHandle.gg, T.xf_NoHandle.exC, T.xf_NoHandle.hdC, T.fa_NoHandle, T.fg, T.ft, T.fm_NoHandle⟩
theorem excC_Ended (T : Txt K mg a) : ExcC K a.c_Ended := ⟨T.xf_Ended.ga, T.xf_Ended.gg, T.xf_Ended.exC, T.xf_Ended.hdC, T.fa_Ended, T.fg, T.ft, T.fm_Ended⟩
theorem tfs_no6 {tl nd fl : Addr} {m : Int} : (tfs tl nd fl m).lookup ("end" : Str) = none := by kernel_rfl
theorem asked_exc (T : Txt K mg a) {t h C d z : Addr} {wd : Str} {S : My.Tab} {p q : Int} {H H1 : Hp} {D : Ends} (c1 : Begun S p q → C = a.c_Ended) (c2 : ¬ Begun S p q → C = a.c_NoHandle) (nl : ¬ Lives S p q) (s : Same H H1) (h1 : H1 d = some (.xd [("handle", .ref z)])) (h2 : H1 z = some (.tup [.int p, .int q]))
    (hD : ∀ (r : Addr) (H' : Hp) (w v : V), H r = none → H' r = some (.tup [w, v]) → Told S p q H' w v → Same H H' → D.nx [some (.ref t), some (.str wd), some (.ref h), some (.ref r), none] H') :
    wNamed K (fun _ _ _ _ => False) D [(.ref a.c_NoHandle, 4, ts_asked1 K a.c_PactError a.c_NoHandle a.c_Ended), (.ref a.c_Ended, 4, ts_asked2 K a.c_PactError a.c_Ended)] (.ref C) (some d) [some (.ref t), some (.str wd), some (.ref h), some .non, none] H1 := by
  by_cases b : Begun S p q
  · obtain rfl := c1 b
    refine ⟨false, T.fe_2, fun w => Bool.noConfusion w, fun _ => ⟨true, T.fe_3, fun _ e he => ?_, fun w => Bool.noConfusion w⟩⟩
    refine ⟨_, rfl, rfl, rfl, d, _, _, rfl, h1, rfl, by show 2 ≤ sizeLine; decide, fun r hr => ?_⟩
    have ndr : d ≠ r := ne_of_none h1 hr
    have nzr : z ≠ r := ne_of_none h2 hr
    refine ⟨_, rfl, a.c_Ended, d, _, .ref a.c_PactError, .ref a.c_PactError, true, rfl, rfl, (upd_ne ndr).trans h1, excC_Ended T, rfl, fun u hu => hu, T.fp_Ended, ?_⟩
    refine ⟨_, rfl, ?_⟩
    refine iteF ?_
    refine ⟨_, rfl, a.c_Ended, d, _, .ty "ValueError", .type "ValueError", true, rfl, rfl, (upd_ne ndr).trans h1, excC_Ended T, rfl, fun u hu => hu, T.fv_Ended, ?_⟩
    refine ⟨_, rfl, ?_⟩
    refine iteF ?_
    exact hD r _ _ _ (s.free hr) upd_same ⟨fun w => absurd w nl, fun w => absurd b w, fun _ _ => ⟨rfl, z, rfl, (upd_ne nzr).trans h2⟩⟩ (s.upd (s.free hr))
  · obtain rfl := c2 b
    refine ⟨true, T.fe_1, fun _ e he => ?_, fun w => Bool.noConfusion w⟩
    refine ⟨_, rfl, rfl, rfl, d, _, _, rfl, h1, rfl, by show 2 ≤ sizeLine; decide, fun r hr => ?_⟩
    have ndr : d ≠ r := ne_of_none h1 hr
    have nzr : z ≠ r := ne_of_none h2 hr
    refine ⟨_, rfl, a.c_NoHandle, d, _, .ref a.c_PactError, .ref a.c_PactError, true, rfl, rfl, (upd_ne ndr).trans h1, excC_NoHandle T, rfl, fun u hu => hu, T.fp_NoHandle, ?_⟩
    refine ⟨_, rfl, ?_⟩
    refine iteF ?_
    refine ⟨_, rfl, a.c_NoHandle, d, _, .ty "ValueError", .type "ValueError", true, rfl, rfl, (upd_ne ndr).trans h1, excC_NoHandle T, rfl, fun u hu => hu, T.fv_NoHandle, ?_⟩
    refine ⟨_, rfl, ?_⟩
    refine iteF ?_
    refine ⟨_, rfl, a.c_NoHandle, d, _, .ref a.c_Ended, .ref a.c_Ended, false, rfl, rfl, (upd_ne ndr).trans h1, excC_NoHandle T, rfl, fun u hu => hu, T.fx_1, ?_⟩
    refine ⟨_, rfl, ?_⟩
    refine iteF ?_
    exact hD r _ _ _ (s.free hr) upd_same ⟨fun w => absurd w nl, fun _ => ⟨rfl, z, rfl, (upd_ne nzr).trans h2⟩, fun w => absurd w b⟩ (s.upd (s.free hr))
theorem ok_asked (T : Txt K mg a) : FnOk P w K mg base CX0 8 a.f_asked a.d_asked ["_law_table", "_law_word", "_law_grip"] (sp_asked a.c_Table) := by
  refine T.F_asked.ok sc_asked (fun vs H Q E h => ?_) (fun cdv A outer s H vs Q E hr h => ?_)
  · obtain ⟨t, tl, nd, fl, h, S, p, q, lk, rfl, _⟩ := h
    rfl
  · obtain ⟨t, tl, nd, fl, h, S, p, q, lk, rfl, tab, eh, lp, lq, hz, kk⟩ := h
    refine ⟨_, (pss_cons (ps_set (i := 3) sc_asked.nd rfl (Or.inl rfl) pe_non)
      (pss_cons (ps_try_named (tb := tb_asked a.c_Table a.c_NoHandle a.c_Ended) (l := [(.ref a.c_NoHandle, 4, ts_asked1 K a.c_PactError a.c_NoHandle a.c_Ended), (.ref a.c_Ended, 4, ts_asked2 K a.c_PactError a.c_Ended)]) (Wout := fun _ _ _ _ => False) rfl rfl sc_asked.nd takes0 (fun W pn xe tk _ => (pss_one (ps_if (pt_cmpR op_eq (pv 1) pe_str (nomark _)) (pss_one (ps_set (i := 3) sc_asked.nd rfl (Or.inl rfl) (pe_tup (pa_cons pe_str (pa_cons (pe_methAt (pv 0) T.cl_Table T.m_Table_look (ok_Table_look2 T) (hr.mono (by decide)) T.B_Table_look (fun σ => passAt tk σ) (pa_cons (pv 2) pa_nil)) pa_nil))))) (pss_one (ps_set (i := 3) sc_asked.nd rfl (Or.inl rfl) (pe_tup (pa_cons pe_str (pa_cons (pe_methAt (pv 0) T.cl_Table T.m_Table_end (ok_Table_end2 T) (hr.mono (by decide)) T.B_Table_end (fun σ => passAt tk σ) (pa_cons (pv 2) pa_nil)) pa_nil)))))))) (HdN.cons ⟨rfl, by decide, Or.inl T.g_NoHandle⟩ rfl rfl (fun z oz cls d pn hz hf => (pss_cons (ps_set (i := 3) sc_asked.nd rfl (Or.inl rfl) (pe_tup (pa_cons pe_str (pa_cons (pe_xf T.xf_NoHandle T.n_NoHandle_handle hz hf (pv 4)) pa_nil))))
      (pss_one (ps_if (PW.pt (pw_or (pt_not (pt_val (pe_callB (call_isD hz hf) (by rfl) T.z_isinstance (by decide +kernel) (pa_cons (pv 4) (pa_cons (pe_glob (v := .ref a.c_PactError) rfl T.g_PactError rfl) pa_nil))))) (pw_or (pt_not (pt_val (pe_callB (call_isD hz hf) (by rfl) T.z_isinstance (by decide +kernel) (pa_cons (pv 4) (pa_cons (pe_bltn (v := .ty "ValueError") (by rfl) T.z_ValueError (by decide +kernel) rfl) pa_nil))))) (pw_or1 (pt_val (pe_callB (call_isD hz hf) (by rfl) T.z_isinstance (by decide +kernel) (pa_cons (pv 4) (pa_cons (pe_glob (v := .ref a.c_Ended) rfl T.g_Ended rfl) pa_nil)))))))) (pss_one (ps_set (i := 3) sc_asked.nd rfl (Or.inl rfl) (pe_tup (pa_cons pe_str (pa_cons pe_non pa_nil))))) pss_nil)))) (HdN.cons ⟨rfl, by decide, Or.inl T.g_Ended⟩ rfl rfl (fun z oz cls d pn hz hf => (pss_cons (ps_set (i := 3) sc_asked.nd rfl (Or.inl rfl) (pe_tup (pa_cons pe_str (pa_cons (pe_xf T.xf_Ended T.n_Ended_handle hz hf (pv 4)) pa_nil))))
      (pss_one (ps_if (PW.pt (pw_or (pt_not (pt_val (pe_callB (call_isD hz hf) (by rfl) T.z_isinstance (by decide +kernel) (pa_cons (pv 4) (pa_cons (pe_glob (v := .ref a.c_PactError) rfl T.g_PactError rfl) pa_nil))))) (pw_or1 (pt_not (pt_val (pe_callB (call_isD hz hf) (by rfl) T.z_isinstance (by decide +kernel) (pa_cons (pv 4) (pa_cons (pe_bltn (v := .ty "ValueError") (by rfl) T.z_ValueError (by decide +kernel) rfl) pa_nil)))))))) (pss_one (ps_set (i := 3) sc_asked.nd rfl (Or.inl rfl) (pe_tup (pa_cons pe_str (pa_cons pe_non pa_nil))))) pss_nil)))) HdN.nil)))
      (pss_one (ps_ret (pv 3))))), ?_⟩
    obtain ⟨dx, e0⟩ := tab.ob
    have tabk : ∀ {H1 : Hp}, Same H H1 → TabAt a.c_Table H1 t tl nd fl S := fun s => tab.same s
    have kps : ∀ {H1 : Hp}, Same H H1 → Keeps [t, tl, nd, fl] H H1 := fun s c o e _ => s c o e
    by_cases live : Lives S p q
    · obtain ⟨⟨b1, b2, b3, b4⟩, hk, hq⟩ := id live
      obtain ⟨pn, rfl⟩ : ∃ n : Nat, p = n := ⟨p.toNat, by omega⟩
      rw [Int.toNat_natCast] at hk hq b4
      obtain ⟨x, hx⟩ := My.Tab.num_some hk
      have th : TabH H h S pn := ⟨by rw [eh, hq], hk⟩
      cases lk with
      | true =>
        refine ⟨_, rfl, rfl, _, rfl, ?_⟩
        refine iteD (fun _ => ?_) (fun hc => absurd rfl hc)
        refine ⟨_, rfl, t, dx, _, rfl, e0, tfs_no4, _, rfl, .inl ⟨t, tl, nd, fl, h, S, pn, x, rfl, tab, th, hx, fun H1 s1 => ?_⟩⟩
        refine ⟨by show 2 ≤ sizeLine; decide, fun r hr => ?_⟩
        have s2 : ∀ o, Same H (upd H1 r o) := fun o => s1.upd (s1.free hr)
        exact ⟨_, rfl, kk r _ _ _ S (s1.free hr) upd_same ⟨fun _ => ⟨rfl, x, rfl, by rw [Int.toNat_natCast]; exact hx⟩, fun z => absurd live.1 z, fun _ z => absurd live z⟩ (fun _ z => Bool.noConfusion z) (fun _ => rfl) (tabk (s2 _)) (kps (s2 _))⟩
      | false =>
        refine ⟨_, rfl, rfl, _, rfl, ?_⟩
        refine iteD (fun hc => absurd hc (by decide)) (fun _ => ?_)
        refine ⟨_, rfl, t, dx, _, rfl, e0, tfs_no6, _, rfl, .inl ⟨t, tl, nd, fl, h, S, pn, x, rfl, tab, th, hx, hz, fun H1 tab1 kp1 => ?_⟩⟩
        refine ⟨by show 2 ≤ sizeLine; decide, fun r hr => ?_⟩
        have tab2 := tab1.same ((Same.refl H1).upd hr (o := .tup [.str "told", .int x]))
        have hr0 : H r = none := by
          rcases kp1.fresh hr with z | z
          · obtain ⟨⟨dy, g0⟩, g1, g2, ⟨fr, g3, _⟩, _⟩ := tab1
            simp at z
            rcases z with z | z | z | z <;> subst z
            · rw [g0] at hr; cases hr
            · rw [g1] at hr; cases hr
            · rw [g2] at hr; cases hr
            · rw [g3] at hr; cases hr
          · exact z
        exact ⟨_, rfl, kk r _ _ _ (S.ended pn) hr0 upd_same ⟨fun _ => ⟨rfl, x, rfl, by rw [Int.toNat_natCast]; exact hx⟩, fun z => absurd live.1 z, fun _ z => absurd live z⟩ (fun _ _ => by rw [Int.toNat_natCast]) (fun z => absurd ⟨live, rfl⟩ z) tab2 (kp1.upd (.inr hr0))⟩
    · cases lk with
      | true =>
        refine ⟨_, rfl, rfl, _, rfl, ?_⟩
        refine iteD (fun _ => ?_) (fun hc => absurd rfl hc)
        refine ⟨_, rfl, t, dx, _, rfl, e0, tfs_no4, _, rfl, .inr ⟨t, tl, nd, fl, h, S, p, q, rfl, tab, eh, lp, lq, by omega, live, fun C d z H1 c1 c2 s1 hd h1 hz h2 => ?_⟩⟩
        exact asked_exc T c1 c2 live s1 h1 h2 fun r H2 w v hr h3 told s2 => ⟨_, rfl, kk r _ _ _ S hr h3 told (fun z => absurd z live) (fun _ => rfl) (tabk s2) (kps s2)⟩
      | false =>
        refine ⟨_, rfl, rfl, _, rfl, ?_⟩
        refine iteD (fun hc => absurd hc (by decide)) (fun _ => ?_)
        refine ⟨_, rfl, t, dx, _, rfl, e0, tfs_no6, _, rfl, .inr ⟨t, tl, nd, fl, h, S, p, q, rfl, tab, eh, lp, lq, by omega, live, fun C d z H1 c1 c2 s1 hd h1 hz h2 => ?_⟩⟩
        exact asked_exc T c1 c2 live s1 h1 h2 fun r H2 w v hr h3 told s2 => ⟨_, rfl, kk r _ _ _ S hr h3 told (fun z => absurd z live) (fun _ => rfl) (tabk s2) (kps s2)⟩

/-! ### _law_odd, _law_due -/
theorem log_small {n : Nat} (h : n ≤ 100000) : ((n : Nat) : Int).natAbs.log2 < 9000 := by
  have e : ((n : Nat) : Int).natAbs = n := Int.natAbs_natCast n
  rw [e]
  by_cases h0 : n = 0
  · subst h0; decide
  · have : n.log2 < 17 := (Nat.log2_lt h0).mpr (by omega)
    omega
theorem s45 {x : Int} (h1 : -1000000000000000000000000000000000000000000000 < x) (h2 : x < 1000000000000000000000000000000000000000000000) : x.natAbs.log2 < 1920 := by
  by_cases h0 : x.natAbs = 0
  · rw [h0]; decide
  · have h3 : x.natAbs < 1000000000000000000000000000000000000000000000 := by omega
    exact (Nat.log2_lt h0).mpr (Nat.lt_of_lt_of_le h3 (by decide))
def sp_odd : Sp := fun vs H Q _ => ∃ (b g l M mt ml : Addr) (n : Int) (S : My.Tab) (ks : List Trip) (fr : List Int), vs = [.ref b, .ref M] ∧ BoxAt H b g l n ∧ ModAt H M mt ml S ks ∧ (∀ x, x ∈ [b, g, l] → x ∉ [M, mt, ml]) ∧ S.Ok fr ∧ 0 ≤ n ∧ n < 8000000 ∧ S.turns.length ≤ 40000 ∧ (∀ x, x ∈ S.turns → x ≤ 40000) ∧
  ∀ (h : Addr) (p q n' : Int) (H' : Hp), H h = none → H' h = some (.tup [.int p, .int q]) → p.natAbs.log2 < 1920 → q.natAbs.log2 < 1920 → n ≤ n' → n' ≤ n + 6 → BoxAt H' b g l n' → Keeps [b, g] H H' → Q (.ref h) H'
theorem ok_odd (T : Txt K mg a) : FnOk P w K mg base CX0 3 a.f_odd a.d_odd ["_law_box_here", "_law_model"] sp_odd := by
  refine T.F_odd.ok sc_odd (fun vs H Q E h => ?_) (fun cdv A outer s H vs Q E hr h => ?_)
  · obtain ⟨b, g, l, M, mt, ml, n, S, ks, fr, rfl, _⟩ := h
    rfl
  · obtain ⟨b, g, l, M, mt, ml, n, S, ks, fr, rfl, bx, md, sp, ok, n0, nn, hz, ht, kk⟩ := h
    refine ⟨_, (pss_cons (ps_set (i := 2) sc_odd.nd rfl (Or.inl rfl) (pe_ix ix_list (pv 1) pe_int (fun _ _ => rfl)))
      (pss_cons (ps_set (i := 3) sc_odd.nd rfl (Or.inl rfl) (pe_op op_add pe_int (pe_call (ok_take T) (hr.mono (by decide)) rfl T.g_take T.k_take T.B_take .nil pass0 (pa_cons (pv 0) (pa_cons (pe_ix ix_list (pe_lst (pa_cons pe_int (pa_cons (pe_op op_pow pe_int pe_int) pa_nil))) (pe_call (ok_take T) (hr.mono (by decide)) rfl T.g_take T.k_take T.B_take .nil pass0 (pa_cons (pv 0) (pa_cons pe_int pa_nil))) (fun _ _ => rfl)) pa_nil)))))
      (pss_cons (ps_set (i := 4) sc_odd.nd rfl (Or.inl rfl) (pe_call (ok_take T) (hr.mono (by decide)) rfl T.g_take T.k_take T.B_take .nil pass0 (pa_cons (pv 0) (pa_cons pe_int pa_nil))))
      (pss_cons (ps_set (i := 5) sc_odd.nd rfl (Or.inl rfl) (pe_call (ok_take T) (hr.mono (by decide)) rfl T.g_take T.k_take T.B_take .nil pass0 (pa_cons (pv 0) (pa_cons (pe_op op_add (pe_callB call_len_seq (by rfl) T.z_len (by decide +kernel) (pa_cons (pv 2) pa_nil)) pe_int) pa_nil))))
      (pss_cons (ps_if (PW.pt (pw_or (pt_cmpR op_eq (pv 4) pe_int (nomark _)) (pw_or1 (pt_cmpR op_eq (pv 5) (pe_callB call_len_seq (by rfl) T.z_len (by decide +kernel) (pa_cons (pv 2) pa_nil)) (nomark _))))) (pss_one (ps_ret (pe_tup (pa_cons (pe_ix ix_list (pe_lst (pa_cons (pe_op op_add (pe_op op_sub (pe_callB call_len_seq (by rfl) T.z_len (by decide +kernel) (pa_cons (pv 2) pa_nil)) pe_int) (pv 3)) (pa_cons (pe_un un_neg (pv 3)) (pa_cons (pv 5) pa_nil)))) (pe_call (ok_take T) (hr.mono (by decide)) rfl T.g_take T.k_take T.B_take .nil pass0 (pa_cons (pv 0) (pa_cons pe_int pa_nil))) (fun _ _ => rfl)) (pa_cons (pe_call (ok_take T) (hr.mono (by decide)) rfl T.g_take T.k_take T.B_take .nil pass0 (pa_cons (pv 0) (pa_cons pe_int pa_nil))) pa_nil))))) pss_nil)
      (pss_cons (ps_if (pt_cmpR op_eq (pv 4) pe_int (nomark _)) (pss_one (ps_ret (pe_tup (pa_cons (pv 5) (pa_cons (pe_op op_add (pe_op op_sub (pe_ix ix_list (pv 2) (pv 5) (fun _ _ => rfl)) pe_int) (pv 3)) pa_nil))))) pss_nil)
      (pss_cons (ps_if (pt_cmpR op_eq (pv 4) pe_int (nomark _)) (pss_one (ps_ret (pe_tup (pa_cons (pv 5) (pa_cons (pe_un un_neg (pv 3)) pa_nil))))) pss_nil)
      (pss_one (ps_ret (pe_tup (pa_cons (pv 5) (pa_cons (pe_call (ok_take T) (hr.mono (by decide)) rfl T.g_take T.k_take T.B_take .nil pass0 (pa_cons (pv 0) (pa_cons (pe_ix ix_list (pv 2) (pv 5) (fun _ _ => rfl)) pa_nil))) pa_nil)))))))))))), ?_⟩
    have offb : ∀ x, x ∈ [M, mt, ml] → x ∉ [b, g] := fun x h1 h2 => sp x (by simp at h2 ⊢; rcases h2 with e | e <;> simp [e]) h1
    have keepM : ∀ {H1 : Hp}, Keeps [b, g] H H1 → ModAt H1 M mt ml S ks := fun kp => md.keep kp (offb _ (by simp)) (offb _ (by simp)) (offb _ (by simp)) fun x hx zs e => by
      obtain ⟨gs, ls, cur, e1, e2, _⟩ := bx
      simp at hx
      rcases hx with rfl | rfl
      · rw [e1] at e; cases e
      · rw [e2] at e; cases e
    refine ⟨_, rfl, _, _, _, _, rfl, rfl, SqL.of md.e0, rfl, ?_⟩
    refine ⟨_, rfl, ?_⟩
    walk_at "rd"
    refine ⟨⟨by decide, by decide, by decide⟩, ?_⟩
    refine ⟨by show 2 ≤ sizeLine; decide, fun L hL => ?_⟩
    walk_at "rd"
    refine ⟨b, g, l, n, 2, rfl, bx.upd hL, n0, by omega, by decide, by decide, fun k H1 k0 k1 bx1 kp1 => ?_⟩
    have offbox : ∀ {x : Addr} {n : Int} {H0 : Hp}, BoxAt H0 b g l n → H0 x = none → x ∉ [b, g] := fun {x n H0} bx hx => by
      obtain ⟨gs, ls, cur, e1, e2, _⟩ := bx
      intro hq
      simp at hq
      rcases hq with rfl | rfl
      · rw [e1] at hx; cases hx
      · rw [e2] at hx; cases hx
    have hL1 : H1 L = some (.lst [.int 3, .int (10 ^ Int.toNat 39)]) := kp1 _ _ upd_same (offbox bx hL)
    obtain ⟨z, hz', z0, z1, z2⟩ : ∃ z : Int, atI [V.int 3, .int (10 ^ Int.toNat 39)] k = some (.int z) ∧ 0 < z ∧ z ≤ 1000000000000000000000000000000000000000 ∧ z.natAbs.log2 < 9000 := by
      have : k = 0 ∨ k = 1 := by omega
      rcases this with rfl | rfl
      · exact ⟨_, rfl, by decide, by decide, by decide⟩
      · exact ⟨_, rfl, by decide, by decide, by decide⟩
    have k01 : Keeps [b, g] H H1 := ((Keeps.refl [b, g] H).upd (.inr hL)).trans kp1
    refine ⟨_, _, _, _, rfl, rfl, SqL.of hL1, hz', ?_⟩
    refine ⟨b, g, l, n + 1, z, rfl, bx1, by omega, by omega, z0, z2, fun f H2 f0 f1 bx2 kp2 => ?_⟩
    refine ⟨_, _, rfl, rfl, ?_⟩
    refine ⟨_, rfl, b, g, l, n + 1 + 1, 6, rfl, bx2, by omega, by omega, by decide, by decide, fun wy H3 w0 w1 bx3 kp3 => ?_⟩
    have k03 := (k01.trans kp2).trans kp3
    have md3 := keepM k03
    have el : (((tls S.turns).length : Nat) : Int) = (S.turns.length : Int) := by unfold tls; rw [List.length_map]
    refine ⟨_, rfl, _, rfl, _, _, rfl, .inl (SqL.of md3.e1), _, _, rfl, rfl, b, g, l, n + 1 + 1 + 1, _, rfl, bx3, by omega, by omega, by omega, ?_, fun pl H4 p0 p1 bx4 kp4 => ?_⟩
    · rw [el]
      exact log_small (n := S.turns.length + 1) (by omega)
    rw [el] at p1
    have k04 := k03.trans kp4
    have md4 := keepM k04
    refine ⟨_, rfl, rfl, _, rfl, ?_⟩
    have fin : ∀ (r : Addr) (p q n' : Int) (H6 : Hp), BoxAt H6 b g l n' → Keeps [b, g] H H6 → H6 r = none → n ≤ n' → n' ≤ n + 6 → p.natAbs.log2 < 1920 → q.natAbs.log2 < 1920 → Q (.ref r) (upd H6 r (.tup [.int p, .int q])) := fun r p q n' H6 bx6 kp hr h1 h2 h3 h4 => by
      have hr0 : H r = none := by
        rcases kp.fresh hr with z | z
        · exact absurd z (offbox bx6 hr)
        · exact z
      exact kk r p q n' _ hr0 upd_same h3 h4 h1 h2 (bx6.upd hr) (kp.upd (.inr hr0))
    refine iteD (fun c => iteT ?_) (fun c => ?_)
    rotate_left
    · refine ⟨_, rfl, _, rfl, _, _, rfl, .inl (SqL.of md4.e1), rfl, _, rfl, ?_⟩
      refine iteD (fun c2 => ?_) (fun c2 => ?_)
      rotate_left
      · have hlt : pl < S.turns.length := by
          rcases (by omega : pl < (S.turns.length : Int) ∨ (S.turns.length : Int) ≤ pl) with w | w
          · exact w
          · exact absurd (by rw [el]; congr 1; omega) c2
        obtain ⟨pn, rfl⟩ : ∃ m : Nat, pl = m := ⟨pl.toNat, by omega⟩
        have hl : pn < S.turns.length := by omega
        have hget : S.turns[pn]? = some (S.turn pn) := (My.Tab.begun_old hl 0).1
        have ht1 := ht _ (List.mem_of_getElem? hget)
        have hpos := ok.pos pn hl
        have ge := tls_get hget
        refine ⟨_, rfl, rfl, _, rfl, ?_⟩
        refine iteD (fun c3 => ?_) (fun c3 => ?_)
        · refine ⟨_, rfl, _, rfl, _, rfl, _, _, _, _, rfl, rfl, SqL.of md4.e1, at_of (j := pn) rfl ge, ?_⟩
          refine ⟨_, _, rfl, rfl, ?_⟩
          refine ⟨_, rfl, _, _, rfl, rfl, ?_⟩
          exact ⟨by show 2 ≤ sizeLine; decide, fun r hr => fin r _ _ _ _ bx4 k04 hr (by omega) (by omega) (s45 (by omega) (by omega)) (s45 (by omega) (by omega))⟩
        · refine ⟨_, rfl, rfl, _, rfl, ?_⟩
          refine iteD (fun c4 => ?_) (fun c4 => ?_)
          · refine ⟨_, rfl, _, rfl, _, rfl, ?_⟩
            exact ⟨by show 2 ≤ sizeLine; decide, fun r hr => fin r _ _ _ _ bx4 k04 hr (by omega) (by omega) (s45 (by omega) (by omega)) (s45 (by omega) (by omega))⟩
          · refine ⟨_, rfl, _, rfl, _, rfl, _, rfl, _, _, _, _, rfl, rfl, SqL.of md4.e1, at_of (j := pn) rfl ge, ?_⟩
            refine ⟨b, g, l, n + 1 + 1 + 1 + 1, _, rfl, bx4, by omega, by omega, by omega, log_small (by omega), fun c5 H5 c50 c51 bx5 kp5 => ?_⟩
            exact ⟨by show 2 ≤ sizeLine; decide, fun r hr => fin r _ _ _ _ bx5 (k04.trans kp5) hr (by omega) (by omega) (s45 (by omega) (by omega)) (s45 (by omega) (by omega))⟩
      · refine ⟨_, rfl, _, _, rfl, .inl (SqL.of md4.e1), _, _, rfl, rfl, ?_⟩
        refine ⟨_, rfl, _, _, rfl, rfl, ?_⟩
        refine ⟨_, rfl, _, rfl, ?_⟩
        refine ⟨_, rfl, by show 3 ≤ sizeLine; decide, fun L2 hL2 => ?_⟩
        refine ⟨_, rfl, b, g, l, n + 1 + 1 + 1 + 1, 3, rfl, bx4.upd hL2, by omega, by omega, by decide, by decide, fun c5 H5 c50 c51 bx5 kp5 => ?_⟩
        have hL5 := kp5 _ _ upd_same (offbox bx4 hL2)
        have k05 : Keeps [b, g] H H5 := k04.trans (((Keeps.refl [b, g] H4).upd (.inr hL2)).trans kp5)
        rw [el] at hL5
        obtain ⟨y, hy, y0, y1⟩ : ∃ y : Int, atI [V.int ((S.turns.length : Int) - 1 + (1 + f)), .int (-(1 + f)), .int pl] c5 = some (.int y) ∧ -1000000000000000000000000000000000000000000000 < y ∧ y < 1000000000000000000000000000000000000000000000 := by
          have : c5 = 0 ∨ c5 = 1 ∨ c5 = 2 := by omega
          rcases this with rfl | rfl | rfl
          · exact ⟨_, rfl, by omega, by omega⟩
          · exact ⟨_, rfl, by omega, by omega⟩
          · exact ⟨_, rfl, by omega, by omega⟩
        refine ⟨_, _, _, _, rfl, rfl, SqL.of hL5, hy, ?_⟩
        refine ⟨_, rfl, b, g, l, n + 1 + 1 + 1 + 1 + 1, 3, rfl, bx5, by omega, by omega, by decide, by decide, fun c6 H6 c60 c61 bx6 kp6 => ?_⟩
        exact ⟨by show 2 ≤ sizeLine; decide, fun r hr => fin r _ _ _ _ bx6 (k05.trans kp6) hr (by omega) (by omega) (s45 y0 y1) (s45 (by omega) (by omega))⟩
    · refine ⟨_, rfl, _, _, rfl, .inl (SqL.of md4.e1), _, _, rfl, rfl, ?_⟩
      refine ⟨_, rfl, _, _, rfl, rfl, ?_⟩
      refine ⟨_, rfl, _, rfl, ?_⟩
      refine ⟨_, rfl, by show 3 ≤ sizeLine; decide, fun L2 hL2 => ?_⟩
      refine ⟨_, rfl, b, g, l, n + 1 + 1 + 1 + 1, 3, rfl, bx4.upd hL2, by omega, by omega, by decide, by decide, fun c5 H5 c50 c51 bx5 kp5 => ?_⟩
      have hL5 := kp5 _ _ upd_same (offbox bx4 hL2)
      have k05 : Keeps [b, g] H H5 := k04.trans (((Keeps.refl [b, g] H4).upd (.inr hL2)).trans kp5)
      rw [el] at hL5
      obtain ⟨y, hy, y0, y1⟩ : ∃ y : Int, atI [V.int ((S.turns.length : Int) - 1 + (1 + f)), .int (-(1 + f)), .int pl] c5 = some (.int y) ∧ -1000000000000000000000000000000000000000000000 < y ∧ y < 1000000000000000000000000000000000000000000000 := by
        have : c5 = 0 ∨ c5 = 1 ∨ c5 = 2 := by omega
        rcases this with rfl | rfl | rfl
        · exact ⟨_, rfl, by omega, by omega⟩
        · exact ⟨_, rfl, by omega, by omega⟩
        · exact ⟨_, rfl, by omega, by omega⟩
      refine ⟨_, _, _, _, rfl, rfl, SqL.of hL5, hy, ?_⟩
      refine ⟨_, rfl, b, g, l, n + 1 + 1 + 1 + 1 + 1, 3, rfl, bx5, by omega, by omega, by decide, by decide, fun c6 H6 c60 c61 bx6 kp6 => ?_⟩
      exact ⟨by show 2 ≤ sizeLine; decide, fun r hr => fin r _ _ _ _ bx6 (k05.trans kp6) hr (by omega) (by omega) (s45 y0 y1) (s45 (by omega) (by omega))⟩
def sp_due : Sp := fun vs H Q _ => ∃ (M mt ml h : Addr) (S : My.Tab) (ks : List Trip) (fr : List Int) (p q : Int), vs = [.ref M, .ref h] ∧ ModAt H M mt ml S ks ∧ S.Ok fr ∧ H h = some (.tup [.int p, .int q]) ∧
  ∀ (r : Addr) (w v : V) (H' : Hp), H r = none → H' r = some (.tup [w, v]) → Told S p q H' w v → Same H H' → Q (.ref r) H'
theorem ok_due (T : Txt K mg a) : FnOk P w K mg base CX0 2 a.f_due a.d_due ["_law_model", "_law_grip"] sp_due := by
  refine T.F_due.ok sc_due (fun vs H Q E h => ?_) (fun cdv A outer s H vs Q E hr h => ?_)
  · obtain ⟨M, mt, ml, h, S, ks, fr, p, q, rfl, _⟩ := h
    rfl
  · obtain ⟨M, mt, ml, h, S, ks, fr, p, q, rfl, md, ok, eh, kk⟩ := h
    refine ⟨_, (pss_cons (ps_asg (pv 0) (pg_unl rfl (pgs_cons (pg_name (i := 2) sc_due.nd rfl (Or.inl rfl)) (pgs_cons (pg_name (i := 3) sc_due.nd rfl (Or.inl rfl)) (pgs_cons (pg_name (i := 4) sc_due.nd rfl (Or.inl rfl)) pgs_nil)))))
      (pss_cons (ps_asg (pv 1) (pg_tup (by rfl) (pgs_cons (pg_name (i := 5) sc_due.nd rfl (Or.inl rfl)) (pgs_cons (pg_name (i := 6) sc_due.nd rfl (Or.inl rfl)) pgs_nil))))
      (pss_cons (ps_if (PW.pt (pw_or (pt_cmpR op_lt (pv 5) pe_int (nomark _)) (pw_or (pt_cmpR op_ge (pv 5) (pe_callB call_len_seq (by rfl) T.z_len (by decide +kernel) (pa_cons (pv 2) pa_nil)) (nomark _)) (pw_or (pt_cmpR op_lt (pv 6) pe_int (nomark _)) (pw_or1 (pt_cmpR op_ge (pv 6) (pe_ix ix_list (pv 2) (pv 5) (fun _ _ => rfl)) (nomark _))))))) (pss_one (ps_ret (pe_tup (pa_cons pe_str (pa_cons (pv 1) pa_nil))))) pss_nil)
      (pss_cons (ps_if (PW.pt (pw_or (pt_cmp (pc_dnotin (hu_of hr) (pv 5) (pv 3))) (pw_or1 (pt_cmpR op_ne (pe_ix ix_tup (pe_dget (hu_of hr) (pv 3) (pv 5) (fun _ _ => rfl)) pe_int (fun _ _ => rfl)) (pv 6) (nomark _))))) (pss_one (ps_ret (pe_tup (pa_cons pe_str (pa_cons (pv 1) pa_nil))))) pss_nil)
      (pss_one (ps_ret (pe_tup (pa_cons pe_str (pa_cons (pe_ix ix_tup (pe_dget (hu_of hr) (pv 3) (pv 5) (fun _ _ => rfl)) pe_int (fun _ _ => rfl)) pa_nil))))))))), ?_⟩
    refine ⟨_, rfl, M, _, rfl, SqL.of md.e0, rfl, ?_⟩
    refine ⟨_, _, rfl, _, _, rfl, _, _, rfl, rfl, ?_⟩
    refine ⟨_, rfl, h, _, rfl, SqT.of eh, rfl, ?_⟩
    refine ⟨_, _, rfl, _, _, rfl, rfl, ?_⟩
    have hks := lkv_keys md.ek
    have el : (((tls S.turns).length : Nat) : Int) = (S.turns.length : Int) := by unfold tls; rw [List.length_map]
    have kn : ¬ Begun S p q → ∀ r, H r = none → Q (.ref r) (upd H r (.tup [.str "NoHandle", .ref h])) := fun nb r hr =>
      kk r _ _ _ hr upd_same ⟨fun z => absurd z.1 nb, fun _ => ⟨rfl, h, rfl, (upd_ne (ne_of_none eh hr)).trans eh⟩, fun z => absurd z nb⟩ ((Same.refl H).upd hr)
    have two : 2 ≤ sizeLine := by decide
    refine ⟨_, rfl, _, _, rfl, rfl, _, rfl, ?_⟩
    refine iteD (fun c => iteT ⟨_, rfl, two, kn fun b => ?_⟩) (fun c1 => ?_)
    · have := b.1
      omega
    refine ⟨_, rfl, _, rfl, _, _, rfl, .inl (SqL.of md.e1), _, _, rfl, rfl, _, rfl, ?_⟩
    refine iteD (fun c => iteT ⟨_, rfl, two, kn fun b => ?_⟩) (fun c2 => ?_)
    · have := b.2.1
      rw [el] at c
      omega
    rw [el] at c2
    refine ⟨_, rfl, _, _, rfl, rfl, _, rfl, ?_⟩
    refine iteD (fun c => iteT ⟨_, rfl, two, kn fun b => ?_⟩) (fun c3 => ?_)
    · have := b.2.2.1
      omega
    obtain ⟨pn, rfl⟩ : ∃ n : Nat, p = n := ⟨p.toNat, by omega⟩
    obtain ⟨qn, rfl⟩ : ∃ n : Nat, q = n := ⟨q.toNat, by omega⟩
    have hl : pn < S.turns.length := by omega
    have hget : S.turns[pn]? = some (S.turn pn) := (My.Tab.begun_old hl 0).1
    refine ⟨_, rfl, _, rfl, _, rfl, _, _, _, _, rfl, rfl, SqL.of md.e1, at_of (j := pn) rfl (tls_get hget), _, _, rfl, rfl, _, rfl, ?_⟩
    refine iteD (fun c => ⟨_, rfl, two, kn fun b => ?_⟩) (fun c4 => ?_)
    · have := b.2.2.2
      rw [Int.toNat_natCast] at this
      omega
    have bg : Begun S pn qn := ⟨by omega, by omega, by omega, by rw [Int.toNat_natCast]; omega⟩
    have ke : ¬ Lives S pn qn → ∀ r, H r = none → Q (.ref r) (upd H r (.tup [.str "Ended", .ref h])) := fun nb r hr =>
      kk r _ _ _ hr upd_same ⟨fun z => absurd z nb, fun z => absurd bg z, fun _ _ => ⟨rfl, h, rfl, (upd_ne (ne_of_none eh hr)).trans eh⟩⟩ ((Same.refl H).upd hr)
    refine ⟨_, rfl, _, rfl, _, _, rfl, DGet.k (k := Sum.inl (pn : Int)) md.e2, _, rfl, ?_⟩
    refine iteB (fun hb => ?_) (fun hb => ?_)
    · rw [lkv_isSome, hks] at hb
      refine iteT ⟨_, rfl, two, ke fun z => ?_⟩
      have hk := z.2.1
      rw [Int.toNat_natCast] at hk
      simp [hk] at hb
    · rw [lkv_isSome, hks] at hb
      have hk : pn ∈ S.keys := by
        simp at hb
        exact hb
      obtain ⟨z, hzm, hz1, hz2⟩ := lkv_get (ks := ks) (p := pn) (by rw [hks]; exact hk)
      have ez := md.ev z hzm
      have hnum : S.num pn = some z.2.1 := by
        rw [← hz1]
        exact My.Tab.num_mem ok.nd (q := (z.1, z.2.1)) (by rw [← md.ek]; exact List.mem_map.mpr ⟨z, hzm, rfl⟩)
      refine ⟨_, rfl, _, rfl, _, _, rfl, dget_some (k := Sum.inl (pn : Int)) md.e2 hz2, ?_⟩
      refine ⟨_, _, _, _, rfl, rfl, SqT.of ez, rfl, ?_⟩
      refine ⟨_, rfl, rfl, _, rfl, ?_⟩
      have hc : (V.int ((S.turn z.1 : Int) - 1) = V.int (qn : Int)) ↔ (qn : Int) = (S.turn pn : Int) - 1 := by
        rw [hz1]
        exact ⟨fun w => (V.int.inj w).symm, fun w => congrArg V.int w.symm⟩
      refine iteB (fun hb2 => ?_) (fun hb2 => ?_)
      · refine ⟨_, rfl, two, ke fun w => ?_⟩
        have hq := w.2.2
        rw [Int.toNat_natCast] at hq
        simp [hc.mpr hq] at hb2
      · have hq : (qn : Int) = (S.turn pn : Int) - 1 := by
          apply hc.mp
          simpa using hb2
        have lv : Lives S pn qn := ⟨bg, by rw [Int.toNat_natCast]; exact hk, by rw [Int.toNat_natCast]; exact hq⟩
        refine ⟨_, rfl, _, rfl, _, _, rfl, dget_some (k := Sum.inl (pn : Int)) md.e2 hz2, ?_⟩
        refine ⟨_, _, _, _, rfl, rfl, SqT.of ez, rfl, two, fun r hr => ?_⟩
        exact kk r _ _ _ hr upd_same ⟨fun _ => ⟨rfl, z.2.1, rfl, by rw [Int.toNat_natCast]; exact hnum⟩, fun w => absurd bg w, fun _ w => absurd lv w⟩ ((Same.refl H).upd hr)

/-! ### the places of a table, its model and the box -/
theorem tfs_no5 {tl nd fl : Addr} {m : Int} : (tfs tl nd fl m).lookup ("begin" : Str) = none := by kernel_rfl
/-- three groups of addresses, apart from one another -/
structure Sep (b g l t tl nd fl M mt ml : Addr) : Prop where
  s1 : ∀ x, x ∈ [b, g, l] → x ∉ [t, tl, nd, fl]
  s2 : ∀ x, x ∈ [b, g, l] → x ∉ [M, mt, ml]
  s3 : ∀ x, x ∈ [t, tl, nd, fl] → x ∉ [M, mt, ml]
section
variable {C b g l t tl nd fl M mt ml : Addr} {H H' : Hp} {n : Int} {S : My.Tab} {ks : List Trip}
theorem two_of {x : Addr} (h : x ∈ [b, g]) : x ∈ [b, g, l] := by
  rcases List.mem_cons.mp h with e | e
  · exact e ▸ List.mem_cons_self
  · exact List.mem_cons_of_mem _ (List.mem_cons.mpr (.inl (by simpa using e)))
theorem Sep.tab_box (s : Sep b g l t tl nd fl M mt ml) (h : TabAt C H t tl nd fl S) (k : Keeps [b, g] H H') : TabAt C H' t tl nd fl S :=
  h.keep k (fun q => s.s1 _ (two_of q) (by simp)) (fun q => s.s1 _ (two_of q) (by simp)) (fun q => s.s1 _ (two_of q) (by simp)) (fun q => s.s1 _ (two_of q) (by simp))
theorem Sep.mod_box (s : Sep b g l t tl nd fl M mt ml) (bx : BoxAt H b g l n) (h : ModAt H M mt ml S ks) (k : Keeps [b, g] H H') : ModAt H' M mt ml S ks := by
  obtain ⟨gs, ls, cur, e1, e2, _⟩ := bx
  refine h.keep k (fun q => s.s2 _ (two_of q) (by simp)) (fun q => s.s2 _ (two_of q) (by simp)) (fun q => s.s2 _ (two_of q) (by simp)) fun x hx zs e => ?_
  simp at hx
  rcases hx with rfl | rfl
  · rw [e1] at e; cases e
  · rw [e2] at e; cases e
theorem Sep.box_tab (s : Sep b g l t tl nd fl M mt ml) (h : BoxAt H b g l n) (k : Keeps [t, tl, nd, fl] H H') : BoxAt H' b g l n := h.keep k (s.s1 b (by simp)) (s.s1 g (by simp)) (s.s1 l (by simp))
theorem Sep.box_mod (s : Sep b g l t tl nd fl M mt ml) (h : BoxAt H b g l n) (k : Keeps [M, mt, ml] H H') : BoxAt H' b g l n := h.keep k (s.s2 b (by simp)) (s.s2 g (by simp)) (s.s2 l (by simp))
theorem Sep.tab_mod (s : Sep b g l t tl nd fl M mt ml) (h : TabAt C H t tl nd fl S) (k : Keeps [M, mt, ml] H H') : TabAt C H' t tl nd fl S := h.keep k (s.s3 t (by simp)) (s.s3 tl (by simp)) (s.s3 nd (by simp)) (s.s3 fl (by simp))
theorem Sep.mod_tab (s : Sep b g l t tl nd fl M mt ml) (tb : TabAt C H t tl nd fl S) {S' : My.Tab} (h : ModAt H M mt ml S' ks) (k : Keeps [t, tl, nd, fl] H H') : ModAt H' M mt ml S' ks := by
  obtain ⟨⟨dx, e0⟩, e1, e2, ⟨free, e3, ok⟩, ne⟩ := tb
  refine h.keep k (fun q => s.s3 _ q (by simp)) (fun q => s.s3 _ q (by simp)) (fun q => s.s3 _ q (by simp)) fun x hx zs e => ?_
  simp at hx
  rcases hx with rfl | rfl | rfl | rfl
  · rw [e0] at e; cases e
  · rw [e1] at e; cases e
  · rw [e2] at e; cases e
  · rw [e3] at e; cases e
theorem keep_tup {R : List Addr} {h : Addr} {zs : List V} (k : Keeps R H H') (e : H h = some (.tup zs)) (d : ∀ x, x ∈ R → ∀ ys, H x ≠ some (.tup ys)) : H' h = some (.tup zs) := k _ _ e fun q => d _ q _ e
theorem TabAt.notup (tb : TabAt C H t tl nd fl S) : ∀ x, x ∈ [t, tl, nd, fl] → ∀ ys, H x ≠ some (.tup ys) := by
  obtain ⟨⟨dx, e0⟩, e1, e2, ⟨free, e3, ok⟩, ne⟩ := tb
  intro x hx zs e
  simp at hx
  rcases hx with rfl | rfl | rfl | rfl
  · rw [e0] at e; cases e
  · rw [e1] at e; cases e
  · rw [e2] at e; cases e
  · rw [e3] at e; cases e
end
structure All3 (C : Addr) (H : Hp) (b g l t tl nd fl M mt ml : Addr) (n : Int) (S : My.Tab) (ks : List Trip) : Prop where
  bx : BoxAt H b g l n
  tab : TabAt C H t tl nd fl S
  md : ModAt H M mt ml S ks
  sep : Sep b g l t tl nd fl M mt ml
theorem All3.box {C : Addr} {H H' : Hp} {b g l t tl nd fl M mt ml : Addr} {n n' : Int} {S : My.Tab} {ks : List Trip} (a : All3 C H b g l t tl nd fl M mt ml n S ks) (bx : BoxAt H' b g l n') (k : Keeps [b, g] H H') : All3 C H' b g l t tl nd fl M mt ml n' S ks :=
  ⟨bx, a.sep.tab_box a.tab k, a.sep.mod_box a.bx a.md k, a.sep⟩
theorem All3.same {C : Addr} {H H' : Hp} {b g l t tl nd fl M mt ml : Addr} {n : Int} {S : My.Tab} {ks : List Trip} (a : All3 C H b g l t tl nd fl M mt ml n S ks) (k : Same H H') : All3 C H' b g l t tl nd fl M mt ml n S ks :=
  ⟨a.bx.same k, a.tab.same k, a.md.same k, a.sep⟩
theorem lkv_drop (ks : List Trip) (p : Nat) : dropK (lkv ks) (Sum.inl (p : Int) : Key) = lkv (ks.filter fun z => decide (z.1 ≠ p)) := by
  unfold dropK lkv
  simp only [List.filter_map]
  congr 1
  refine List.filter_congr fun q _ => ?_
  show decide ((Sum.inl (q.1 : Int) : Key) ≠ Sum.inl (p : Int)) = decide (q.1 ≠ p)
  by_cases e : q.1 = p
  · simp [e]
  · have e2 : ¬ ((Sum.inl (q.1 : Int) : Key) = Sum.inl (p : Int)) := fun z => e (by have := Sum.inl.inj z; omega)
    rw [decide_eq_true e2, decide_eq_true e]
theorem begun_len (S : My.Tab) (p : Nat) (x : Int) : (S.begun p x).turns.length ≤ S.turns.length + 1 := by
  unfold My.Tab.begun
  simp only
  split
  · simp
  · simp
theorem ModAt.notup {H : Hp} {M mt ml : Addr} {S : My.Tab} {ks : List Trip} (h : ModAt H M mt ml S ks) : ∀ x, x ∈ [M, mt, ml] → ∀ ys, H x ≠ some (.tup ys) := by
  obtain ⟨e0, e1, e2, _⟩ := h
  intro x hx zs e
  simp at hx
  rcases hx with rfl | rfl | rfl
  · rw [e0] at e; cases e
  · rw [e1] at e; cases e
  · rw [e2] at e; cases e

/-! ### the law -/
/-- addresses that were free when the others stood -/
theorem not_in {H : Hp} {L : List Addr} {x : Addr} (h : ∀ y, y ∈ L → ∃ o, H y = some o) (hx : H x = none) : x ∉ L := fun q => by
  obtain ⟨o, e⟩ := h x q
  rw [e] at hx; cases hx
theorem BoxAt.notup2 {H : Hp} {b g l : Addr} {n : Int} (h : BoxAt H b g l n) : ∀ x, x ∈ [b, g] → ∀ ys, H x ≠ some (.tup ys) := by
  obtain ⟨gs, ls, cur, e1, e2, _⟩ := h
  intro x hx zs e
  simp at hx
  rcases hx with rfl | rfl
  · rw [e1] at e; cases e
  · rw [e2] at e; cases e
theorem tell_shaped {w : Str} (x : Int) (hw : PyData.strOk w = true) : SeqAt.shaped (.tuple [.str w, .int x]) = true := by
  unfold SeqAt.shaped
  simp [PyData.canLay0, PyData.canLayAll0, PyData.depth, PyData.depthAll, hw]
theorem ref_shaped {w : Str} (z : Int × Int) (hw : PyData.strOk w = true) : SeqAt.shaped (.tuple [.str w, pD z]) = true := by
  unfold SeqAt.shaped
  simp [pD, PyData.canLay0, PyData.canLayAll0, PyData.depth, PyData.depthAll, hw]
/-- what is told is one piece of data -/
theorem Told.dp (K : PySem.W.Frag) (S : My.Tab) (p q : Int) : ∃ D : PyData, SeqAt.shaped D = true ∧ PyData.eqv D D = true ∧ ∀ (H : Hp) (r : Addr) (w v : V), H r = some (.tup [w, v]) → Told S p q H w v → Dp K H (.ref r) D := by
  have eqv : ∀ D : PyData, SeqAt.shaped D = true → PyData.eqv D D = true := fun D h => SeqAt.eqv_refl _ (by
    unfold SeqAt.shaped at h
    simp at h
    exact h.1)
  by_cases l : Lives S p q
  · refine ⟨.tuple [.str "told", .int ((S.num p.toNat).getD 0)], tell_shaped _ (by decide +kernel), eqv _ (tell_shaped _ (by decide +kernel)), fun H r w v e t => ?_⟩
    obtain ⟨rfl, x, rfl, hx⟩ := t.l l
    rw [hx]
    exact .tup (SqT.of e) (.cons (.str _) (.cons (.int _) .nil))
  · by_cases b : Begun S p q
    · refine ⟨.tuple [.str "Ended", pD (p, q)], ref_shaped _ (by decide +kernel), eqv _ (ref_shaped _ (by decide +kernel)), fun H r w v e t => ?_⟩
      obtain ⟨rfl, z, rfl, hz⟩ := t.e b l
      exact .tup (SqT.of e) (.cons (.str _) (.cons (dp_pair hz) .nil))
    · refine ⟨.tuple [.str "NoHandle", pD (p, q)], ref_shaped _ (by decide +kernel), eqv _ (ref_shaped _ (by decide +kernel)), fun H r w v e t => ?_⟩
      obtain ⟨rfl, z, rfl, hz⟩ := t.n b
      exact .tup (SqT.of e) (.cons (.str _) (.cons (dp_pair hz) .nil))
theorem Told.keep {S : My.Tab} {p q : Int} {H H' : Hp} {w v : V} {R : List Addr} (t : Told S p q H w v) (k : Keeps R H H') (nt : ∀ x, x ∈ R → ∀ ys, H x ≠ some (.tup ys)) : Told S p q H' w v :=
  ⟨t.l, fun b => by
    obtain ⟨e, z, e2, hz⟩ := t.n b
    exact ⟨e, z, e2, k _ _ hz fun m => nt _ m _ hz⟩, fun b l => by
    obtain ⟨e, z, e2, hz⟩ := t.e b l
    exact ⟨e, z, e2, k _ _ hz fun m => nt _ m _ hz⟩⟩
theorem Told.word {S : My.Tab} {p q : Int} {H : Hp} {w v : V} (t : Told S p q H w v) : ∃ y : Str, w = .str y ∧ (y = "told" ↔ Lives S p q) := by
  by_cases l : Lives S p q
  · exact ⟨"told", (t.l l).1, fun _ => l, fun _ => rfl⟩
  · by_cases b : Begun S p q
    · exact ⟨"Ended", (t.e b l).1, fun h => absurd h (by decide), fun h => absurd h l⟩
    · exact ⟨"NoHandle", (t.n b).1, fun h => absurd h (by decide), fun h => absurd h l⟩
theorem pop_mod {H : Hp} {M mt ml : Addr} {S : My.Tab} {ks : List Trip} {p : Nat} {o : HO} (md : ModAt H M mt ml S ks) (hd : (upd H ml o) ml = some (.dK (lkv (ks.filter fun z => decide (z.1 ≠ p))))) : ModAt (upd H ml o) M mt ml (S.ended p) (ks.filter fun z => decide (z.1 ≠ p)) := by
  refine ⟨(upd_ne (ne_of md.e0 md.e2 (fun c => by cases c))).trans md.e0, (upd_ne (ne_of md.e1 md.e2 (fun c => by cases c))).trans md.e1, hd, ?_, fun z hz => (upd_ne (ne_of (md.ev z (List.mem_filter.mp hz).1) md.e2 (fun c => by cases c))).trans (md.ev z (List.mem_filter.mp hz).1), md.ne⟩
  show _ = S.nums.filter fun q => decide (q.1 ≠ p)
  rw [← md.ek, List.filter_map]
  rfl
theorem begun_bound {S : My.Tab} {p : Nat} {x : Int} {k : Nat} (h : ∀ y, y ∈ S.turns → y ≤ k) : ∀ y, y ∈ (S.begun p x).turns → y ≤ k + 1 := by
  intro y hy
  unfold My.Tab.begun at hy
  simp only at hy
  split at hy
  · rcases List.mem_or_eq_of_mem_set hy with hy | rfl
    · exact Nat.le_succ_of_le (h y hy)
    · unfold My.Tab.turn
      rename_i hp
      have : S.turns[p]? = some S.turns[p] := List.getElem?_eq_getElem hp
      have hm := h _ (List.getElem_mem hp)
      simp [this]
      exact hm
  · rcases List.mem_append.mp hy with hy | hy
    · exact Nat.le_succ_of_le (h y hy)
    · simp at hy
      omega
def spLaw (K : PySem.W.Frag) : Sp := fun vs H Q _ => ∃ (s : Addr) (ns : List Int), vs = [.ref s] ∧ SqL K H s (ns.map V.int) ∧ ns.length ≤ 63 ∧ ∀ H', Q (.bl true) H'
theorem ok_law (T : Txt K mg a) : FnOk P w K mg base CX0 10 a.f_law a.d_law ["_law_script"] (spLaw K) := by
  refine T.F_law.ok sc_law (fun vs H Q E h => ?_) (fun cdv A outer s H vs Q E hr h => ?_)
  · obtain ⟨s, ns, rfl, _⟩ := h
    rfl
  · obtain ⟨sc, ns, rfl, hS, hl, kk⟩ := h
    refine ⟨_, (pss_cons (ps_set (i := 1) sc_law.nd rfl (Or.inl rfl) (pe_call (ok_box T) (hr.mono (by decide)) rfl T.g_box T.k_box T.B_box .nil pass0 (pa_cons (pv 0) pa_nil)))
      (pss_cons (ps_set (i := 2) sc_law.nd rfl (Or.inl rfl) (pe_make0 T.mk_Table (ok_Table_init T) (hr.mono (by decide)) rfl T.g_Table T.B_Table_init .nil pass0))
      (pss_cons (ps_set (i := 3) sc_law.nd rfl (Or.inl rfl) (pe_lst (pa_cons (pe_lst pa_nil) (pa_cons pe_dnewK (pa_cons pe_int pa_nil)))))
      (pss_cons (ps_for PassesOwn.never rfl (pi_range1 (by rfl) T.z_range (pa_cons (pe_call (ok_take T) (hr.mono (by decide)) rfl T.g_take T.k_take T.B_take .nil pass0 (pa_cons (pv 1) (pa_cons pe_int pa_nil))) pa_nil)) (pg_name (i := 4) sc_law.nd rfl (Or.inl rfl)) (pss_one (ps_if (PW.pt (pw_or (pt_cmpR op_lt (pe_call (ok_take T) (hr.mono (by decide)) rfl T.g_take T.k_take T.B_take .nil pass0 (pa_cons (pv 1) (pa_cons pe_int pa_nil))) pe_int (nomark _)) (pw_or1 (pt_cmpR op_eq (pe_callB call_lenD (by rfl) T.z_len (by decide +kernel) (pa_cons (pe_ix ix_list (pv 3) pe_int (fun _ _ => rfl)) pa_nil)) pe_int (nomark _))))) (pss_cons (ps_set (i := 5) sc_law.nd rfl (Or.inl rfl) (pe_call (ok_figure T) (hr.mono (by decide)) rfl T.g_figure T.k_figure T.B_figure .nil pass0 (pa_cons (pv 1) pa_nil)))
      (pss_one (ps_if (pt_cmpR (op_neD hr.units) (pe_meth (pv 2) T.cl_Table T.m_Table_begin (ok_Table_begin T) (hr.mono (by decide)) T.B_Table_begin .nil pass0 (pa_cons (pv 5) pa_nil)) (pe_call (ok_begun T) (hr.mono (by decide)) rfl T.g_begun T.k_begun T.B_begun .nil pass0 (pa_cons (pv 3) (pa_cons (pv 5) pa_nil))) (nomark _)) (pss_one (ps_ret pe_bl)) pss_nil))) (pss_cons (ps_set (i := 6) sc_law.nd rfl (Or.inl rfl) (pe_ix ix_list (pe_callB (cr_sortDA rfl) (by rfl) T.z_sorted (by decide +kernel) (pa_cons (pe_ix ix_list (pv 3) pe_int (fun _ _ => rfl)) pa_nil)) (pe_call (ok_take T) (hr.mono (by decide)) rfl T.g_take T.k_take T.B_take .nil pass0 (pa_cons (pv 1) (pa_cons (pe_callB call_lenD (by rfl) T.z_len (by decide +kernel) (pa_cons (pe_ix ix_list (pv 3) pe_int (fun _ _ => rfl)) pa_nil)) pa_nil))) (fun _ _ => rfl)))
      (pss_cons (ps_asg (pe_dpop1 (pe_ix ix_list (pv 3) pe_int (fun _ _ => rfl)) (pv 6) ⟨rfl, rfl, rfl, rfl⟩) (pg_tup rfl (pgs_cons (pg_name (i := 7) sc_law.nd rfl (Or.inl rfl)) (pgs_cons (pg_name (i := 5) sc_law.nd rfl (Or.inl rfl)) pgs_nil))))
      (pss_one (ps_if (pt_cmpR op_ne (pe_meth (pv 2) T.cl_Table T.m_Table_end (ok_Table_end T) (hr.mono (by decide)) T.B_Table_end .nil pass0 (pa_cons (pe_tup (pa_cons (pv 6) (pa_cons (pv 7) pa_nil))) pa_nil)) (pv 5) (nomark _)) (pss_one (ps_ret pe_bl)) pss_nil)))))))
      (pss_cons (ps_for PassesOwn.never rfl (pi_range1 (by rfl) T.z_range (pa_cons (pe_op op_add pe_int (pe_call (ok_take T) (hr.mono (by decide)) rfl T.g_take T.k_take T.B_take .nil pass0 (pa_cons (pv 1) (pa_cons pe_int pa_nil)))) pa_nil)) (pg_name (i := 4) sc_law.nd rfl (Or.inl rfl)) (pss_cons (ps_set (i := 8) sc_law.nd rfl (Or.inl rfl) (pe_call (ok_odd T) (hr.mono (by decide)) rfl T.g_odd T.k_odd T.B_odd .nil pass0 (pa_cons (pv 1) (pa_cons (pv 3) pa_nil))))
      (pss_cons (ps_set (i := 9) sc_law.nd rfl (Or.inl rfl) (pe_ix ix_list (pe_lst (pa_cons pe_str (pa_cons pe_str pa_nil))) (pe_call (ok_take T) (hr.mono (by decide)) rfl T.g_take T.k_take T.B_take .nil pass0 (pa_cons (pv 1) (pa_cons pe_int pa_nil))) (fun _ _ => rfl)))
      (pss_cons (ps_set (i := 10) sc_law.nd rfl (Or.inl rfl) (pe_call (ok_due T) (hr.mono (by decide)) rfl T.g_due T.k_due T.B_due .nil pass0 (pa_cons (pv 3) (pa_cons (pv 8) pa_nil))))
      (pss_cons (ps_if (pt_cmpR (op_neD hr.units) (pe_call (ok_asked T) (hr.mono (by decide)) rfl T.g_asked T.k_asked T.B_asked .nil pass0 (pa_cons (pv 2) (pa_cons (pv 9) (pa_cons (pv 8) pa_nil)))) (pv 10) (nomark _)) (pss_one (ps_ret pe_bl)) pss_nil)
      (C8.pss_cut (ps_if (PW.pt (pw_and (pt_cmpR op_eq (pe_ix ix_tup (pv 10) pe_int (fun _ _ => rfl)) pe_str (nomark _)) (pw_and1 (pt_cmpR op_eq (pv 9) pe_str (nomark _))))) (pss_one (ps_expr (pe_dpop1 (pe_ix ix_list (pv 3) pe_int (fun _ _ => rfl)) (pe_ix ix_tup (pv 8) pe_int (fun _ _ => rfl)) ⟨rfl, rfl, rfl, rfl⟩))) pss_nil)
      (pss_one (ps_if (pt_not (pt_val (pe_call (ok_stands T) (hr.mono (by decide)) rfl T.g_stands T.k_stands T.B_stands .nil pass0 (pa_cons (pv 2) (pa_cons (pv 3) pa_nil))))) (pss_one (ps_ret pe_bl)) pss_nil))))))))
      (pss_one (ps_ret pe_bl))))))), ?_⟩
    refine ⟨_, rfl, sc, ns, rfl, hS, hl, fun b g l H1 hb hg hl bx s1 => ?_⟩
    obtain ⟨gs, ls, cur, eb, eg, el, _⟩ := id bx
    intro t dx nt ndx nex
    refine ⟨t, dx, rfl, upd_same, fun tl nd fl H2 htl hnd hfl tab kp => ⟨rfl, ?_⟩⟩
    have k12 : Same H1 H2 := fun c o e => kp c o (by rw [upd_ne (ne_of_none e nt), upd_ne (ne_of_none e ndx)]; exact e) (by simp; exact ne_of_none e nt)
    have back : ∀ {x : Addr}, (upd (upd H1 dx (.own t)) t (.ins a.c_Table dx [])) x = none → H1 x = none := fun {x} h => by
      by_cases q : x = t
      · subst q; exact nt
      · rw [upd_ne q] at h
        by_cases r : x = dx
        · subst r; exact ndx
        · rw [upd_ne r] at h; exact h
    have in1 : ∀ y, y ∈ [b, g, l] → ∃ o, H1 y = some o := by
      intro y hy
      simp at hy
      rcases hy with rfl | rfl | rfl
      · exact ⟨_, eb⟩
      · exact ⟨_, eg⟩
      · exact ⟨_, el⟩
    have sp1 : ∀ x, x ∈ [b, g, l] → x ∉ [t, tl, nd, fl] := by
      intro x hx hq
      obtain ⟨o, e⟩ := in1 x hx
      simp at hq
      rcases hq with rfl | rfl | rfl | rfl
      · rw [nt] at e; cases e
      · rw [back htl] at e; cases e
      · rw [back hnd] at e; cases e
      · rw [back hfl] at e; cases e
    have bx2 := bx.same k12
    obtain ⟨⟨dy, e0⟩, e1, e2, ⟨free0, e3, ok0⟩, ne0⟩ := id tab
    have in2 : ∀ y, y ∈ [b, g, l] ++ [t, tl, nd, fl] → ∃ o, H2 y = some o := by
      intro y hy
      rcases List.mem_append.mp hy with hy | hy
      · obtain ⟨o, e⟩ := in1 y hy
        exact ⟨o, k12 _ _ e⟩
      · simp at hy
        rcases hy with rfl | rfl | rfl | rfl
        · exact ⟨_, e0⟩
        · exact ⟨_, e1⟩
        · exact ⟨_, e2⟩
        · exact ⟨_, e3⟩
    refine ⟨by show 0 ≤ sizeLine; decide, fun mt hmt => ?_⟩
    intro ml hml
    have m1 : mt ≠ ml := ne_of_none upd_same hml
    have hml2 : H2 ml = none := (upd_ne m1.symm).symm.trans hml
    refine ⟨by show 3 ≤ sizeLine; decide, fun M hM => ?_⟩
    have m2 : ml ≠ M := ne_of_none upd_same hM
    have hM1 := (upd_ne m2.symm).symm.trans hM
    have m3 : mt ≠ M := ne_of_none upd_same hM1
    have hM2 : H2 M = none := (upd_ne m3.symm).symm.trans hM1
    have k23 : ∀ o1 o2 o3, Same H2 (upd (upd (upd H2 mt o1) ml o2) M o3) := fun o1 o2 o3 => (((Same.refl H2).upd hmt).upd hml2).upd hM2
    have offM : ∀ x, x ∈ [b, g, l] ++ [t, tl, nd, fl] → x ∉ [M, mt, ml] := by
      intro x hx hq
      obtain ⟨o, e⟩ := in2 x hx
      simp at hq
      rcases hq with rfl | rfl | rfl
      · rw [hM2] at e; cases e
      · rw [hmt] at e; cases e
      · rw [hml2] at e; cases e
    have sep : Sep b g l t tl nd fl M mt ml := ⟨sp1, fun x hx => offM x (List.mem_append_left _ hx), fun x hx => offM x (List.mem_append_right _ hx)⟩
    have md3 : ModAt (upd (upd (upd H2 mt (.lst [])) ml (.dK [])) M (.lst [.ref mt, .ref ml, .int 0])) M mt ml My.Tab.none [] :=
      ⟨upd_same, by rw [upd_ne m3, upd_ne m1, upd_same]; rfl, by rw [upd_ne m2, upd_same]; rfl, rfl, fun z hz => by simp at hz, m3.symm⟩
    have al3 : All3 a.c_Table (upd (upd (upd H2 mt (.lst [])) ml (.dK [])) M (.lst [.ref mt, .ref ml, .int 0])) b g l t tl nd fl M mt ml 0 My.Tab.none [] :=
      ⟨bx2.same (k23 _ _ _), tab.same (k23 _ _ _), md3, sep⟩
    have nml : nd ≠ ml := fun q => offM nd (by simp) (by simp [q])
    show _
    generalize upd (upd (upd H2 mt (.lst [])) ml (.dK [])) M (.lst [.ref mt, .ref ml, .int 0]) = H3 at al3
    refine ⟨_, rfl, b, g, l, 0, 31, rfl, al3.bx, by omega, by omega, by decide, by decide, fun r H4 r0 r1 bx4 kp4 => ?_⟩
    have al4 := al3.box bx4 kp4
    refine ⟨r, rfl, by omega, by omega, ?_⟩
    refine for_range (lo := 0) (n := r.toNat) (fun i σ H5 => Blk (∃ (v4 v5 v6 v7 v8 v9 v10 : Option V) (n : Int) (S : My.Tab) (ks : List Trip), σ = [some (.ref sc), some (.ref b), some (.ref t), some (.ref M), v4, v5, v6, v7, v8, v9, v10] ∧ All3 a.c_Table H5 b g l t tl nd fl M mt ml n S ks ∧ 0 ≤ n ∧ n ≤ 1 + 10 * i ∧ S.turns.length ≤ i ∧ ∀ x, x ∈ S.turns → x ≤ i)) ?_ ?_ ?_
    · exact Blk.of ⟨_, _, _, _, _, _, _, _, _, _, rfl, al4, by omega, by omega, Nat.le_refl _, fun x hx => by cases hx⟩
    · intro i σ H5 hi hB
      obtain ⟨v4, v5, v6, v7, v8, v9, v10, n, S, ks, rfl, al, n0, n1, hS, hT⟩ := hB.out
      obtain ⟨free, hfree, ok⟩ := al.tab.hf
      refine ⟨_, rfl, b, g, l, n, 5, rfl, al.bx, by omega, by omega, by decide, by decide, fun k H6 _ _ bx6 kp6 => ?_⟩
      have al6 := al.box bx6 kp6
      have cnt := ok.cnt
      have hlk : (lkv ks).length = S.nums.length := by unfold lkv; rw [← al.md.ek, List.length_map, List.length_map]
      refine ⟨_, _, rfl, rfl, _, rfl, ?_⟩
      refine iteD (fun _ => iteT ?_) (fun _ => ?_)
      rotate_left
      refine ⟨_, rfl, _, _, _, _, rfl, rfl, SqL.of al6.md.e0, rfl, _, _, rfl, al6.md.e2, rfl, _, rfl, ?_⟩
      refine iteD (fun _ => ?_) (fun hne => ?_)
      rotate_left
      · have hpos : 0 < S.nums.length := by
          rcases Nat.eq_zero_or_pos S.nums.length with e | e
          · exact absurd (by rw [hlk, e]; rfl) hne
          · exact e
        refine ⟨_, rfl, _, _, _, _, rfl, rfl, SqL.of al6.md.e0, rfl, ml, lkv ks, S.keys.map fun (n : Nat) => (n : Int), rfl, .inl al6.md.e2, lkv_ints al.md.ek, fun ys q pm srt hq => ?_⟩
        obtain ⟨ps, rfl, pp⟩ := cast_perm pm
        have plen : ps.length = S.nums.length := by rw [pp.length_eq]; unfold My.Tab.keys; rw [List.length_map]
        have al7 := al6.same ((Same.refl H6).upd (o := .lst ((ps.map fun (n : Nat) => (n : Int)).map V.int)) hq)
        refine ⟨_, rfl, _, rfl, _, _, _, _, rfl, rfl, SqL.of al7.md.e0, rfl, _, _, rfl, al7.md.e2, b, g, l, n + 1, _, rfl, al7.bx, by omega, by omega, by omega, log_small (by omega), fun j H8 j0 j1 bx8 kp8 => ?_⟩
        have al8 := al7.box bx8 kp8
        have hq8 := kp8 _ _ upd_same (bx6.off hq)
        have jl : j.toNat < ps.length := by omega
        have hp : ps[j.toNat]? = some ps[j.toNat] := List.getElem?_eq_getElem jl
        generalize ps[j.toNat] = p at hp
        have hkey : p ∈ S.keys := pp.mem_iff.mp (List.mem_of_getElem? hp)
        have hpk : p ∈ ks.map (·.1) := by rw [lkv_keys al.md.ek]; exact hkey
        obtain ⟨z, hzm, hz1, hz2⟩ := lkv_get hpk
        have hnum : S.num p = some z.2.1 := by
          rw [← hz1]
          exact My.Tab.num_mem ok.nd (q := (z.1, z.2.1)) (by rw [← al.md.ek]; exact List.mem_map.mpr ⟨z, hzm, rfl⟩)
        refine ⟨_, _, _, _, rfl, rfl, SqL.of hq8, at_of (j := j.toNat) (by omega) (by rw [List.getElem?_map, List.getElem?_map, hp]; rfl), ?_⟩
        refine ⟨_, rfl, _, _, _, _, rfl, rfl, SqL.of al8.md.e0, rfl, _, rfl, ?_⟩
        have ev8 := al8.md.ev z hzm
        have nz : z.2.2 ≠ ml := ne_of ev8 al8.md.e2 (fun c => by cases c)
        have kpm : Keeps [M, mt, ml] H8 (upd H8 ml (.dK (dropK (lkv ks) (Sum.inl (p : Int) : Key)))) := (Keeps.refl _ H8).upd (.inl (by simp))
        refine ⟨.inl ⟨_, .inl al8.md.e2⟩, _, rfl, _, Sum.inl (p : Int), _, al8.md.e2, rfl, hz2, z.2.2, _, rfl, SqT.of (by rw [upd_ne nz]; exact ev8), rfl, ?_⟩
        refine ⟨_, _, rfl, _, _, rfl, rfl, ?_⟩
        have hd9 : (upd H8 ml (.dK (dropK (lkv ks) (Sum.inl (p : Int) : Key)))) ml = some (.dK (lkv (ks.filter fun z => decide (z.1 ≠ p)))) := by rw [upd_same, lkv_drop]
        have md9 := pop_mod (p := p) al8.md hd9
        have tab9 := al.sep.tab_mod al8.tab kpm
        have bx9 := al.sep.box_mod al8.bx kpm
        generalize upd H8 ml (.dK (dropK (lkv ks) (Sum.inl (p : Int) : Key))) = H9 at md9 tab9 bx9
        obtain ⟨dy, e0⟩ := tab9.ob
        refine ⟨_, rfl, t, dy, _, rfl, e0, tfs_no6, _, rfl, _, rfl, by show 2 ≤ sizeLine; decide, fun h hh => ?_⟩
        have s9 : Same H9 (upd H9 h (.tup [.int p, .int ((S.turn z.1 : Int) - 1)])) := (Same.refl H9).upd hh
        refine ⟨t, tl, nd, fl, h, S, p, z.2.1, rfl, tab9.same s9, ⟨by rw [hz1]; exact upd_same, hkey⟩, hnum, by omega, fun H10 tab10 kp10 => ?_⟩
        refine ⟨_, rfl, rfl, _, rfl, ?_⟩
        refine iteNS rfl ?_
        exact Blk.of ⟨_, _, _, _, _, _, _, _, _, _, rfl, ⟨al.sep.box_tab (bx9.same s9) kp10, tab10, al.sep.mod_tab (tab9.same s9) (md9.same s9) kp10, al.sep⟩, by omega, by omega, Nat.le_succ_of_le hS, fun x hx => Nat.le_succ_of_le (hT x hx)⟩
      all_goals
        refine ⟨_, rfl, b, g, l, n + 1, rfl, al6.bx, by omega, by omega, fun x H7 bx7 kp7 => ?_⟩
        have al7 := al6.box bx7 kp7
        obtain ⟨dy, e0⟩ := al7.tab.ob
        refine ⟨_, rfl, t, dy, _, rfl, e0, tfs_no5, _, rfl, t, tl, nd, fl, S, x, rfl, al7.tab, by omega, fun p h H8 nx hh5 hh6 tab8 kp8 => ?_⟩
        have md8 := al.sep.mod_tab al7.tab al7.md kp8
        have bx8 := al.sep.box_tab al7.bx kp8
        refine ⟨_, rfl, _, rfl, M, mt, ml, S, ks, free, x, rfl, md8, ok, by omega, fun p' h' q H9 nx' hh7 hh8 hq md9 kp9 => ?_⟩
        obtain rfl := nx.same nx'
        have hh9 := keep_tup kp9 hh6 md8.notup
        refine ⟨pD ((p : Int), (S.turn p : Int)), pD ((p : Int), (S.turn p : Int)), dp_pair hh9, dp_pair hh8, pD_shaped _, pD_shaped _, ?_⟩
        rw [pD_same]
        refine ⟨_, rfl, ?_⟩
        refine iteF ?_
        exact Blk.of ⟨_, _, _, _, _, _, _, _, _, _, rfl, ⟨al.sep.box_mod bx8 kp9, al.sep.tab_mod tab8 kp9, md9, al.sep⟩, by omega, by omega, Nat.le_trans (begun_len _ _ _) (by omega), begun_bound hT⟩
    · intro σ H5 hB
      obtain ⟨v4, v5, v6, v7, v8, v9, v10, n, S, ks, rfl, al5, n0, n1, hS, hT⟩ := hB.out
      refine ⟨_, rfl, b, g, l, n, 12, rfl, al5.bx, n0, by omega, by decide, by decide, fun r2 H6 r20 r21 bx6 kp6 => ?_⟩
      have al6 := al5.box bx6 kp6
      refine ⟨_, _, rfl, rfl, 1 + r2, rfl, by omega, by omega, ?_⟩
      refine for_range (lo := 0) (n := (1 + r2).toNat) (fun i σ H7 => Blk (∃ (v4 v5 v6 v7 v8 v9 v10 : Option V) (n : Int) (S : My.Tab) (ks : List Trip), σ = [some (.ref sc), some (.ref b), some (.ref t), some (.ref M), v4, v5, v6, v7, v8, v9, v10] ∧ All3 a.c_Table H7 b g l t tl nd fl M mt ml n S ks ∧ 0 ≤ n ∧ n ≤ 400 + 10 * i ∧ S.turns.length ≤ 40 ∧ ∀ x, x ∈ S.turns → x ≤ 40)) ?_ ?_ ?_
      · exact Blk.of ⟨_, _, _, _, _, _, _, _, _, _, rfl, al6, by omega, by omega, by omega, fun x hx => by have := hT x hx; omega⟩
      · intro i σ H7 hi hB
        obtain ⟨v4, v5, v6, v7, v8, v9, v10, n, S, ks, rfl, al, n0, n1, hS, hT⟩ := hB.out
        obtain ⟨free, hfree, ok⟩ := al.tab.hf
        refine ⟨_, rfl, _, rfl, b, g, l, M, mt, ml, n, S, ks, free, rfl, al.bx, al.md, al.sep.s2, ok, by omega, by omega, by omega, fun x hx => by have := hT x hx; omega, fun h p q n' H8 hh0 hh8 lp lq nn0 nn1 bx8 kp8 => ?_⟩
        have al8 := al.box bx8 kp8
        refine ⟨by show 2 ≤ sizeLine; decide, fun L hL => ?_⟩
        have nhL : h ≠ L := ne_of_none hh8 hL
        refine ⟨_, rfl, b, g, l, n', 2, rfl, bx8.upd hL, by omega, by omega, by decide, by decide, fun c H9 c0 c1 bx9 kp9 => ?_⟩
        have al9 := (al8.same ((Same.refl H8).upd (o := .lst [.str "look", .str "end"]) hL)).box bx9 kp9
        have hL9 := kp9 _ _ upd_same (bx8.off hL)
        have hh9 : H9 h = some (.tup [.int p, .int q]) := kp9 _ _ ((upd_ne nhL).trans hh8) (fun w => by
          have := BoxAt.notup2 (bx8.upd (o := .lst [.str "look", .str "end"]) hL) h w [.int p, .int q]
          exact this ((upd_ne nhL).trans hh8))
        obtain ⟨lk, hlk⟩ : ∃ lk : Bool, atI [V.str "look", .str "end"] c = some (.str (if lk then "look" else "end")) := by
          have : c = 0 ∨ c = 1 := by omega
          rcases this with rfl | rfl
          · exact ⟨true, rfl⟩
          · exact ⟨false, rfl⟩
        refine ⟨_, _, _, _, rfl, rfl, SqL.of hL9, hlk, ?_⟩
        refine ⟨_, rfl, _, rfl, M, mt, ml, h, S, ks, free, p, q, rfl, al9.md, ok, hh9, fun d1 w1 v1 H10 hd hd1 told1 s10 => ?_⟩
        have al10 := al9.same s10
        have hh10 := s10 _ _ hh9
        refine ⟨_, rfl, _, rfl, _, rfl, t, tl, nd, fl, h, S, p, q, lk, rfl, al10.tab, hh10, lp, lq, by omega, fun d3 H11 w3 v3 S' hd3 hd31 told3 e1 e2 tab11 kp11 => ?_⟩
        have md11 := al.sep.mod_tab al10.tab al10.md kp11
        have bx11 := al.sep.box_tab al10.bx kp11
        have hd11 := keep_tup kp11 hd1 al10.tab.notup
        have hh11 := keep_tup kp11 hh10 al10.tab.notup
        obtain ⟨D, sh, eqv, hD⟩ := Told.dp K S p q
        refine ⟨_, rfl, D, D, hD _ _ _ _ hd31 told3, hD _ _ _ _ hd11 (told1.keep kp11 al10.tab.notup), sh, sh, ?_⟩
        rw [eqv]
        refine ⟨_, rfl, ?_⟩
        refine iteF ?_
        obtain ⟨y, rfl, hy⟩ := told1.word
        have hS' : S'.turns = S.turns := by
          by_cases w : Lives S p q ∧ lk = false
          · rw [e1 w.1 w.2]; rfl
          · rw [e2 w]
        refine ⟨fun σ H12 => Blk (∃ ks', σ = [some (.ref sc), some (.ref b), some (.ref t), some (.ref M), some (.int (0 + i)), v5, v6, v7, some (.ref h), some (.str (if lk then "look" else "end")), some (.ref d1)] ∧ All3 a.c_Table H12 b g l t tl nd fl M mt ml (n' + 1) S' ks'), ?_, ?_⟩
        · refine ⟨_, rfl, _, _, _, _, rfl, rfl, SqT.of hd11, rfl, rfl, _, rfl, ?_⟩
          refine iteD (fun ht => ?_) (fun ht => ?_)
          · have lv : Lives S p q := hy.mp (V.str.inj ht)
            refine ⟨_, rfl, rfl, _, rfl, ?_⟩
            refine iteD (fun he => ?_) (fun he => ?_)
            · cases lk with
              | true => exact absurd (V.str.inj he) (by decide)
              | false =>
                obtain ⟨⟨b1, b2, b3, b4⟩, hk, hq⟩ := id lv
                obtain ⟨pn, rfl⟩ : ∃ n : Nat, p = n := ⟨p.toNat, by omega⟩
                obtain rfl := e1 lv rfl
                rw [Int.toNat_natCast] at hk tab11 ⊢
                obtain ⟨z, hzm, hz1, hz2⟩ := lkv_get (ks := ks) (p := pn) (by rw [lkv_keys al.md.ek]; exact hk)
                have kpm : Keeps [M, mt, ml] H11 (upd H11 ml (.dK (dropK (lkv ks) (Sum.inl (pn : Int) : Key)))) := (Keeps.refl _ H11).upd (.inl (by simp))
                have md12 := pop_mod (p := pn) md11 (o := .dK (dropK (lkv ks) (Sum.inl (pn : Int) : Key))) (by rw [upd_same, lkv_drop])
                refine ⟨_, rfl, _, _, _, _, rfl, rfl, SqL.of md11.e0, rfl, _, rfl, .inl ⟨_, .inl md11.e2⟩, _, rfl, _, _, _, _, rfl, rfl, SqT.of hh11, rfl, _, Sum.inl (pn : Int), _, md11.e2, rfl, hz2, ?_⟩
                exact Blk.of ⟨_, rfl, ⟨al.sep.box_mod bx11 kpm, al.sep.tab_mod tab11 kpm, md12, al.sep⟩⟩
            · cases lk with
              | false => exact absurd rfl he
              | true =>
                obtain rfl := e2 (fun w => Bool.noConfusion w.2)
                exact Blk.of ⟨ks, rfl, ⟨bx11, tab11, md11, al.sep⟩⟩
          · refine iteF ?_
            obtain rfl := e2 (fun w => ht (by rw [hy.mpr w.1]))
            exact Blk.of ⟨ks, rfl, ⟨bx11, tab11, md11, al.sep⟩⟩
        · intro σ H12 hB
          obtain ⟨ks', rfl, al12⟩ := hB.out
          refine ⟨_, rfl, _, rfl, t, tl, nd, fl, M, mt, ml, S', ks', rfl, al12.tab, al12.md, nml, by rw [hS']; omega, fun H13 s13 => ?_⟩
          refine ⟨_, rfl, ?_⟩
          refine iteF ?_
          exact Blk.of ⟨_, _, _, _, _, _, _, _, _, _, rfl, al12.same s13, by omega, by omega, by rw [hS']; exact hS, by rw [hS']; exact hT⟩
      · intro σ H7 hB
        exact kk _
end
theorem all_mk {l : PySem.W.OpenLaw} {w : World} {K : PySem.W.Frag} {h : Heap} {mg : Str → Option Value} {fa c_Table c_NoHandle c_Ended c_PactError f_p_copied f_NoHandle_init f_Ended_init f_is_whole f_Table_init f_Table_begin f_Table_look f_Table_end f_Table_p_living_place f_Table_alive f_Table_most f_Table_twin f_Table_len f_p_is_handle f_box f_mixed f_take f_figure f_begun f_stands f_odd f_due f_asked f_law : Addr} (X : K.In h) (G : h.Ns mainGlobals mg) (hfa : mg "law" = some (.ref fa))
    {od_p_copied an_p_copied od_NoHandle_init an_NoHandle_init od_Ended_init an_Ended_init od_is_whole an_is_whole od_Table_init an_Table_init od_Table_begin an_Table_begin od_Table_look an_Table_look od_Table_end an_Table_end od_Table_p_living_place an_Table_p_living_place od_Table_alive an_Table_alive od_Table_most an_Table_most od_Table_twin an_Table_twin od_Table_len an_Table_len od_p_is_handle an_p_is_handle od_box an_box od_mixed an_mixed od_take an_take od_figure an_figure od_begun an_begun od_stands an_stands od_odd an_odd od_due an_due od_asked an_asked od_law an_law : Option Addr} {sl_p_copied sl_NoHandle_init sl_Ended_init sl_is_whole sl_Table_init sl_Table_begin sl_Table_look sl_Table_end sl_Table_p_living_place sl_Table_alive sl_Table_most sl_Table_twin sl_Table_len sl_p_is_handle sl_box sl_mixed sl_take sl_figure sl_begun sl_stands sl_odd sl_due sl_asked sl_law : Array (Option Value)}
    {oc_p_copied kV_p_copied dc_p_copied pm_p_copied cd_p_copied ct_p_copied oc_NoHandle_init kV_NoHandle_init dc_NoHandle_init pm_NoHandle_init cd_NoHandle_init ct_NoHandle_init oc_Ended_init kV_Ended_init dc_Ended_init pm_Ended_init cd_Ended_init ct_Ended_init oc_is_whole kV_is_whole dc_is_whole pm_is_whole cd_is_whole ct_is_whole oc_Table_init kV_Table_init dc_Table_init pm_Table_init cd_Table_init ct_Table_init oc_Table_begin kV_Table_begin dc_Table_begin pm_Table_begin cd_Table_begin ct_Table_begin oc_Table_look kV_Table_look dc_Table_look pm_Table_look cd_Table_look ct_Table_look oc_Table_end kV_Table_end dc_Table_end pm_Table_end cd_Table_end ct_Table_end oc_Table_p_living_place kV_Table_p_living_place dc_Table_p_living_place pm_Table_p_living_place cd_Table_p_living_place ct_Table_p_living_place oc_Table_alive kV_Table_alive dc_Table_alive pm_Table_alive cd_Table_alive ct_Table_alive oc_Table_most kV_Table_most dc_Table_most pm_Table_most cd_Table_most ct_Table_most oc_Table_twin kV_Table_twin dc_Table_twin pm_Table_twin cd_Table_twin ct_Table_twin oc_Table_len kV_Table_len dc_Table_len pm_Table_len cd_Table_len ct_Table_len oc_p_is_handle kV_p_is_handle dc_p_is_handle pm_p_is_handle cd_p_is_handle ct_p_is_handle oc_box kV_box dc_box pm_box cd_box ct_box oc_mixed kV_mixed dc_mixed pm_mixed cd_mixed ct_mixed oc_take kV_take dc_take pm_take cd_take ct_take oc_figure kV_figure dc_figure pm_figure cd_figure ct_figure oc_begun kV_begun dc_begun pm_begun cd_begun ct_begun oc_stands kV_stands dc_stands pm_stands cd_stands ct_stands oc_odd kV_odd dc_odd pm_odd cd_odd ct_odd oc_due kV_due dc_due pm_due cd_due ct_due oc_asked kV_asked dc_asked pm_asked cd_asked ct_asked oc_law kV_law dc_law pm_law cd_law ct_law : Value}
    {nm_NoHandle qn_NoHandle : Str} {N_NoHandle : Addr} {bs_NoHandle bm_NoHandle sub_NoHandle : List Value} {sn_NoHandle : List Str} {ab_NoHandle : Bool} {col_NoHandle : Option Bool} {dd_NoHandle : Option Addr} {e0_NoHandle e1_NoHandle e2_NoHandle e3_NoHandle e5_NoHandle : Option Value}
    {nm_Ended qn_Ended : Str} {N_Ended : Addr} {bs_Ended bm_Ended sub_Ended : List Value} {sn_Ended : List Str} {ab_Ended : Bool} {col_Ended : Option Bool} {dd_Ended : Option Addr} {e0_Ended e1_Ended e2_Ended e3_Ended e5_Ended : Option Value}
    (a_Table : PySem.W.nsIn K mainGlobals "Table" = some (some (.ref c_Table)))
    (pg_Table : PySem.W.plainGet K c_Table Str.empty = true)
    (hd_Table : PySem.W.hasDictIn K c_Table = true)
    (po_Table : PySem.W.plainOver K c_Table = true)
    (sa_Table : PySem.W.findIn K (.ref c_Table) "__setattr__" = some (some (.builtin "object.__setattr__")))
    (mk_Table : PySem.W.makesIn K c_Table = true)
    (kc_Table : PySem.W.keepIn K (.ref c_Table) = true)
    (n_Table__turns : PySem.W.findIn K (.ref c_Table) "_turns" = some none)
    (n_Table__numbers : PySem.W.findIn K (.ref c_Table) "_numbers" = some none)
    (n_Table__free : PySem.W.findIn K (.ref c_Table) "_free" = some none)
    (n_Table__most : PySem.W.findIn K (.ref c_Table) "_most" = some none)
    (a_NoHandle : PySem.W.nsIn K mainGlobals "NoHandle" = some (some (.ref c_NoHandle)))
    (xl_NoHandle : K.lookup c_NoHandle = some (excClassObj nm_NoHandle qn_NoHandle c_NoHandle N_NoHandle bs_NoHandle bm_NoHandle true sn_NoHandle sub_NoHandle ab_NoHandle col_NoHandle dd_NoHandle e0_NoHandle e1_NoHandle e2_NoHandle e3_NoHandle e5_NoHandle "ValueError.__new__"))
    (xm_NoHandle : PySem.HandSPX.refsVE bm_NoHandle = true)
    (xs_NoHandle : PySem.W.findIn K (.ref c_NoHandle) "__setattr__" = some (some (.builtin "object.__setattr__")))
    (xe_NoHandle : PySem.W.subIn K (.ref c_NoHandle) (.type "BaseException") = some true)
    (xy_NoHandle : PySem.W.typeIn K (.ref c_NoHandle) = some (.type "type"))
    (xk_NoHandle : PySem.W.keepIn K (.ref c_NoHandle) = true)
    (xg_NoHandle : PySem.W.findIn K (.ref c_NoHandle) "__getattribute__" = some (some (.builtin "BaseException.__getattribute__")))
    (xo_NoHandle : PySem.W.findIn K (.ref c_NoHandle) "__getattr__" = some none)
    (xd_NoHandle : PySem.W.hasDictIn K c_NoHandle = true)
    (n_NoHandle_handle : PySem.W.findIn K (.ref c_NoHandle) "handle" = some none)
    (a_Ended : PySem.W.nsIn K mainGlobals "Ended" = some (some (.ref c_Ended)))
    (xl_Ended : K.lookup c_Ended = some (excClassObj nm_Ended qn_Ended c_Ended N_Ended bs_Ended bm_Ended true sn_Ended sub_Ended ab_Ended col_Ended dd_Ended e0_Ended e1_Ended e2_Ended e3_Ended e5_Ended "ValueError.__new__"))
    (xm_Ended : PySem.HandSPX.refsVE bm_Ended = true)
    (xs_Ended : PySem.W.findIn K (.ref c_Ended) "__setattr__" = some (some (.builtin "object.__setattr__")))
    (xe_Ended : PySem.W.subIn K (.ref c_Ended) (.type "BaseException") = some true)
    (xy_Ended : PySem.W.typeIn K (.ref c_Ended) = some (.type "type"))
    (xk_Ended : PySem.W.keepIn K (.ref c_Ended) = true)
    (xg_Ended : PySem.W.findIn K (.ref c_Ended) "__getattribute__" = some (some (.builtin "BaseException.__getattribute__")))
    (xo_Ended : PySem.W.findIn K (.ref c_Ended) "__getattr__" = some none)
    (xd_Ended : PySem.W.hasDictIn K c_Ended = true)
    (n_Ended_handle : PySem.W.findIn K (.ref c_Ended) "handle" = some none)
    (a_PactError : PySem.W.nsIn K mainGlobals "PactError" = some (some (.ref c_PactError)))
    (da_PactError : PySem.W.specialIn K (.ref c_PactError) "__getattribute__" = some (some (.builtin "type.__getattribute__")))
    (dr_PactError : PySem.W.readsIn K c_PactError (.type "type") = true)
    (df_PactError : PySem.W.findCls K (.ref c_PactError) (.type "type") "__init__" = some (.val (.builtin "ValueError.__init__")))
    (fa_NoHandle : PySem.W.findIn K (.ref c_NoHandle) "__class__" = some (some (.builtin "object.__class__")))
    (fm_NoHandle : PySem.W.mroIn K c_NoHandle (.type "object") = some true)
    (fp_NoHandle : PySem.W.kitOne K (.ref c_NoHandle) (.ref c_PactError) = some true)
    (fv_NoHandle : PySem.W.kitOne K (.ref c_NoHandle) (.type "ValueError") = some true)
    (fa_Ended : PySem.W.findIn K (.ref c_Ended) "__class__" = some (some (.builtin "object.__class__")))
    (fm_Ended : PySem.W.mroIn K c_Ended (.type "object") = some true)
    (fp_Ended : PySem.W.kitOne K (.ref c_Ended) (.ref c_PactError) = some true)
    (fv_Ended : PySem.W.kitOne K (.ref c_Ended) (.type "ValueError") = some true)
    (fx_1 : PySem.W.kitOne K (.ref c_NoHandle) (.ref c_Ended) = some false)
    (fe_1 : PySem.W.exmOne K (.ref c_NoHandle) (.ref c_NoHandle) = some true)
    (fe_2 : PySem.W.exmOne K (.ref c_Ended) (.ref c_NoHandle) = some false)
    (fe_3 : PySem.W.exmOne K (.ref c_Ended) (.ref c_Ended) = some true)
    (fg : PySem.W.specialIn K (.builtin "object.__class__") "__get__" = some (some (.builtin "getset_descriptor.__get__")))
    (ft : PySem.W.takesIn K (.builtin "object.__class__") = some true)
    (a_p_copied : PySem.W.nsIn K mainGlobals "_copied" = some (some (.ref f_p_copied)))
    (l_p_copied : K.lookup f_p_copied = some ⟨oc_p_copied, od_p_copied, .func (PySem.W.fnOf "_copied" "_copied" (defArgs s_p_copied) (defBody s_p_copied) (defScope s_p_copied) .none kV_p_copied dc_p_copied pm_p_copied an_p_copied cd_p_copied ct_p_copied), sl_p_copied⟩)
    (q_p_copied : PySem.W.codeIn K cd_p_copied "_copied" = true)
    (k_p_copied : PySem.W.keepIn K (.ref f_p_copied) = true)
    (a_NoHandle_init : PySem.W.findIn K (.ref c_NoHandle) "__init__" = some (some (.ref f_NoHandle_init)))
    (i_NoHandle_init : PySem.W.isFn K (.ref f_NoHandle_init) = true)
    (l_NoHandle_init : K.lookup f_NoHandle_init = some ⟨oc_NoHandle_init, od_NoHandle_init, .func (PySem.W.fnOf "__init__" "NoHandle.__init__" (defArgs s_NoHandle_init) (defBody s_NoHandle_init) (defScope s_NoHandle_init) .none kV_NoHandle_init dc_NoHandle_init pm_NoHandle_init an_NoHandle_init cd_NoHandle_init ct_NoHandle_init), sl_NoHandle_init⟩)
    (q_NoHandle_init : PySem.W.codeIn K cd_NoHandle_init "NoHandle.__init__" = true)
    (k_NoHandle_init : PySem.W.keepIn K (.ref f_NoHandle_init) = true)
    (a_Ended_init : PySem.W.findIn K (.ref c_Ended) "__init__" = some (some (.ref f_Ended_init)))
    (i_Ended_init : PySem.W.isFn K (.ref f_Ended_init) = true)
    (l_Ended_init : K.lookup f_Ended_init = some ⟨oc_Ended_init, od_Ended_init, .func (PySem.W.fnOf "__init__" "Ended.__init__" (defArgs s_Ended_init) (defBody s_Ended_init) (defScope s_Ended_init) .none kV_Ended_init dc_Ended_init pm_Ended_init an_Ended_init cd_Ended_init ct_Ended_init), sl_Ended_init⟩)
    (q_Ended_init : PySem.W.codeIn K cd_Ended_init "Ended.__init__" = true)
    (k_Ended_init : PySem.W.keepIn K (.ref f_Ended_init) = true)
    (a_is_whole : PySem.W.nsIn K mainGlobals "is_whole" = some (some (.ref f_is_whole)))
    (l_is_whole : K.lookup f_is_whole = some ⟨oc_is_whole, od_is_whole, .func (PySem.W.fnOf "is_whole" "is_whole" (defArgs s_is_whole) (defBody s_is_whole) (defScope s_is_whole) .none kV_is_whole dc_is_whole pm_is_whole an_is_whole cd_is_whole ct_is_whole), sl_is_whole⟩)
    (q_is_whole : PySem.W.codeIn K cd_is_whole "is_whole" = true)
    (k_is_whole : PySem.W.keepIn K (.ref f_is_whole) = true)
    (a_Table_init : PySem.W.findIn K (.ref c_Table) "__init__" = some (some (.ref f_Table_init)))
    (i_Table_init : PySem.W.isFn K (.ref f_Table_init) = true)
    (l_Table_init : K.lookup f_Table_init = some ⟨oc_Table_init, od_Table_init, .func (PySem.W.fnOf "__init__" "Table.__init__" (defArgs s_Table_init) (defBody s_Table_init) (defScope s_Table_init) .none kV_Table_init dc_Table_init pm_Table_init an_Table_init cd_Table_init ct_Table_init), sl_Table_init⟩)
    (q_Table_init : PySem.W.codeIn K cd_Table_init "Table.__init__" = true)
    (k_Table_init : PySem.W.keepIn K (.ref f_Table_init) = true)
    (a_Table_begin : PySem.W.findIn K (.ref c_Table) "begin" = some (some (.ref f_Table_begin)))
    (i_Table_begin : PySem.W.isFn K (.ref f_Table_begin) = true)
    (l_Table_begin : K.lookup f_Table_begin = some ⟨oc_Table_begin, od_Table_begin, .func (PySem.W.fnOf "begin" "Table.begin" (defArgs s_Table_begin) (defBody s_Table_begin) (defScope s_Table_begin) .none kV_Table_begin dc_Table_begin pm_Table_begin an_Table_begin cd_Table_begin ct_Table_begin), sl_Table_begin⟩)
    (q_Table_begin : PySem.W.codeIn K cd_Table_begin "Table.begin" = true)
    (k_Table_begin : PySem.W.keepIn K (.ref f_Table_begin) = true)
    (a_Table_look : PySem.W.findIn K (.ref c_Table) "look" = some (some (.ref f_Table_look)))
    (i_Table_look : PySem.W.isFn K (.ref f_Table_look) = true)
    (l_Table_look : K.lookup f_Table_look = some ⟨oc_Table_look, od_Table_look, .func (PySem.W.fnOf "look" "Table.look" (defArgs s_Table_look) (defBody s_Table_look) (defScope s_Table_look) .none kV_Table_look dc_Table_look pm_Table_look an_Table_look cd_Table_look ct_Table_look), sl_Table_look⟩)
    (q_Table_look : PySem.W.codeIn K cd_Table_look "Table.look" = true)
    (k_Table_look : PySem.W.keepIn K (.ref f_Table_look) = true)
    (a_Table_end : PySem.W.findIn K (.ref c_Table) "end" = some (some (.ref f_Table_end)))
    (i_Table_end : PySem.W.isFn K (.ref f_Table_end) = true)
    (l_Table_end : K.lookup f_Table_end = some ⟨oc_Table_end, od_Table_end, .func (PySem.W.fnOf "end" "Table.end" (defArgs s_Table_end) (defBody s_Table_end) (defScope s_Table_end) .none kV_Table_end dc_Table_end pm_Table_end an_Table_end cd_Table_end ct_Table_end), sl_Table_end⟩)
    (q_Table_end : PySem.W.codeIn K cd_Table_end "Table.end" = true)
    (k_Table_end : PySem.W.keepIn K (.ref f_Table_end) = true)
    (a_Table_p_living_place : PySem.W.findIn K (.ref c_Table) "_living_place" = some (some (.ref f_Table_p_living_place)))
    (i_Table_p_living_place : PySem.W.isFn K (.ref f_Table_p_living_place) = true)
    (l_Table_p_living_place : K.lookup f_Table_p_living_place = some ⟨oc_Table_p_living_place, od_Table_p_living_place, .func (PySem.W.fnOf "_living_place" "Table._living_place" (defArgs s_Table_p_living_place) (defBody s_Table_p_living_place) (defScope s_Table_p_living_place) .none kV_Table_p_living_place dc_Table_p_living_place pm_Table_p_living_place an_Table_p_living_place cd_Table_p_living_place ct_Table_p_living_place), sl_Table_p_living_place⟩)
    (q_Table_p_living_place : PySem.W.codeIn K cd_Table_p_living_place "Table._living_place" = true)
    (k_Table_p_living_place : PySem.W.keepIn K (.ref f_Table_p_living_place) = true)
    (a_Table_alive : PySem.W.findIn K (.ref c_Table) "alive" = some (some (.ref f_Table_alive)))
    (i_Table_alive : PySem.W.isFn K (.ref f_Table_alive) = true)
    (l_Table_alive : K.lookup f_Table_alive = some ⟨oc_Table_alive, od_Table_alive, .func (PySem.W.fnOf "alive" "Table.alive" (defArgs s_Table_alive) (defBody s_Table_alive) (defScope s_Table_alive) .none kV_Table_alive dc_Table_alive pm_Table_alive an_Table_alive cd_Table_alive ct_Table_alive), sl_Table_alive⟩)
    (q_Table_alive : PySem.W.codeIn K cd_Table_alive "Table.alive" = true)
    (k_Table_alive : PySem.W.keepIn K (.ref f_Table_alive) = true)
    (a_Table_most : PySem.W.findIn K (.ref c_Table) "most" = some (some (.ref f_Table_most)))
    (i_Table_most : PySem.W.isFn K (.ref f_Table_most) = true)
    (l_Table_most : K.lookup f_Table_most = some ⟨oc_Table_most, od_Table_most, .func (PySem.W.fnOf "most" "Table.most" (defArgs s_Table_most) (defBody s_Table_most) (defScope s_Table_most) .none kV_Table_most dc_Table_most pm_Table_most an_Table_most cd_Table_most ct_Table_most), sl_Table_most⟩)
    (q_Table_most : PySem.W.codeIn K cd_Table_most "Table.most" = true)
    (k_Table_most : PySem.W.keepIn K (.ref f_Table_most) = true)
    (a_Table_twin : PySem.W.findIn K (.ref c_Table) "twin" = some (some (.ref f_Table_twin)))
    (i_Table_twin : PySem.W.isFn K (.ref f_Table_twin) = true)
    (l_Table_twin : K.lookup f_Table_twin = some ⟨oc_Table_twin, od_Table_twin, .func (PySem.W.fnOf "twin" "Table.twin" (defArgs s_Table_twin) (defBody s_Table_twin) (defScope s_Table_twin) .none kV_Table_twin dc_Table_twin pm_Table_twin an_Table_twin cd_Table_twin ct_Table_twin), sl_Table_twin⟩)
    (q_Table_twin : PySem.W.codeIn K cd_Table_twin "Table.twin" = true)
    (k_Table_twin : PySem.W.keepIn K (.ref f_Table_twin) = true)
    (a_Table_len : PySem.W.findIn K (.ref c_Table) "__len__" = some (some (.ref f_Table_len)))
    (i_Table_len : PySem.W.isFn K (.ref f_Table_len) = true)
    (l_Table_len : K.lookup f_Table_len = some ⟨oc_Table_len, od_Table_len, .func (PySem.W.fnOf "__len__" "Table.__len__" (defArgs s_Table_len) (defBody s_Table_len) (defScope s_Table_len) .none kV_Table_len dc_Table_len pm_Table_len an_Table_len cd_Table_len ct_Table_len), sl_Table_len⟩)
    (q_Table_len : PySem.W.codeIn K cd_Table_len "Table.__len__" = true)
    (k_Table_len : PySem.W.keepIn K (.ref f_Table_len) = true)
    (a_p_is_handle : PySem.W.nsIn K mainGlobals "_is_handle" = some (some (.ref f_p_is_handle)))
    (l_p_is_handle : K.lookup f_p_is_handle = some ⟨oc_p_is_handle, od_p_is_handle, .func (PySem.W.fnOf "_is_handle" "_is_handle" (defArgs s_p_is_handle) (defBody s_p_is_handle) (defScope s_p_is_handle) .none kV_p_is_handle dc_p_is_handle pm_p_is_handle an_p_is_handle cd_p_is_handle ct_p_is_handle), sl_p_is_handle⟩)
    (q_p_is_handle : PySem.W.codeIn K cd_p_is_handle "_is_handle" = true)
    (k_p_is_handle : PySem.W.keepIn K (.ref f_p_is_handle) = true)
    (a_box : PySem.W.nsIn K mainGlobals "_law_box" = some (some (.ref f_box)))
    (l_box : K.lookup f_box = some ⟨oc_box, od_box, .func (PySem.W.fnOf "_law_box" "_law_box" (defArgs s_box) (defBody s_box) (defScope s_box) .none kV_box dc_box pm_box an_box cd_box ct_box), sl_box⟩)
    (q_box : PySem.W.codeIn K cd_box "_law_box" = true)
    (k_box : PySem.W.keepIn K (.ref f_box) = true)
    (a_mixed : PySem.W.nsIn K mainGlobals "_law_mixed" = some (some (.ref f_mixed)))
    (l_mixed : K.lookup f_mixed = some ⟨oc_mixed, od_mixed, .func (PySem.W.fnOf "_law_mixed" "_law_mixed" (defArgs s_mixed) (defBody s_mixed) (defScope s_mixed) .none kV_mixed dc_mixed pm_mixed an_mixed cd_mixed ct_mixed), sl_mixed⟩)
    (q_mixed : PySem.W.codeIn K cd_mixed "_law_mixed" = true)
    (k_mixed : PySem.W.keepIn K (.ref f_mixed) = true)
    (a_take : PySem.W.nsIn K mainGlobals "_law_take" = some (some (.ref f_take)))
    (l_take : K.lookup f_take = some ⟨oc_take, od_take, .func (PySem.W.fnOf "_law_take" "_law_take" (defArgs s_take) (defBody s_take) (defScope s_take) .none kV_take dc_take pm_take an_take cd_take ct_take), sl_take⟩)
    (q_take : PySem.W.codeIn K cd_take "_law_take" = true)
    (k_take : PySem.W.keepIn K (.ref f_take) = true)
    (a_figure : PySem.W.nsIn K mainGlobals "_law_figure" = some (some (.ref f_figure)))
    (l_figure : K.lookup f_figure = some ⟨oc_figure, od_figure, .func (PySem.W.fnOf "_law_figure" "_law_figure" (defArgs s_figure) (defBody s_figure) (defScope s_figure) .none kV_figure dc_figure pm_figure an_figure cd_figure ct_figure), sl_figure⟩)
    (q_figure : PySem.W.codeIn K cd_figure "_law_figure" = true)
    (k_figure : PySem.W.keepIn K (.ref f_figure) = true)
    (a_begun : PySem.W.nsIn K mainGlobals "_law_begun" = some (some (.ref f_begun)))
    (l_begun : K.lookup f_begun = some ⟨oc_begun, od_begun, .func (PySem.W.fnOf "_law_begun" "_law_begun" (defArgs s_begun) (defBody s_begun) (defScope s_begun) .none kV_begun dc_begun pm_begun an_begun cd_begun ct_begun), sl_begun⟩)
    (q_begun : PySem.W.codeIn K cd_begun "_law_begun" = true)
    (k_begun : PySem.W.keepIn K (.ref f_begun) = true)
    (a_stands : PySem.W.nsIn K mainGlobals "_law_stands" = some (some (.ref f_stands)))
    (l_stands : K.lookup f_stands = some ⟨oc_stands, od_stands, .func (PySem.W.fnOf "_law_stands" "_law_stands" (defArgs s_stands) (defBody s_stands) (defScope s_stands) .none kV_stands dc_stands pm_stands an_stands cd_stands ct_stands), sl_stands⟩)
    (q_stands : PySem.W.codeIn K cd_stands "_law_stands" = true)
    (k_stands : PySem.W.keepIn K (.ref f_stands) = true)
    (a_odd : PySem.W.nsIn K mainGlobals "_law_odd" = some (some (.ref f_odd)))
    (l_odd : K.lookup f_odd = some ⟨oc_odd, od_odd, .func (PySem.W.fnOf "_law_odd" "_law_odd" (defArgs s_odd) (defBody s_odd) (defScope s_odd) .none kV_odd dc_odd pm_odd an_odd cd_odd ct_odd), sl_odd⟩)
    (q_odd : PySem.W.codeIn K cd_odd "_law_odd" = true)
    (k_odd : PySem.W.keepIn K (.ref f_odd) = true)
    (a_due : PySem.W.nsIn K mainGlobals "_law_due" = some (some (.ref f_due)))
    (l_due : K.lookup f_due = some ⟨oc_due, od_due, .func (PySem.W.fnOf "_law_due" "_law_due" (defArgs s_due) (defBody s_due) (defScope s_due) .none kV_due dc_due pm_due an_due cd_due ct_due), sl_due⟩)
    (q_due : PySem.W.codeIn K cd_due "_law_due" = true)
    (k_due : PySem.W.keepIn K (.ref f_due) = true)
    (a_asked : PySem.W.nsIn K mainGlobals "_law_asked" = some (some (.ref f_asked)))
    (l_asked : K.lookup f_asked = some ⟨oc_asked, od_asked, .func (PySem.W.fnOf "_law_asked" "_law_asked" (defArgs s_asked) (defBody s_asked) (defScope s_asked) .none kV_asked dc_asked pm_asked an_asked cd_asked ct_asked), sl_asked⟩)
    (q_asked : PySem.W.codeIn K cd_asked "_law_asked" = true)
    (k_asked : PySem.W.keepIn K (.ref f_asked) = true)
    (a_law : PySem.W.nsIn K mainGlobals "law" = some (some (.ref f_law)))
    (l_law : K.lookup f_law = some ⟨oc_law, od_law, .func (PySem.W.fnOf "law" "law" (defArgs s_law) (defBody s_law) (defScope s_law) .none kV_law dc_law pm_law an_law cd_law ct_law), sl_law⟩)
    (q_law : PySem.W.codeIn K cd_law "law" = true)
    (k_law : PySem.W.keepIn K (.ref f_law) = true)
    (z_ValueError : PySem.W.nsIn K mainGlobals "ValueError" = some none)
    (z_isinstance : PySem.W.nsIn K mainGlobals "isinstance" = some none)
    (z_int : PySem.W.nsIn K mainGlobals "int" = some none)
    (z_bool : PySem.W.nsIn K mainGlobals "bool" = some none)
    (z_tuple : PySem.W.nsIn K mainGlobals "tuple" = some none)
    (z_list : PySem.W.nsIn K mainGlobals "list" = some none)
    (z_len : PySem.W.nsIn K mainGlobals "len" = some none)
    (z_max : PySem.W.nsIn K mainGlobals "max" = some none)
    (z_sorted : PySem.W.nsIn K mainGlobals "sorted" = some none)
    (z_all : PySem.W.nsIn K mainGlobals "all" = some none)
    (z_any : PySem.W.nsIn K mainGlobals "any" = some none)
    (z_range : PySem.W.nsIn K mainGlobals "range" = some none)
    (z_dict : PySem.W.nsIn K mainGlobals "dict" = some none)
    (z_zip : PySem.W.nsIn K mainGlobals "zip" = some none)
    (h_heappop : PySem.W.nsIn K mainGlobals "heappop" = some (some (.builtin "_heapq.heappop")))
    (h_heappush : PySem.W.nsIn K mainGlobals "heappush" = some (some (.builtin "_heapq.heappush")))
    : ∃ fd : FuncData, (∀ (s : Shared) (v : Value), BindsTo s fd ⟨[v], []⟩ [("_law_script", v)]) ∧ ∀ base : Heap, K.In base → base.Ns mainGlobals mg → FnOk l.prog w K mg base CX0 20 fa fd ["_law_script"] (spLaw K) := by
  have e : f_law = fa := (Value.ref.inj (Option.some.inj (hfa.symm.trans (PySem.W.mg_of X G a_law)))).symm
  subst e
  have F_p_copied := fun_mk (st := s_p_copied) l_p_copied q_p_copied k_p_copied
  have B_p_copied := F_p_copied.binds (ps := ["thing"]) fun _ _ _ _ _ _ us hl => match us, hl with | [_], _ => rfl
  have F_NoHandle_init := fun_mk (st := s_NoHandle_init) l_NoHandle_init q_NoHandle_init k_NoHandle_init
  have B_NoHandle_init := F_NoHandle_init.binds (ps := ["self", "handle"]) fun _ _ _ _ _ _ us hl => match us, hl with | [_, _], _ => rfl
  have F_Ended_init := fun_mk (st := s_Ended_init) l_Ended_init q_Ended_init k_Ended_init
  have B_Ended_init := F_Ended_init.binds (ps := ["self", "handle"]) fun _ _ _ _ _ _ us hl => match us, hl with | [_, _], _ => rfl
  have F_is_whole := fun_mk (st := s_is_whole) l_is_whole q_is_whole k_is_whole
  have B_is_whole := F_is_whole.binds (ps := ["thing"]) fun _ _ _ _ _ _ us hl => match us, hl with | [_], _ => rfl
  have F_Table_init := fun_mk (st := s_Table_init) l_Table_init q_Table_init k_Table_init
  have B_Table_init := F_Table_init.binds (ps := ["self"]) fun _ _ _ _ _ _ us hl => match us, hl with | [_], _ => rfl
  have F_Table_begin := fun_mk (st := s_Table_begin) l_Table_begin q_Table_begin k_Table_begin
  have B_Table_begin := F_Table_begin.binds (ps := ["self", "number"]) fun _ _ _ _ _ _ us hl => match us, hl with | [_, _], _ => rfl
  have F_Table_look := fun_mk (st := s_Table_look) l_Table_look q_Table_look k_Table_look
  have B_Table_look := F_Table_look.binds (ps := ["self", "handle"]) fun _ _ _ _ _ _ us hl => match us, hl with | [_, _], _ => rfl
  have F_Table_end := fun_mk (st := s_Table_end) l_Table_end q_Table_end k_Table_end
  have B_Table_end := F_Table_end.binds (ps := ["self", "handle"]) fun _ _ _ _ _ _ us hl => match us, hl with | [_, _], _ => rfl
  have F_Table_p_living_place := fun_mk (st := s_Table_p_living_place) l_Table_p_living_place q_Table_p_living_place k_Table_p_living_place
  have B_Table_p_living_place := F_Table_p_living_place.binds (ps := ["self", "handle"]) fun _ _ _ _ _ _ us hl => match us, hl with | [_, _], _ => rfl
  have F_Table_alive := fun_mk (st := s_Table_alive) l_Table_alive q_Table_alive k_Table_alive
  have B_Table_alive := F_Table_alive.binds (ps := ["self"]) fun _ _ _ _ _ _ us hl => match us, hl with | [_], _ => rfl
  have F_Table_most := fun_mk (st := s_Table_most) l_Table_most q_Table_most k_Table_most
  have B_Table_most := F_Table_most.binds (ps := ["self"]) fun _ _ _ _ _ _ us hl => match us, hl with | [_], _ => rfl
  have F_Table_twin := fun_mk (st := s_Table_twin) l_Table_twin q_Table_twin k_Table_twin
  have B_Table_twin := F_Table_twin.binds (ps := ["self"]) fun _ _ _ _ _ _ us hl => match us, hl with | [_], _ => rfl
  have F_Table_len := fun_mk (st := s_Table_len) l_Table_len q_Table_len k_Table_len
  have B_Table_len := F_Table_len.binds (ps := ["self"]) fun _ _ _ _ _ _ us hl => match us, hl with | [_], _ => rfl
  have F_p_is_handle := fun_mk (st := s_p_is_handle) l_p_is_handle q_p_is_handle k_p_is_handle
  have B_p_is_handle := F_p_is_handle.binds (ps := ["thing"]) fun _ _ _ _ _ _ us hl => match us, hl with | [_], _ => rfl
  have F_box := fun_mk (st := s_box) l_box q_box k_box
  have B_box := F_box.binds (ps := ["_law_script"]) fun _ _ _ _ _ _ us hl => match us, hl with | [_], _ => rfl
  have F_mixed := fun_mk (st := s_mixed) l_mixed q_mixed k_mixed
  have B_mixed := F_mixed.binds (ps := ["_law_cell", "_law_k"]) fun _ _ _ _ _ _ us hl => match us, hl with | [_, _], _ => rfl
  have F_take := fun_mk (st := s_take) l_take q_take k_take
  have B_take := F_take.binds (ps := ["_law_box_here", "_law_size"]) fun _ _ _ _ _ _ us hl => match us, hl with | [_, _], _ => rfl
  have F_figure := fun_mk (st := s_figure) l_figure q_figure k_figure
  have B_figure := F_figure.binds (ps := ["_law_box_here"]) fun _ _ _ _ _ _ us hl => match us, hl with | [_], _ => rfl
  have F_begun := fun_mk (st := s_begun) l_begun q_begun k_begun
  have B_begun := F_begun.binds (ps := ["_law_model", "_law_figure_here"]) fun _ _ _ _ _ _ us hl => match us, hl with | [_, _], _ => rfl
  have F_stands := fun_mk (st := s_stands) l_stands q_stands k_stands
  have B_stands := F_stands.binds (ps := ["_law_table", "_law_model"]) fun _ _ _ _ _ _ us hl => match us, hl with | [_, _], _ => rfl
  have F_odd := fun_mk (st := s_odd) l_odd q_odd k_odd
  have B_odd := F_odd.binds (ps := ["_law_box_here", "_law_model"]) fun _ _ _ _ _ _ us hl => match us, hl with | [_, _], _ => rfl
  have F_due := fun_mk (st := s_due) l_due q_due k_due
  have B_due := F_due.binds (ps := ["_law_model", "_law_grip"]) fun _ _ _ _ _ _ us hl => match us, hl with | [_, _], _ => rfl
  have F_asked := fun_mk (st := s_asked) l_asked q_asked k_asked
  have B_asked := F_asked.binds (ps := ["_law_table", "_law_word", "_law_grip"]) fun _ _ _ _ _ _ us hl => match us, hl with | [_, _, _], _ => rfl
  have F_law := fun_mk (st := s_law) l_law q_law k_law
  have B_law := F_law.binds (ps := ["_law_script"]) fun _ _ _ _ _ _ us hl => match us, hl with | [_], _ => rfl
  have T : Txt K mg { c_Table := c_Table, c_NoHandle := c_NoHandle, c_Ended := c_Ended, c_PactError := c_PactError, f_p_copied := f_p_copied, d_p_copied := PySem.W.fnOf "_copied" "_copied" (defArgs s_p_copied) (defBody s_p_copied) (defScope s_p_copied) .none kV_p_copied dc_p_copied pm_p_copied an_p_copied cd_p_copied ct_p_copied, f_NoHandle_init := f_NoHandle_init, d_NoHandle_init := PySem.W.fnOf "__init__" "NoHandle.__init__" (defArgs s_NoHandle_init) (defBody s_NoHandle_init) (defScope s_NoHandle_init) .none kV_NoHandle_init dc_NoHandle_init pm_NoHandle_init an_NoHandle_init cd_NoHandle_init ct_NoHandle_init, f_Ended_init := f_Ended_init, d_Ended_init := PySem.W.fnOf "__init__" "Ended.__init__" (defArgs s_Ended_init) (defBody s_Ended_init) (defScope s_Ended_init) .none kV_Ended_init dc_Ended_init pm_Ended_init an_Ended_init cd_Ended_init ct_Ended_init, f_is_whole := f_is_whole, d_is_whole := PySem.W.fnOf "is_whole" "is_whole" (defArgs s_is_whole) (defBody s_is_whole) (defScope s_is_whole) .none kV_is_whole dc_is_whole pm_is_whole an_is_whole cd_is_whole ct_is_whole, f_Table_init := f_Table_init, d_Table_init := PySem.W.fnOf "__init__" "Table.__init__" (defArgs s_Table_init) (defBody s_Table_init) (defScope s_Table_init) .none kV_Table_init dc_Table_init pm_Table_init an_Table_init cd_Table_init ct_Table_init, f_Table_begin := f_Table_begin, d_Table_begin := PySem.W.fnOf "begin" "Table.begin" (defArgs s_Table_begin) (defBody s_Table_begin) (defScope s_Table_begin) .none kV_Table_begin dc_Table_begin pm_Table_begin an_Table_begin cd_Table_begin ct_Table_begin, f_Table_look := f_Table_look, d_Table_look := PySem.W.fnOf "look" "Table.look" (defArgs s_Table_look) (defBody s_Table_look) (defScope s_Table_look) .none kV_Table_look dc_Table_look pm_Table_look an_Table_look cd_Table_look ct_Table_look, f_Table_end := f_Table_end, d_Table_end := PySem.W.fnOf "end" "Table.end" (defArgs s_Table_end) (defBody s_Table_end) (defScope s_Table_end) .none kV_Table_end dc_Table_end pm_Table_end an_Table_end cd_Table_end ct_Table_end, f_Table_p_living_place := f_Table_p_living_place, d_Table_p_living_place := PySem.W.fnOf "_living_place" "Table._living_place" (defArgs s_Table_p_living_place) (defBody s_Table_p_living_place) (defScope s_Table_p_living_place) .none kV_Table_p_living_place dc_Table_p_living_place pm_Table_p_living_place an_Table_p_living_place cd_Table_p_living_place ct_Table_p_living_place, f_Table_alive := f_Table_alive, d_Table_alive := PySem.W.fnOf "alive" "Table.alive" (defArgs s_Table_alive) (defBody s_Table_alive) (defScope s_Table_alive) .none kV_Table_alive dc_Table_alive pm_Table_alive an_Table_alive cd_Table_alive ct_Table_alive, f_Table_most := f_Table_most, d_Table_most := PySem.W.fnOf "most" "Table.most" (defArgs s_Table_most) (defBody s_Table_most) (defScope s_Table_most) .none kV_Table_most dc_Table_most pm_Table_most an_Table_most cd_Table_most ct_Table_most, f_Table_twin := f_Table_twin, d_Table_twin := PySem.W.fnOf "twin" "Table.twin" (defArgs s_Table_twin) (defBody s_Table_twin) (defScope s_Table_twin) .none kV_Table_twin dc_Table_twin pm_Table_twin an_Table_twin cd_Table_twin ct_Table_twin, f_Table_len := f_Table_len, d_Table_len := PySem.W.fnOf "__len__" "Table.__len__" (defArgs s_Table_len) (defBody s_Table_len) (defScope s_Table_len) .none kV_Table_len dc_Table_len pm_Table_len an_Table_len cd_Table_len ct_Table_len, f_p_is_handle := f_p_is_handle, d_p_is_handle := PySem.W.fnOf "_is_handle" "_is_handle" (defArgs s_p_is_handle) (defBody s_p_is_handle) (defScope s_p_is_handle) .none kV_p_is_handle dc_p_is_handle pm_p_is_handle an_p_is_handle cd_p_is_handle ct_p_is_handle, f_box := f_box, d_box := PySem.W.fnOf "_law_box" "_law_box" (defArgs s_box) (defBody s_box) (defScope s_box) .none kV_box dc_box pm_box an_box cd_box ct_box, f_mixed := f_mixed, d_mixed := PySem.W.fnOf "_law_mixed" "_law_mixed" (defArgs s_mixed) (defBody s_mixed) (defScope s_mixed) .none kV_mixed dc_mixed pm_mixed an_mixed cd_mixed ct_mixed, f_take := f_take, d_take := PySem.W.fnOf "_law_take" "_law_take" (defArgs s_take) (defBody s_take) (defScope s_take) .none kV_take dc_take pm_take an_take cd_take ct_take, f_figure := f_figure, d_figure := PySem.W.fnOf "_law_figure" "_law_figure" (defArgs s_figure) (defBody s_figure) (defScope s_figure) .none kV_figure dc_figure pm_figure an_figure cd_figure ct_figure, f_begun := f_begun, d_begun := PySem.W.fnOf "_law_begun" "_law_begun" (defArgs s_begun) (defBody s_begun) (defScope s_begun) .none kV_begun dc_begun pm_begun an_begun cd_begun ct_begun, f_stands := f_stands, d_stands := PySem.W.fnOf "_law_stands" "_law_stands" (defArgs s_stands) (defBody s_stands) (defScope s_stands) .none kV_stands dc_stands pm_stands an_stands cd_stands ct_stands, f_odd := f_odd, d_odd := PySem.W.fnOf "_law_odd" "_law_odd" (defArgs s_odd) (defBody s_odd) (defScope s_odd) .none kV_odd dc_odd pm_odd an_odd cd_odd ct_odd, f_due := f_due, d_due := PySem.W.fnOf "_law_due" "_law_due" (defArgs s_due) (defBody s_due) (defScope s_due) .none kV_due dc_due pm_due an_due cd_due ct_due, f_asked := f_asked, d_asked := PySem.W.fnOf "_law_asked" "_law_asked" (defArgs s_asked) (defBody s_asked) (defScope s_asked) .none kV_asked dc_asked pm_asked an_asked cd_asked ct_asked, f_law := f_law, d_law := PySem.W.fnOf "law" "law" (defArgs s_law) (defBody s_law) (defScope s_law) .none kV_law dc_law pm_law an_law cd_law ct_law } := { cl_Table := ⟨pg_Table, hd_Table, po_Table, sa_Table⟩, mk_Table := ⟨mk_Table, a_Table_init, i_Table_init, kc_Table⟩, g_Table := PySem.W.mg_of X G a_Table, n_Table__turns := n_Table__turns, n_Table__numbers := n_Table__numbers, n_Table__free := n_Table__free, n_Table__most := n_Table__most, x_NoHandle := ⟨⟨_, _, _, _, _, _, _, _, _, _, _, _, _, _, _, xl_NoHandle, xm_NoHandle⟩, xs_NoHandle, xe_NoHandle, xy_NoHandle, xk_NoHandle⟩, xi_NoHandle := a_NoHandle_init, xt_NoHandle := beq_iff_eq.mp i_NoHandle_init, xf_NoHandle := ⟨xg_NoHandle, xo_NoHandle, xe_NoHandle, xd_NoHandle⟩, g_NoHandle := PySem.W.mg_of X G a_NoHandle, n_NoHandle_handle := n_NoHandle_handle, x_Ended := ⟨⟨_, _, _, _, _, _, _, _, _, _, _, _, _, _, _, xl_Ended, xm_Ended⟩, xs_Ended, xe_Ended, xy_Ended, xk_Ended⟩, xi_Ended := a_Ended_init, xt_Ended := beq_iff_eq.mp i_Ended_init, xf_Ended := ⟨xg_Ended, xo_Ended, xe_Ended, xd_Ended⟩, g_Ended := PySem.W.mg_of X G a_Ended, n_Ended_handle := n_Ended_handle, md_PactError := ⟨da_PactError, dr_PactError, df_PactError⟩, g_PactError := PySem.W.mg_of X G a_PactError, fa_NoHandle := fa_NoHandle, fm_NoHandle := fm_NoHandle, fp_NoHandle := fp_NoHandle, fv_NoHandle := fv_NoHandle, fa_Ended := fa_Ended, fm_Ended := fm_Ended, fp_Ended := fp_Ended, fv_Ended := fv_Ended, fx_1 := fx_1, fe_1 := fe_1, fe_2 := fe_2, fe_3 := fe_3, fg := fg, ft := ft, F_p_copied := F_p_copied, B_p_copied := B_p_copied, g_p_copied := PySem.W.mg_of X G a_p_copied, k_p_copied := k_p_copied, F_NoHandle_init := F_NoHandle_init, B_NoHandle_init := B_NoHandle_init, F_Ended_init := F_Ended_init, B_Ended_init := B_Ended_init, F_is_whole := F_is_whole, B_is_whole := B_is_whole, g_is_whole := PySem.W.mg_of X G a_is_whole, k_is_whole := k_is_whole, F_Table_init := F_Table_init, B_Table_init := B_Table_init, F_Table_begin := F_Table_begin, B_Table_begin := B_Table_begin, m_Table_begin := ⟨a_Table_begin, i_Table_begin, k_Table_begin⟩, F_Table_look := F_Table_look, B_Table_look := B_Table_look, m_Table_look := ⟨a_Table_look, i_Table_look, k_Table_look⟩, F_Table_end := F_Table_end, B_Table_end := B_Table_end, m_Table_end := ⟨a_Table_end, i_Table_end, k_Table_end⟩, F_Table_p_living_place := F_Table_p_living_place, B_Table_p_living_place := B_Table_p_living_place, m_Table_p_living_place := ⟨a_Table_p_living_place, i_Table_p_living_place, k_Table_p_living_place⟩, F_Table_alive := F_Table_alive, B_Table_alive := B_Table_alive, m_Table_alive := ⟨a_Table_alive, i_Table_alive, k_Table_alive⟩, F_Table_most := F_Table_most, B_Table_most := B_Table_most, m_Table_most := ⟨a_Table_most, i_Table_most, k_Table_most⟩, F_Table_twin := F_Table_twin, B_Table_twin := B_Table_twin, m_Table_twin := ⟨a_Table_twin, i_Table_twin, k_Table_twin⟩, F_Table_len := F_Table_len, B_Table_len := B_Table_len, m_Table_len := ⟨a_Table_len, i_Table_len, k_Table_len⟩, F_p_is_handle := F_p_is_handle, B_p_is_handle := B_p_is_handle, g_p_is_handle := PySem.W.mg_of X G a_p_is_handle, k_p_is_handle := k_p_is_handle, F_box := F_box, B_box := B_box, g_box := PySem.W.mg_of X G a_box, k_box := k_box, F_mixed := F_mixed, B_mixed := B_mixed, g_mixed := PySem.W.mg_of X G a_mixed, k_mixed := k_mixed, F_take := F_take, B_take := B_take, g_take := PySem.W.mg_of X G a_take, k_take := k_take, F_figure := F_figure, B_figure := B_figure, g_figure := PySem.W.mg_of X G a_figure, k_figure := k_figure, F_begun := F_begun, B_begun := B_begun, g_begun := PySem.W.mg_of X G a_begun, k_begun := k_begun, F_stands := F_stands, B_stands := B_stands, g_stands := PySem.W.mg_of X G a_stands, k_stands := k_stands, F_odd := F_odd, B_odd := B_odd, g_odd := PySem.W.mg_of X G a_odd, k_odd := k_odd, F_due := F_due, B_due := B_due, g_due := PySem.W.mg_of X G a_due, k_due := k_due, F_asked := F_asked, B_asked := B_asked, g_asked := PySem.W.mg_of X G a_asked, k_asked := k_asked, F_law := F_law, B_law := B_law, g_law := PySem.W.mg_of X G a_law, k_law := k_law, z_ValueError := PySem.W.mg_none_of X G z_ValueError, z_isinstance := PySem.W.mg_none_of X G z_isinstance, z_int := PySem.W.mg_none_of X G z_int, z_bool := PySem.W.mg_none_of X G z_bool, z_tuple := PySem.W.mg_none_of X G z_tuple, z_list := PySem.W.mg_none_of X G z_list, z_len := PySem.W.mg_none_of X G z_len, z_max := PySem.W.mg_none_of X G z_max, z_sorted := PySem.W.mg_none_of X G z_sorted, z_all := PySem.W.mg_none_of X G z_all, z_any := PySem.W.mg_none_of X G z_any, z_range := PySem.W.mg_none_of X G z_range, z_dict := PySem.W.mg_none_of X G z_dict, z_zip := PySem.W.mg_none_of X G z_zip, h_heappop := PySem.W.mg_of X G h_heappop, h_heappush := PySem.W.mg_of X G h_heappush }
  exact ⟨_, fun s v => .of_eq rfl, fun base _ _ => (ok_law T).mono (by decide)⟩
theorem walk {l : PySem.W.OpenLaw} {q : Program} {loose : List Str} {XP : (Str → Option Value) → Heap → Prop} {YP : World → Heap → Prop} {d : DefRec} {K : Params → PySem.W.Frag} (hn : l.most = some 63) (hdf : d.params.defaults = [])
    (hY : ∀ (w : World) (h : Heap), YP w h → (K w.params).In h)
    (F : ∀ (w : World) (mg : Str → Option Value) (fa : Addr) (h : Heap), (K w.params).In h → h.Ns mainGlobals mg → mg d.name = some (.ref fa) →
      ∃ fd : FuncData, (∀ (s : Shared) (u : Value), BindsTo s fd ⟨[u], []⟩ [("_law_script", u)]) ∧ ∀ base : Heap, (K w.params).In base → base.Ns mainGlobals mg → FnOk l.prog w (K w.params) mg base CX0 20 fa fd ["_law_script"] (spLaw (K w.params))) :
    PySem.W.WalkO q loose XP YP l.row.toRowW d [] (fun f vs => PySem.call f vs) := L2.walk_of (n := 63) (k := 20) (x := "_law_script") (CX := fun _ => CX0) (sp := fun w => spLaw (K w.params)) hn (by decide) hdf ⟨rfl, by decide, by decide⟩ hY F (fun _ _ a ns hl _ hS => ⟨a, ns, rfl, hS, hl, fun _ => rfl⟩) fun _ _ _ _ _ z => z
end Lw
open PySem PySem.W PyProof.Rows
set_option maxRecDepth 100000 in
set_option maxHeartbeats 0 in
theorem PySem.Challenge.cw_pactford_k06_handles_refused_holds : PySem.Challenge.rw_pactford_k06_handles_refused.Holds := by
  w_on; o_law; k_head; (case hw => w_witness2)
  k_fill
  refine Lw.walk (l := PySem.Challenge.rw_pactford_k06_handles_refused) rfl rfl (fun w h Y => PySem.W.kIn_of Y) ?F
  case F =>
    intro w mg fa h KX G hmg
    refine' Lw.all_mk KX G hmg ?a_Table ?pg_Table ?hd_Table ?po_Table ?sa_Table ?mk_Table ?kc_Table ?n_Table__turns ?n_Table__numbers ?n_Table__free ?n_Table__most ?a_NoHandle ?xl_NoHandle ?xm_NoHandle ?xs_NoHandle ?xe_NoHandle ?xy_NoHandle ?xk_NoHandle ?xg_NoHandle ?xo_NoHandle ?xd_NoHandle ?n_NoHandle_handle ?a_Ended ?xl_Ended ?xm_Ended ?xs_Ended ?xe_Ended ?xy_Ended ?xk_Ended ?xg_Ended ?xo_Ended ?xd_Ended ?n_Ended_handle ?a_PactError ?da_PactError ?dr_PactError ?df_PactError ?fa_NoHandle ?fm_NoHandle ?fp_NoHandle ?fv_NoHandle ?fa_Ended ?fm_Ended ?fp_Ended ?fv_Ended ?fx_1 ?fe_1 ?fe_2 ?fe_3 ?fg ?ft ?a_p_copied ?l_p_copied ?q_p_copied ?k_p_copied ?a_NoHandle_init ?i_NoHandle_init ?l_NoHandle_init ?q_NoHandle_init ?k_NoHandle_init ?a_Ended_init ?i_Ended_init ?l_Ended_init ?q_Ended_init ?k_Ended_init ?a_is_whole ?l_is_whole ?q_is_whole ?k_is_whole ?a_Table_init ?i_Table_init ?l_Table_init ?q_Table_init ?k_Table_init ?a_Table_begin ?i_Table_begin ?l_Table_begin ?q_Table_begin ?k_Table_begin ?a_Table_look ?i_Table_look ?l_Table_look ?q_Table_look ?k_Table_look ?a_Table_end ?i_Table_end ?l_Table_end ?q_Table_end ?k_Table_end ?a_Table_p_living_place ?i_Table_p_living_place ?l_Table_p_living_place ?q_Table_p_living_place ?k_Table_p_living_place ?a_Table_alive ?i_Table_alive ?l_Table_alive ?q_Table_alive ?k_Table_alive ?a_Table_most ?i_Table_most ?l_Table_most ?q_Table_most ?k_Table_most ?a_Table_twin ?i_Table_twin ?l_Table_twin ?q_Table_twin ?k_Table_twin ?a_Table_len ?i_Table_len ?l_Table_len ?q_Table_len ?k_Table_len ?a_p_is_handle ?l_p_is_handle ?q_p_is_handle ?k_p_is_handle ?a_box ?l_box ?q_box ?k_box ?a_mixed ?l_mixed ?q_mixed ?k_mixed ?a_take ?l_take ?q_take ?k_take ?a_figure ?l_figure ?q_figure ?k_figure ?a_begun ?l_begun ?q_begun ?k_begun ?a_stands ?l_stands ?q_stands ?k_stands ?a_odd ?l_odd ?q_odd ?k_odd ?a_due ?l_due ?q_due ?k_due ?a_asked ?l_asked ?q_asked ?k_asked ?a_law ?l_law ?q_law ?k_law ?z_ValueError ?z_isinstance ?z_int ?z_bool ?z_tuple ?z_list ?z_len ?z_max ?z_sorted ?z_all ?z_any ?z_range ?z_dict ?z_zip ?h_heappop ?h_heappush
    (case a_Table => first | k_is | kit_is | rfl | decide +kernel)
    (case pg_Table => first | k_is | kit_is | rfl | decide +kernel)
    (case hd_Table => first | k_is | kit_is | rfl | decide +kernel)
    (case po_Table => first | k_is | kit_is | rfl | decide +kernel)
    (case sa_Table => first | k_is | kit_is | rfl | decide +kernel)
    (case mk_Table => first | k_is | kit_is | rfl | decide +kernel)
    (case kc_Table => first | k_is | kit_is | rfl | decide +kernel)
    (case n_Table__turns => first | k_is | kit_is | rfl | decide +kernel)
    (case n_Table__numbers => first | k_is | kit_is | rfl | decide +kernel)
    (case n_Table__free => first | k_is | kit_is | rfl | decide +kernel)
    (case n_Table__most => first | k_is | kit_is | rfl | decide +kernel)
    (case a_NoHandle => first | k_is | kit_is | rfl | decide +kernel)
    (case xl_NoHandle => first | k_is | kit_is | rfl | decide +kernel)
    (case xm_NoHandle => first | k_is | kit_is | rfl | decide +kernel)
    (case xs_NoHandle => first | k_is | kit_is | rfl | decide +kernel)
    (case xe_NoHandle => first | k_is | kit_is | rfl | decide +kernel)
    (case xy_NoHandle => first | k_is | kit_is | rfl | decide +kernel)
    (case xk_NoHandle => first | k_is | kit_is | rfl | decide +kernel)
    (case xg_NoHandle => first | k_is | kit_is | rfl | decide +kernel)
    (case xo_NoHandle => first | k_is | kit_is | rfl | decide +kernel)
    (case xd_NoHandle => first | k_is | kit_is | rfl | decide +kernel)
    (case n_NoHandle_handle => first | k_is | kit_is | rfl | decide +kernel)
    (case a_Ended => first | k_is | kit_is | rfl | decide +kernel)
    (case xl_Ended => first | k_is | kit_is | rfl | decide +kernel)
    (case xm_Ended => first | k_is | kit_is | rfl | decide +kernel)
    (case xs_Ended => first | k_is | kit_is | rfl | decide +kernel)
    (case xe_Ended => first | k_is | kit_is | rfl | decide +kernel)
    (case xy_Ended => first | k_is | kit_is | rfl | decide +kernel)
    (case xk_Ended => first | k_is | kit_is | rfl | decide +kernel)
    (case xg_Ended => first | k_is | kit_is | rfl | decide +kernel)
    (case xo_Ended => first | k_is | kit_is | rfl | decide +kernel)
    (case xd_Ended => first | k_is | kit_is | rfl | decide +kernel)
    (case n_Ended_handle => first | k_is | kit_is | rfl | decide +kernel)
    (case a_PactError => first | k_is | kit_is | rfl | decide +kernel)
    (case da_PactError => first | k_is | kit_is | rfl | decide +kernel)
    (case dr_PactError => first | k_is | kit_is | rfl | decide +kernel)
    (case df_PactError => first | k_is | kit_is | rfl | decide +kernel)
    (case fa_NoHandle => first | k_is | kit_is | rfl | decide +kernel)
    (case fm_NoHandle => first | k_is | kit_is | rfl | decide +kernel)
    (case fp_NoHandle => first | k_is | kit_is | rfl | decide +kernel)
    (case fv_NoHandle => first | k_is | kit_is | rfl | decide +kernel)
    (case fa_Ended => first | k_is | kit_is | rfl | decide +kernel)
    (case fm_Ended => first | k_is | kit_is | rfl | decide +kernel)
    (case fp_Ended => first | k_is | kit_is | rfl | decide +kernel)
    (case fv_Ended => first | k_is | kit_is | rfl | decide +kernel)
    (case fx_1 => first | k_is | kit_is | rfl | decide +kernel)
    (case fe_1 => first | k_is | kit_is | rfl | decide +kernel)
    (case fe_2 => first | k_is | kit_is | rfl | decide +kernel)
    (case fe_3 => first | k_is | kit_is | rfl | decide +kernel)
    (case fg => first | k_is | kit_is | rfl | decide +kernel)
    (case ft => first | k_is | kit_is | rfl | decide +kernel)
    (case a_p_copied => first | k_is | kit_is | rfl | decide +kernel)
    (case l_p_copied => first | k_is | kit_is | rfl | decide +kernel)
    (case q_p_copied => first | k_is | kit_is | rfl | decide +kernel)
    (case k_p_copied => first | k_is | kit_is | rfl | decide +kernel)
    (case a_NoHandle_init => first | k_is | kit_is | rfl | decide +kernel)
    (case i_NoHandle_init => first | k_is | kit_is | rfl | decide +kernel)
    (case l_NoHandle_init => first | k_is | kit_is | rfl | decide +kernel)
    (case q_NoHandle_init => first | k_is | kit_is | rfl | decide +kernel)
    (case k_NoHandle_init => first | k_is | kit_is | rfl | decide +kernel)
    (case a_Ended_init => first | k_is | kit_is | rfl | decide +kernel)
    (case i_Ended_init => first | k_is | kit_is | rfl | decide +kernel)
    (case l_Ended_init => first | k_is | kit_is | rfl | decide +kernel)
    (case q_Ended_init => first | k_is | kit_is | rfl | decide +kernel)
    (case k_Ended_init => first | k_is | kit_is | rfl | decide +kernel)
    (case a_is_whole => first | k_is | kit_is | rfl | decide +kernel)
    (case l_is_whole => first | k_is | kit_is | rfl | decide +kernel)
    (case q_is_whole => first | k_is | kit_is | rfl | decide +kernel)
    (case k_is_whole => first | k_is | kit_is | rfl | decide +kernel)
    (case a_Table_init => first | k_is | kit_is | rfl | decide +kernel)
    (case i_Table_init => first | k_is | kit_is | rfl | decide +kernel)
    (case l_Table_init => first | k_is | kit_is | rfl | decide +kernel)
    (case q_Table_init => first | k_is | kit_is | rfl | decide +kernel)
    (case k_Table_init => first | k_is | kit_is | rfl | decide +kernel)
    (case a_Table_begin => first | k_is | kit_is | rfl | decide +kernel)
    (case i_Table_begin => first | k_is | kit_is | rfl | decide +kernel)
    (case l_Table_begin => first | k_is | kit_is | rfl | decide +kernel)
    (case q_Table_begin => first | k_is | kit_is | rfl | decide +kernel)
    (case k_Table_begin => first | k_is | kit_is | rfl | decide +kernel)
    (case a_Table_look => first | k_is | kit_is | rfl | decide +kernel)
    (case i_Table_look => first | k_is | kit_is | rfl | decide +kernel)
    (case l_Table_look => first | k_is | kit_is | rfl | decide +kernel)
    (case q_Table_look => first | k_is | kit_is | rfl | decide +kernel)
    (case k_Table_look => first | k_is | kit_is | rfl | decide +kernel)
    (case a_Table_end => first | k_is | kit_is | rfl | decide +kernel)
    (case i_Table_end => first | k_is | kit_is | rfl | decide +kernel)
    (case l_Table_end => first | k_is | kit_is | rfl | decide +kernel)
    (case q_Table_end => first | k_is | kit_is | rfl | decide +kernel)
    (case k_Table_end => first | k_is | kit_is | rfl | decide +kernel)
    (case a_Table_p_living_place => first | k_is | kit_is | rfl | decide +kernel)
    (case i_Table_p_living_place => first | k_is | kit_is | rfl | decide +kernel)
    (case l_Table_p_living_place => first | k_is | kit_is | rfl | decide +kernel)
    (case q_Table_p_living_place => first | k_is | kit_is | rfl | decide +kernel)
    (case k_Table_p_living_place => first | k_is | kit_is | rfl | decide +kernel)
    (case a_Table_alive => first | k_is | kit_is | rfl | decide +kernel)
    (case i_Table_alive => first | k_is | kit_is | rfl | decide +kernel)
    (case l_Table_alive => first | k_is | kit_is | rfl | decide +kernel)
    (case q_Table_alive => first | k_is | kit_is | rfl | decide +kernel)
    (case k_Table_alive => first | k_is | kit_is | rfl | decide +kernel)
    (case a_Table_most => first | k_is | kit_is | rfl | decide +kernel)
    (case i_Table_most => first | k_is | kit_is | rfl | decide +kernel)
    (case l_Table_most => first | k_is | kit_is | rfl | decide +kernel)
    (case q_Table_most => first | k_is | kit_is | rfl | decide +kernel)
    (case k_Table_most => first | k_is | kit_is | rfl | decide +kernel)
    (case a_Table_twin => first | k_is | kit_is | rfl | decide +kernel)
    (case i_Table_twin => first | k_is | kit_is | rfl | decide +kernel)
    (case l_Table_twin => first | k_is | kit_is | rfl | decide +kernel)
    (case q_Table_twin => first | k_is | kit_is | rfl | decide +kernel)
    (case k_Table_twin => first | k_is | kit_is | rfl | decide +kernel)
    (case a_Table_len => first | k_is | kit_is | rfl | decide +kernel)
    (case i_Table_len => first | k_is | kit_is | rfl | decide +kernel)
    (case l_Table_len => first | k_is | kit_is | rfl | decide +kernel)
    (case q_Table_len => first | k_is | kit_is | rfl | decide +kernel)
    (case k_Table_len => first | k_is | kit_is | rfl | decide +kernel)
    (case a_p_is_handle => first | k_is | kit_is | rfl | decide +kernel)
    (case l_p_is_handle => first | k_is | kit_is | rfl | decide +kernel)
    (case q_p_is_handle => first | k_is | kit_is | rfl | decide +kernel)
    (case k_p_is_handle => first | k_is | kit_is | rfl | decide +kernel)
    (case a_box => first | k_is | kit_is | rfl | decide +kernel)
    (case l_box => first | k_is | kit_is | rfl | decide +kernel)
    (case q_box => first | k_is | kit_is | rfl | decide +kernel)
    (case k_box => first | k_is | kit_is | rfl | decide +kernel)
    (case a_mixed => first | k_is | kit_is | rfl | decide +kernel)
    (case l_mixed => first | k_is | kit_is | rfl | decide +kernel)
    (case q_mixed => first | k_is | kit_is | rfl | decide +kernel)
    (case k_mixed => first | k_is | kit_is | rfl | decide +kernel)
    (case a_take => first | k_is | kit_is | rfl | decide +kernel)
    (case l_take => first | k_is | kit_is | rfl | decide +kernel)
    (case q_take => first | k_is | kit_is | rfl | decide +kernel)
    (case k_take => first | k_is | kit_is | rfl | decide +kernel)
    (case a_figure => first | k_is | kit_is | rfl | decide +kernel)
    (case l_figure => first | k_is | kit_is | rfl | decide +kernel)
    (case q_figure => first | k_is | kit_is | rfl | decide +kernel)
    (case k_figure => first | k_is | kit_is | rfl | decide +kernel)
    (case a_begun => first | k_is | kit_is | rfl | decide +kernel)
    (case l_begun => first | k_is | kit_is | rfl | decide +kernel)
    (case q_begun => first | k_is | kit_is | rfl | decide +kernel)
    (case k_begun => first | k_is | kit_is | rfl | decide +kernel)
    (case a_stands => first | k_is | kit_is | rfl | decide +kernel)
    (case l_stands => first | k_is | kit_is | rfl | decide +kernel)
    (case q_stands => first | k_is | kit_is | rfl | decide +kernel)
    (case k_stands => first | k_is | kit_is | rfl | decide +kernel)
    (case a_odd => first | k_is | kit_is | rfl | decide +kernel)
    (case l_odd => first | k_is | kit_is | rfl | decide +kernel)
    (case q_odd => first | k_is | kit_is | rfl | decide +kernel)
    (case k_odd => first | k_is | kit_is | rfl | decide +kernel)
    (case a_due => first | k_is | kit_is | rfl | decide +kernel)
    (case l_due => first | k_is | kit_is | rfl | decide +kernel)
    (case q_due => first | k_is | kit_is | rfl | decide +kernel)
    (case k_due => first | k_is | kit_is | rfl | decide +kernel)
    (case a_asked => first | k_is | kit_is | rfl | decide +kernel)
    (case l_asked => first | k_is | kit_is | rfl | decide +kernel)
    (case q_asked => first | k_is | kit_is | rfl | decide +kernel)
    (case k_asked => first | k_is | kit_is | rfl | decide +kernel)
    (case a_law => first | k_is | kit_is | rfl | decide +kernel)
    (case l_law => first | k_is | kit_is | rfl | decide +kernel)
    (case q_law => first | k_is | kit_is | rfl | decide +kernel)
    (case k_law => first | k_is | kit_is | rfl | decide +kernel)
    (case z_ValueError => first | k_is | kit_is | rfl | decide +kernel)
    (case z_isinstance => first | k_is | kit_is | rfl | decide +kernel)
    (case z_int => first | k_is | kit_is | rfl | decide +kernel)
    (case z_bool => first | k_is | kit_is | rfl | decide +kernel)
    (case z_tuple => first | k_is | kit_is | rfl | decide +kernel)
    (case z_list => first | k_is | kit_is | rfl | decide +kernel)
    (case z_len => first | k_is | kit_is | rfl | decide +kernel)
    (case z_max => first | k_is | kit_is | rfl | decide +kernel)
    (case z_sorted => first | k_is | kit_is | rfl | decide +kernel)
    (case z_all => first | k_is | kit_is | rfl | decide +kernel)
    (case z_any => first | k_is | kit_is | rfl | decide +kernel)
    (case z_range => first | k_is | kit_is | rfl | decide +kernel)
    (case z_dict => first | k_is | kit_is | rfl | decide +kernel)
    (case z_zip => first | k_is | kit_is | rfl | decide +kernel)
    (case h_heappop => first | k_is | kit_is | rfl | decide +kernel)
    (case h_heappush => first | k_is | kit_is | rfl | decide +kernel)
