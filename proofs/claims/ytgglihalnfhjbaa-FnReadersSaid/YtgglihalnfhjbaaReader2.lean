/- Walking and Counted of the program. -/
import Derived.Test.YtgglihalnfhjbaaReader
import Derived.Maps.RangeWalk
import Derived.Deep.AppendLies
namespace Go.Proofs.Ytgglihalnfhjbaa
open Go.ChangeShapes Go.WideShapes Go.ChangeAt Go.RowKit
set_option linter.unusedVariables false
set_option linter.unusedSimpArgs false

/-- The odd ones among the first k. -/
def oddsTo (l : List Int) : Nat → List Int
  | 0 => []
  | k + 1 => if atI l k % 2 = 1 then oddsTo l k ++ [(k : Int)] else oddsTo l k
theorem oddsTo_len (l : List Int) (k : Nat) : (oddsTo l k).length ≤ k := by
  induction k with
  | zero => simp [oddsTo]
  | succ k ih =>
    rw [oddsTo]
    split <;> (try simp) <;> omega
def walkR (l : List Int) : List Int := if countsB l then oddsTo l l.length else []
theorem walkR_len (l : List Int) : (walkR l).length ≤ l.length := by
  unfold walkR
  split
  · exact oddsTo_len _ _
  · simp
theorem pt_at {w : World} {g : Nat} {t : TypeId} {l : List Int} {n : Int} {k : Nat} {x : Int} (h : Blk w g t (ptCells l n)) (hx : l[k]? = some x) (hk : k < 6) : w.cell? ⟨g, k, none⟩ = some (.int .i64 x) := by
  rw [h.cell, ← atI_get hx]
  rcases (show k = 0 ∨ k = 1 ∨ k = 2 ∨ k = 3 ∨ k = 4 ∨ k = 5 by omega) with rfl | rfl | rfl | rfl | rfl | rfl <;> rfl

set_option maxRecDepth 100000 in
set_option maxHeartbeats 2000000 in
theorem impl_Walking (v : Value) (l : List Int) (w : World) (h : SlI w v l) (hl : l.length ≤ 1048576) :
    Calls Try.prog 12 #[v] w (SaysI (walkR l) w) := by
  have C := impl_countsOf v l w h hl
  obtain ⟨a, c, rfl, -⟩ := h
  rcases Bool.eq_false_or_eq_true (countsB l) with hc | hc
  · obtain ⟨l1, l6, hin⟩ := countsB_some hc
    rw [ptR_t hc, hc] at C
    have HW : walkR l = oddsTo l l.length := by rw [walkR, if_pos hc]
    rw [HW]
    have HIN := Lib.hid hin
    clear hc HW hin
    go_enter Try.func12, Try.ntmps12
    go_wp2_with fail
    refine C.mono ?_
    rintro e w1 ⟨rfl, hB1⟩
    have j0 : (0 : Int) ≤ l.length := by omega
    have j1 : (l.length : Int) ≤ 6 := by omega
    have HB := Lib.hid hB1
    clear hB1 C
    unfold ptV ptA
    go_wp2
    obtain ⟨i0, hi0, hz0, hz1, hz2⟩ := info_parts infoI64
    go_loopw [5, 18] (fun v i wr => ∃ (k : Nat) (oa : Option Addr) (oc : Nat), k ≤ l.length ∧ i = .int .i64 k ∧ v = .slice oa (oddsTo l k).length oc ∧ Hid (wr.ownsRow (w1.heap.size + 1) 2 1 (.slice oa (oddsTo l k).length oc) (oddsTo l k).length (cellsI (oddsTo l k))) ∧ Hid (Below (w1.heap.size + 1) (w1.alloc (.cells (ptCells l l.length).toArray 39)) wr)) (fun _ i _ => l.length - (intOf i).toNat)
    case atStart => exact ⟨0, none, 0, Nat.zero_le _, rfl, rfl, Lib.hid (nil_row _ _ _ _), Lib.hid (Below.refl _ _)⟩
    case round =>
      obtain ⟨k, oa, oc, hk, rfl, rfl, hrow, hb⟩ := hrel
      have hz := hb.out.size
      simp at hz
      by_cases hlt : k < l.length
      · obtain ⟨n, hg⟩ : ∃ n, l[k]? = some n := ⟨_, List.getElem?_eq_getElem hlt⟩
        have A1 : wr.cell? ⟨w1.heap.size, k, none⟩ = some (.int .i64 n) := pt_at (Blk.below (heap_alloc_new w1 _) hb.out (by omega)) hg (by omega)
        have i0' : (0 : Int) ≤ (k : Int) := by omega
        have i1' : (k : Int) < (l.length : Int) := by omega
        obtain ⟨n0, n1⟩ := HIN.out k n hg
        have HA := Lib.hid (atI_get hg)
        have hol := oddsTo_len l k
        clear hg
        by_cases ho : n % 2 = 1
        · have ho' : ¬ n % 2 = 0 := by omega
          go_wp2_with (first
            | (at_builtin; refine wpList_append_lies _ rfl _ _ 24 rfl (w1.heap.size + 1) 2 i0 (.int .i64 0) 1 8 Try.underlying24 hi0 hz0 hz1 hz2 rfl (by decide) (.slice oa (oddsTo l k).length oc) (oddsTo l k).length (cellsI (oddsTo l k)) rfl (hrow.out.alloc _) ⟨wr.heap.size, 0, none⟩ 1 1 [.int .i64 k] rfl rfl (cell_one_new _ _ _) (by simp [Value.oneCell']) (by omega) (by unfold maxLen; omega) (by omega) (by simp; omega) (wr.heap.size + 1) (by simp) ?_; intro g' cap' w5 hown' hg5 hat5 hgl5; go_frame)
            | go_in)
          have e1 : oddsTo l (k + 1) = oddsTo l k ++ [(k : Int)] := by rw [oddsTo, HA.out, if_pos ho]
          have e2 : (oddsTo l (k + 1)).length = (oddsTo l k).length + 1 := by rw [e1]; simp
          refine ⟨⟨k + 1, some ⟨g', 0, none⟩, cap', by omega, by go_num, by rw [e2], Lib.hid ?_, Lib.hid ?_⟩, by simp [intOf]; omega⟩
          · rw [e2, e1, cellsI_snoc]
            exact hown'
          · exact (hb.out.alloc (by omega) _).grown hg5 (by simp; omega) (fun j hj => (hrow.out.lt j hj).1)
        · have ho' : n % 2 = 0 := by omega
          go_wp2
          have e1 : oddsTo l (k + 1) = oddsTo l k := by rw [oddsTo, HA.out, if_neg ho]
          refine ⟨⟨k + 1, oa, oc, by omega, by go_num, by rw [e1], ?_, hb⟩, by simp [intOf]; omega⟩
          rw [e1]
          exact hrow
      · obtain rfl : k = l.length := by omega
        go_wp2
        go_ret
        exact ⟨_, rfl, (OwnR.of_row hrow.out).mono (by have := HB.out.size; omega) (Nat.le_refl _), (HB.out.alloc HB.out.size _).trans (hb.out.mono (by have := HB.out.size; omega))⟩
  · have HW : walkR l = [] := by rw [walkR, if_neg (by rw [hc]; simp)]
    rw [HW]
    rw [ptR_f hc, hc] at C
    clear hc HW
    go_enter Try.func12, Try.ntmps12
    go_wp2_with fail
    refine C.mono ?_
    rintro e w1 ⟨rfl, hB1⟩
    have HB := Lib.hid hB1
    clear hB1 C
    unfold ptV ptA
    go_wp2
    go_loopw [5, 18] (fun v i wr => i = .int .i64 0 ∧ v = .slice none 0 0 ∧ Below w.heap.size w wr) (fun _ i _ => 0)
    case atStart => exact ⟨rfl, rfl, HB.out.alloc HB.out.size _⟩
    case round =>
      obtain ⟨rfl, rfl, hb⟩ := hrel
      go_wp2
      go_ret
      exact ⟨_, rfl, OwnR.nil _ _ _ _ _ _ _ (by simp [maxLen]), hb⟩

/-! ### Counted -/
theorem cellsI_one (l : List Int) : ∀ u ∈ cellsI l, u.oneCell' = true := by
  intro u hu
  simp only [cellsI, List.mem_map] at hu
  obtain ⟨n, -, rfl⟩ := hu
  rfl
theorem addr_add (b off i : Nat) : (⟨b, off, none⟩ : Addr).add i = ⟨b, off + i, none⟩ := by
  unfold Addr.add
  split <;> simp_all
theorem cells_newsI {w w1 : World} {l : List Int} {b off c : Nat} (h : SlI w (.slice (some ⟨b, off, none⟩) l.length c) l) (hb : Below w.heap.size w w1) (hn : l ≠ []) : ∀ j u, (cellsI l)[j]? = some u → w1.cell? ((⟨b, off, none⟩ : Addr).add j) = some u := by
  intro j u hj
  obtain ⟨a, cap, hv, -, -, h3, h4⟩ := h.below hb
  cases hv
  rcases h4 with h4 | ⟨b', off', e, hc⟩
  · exact absurd (List.length_eq_zero_iff.1 h4) hn
  · cases e
    rw [addr_add, hc j (List.getElem?_eq_some_iff.1 hj).1, hj]

set_option maxHeartbeats 1000000 in
theorem clone_ints (v : Value) (l : List Int) (w : World) (h : SlI w v l) (hn : l ≠ []) (hl : l.length ≤ 1048576) : Calls Try.prog 27 #[v] w (FreshI w l) := by
  obtain ⟨b1, o1, c1, rfl, k1, m1, s1, H1⟩ := h.at hn
  have hl0 : 0 < l.length := List.length_pos_iff.2 hn
  obtain ⟨i0, hi0, hz0, hz1, hz2⟩ := info_parts infoI64
  have HW := Lib.hid h
  have he : ∀ w : World, (binOp .eql 24 (.slice (some ⟨b1, o1, none⟩) l.length c1) (.slice none 0 0)).run Try.prog w = .ok (.bool false) w := fun _ => by kernel_rfl
  clear H1 h
  go_enter Try.func27, Try.ntmps27
  go_wp2_with (first
    | (at_builtin; refine wpList_append_lies _ rfl _ _ 24 rfl w.heap.size 2 i0 _ 1 8 Try.underlying24 hi0 hz0 hz1 hz2 rfl (by decide) (.slice (some ⟨w.heap.size, 0, none⟩) 0 0) 0 [] rfl (none_row _ _ (Below.refl _ _)) ⟨b1, o1, none⟩ l.length c1 (cellsI l) rfl (by rw [cellsI_len]; omega) (cells_newsI HW.out ((Below.refl _ _).alloc (Nat.le_refl _) _) hn) (cellsI_one l) hl0 (by unfold maxLen; omega) (by omega) (by simp) (w.heap.size + 1) (by simp) ?_; intro g cap w1 hown hgrow hat hgl)
    | go_in)
  go_ret
  rw [List.nil_append, Nat.zero_add] at hown
  obtain ⟨q1, q2⟩ : w.heap.size ≤ g ∧ Below w.heap.size w w1 := ⟨by
      rcases hat with h | h
      · simp [Value.ownBlock] at h; omega
      · omega, ((Below.refl _ _).alloc (Nat.le_refl _) _).grown hgrow (by simp) (fun j hj => by simp [Value.ownBlock] at hj; omega)⟩
  exact ⟨g, _, rfl, q1, own_of_row hown, q2⟩

set_option maxHeartbeats 1000000 in
theorem impl_has (l : List Int) (n t : Int) (w : World) (h0 : 0 ≤ n) (h6 : n ≤ 6) :
    Calls Try.prog 18 #[ptA l n, .int .i64 t] w fun e w' => e = .returned (.bool (inB t 0 (n - 1))) ∧ Below w.heap.size w w' := by
  unfold ptA
  go_enter Try.func18, Try.ntmps18
  go_wp2_with (go_at_call 26; refine (impl_in _ _ _ _).mono ?_; rintro e w1 ⟨rfl, rfl⟩)
  go_ret
  exact ⟨rfl, (Below.refl _ _).alloc (Nat.le_refl _) _⟩

set_option maxRecDepth 100000 in
set_option maxHeartbeats 1000000 in
theorem impl_list (l : List Int) (w : World) (h0 : 1 ≤ l.length) (h6 : l.length ≤ 6) :
    Calls Try.prog 19 #[ptV l] w (FreshI w l) := by
  have hn : l ≠ [] := by intro e; subst e; simp at h0
  have hB : Blk (w.alloc (.cells (ptCells l l.length).toArray 39)) w.heap.size 39 (ptCells l l.length) := heap_alloc_new w _
  have hS : SlI (w.alloc (.cells (ptCells l l.length).toArray 39)) (.slice (some ⟨w.heap.size, 0, none⟩) l.length 6) l := by
    refine ⟨_, 6, rfl, h6, by simp [maxLen], by rw [cellsI_len]; omega, .inr ⟨_, _, rfl, fun i hi => ?_⟩⟩
    rw [cellsI_len] at hi
    rw [Nat.zero_add, cellsI_get (List.getElem?_eq_getElem hi)]
    exact pt_at hB (List.getElem?_eq_getElem hi) (by omega)
  have C := clone_ints _ l _ hS hn (by omega)
  have i0 : (0 : Int) ≤ l.length := by omega
  have i1 : (l.length : Int) ≤ 6 := by omega
  clear hB hS
  unfold ptV ptA
  go_enter Try.func19, Try.ntmps19
  go_wp2_with fail
  refine C.mono ?_
  rintro e w1 ⟨g, u, rfl, hg, hO, hB1⟩
  simp at hg
  go_wp2
  go_ret
  exact ⟨g, u, rfl, by omega, hO, ((Below.refl _ _).alloc (Nat.le_refl _) _).trans (hB1.mono (by simp))⟩
end Go.Proofs.Ytgglihalnfhjbaa
