/- Counted of the program. -/
import Derived.Test.YtgglihalnfhjbaaReader2
namespace Go.Proofs.Ytgglihalnfhjbaa
open Go.ChangeShapes Go.WideShapes Go.ChangeAt Go.RowKit
set_option linter.unusedVariables false
set_option linter.unusedSimpArgs false

def countR (l : List Int) (t : Int) : List Int × Bool :=
  if countsB l then (if inB t 0 ((l.length : Int) - 1) && decide (atI l t.toNat < 100000) then (l.set t.toNat (atI l t.toNat + 1), true) else (l, false)) else ([], false)
theorem countR_len (l : List Int) (t : Int) : (countR l t).1.length ≤ l.length := by
  unfold countR
  split
  · split <;> simp
  · simp
theorem countR_off {l : List Int} (h : countsB l = false) (t : Int) : countR l t = ([], false) := by simp [countR, h]
theorem countR_none {l : List Int} (h : countsB l = true) {t : Int} (ht : inB t 0 ((l.length : Int) - 1) = false) : countR l t = (l, false) := by simp [countR, h, ht]
theorem countR_full {l : List Int} (h : countsB l = true) {k : Nat} (hx : ¬ atI l k < 100000) : countR l k = (l, false) := by simp [countR, h, hx]
theorem countR_yes {l : List Int} (h : countsB l = true) {k : Nat} (hk : k < l.length) (hx : atI l k < 100000) : countR l k = (l.set k (atI l k + 1), true) := by
  have : inB (k : Int) 0 ((l.length : Int) - 1) = true := by simp [inB]; omega
  simp [countR, h, hx, this]
theorem atI_set (l : List Int) (k i : Nat) (v : Int) (hk : k < l.length) : atI (l.set k v) i = if k = i then v else atI l i := by
  simp only [atI, List.getElem?_set]
  split
  · rfl
  · rfl
theorem SaysIB.fresh {w w1 w' : World} {l : List Int} {b : Bool} {g : Nat} {u : Value} (hg : w1.heap.size ≤ g) (hO : Own w' u g 2 1 l.length (cellsI l)) (h1 : 1 ≤ l.length) (hB : Below w.heap.size w w1) (hB1 : Below w1.heap.size w1 w') : SaysIB (l, b) w (.returned (.tuple #[u, .bool b])) w' :=
  ⟨u, rfl, OwnR.of_own hO (by have := hB.size; omega) h1, hB.trans (hB1.mono hB.size)⟩

theorem SaysIB.freshD {p : Prop} [Decidable p] (hp : ¬ p) {w w1 w' : World} {l : List Int} {g : Nat} {u : Value} (hg : w1.heap.size ≤ g) (hO : Own w' u g 2 1 l.length (cellsI l)) (h1 : 1 ≤ l.length) (hB : Below w.heap.size w w1) (hB1 : Below w1.heap.size w1 w') : SaysIB (l, false) w (.returned (.tuple #[u, .bool (decide p)])) w' := by
  rw [decide_eq_false hp]
  exact SaysIB.fresh hg hO h1 hB hB1

set_option maxRecDepth 100000 in
set_option maxHeartbeats 8000000 in
theorem impl_Counted_at (v : Value) (l : List Int) (k : Nat) (t : Int) (w : World) (h : SlI w v l) (hl : l.length ≤ 1048576) (hc : countsB l = true) (hk : k < l.length) (htk : t = (k : Int)) :
    Calls Try.prog 6 #[v, .int .i64 t] w (SaysIB (countR l t) w) := by
  have C := impl_countsOf v l w h hl
  obtain ⟨a, c, rfl, -⟩ := h
  obtain ⟨l1, l6, hin⟩ := countsB_some hc
  rw [ptR_t hc, hc] at C
  have j0 : (0 : Int) ≤ l.length := by omega
  have j1 : (l.length : Int) ≤ 6 := by omega
  have ht : inB t 0 ((l.length : Int) - 1) = true := by simp [inB]; omega
  obtain ⟨x0, x1⟩ := hin k _ (List.getElem?_eq_getElem hk)
  have hx := atI_get (List.getElem?_eq_getElem hk)
  rw [← hx] at x0 x1
  have HT := Lib.hid ht
  have t0 : 0 ≤ t := by omega
  have t1 : t < (l.length : Int) := by omega
  by_cases h9 : atI l k < 100000
  · have HR := countR_yes hc hk h9
    rw [← htk] at HR
    rw [HR]
    have C2 := fun w => impl_list (l.set k (atI l k + 1)) w (by simpa using l1) (by simpa using l6)
    have HL : 1 ≤ (l.set k (atI l k + 1)).length := by simpa using l1
    have HLL := Lib.hid HL
    have hk6 : k = 0 ∨ k = 1 ∨ k = 2 ∨ k = 3 ∨ k = 4 ∨ k = 5 := by omega
    have HK := Lib.hid hk
    clear hc ht hin hx HR HL
    rcases hk6 with rfl | rfl | rfl | rfl | rfl | rfl
    all_goals
      first | obtain rfl : t = 0 := htk | obtain rfl : t = 1 := htk | obtain rfl : t = 2 := htk | obtain rfl : t = 3 := htk | obtain rfl : t = 4 := htk | obtain rfl : t = 5 := htk
      simp [ptV, ptA, atI_set _ _ _ _ hk] at C2
      have HC2 := Lib.hid C2
      clear C2
      go_enter Try.func6, Try.ntmps6
      go_wp2_with fail
      refine C.mono ?_
      rintro e w1 ⟨rfl, hB1⟩
      have hz1 := hB1.size
      have HB := Lib.hid hB1
      clear hB1 C
      unfold ptV ptA
      go_wp2_with fail
      refine (impl_has l l.length _ _ j0 j1).mono ?_
      rintro e w2 ⟨rfl, hB2⟩
      have hz2 := hB2.size
      simp at hz2
      have hB0 : Below w.heap.size w w2 := (HB.out.alloc HB.out.size _).trans (hB2.mono (by simp; omega))
      have hZ : Blk w2 w1.heap.size 39 (ptCells l l.length) := Blk.below (heap_alloc_new w1 _) hB2 (by simp)
      obtain ⟨y0, y1, y2, y3, y4, y5, y6, yf⟩ := pt_cells hZ
      have HB2 := Lib.hid hB0
      rw [HT.out]
      clear hB2 hB0 hZ
      go_wp2_with fail
      refine (HC2.out _).mono ?_
      rintro e w3 ⟨g, u, rfl, hg, hO, hB3⟩
      go_wp2
      go_ret2
      exact SaysIB.fresh hg hO HLL.out (HB2.out.setCell (by simp; omega) _) hB3
  · have HR := countR_full hc h9
    rw [← htk] at HR
    rw [HR]
    have hk6 : k = 0 ∨ k = 1 ∨ k = 2 ∨ k = 3 ∨ k = 4 ∨ k = 5 := by omega
    clear hc ht hin hx HR
    rcases hk6 with rfl | rfl | rfl | rfl | rfl | rfl
    all_goals
      first | obtain rfl : t = 0 := htk | obtain rfl : t = 1 := htk | obtain rfl : t = 2 := htk | obtain rfl : t = 3 := htk | obtain rfl : t = 4 := htk | obtain rfl : t = 5 := htk
      go_enter Try.func6, Try.ntmps6
      go_wp2_with fail
      refine C.mono ?_
      rintro e w1 ⟨rfl, hB1⟩
      have hz1 := hB1.size
      have HB := Lib.hid hB1
      clear hB1 C
      unfold ptV ptA
      go_wp2_with fail
      refine (impl_has l l.length _ _ j0 j1).mono ?_
      rintro e w2 ⟨rfl, hB2⟩
      have hz2 := hB2.size
      simp at hz2
      have hB0 : Below w.heap.size w w2 := (HB.out.alloc HB.out.size _).trans (hB2.mono (by simp; omega))
      have hZ : Blk w2 w1.heap.size 39 (ptCells l l.length) := Blk.below (heap_alloc_new w1 _) hB2 (by simp)
      obtain ⟨y0, y1, y2, y3, y4, y5, y6, yf⟩ := pt_cells hZ
      have HB2 := Lib.hid hB0
      rw [HT.out]
      clear hB2 hB0 hZ
      go_wp2_with fail
      refine (impl_list l _ l1 l6).mono ?_
      rintro e w3 ⟨g, u, rfl, hg, hO, hB3⟩
      go_wp2
      go_ret2
      exact SaysIB.freshD (Int.not_lt.2 h9) hg hO l1 HB2.out hB3

set_option maxRecDepth 100000 in
set_option maxHeartbeats 4000000 in
theorem impl_Counted (v : Value) (l : List Int) (t : Int) (w : World) (h : SlI w v l) (hl : l.length ≤ 1048576) :
    Calls Try.prog 6 #[v, .int .i64 t] w (SaysIB (countR l t) w) := by
  have C := impl_countsOf v l w h hl
  have H := h
  obtain ⟨a, c, rfl, -⟩ := h
  rcases Bool.eq_false_or_eq_true (countsB l) with hc | hc
  · obtain ⟨l1, l6, hin⟩ := countsB_some hc
    rw [ptR_t hc, hc] at C
    have j0 : (0 : Int) ≤ l.length := by omega
    have j1 : (l.length : Int) ≤ 6 := by omega
    rcases Bool.eq_false_or_eq_true (inB t 0 ((l.length : Int) - 1)) with ht | ht
    · obtain ⟨t0, t1⟩ := inB_t ht
      obtain ⟨k, rfl⟩ := Int.eq_ofNat_of_zero_le t0
      exact impl_Counted_at _ l k _ w H hl hc (by omega) rfl
    · rw [countR_none hc ht]
      have HT := Lib.hid ht
      clear hc ht hin H
      go_enter Try.func6, Try.ntmps6
      go_wp2_with fail
      refine C.mono ?_
      rintro e w1 ⟨rfl, hB1⟩
      have hz1 := hB1.size
      have HB := Lib.hid hB1
      clear hB1 C
      unfold ptV ptA
      go_wp2_with fail
      refine (impl_has l l.length t _ j0 j1).mono ?_
      rintro e w2 ⟨rfl, hB2⟩
      have hz2 := hB2.size
      simp at hz2
      have hB0 : Below w.heap.size w w2 := (HB.out.alloc HB.out.size _).trans (hB2.mono (by simp; omega))
      have hZ : Blk w2 w1.heap.size 39 (ptCells l l.length) := Blk.below (heap_alloc_new w1 _) hB2 (by simp)
      obtain ⟨y0, y1, y2, y3, y4, y5, y6, yf⟩ := pt_cells hZ
      have HB2 := Lib.hid hB0
      rw [HT.out]
      clear hB2 hB0 hZ
      go_wp2_with fail
      refine (impl_list l _ l1 l6).mono ?_
      rintro e w3 ⟨g, u, rfl, hg, hO, hB3⟩
      go_wp2
      go_ret2
      exact SaysIB.fresh hg hO l1 HB2.out hB3
  · rw [countR_off hc]
    rw [ptR_f hc, hc] at C
    clear hc H
    go_enter Try.func6, Try.ntmps6
    go_wp2_with fail
    refine C.mono ?_
    rintro e w1 ⟨rfl, hB1⟩
    have HB := Lib.hid hB1
    clear hB1 C
    unfold ptV ptA
    go_wp2
    go_ret2
    exact ⟨_, rfl, OwnR.nil _ _ _ _ _ _ _ (by simp [maxLen]), HB.out.alloc HB.out.size _⟩
end Go.Proofs.Ytgglihalnfhjbaa
