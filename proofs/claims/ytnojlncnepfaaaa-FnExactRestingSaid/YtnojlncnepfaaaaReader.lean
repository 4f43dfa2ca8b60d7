/- Readers: counts of each task in an array of a generic type. -/
import Derived.Test.YtnojlncnepfaaaaNodesOk
import Derived.Laws.ResultCell
import Derived.Test.YtnojlncnepfaaaaRowInt
namespace Go.Proofs.Ytnojlncnepfaaaa
open Go.ChangeShapes Go.WideShapes Go.ChangeAt Go.RowKit
set_option linter.unusedVariables false
set_option linter.unusedSimpArgs false

def atI (l : List Int) (i : Nat) : Int := (l[i]?).getD 0
/-- One of each task: the six of the array, behind them how many tasks there are. -/
def ptCells (l : List Int) (n : Int) : List Value := [.int .i64 (atI l 0), .int .i64 (atI l 1), .int .i64 (atI l 2), .int .i64 (atI l 3), .int .i64 (atI l 4), .int .i64 (atI l 5), .int .i64 n]
def ptA (l : List Int) (n : Int) : Value := .agg #[.int .i64 (atI l 0), .int .i64 (atI l 1), .int .i64 (atI l 2), .int .i64 (atI l 3), .int .i64 (atI l 4), .int .i64 (atI l 5), .int .i64 n]
def ptV (l : List Int) : Value := ptA l l.length
def sizeB (l : List Int) : Bool := inB (l.length : Int) 1 6
@[simp] theorem atI_nil (i : Nat) : atI [] i = 0 := rfl
theorem atI_get {l : List Int} {k : Nat} {x : Int} (h : l[k]? = some x) : atI l k = x := by simp [atI, h]
theorem take_atI (l : List Int) (k i : Nat) : atI (l.take k) i = if i < k then atI l i else 0 := by
  simp only [atI, List.getElem?_take]
  split <;> rfl
theorem pt_set {l : List Int} {k : Nat} {x n : Int} (h : l[k]? = some x) (hk : k < 6) : (ptCells (l.take k) n).set k (.int .i64 x) = ptCells (l.take (k + 1)) n := by
  have hx := atI_get h
  rcases (show k = 0 ∨ k = 1 ∨ k = 2 ∨ k = 3 ∨ k = 4 ∨ k = 5 by omega) with rfl | rfl | rfl | rfl | rfl | rfl <;> simp [ptCells, take_atI, hx]
/-- Seven cells of one block. -/
theorem pt_cells {w : World} {g : Nat} {t : TypeId} {l : List Int} {n : Int} (h : Blk w g t (ptCells l n)) : w.cell? ⟨g, 0, none⟩ = some (.int .i64 (atI l 0)) ∧ w.cell? ⟨g, 1, none⟩ = some (.int .i64 (atI l 1)) ∧ w.cell? ⟨g, 2, none⟩ = some (.int .i64 (atI l 2)) ∧ w.cell? ⟨g, 3, none⟩ = some (.int .i64 (atI l 3)) ∧ w.cell? ⟨g, 4, none⟩ = some (.int .i64 (atI l 4)) ∧ w.cell? ⟨g, 5, none⟩ = some (.int .i64 (atI l 5)) ∧ w.cell? ⟨g, 6, none⟩ = some (.int .i64 n) ∧ ∀ i, w.frozen? ⟨g, i, none⟩ = false :=
  ⟨h.cell 0, h.cell 1, h.cell 2, h.cell 3, h.cell 4, h.cell 5, h.cell 6, fun i => h.free i⟩
/-- Seven cells written over. -/
def setPt (w : World) (g : Nat) (l : List Int) (n : Int) : World := ((((((w.setCell ⟨g, 0, none⟩ (.int .i64 (atI l 0))).setCell ⟨g, 1, none⟩ (.int .i64 (atI l 1))).setCell ⟨g, 2, none⟩ (.int .i64 (atI l 2))).setCell ⟨g, 3, none⟩ (.int .i64 (atI l 3))).setCell ⟨g, 4, none⟩ (.int .i64 (atI l 4))).setCell ⟨g, 5, none⟩ (.int .i64 (atI l 5))).setCell ⟨g, 6, none⟩ (.int .i64 n)
theorem setPt_blk {w : World} {g : Nat} {t : TypeId} {l l' : List Int} {n n' : Int} (h : Blk w g t (ptCells l' n')) : Blk (setPt w g l n) g t (ptCells l n) :=
  ((((((h.set 0 (.int .i64 (atI l 0))).set 1 (.int .i64 (atI l 1))).set 2 (.int .i64 (atI l 2))).set 3 (.int .i64 (atI l 3))).set 4 (.int .i64 (atI l 4))).set 5 (.int .i64 (atI l 5))).set 6 (.int .i64 n)
theorem setPt_below {B : Nat} {w0 w : World} {g : Nat} (h : Below B w0 w) (hB : B ≤ g) (l : List Int) (n : Int) : Below B w0 (setPt w g l n) :=
  ((((((h.setCell (p := ⟨g, 0, none⟩) hB _).setCell (p := ⟨g, 1, none⟩) hB _).setCell (p := ⟨g, 2, none⟩) hB _).setCell (p := ⟨g, 3, none⟩) hB _).setCell (p := ⟨g, 4, none⟩) hB _).setCell (p := ⟨g, 5, none⟩) hB _).setCell (p := ⟨g, 6, none⟩) hB _
theorem setPt_size (w : World) (g : Nat) (l : List Int) (n : Int) : (setPt w g l n).heap.size = w.heap.size := by simp [setPt]
/-! ### countsOf -/
def countsB (l : List Int) : Bool := sizeB l && l.all fun n => inB n 0 100000
def ptR (l : List Int) : Value := if countsB l then ptV l else ptV []
theorem ptR_t {l : List Int} (h : countsB l = true) : ptR l = ptV l := by rw [ptR, if_pos h]
theorem ptR_f {l : List Int} (h : countsB l = false) : ptR l = ptV [] := by rw [ptR, if_neg (by rw [h]; simp)]
theorem countsB_some {l : List Int} (h : countsB l = true) : 1 ≤ l.length ∧ l.length ≤ 6 ∧ ∀ (k : Nat) (n : Int), l[k]? = some n → 0 ≤ n ∧ n ≤ 100000 := by
  simp only [countsB, Bool.and_eq_true, List.all_eq_true] at h
  have := inB_t h.1
  exact ⟨by omega, by omega, fun (k : Nat) (n : Int) hk => inB_t (h.2 n (List.mem_of_getElem? hk))⟩
theorem countsB_off {l : List Int} {k : Nat} {n : Int} (hn : l[k]? = some n) (h : inB n 0 100000 = false) : countsB l = false := by
  rw [Bool.eq_false_iff]
  intro hc
  simp only [countsB, Bool.and_eq_true, List.all_eq_true] at hc
  rw [hc.2 n (List.mem_of_getElem? hn)] at h
  cases h
theorem countsB_all {l : List Int} (hs : sizeB l = true) (h : ∀ (k : Nat) (n : Int), k < l.length → l[k]? = some n → inB n 0 100000 = true) : countsB l = true := by
  simp only [countsB, Bool.and_eq_true, List.all_eq_true]
  refine ⟨hs, fun n hn => ?_⟩
  obtain ⟨k, hk, e⟩ := List.getElem_of_mem hn
  exact h k n hk (by rw [List.getElem?_eq_getElem hk, e])
end Go.Proofs.Ytnojlncnepfaaaa
