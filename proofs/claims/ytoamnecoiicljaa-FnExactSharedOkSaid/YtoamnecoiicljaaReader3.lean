/- Counted of the program. -/
import Derived.Test.YtoamnecoiicljaaReader2
namespace Go.Proofs.Ytoamnecoiicljaa
open Go.ChangeShapes Go.WideShapes Go.ChangeAt Go.RowKit
set_option linter.unusedVariables false
set_option linter.unusedSimpArgs false

def countR (l : List Int) (t : Int) : List Int × Bool :=
  if countsB l then (if inB t 0 ((l.length : Int) - 1) && decide (atI l t.toNat < 100000) then (l.set t.toNat (atI l t.toNat + 1), true) else (l, false)) else ([], false)
theorem countR_len (l : List Int) (t : Int) : (countR l t).1.length ≤ l.length := by
  unfold countR
  split
  · split <;> simp
  · simp
theorem countR_off {l : List Int} (h : countsB l = false) (t : Int) : countR l t = ([], false) := by simp [countR, h]
theorem countR_none {l : List Int} (h : countsB l = true) {t : Int} (ht : inB t 0 ((l.length : Int) - 1) = false) : countR l t = (l, false) := by simp [countR, h, ht]
theorem countR_full {l : List Int} (h : countsB l = true) {k : Nat} (hx : ¬ atI l k < 100000) : countR l k = (l, false) := by simp [countR, h, hx]
theorem countR_yes {l : List Int} (h : countsB l = true) {k : Nat} (hk : k < l.length) (hx : atI l k < 100000) : countR l k = (l.set k (atI l k + 1), true) := by
  have : inB (k : Int) 0 ((l.length : Int) - 1) = true := by simp [inB]; omega
  simp [countR, h, hx, this]
theorem atI_set (l : List Int) (k i : Nat) (v : Int) (hk : k < l.length) : atI (l.set k v) i = if k = i then v else atI l i := by
  simp only [atI, List.getElem?_set]
  split
  · rfl
  · rfl
theorem SaysIB.fresh {w w1 w' : World} {l : List Int} {b : Bool} {g : Nat} {u : Value} (hg : w1.heap.size ≤ g) (hO : Own w' u g 2 1 l.length (cellsI l)) (h1 : 1 ≤ l.length) (hB : Below w.heap.size w w1) (hB1 : Below w1.heap.size w1 w') : SaysIB (l, b) w (.returned (.tuple #[u, .bool b])) w' :=
  ⟨u, rfl, OwnR.of_own hO (by have := hB.size; omega) h1, hB.trans (hB1.mono hB.size)⟩

theorem SaysIB.freshD {p : Prop} [Decidable p] (hp : ¬ p) {w w1 w' : World} {l : List Int} {g : Nat} {u : Value} (hg : w1.heap.size ≤ g) (hO : Own w' u g 2 1 l.length (cellsI l)) (h1 : 1 ≤ l.length) (hB : Below w.heap.size w w1) (hB1 : Below w1.heap.size w1 w') : SaysIB (l, false) w (.returned (.tuple #[u, .bool (decide p)])) w' := by
  rw [decide_eq_false hp]
  exact SaysIB.fresh hg hO h1 hB hB1

end Go.Proofs.Ytoamnecoiicljaa
