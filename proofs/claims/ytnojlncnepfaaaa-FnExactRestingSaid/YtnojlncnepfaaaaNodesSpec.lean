/- NodesOk of the model: it answers 'nodesB' of the nodes. -/
import Derived.Test.YtnojlncnepfaaaaNodesOk
namespace Go.Proofs.Ytnojlncnepfaaaa
open Go.ChangeShapes Go.WideShapes Go.ChangeAt Go.RowKit
set_option linter.unusedVariables false
set_option linter.unusedSimpArgs false


theorem nodesB_long {l : List ND} (h : 30 < l.length) : nodesB l = false := by
  have h1 : decide (l.length ≤ 30) = false := decide_eq_false (by omega)
  simp [nodesB, h1]
theorem nodesB_first {n : ND} {r : List ND} (h : (rootB n && linkB n (n :: r).length) = false) : nodesB (n :: r) = false := by
  simp only [nodesB, h, Bool.false_and, Bool.and_false]
theorem nodesB_rest {n m : ND} {r : List ND} (hm : m ∈ r) (h : (entB m && linkB m (n :: r).length) = false) : nodesB (n :: r) = false := by
  have e : (r.all fun m => entB m && linkB m (n :: r).length) = false := by
    rw [List.all_eq_false]
    exact ⟨m, hm, by rw [h]; simp⟩
  simp only [nodesB, e, Bool.and_false]
theorem nodesB_true {n : ND} {r : List ND} (hl : (n :: r).length ≤ 30) (h : (rootB n && linkB n (n :: r).length) = true) (hr : ∀ m ∈ r, (entB m && linkB m (n :: r).length) = true) : nodesB (n :: r) = true := by
  have e : (r.all fun m => entB m && linkB m (n :: r).length) = true := List.all_eq_true.2 hr
  have e1 : decide (1 ≤ (n :: r).length) = true := by simp
  have e2 : decide ((n :: r).length ≤ 30) = true := by simpa using hl
  simp only [nodesB, e, e1, e2, h, Bool.and_self]
theorem get_mem_tail {n m : ND} {r : List ND} {k : Nat} (h : (n :: r)[k]? = some m) (hk : 1 ≤ k) : m ∈ r := by
  obtain ⟨j, rfl⟩ : ∃ j, k = j + 1 := ⟨k - 1, by omega⟩
  simp only [List.getElem?_cons_succ] at h
  exact List.mem_of_getElem? h
/-- The first k - 1 nodes behind the root are as they must be. -/
def RestTo (n : ND) (r : List ND) (k : Nat) : Prop := ∀ j m, 1 ≤ j → j < k → (n :: r)[j]? = some m → (entB m && linkB m (n :: r).length) = true
theorem RestTo.all {n : ND} {r : List ND} (h : RestTo n r (n :: r).length) : ∀ m ∈ r, (entB m && linkB m (n :: r).length) = true := by
  intro m hm
  obtain ⟨i, hi⟩ := List.mem_iff_getElem?.1 hm
  have hl : i < r.length := (List.getElem?_eq_some_iff.1 hi).1
  exact h (i + 1) m (by omega) (by simp; omega) (by simpa using hi)
theorem RestTo.step {n m : ND} {r : List ND} {k : Nat} (h : RestTo n r k) (hm : (n :: r)[k]? = some m) (ht : (entB m && linkB m (n :: r).length) = true) : RestTo n r (k + 1) := by
  intro j m' h1 h2 h3
  by_cases e : j = k
  · subst e
    rw [hm] at h3
    cases h3
    exact ht
  · exact h j m' h1 (by omega) h3
theorem RestTo.one (n : ND) (r : List ND) : RestTo n r 1 := fun j m h1 h2 => by omega
/-- The end, whatever came of it. -/
def Says (l : List ND) (w : World) (e : Ending) (w' : World) : Prop := e = .returned (.bool (nodesB l)) ∧ Below w.heap.size w w'
theorem Says.of {l : List ND} {w w' : World} {b : Bool} (h : nodesB l = b) (hb : Below w.heap.size w w') : Says l w (.returned (.bool b)) w' := ⟨by rw [h], hb⟩


end Go.Proofs.Ytnojlncnepfaaaa
