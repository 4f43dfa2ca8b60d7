/- FindStep of the model. -/
import Derived.Test.YthllpgjggmdmmaaStep9
namespace Go.Proofs.Ythllpgjggmdmmaa
open Go.ChangeShapes Go.WideShapes Go.ChangeAt Go.RowKit
set_option linter.unusedVariables false
set_option linter.unusedSimpArgs false

abbrev StepR := List ND × List Int × HD × Bool
def noR : StepR := ([], [], HD.zero, false)
def doneR (l : List ND) (c : List Int) (h : HD) : StepR := if sharedB l c && handB h then (l, c, h, true) else noR
def Says3 (R : StepR) (w : World) (e : Ending) (w' : World) : Prop :=
  ∃ u x, e = .returned (.tuple #[.agg #[u, x], R.2.2.1.val, .bool R.2.2.2]) ∧ OwnR w' w.heap.size w'.heap.size 52 8 R.1.length (cellsOf R.1) u ∧ OwnR w' w.heap.size w'.heap.size 2 1 R.2.1.length (cellsI R.2.1) x ∧ Below w.heap.size w w'
/-- What is known where a step may be made. -/
theorem ok_facts {l : List ND} {c : List Int} {task : Int} {h : HD} {a b : Int} (hk : l7okB l c task h a b = true) :
    l ≠ [] ∧ c ≠ [] ∧ 0 < l.length ∧ 0 < c.length ∧ (a ≤ h.at_ ∧ h.at_ ≤ b) ∧ ∃ kt : Nat, task = (kt : Int) ∧ kt < c.length ∧ (0 ≤ atI c kt ∧ atI c kt ≤ 100000) ∧ nodesB l = true ∧
      (hasB l h.prev = true ∧ hasB l h.cur = true ∧ hasB l h.up = true ∧ hasB l h.next = true ∧ hasB l h.new = true) := by
  simp only [l7okB, Bool.and_eq_true, sharedB] at hk
  obtain ⟨⟨⟨⟨⟨h1, h2⟩, h3⟩, h4⟩, h5⟩, h6⟩ := hk
  obtain ⟨n1, n2⟩ := nodes_some h1
  obtain ⟨c1, c2, c3⟩ := countsB_some h2
  obtain ⟨t0, t1⟩ := inB_t h4
  obtain ⟨a0, a1⟩ := inB_t h5
  obtain ⟨kt, rfl⟩ := Int.eq_ofNat_of_zero_le t0
  have hkt : kt < c.length := by omega
  have hc := c3 kt _ (List.getElem?_eq_getElem hkt)
  rw [← atI_get (List.getElem?_eq_getElem hkt)] at hc
  simp [five] at h6
  refine ⟨fun e => by subst e; simp at n1, fun e => by subst e; simp at hkt, by omega, by omega, ⟨a0, a1⟩, kt, rfl, hkt, ?_, h1, ?_⟩
  · first | exact hc | exact inB_t hc | omega
  · obtain ⟨x1, x2, x3, x4, x5⟩ := h6
    exact ⟨x1, x2, x3, x4, x5⟩

end Go.Proofs.Ythllpgjggmdmmaa
