/- What a right reply is, what is right in shared memory, and whether a step may be made: the model. -/
import Derived.Test.YthllpgjggmdmmaaHand3
import Derived.Test.YthllpgjggmdmmaaHeldSpec
import Derived.Test.YthllpgjggmdmmaaReaderSpec
namespace Go.Proofs.Ythllpgjggmdmmaa
open Go.ChangeShapes Go.WideShapes Go.ChangeAt Go.RowKit
set_option linter.unusedVariables false
set_option linter.unusedSimpArgs false

/-! ### Shared memory -/
def sharedB (l : List ND) (c : List Int) : Bool := nodesB l && countsB c
theorem two_cells {w : World} {g : Nat} {t : TypeId} {a b : Value} (h : Blk w g t [a, b]) : w.cell? ⟨g, 0, none⟩ = some a ∧ w.cell? ⟨g, 1, none⟩ = some b ∧ ∀ i, w.frozen? ⟨g, i, none⟩ = false := ⟨h.cell 0, h.cell 1, fun i => h.free i⟩

set_option maxHeartbeats 1000000 in
theorem spec_SharedOk (u x : Value) (l : List ND) (c : List Int) (w : World) (h1 : NSl w u l) (h2 : SlI w x c) (hl : l.length ≤ 1048576) (hc : c.length ≤ 1048576) :
    Calls Try.prog 36 #[.agg #[u, x]] w fun e w' => e = .returned (.bool (sharedB l c)) ∧ Below w.heap.size w w' := by
  have CN := fun w h => spec_NodesOk u l w h hl
  have CC := fun w h => spec_CountsOk x c w h hc
  have HR : sharedB l c = (nodesB l && countsB c) := rfl
  rw [HR]
  clear HR
  unfold Says at CN
  generalize nodesB l = nb at CN ⊢
  generalize countsB c = cb at CC ⊢
  have H := Lib.hid (And.intro h1 h2)
  obtain ⟨a, k, rfl, -⟩ := h1
  obtain ⟨a', k', rfl, -⟩ := h2
  have b0 := (Below.refl w.heap.size w).alloc (Nat.le_refl _) (.cells #[Value.slice a l.length k, Value.slice a' c.length k'] 33)
  cases nb
  · go_enter Try.func36, Try.ntmps36
    go_wp2_with fail
    refine (CN _ (H.out.1.below b0)).mono ?_
    rintro e w1 ⟨rfl, hB1⟩
    go_wp2
    go_ret
    exact ⟨rfl, b0.trans (hB1.mono (by simp))⟩
  · go_enter Try.func36, Try.ntmps36
    go_wp2_with fail
    refine (CN _ (H.out.1.below b0)).mono ?_
    rintro e w1 ⟨rfl, hB1⟩
    have b1 := b0.trans (hB1.mono (by simp))
    obtain ⟨q0, q1, qf⟩ := two_cells (Blk.below (e := 33) (cs := [Value.slice a l.length k, Value.slice a' c.length k']) (heap_alloc_new w _) hB1 (by simp))
    go_wp2_with fail
    refine (CC _ (H.out.2.below b1)).mono ?_
    rintro e w2 ⟨rfl, rfl⟩
    go_wp2
    go_ret
    exact ⟨rfl, b1⟩
end Go.Proofs.Ythllpgjggmdmmaa
