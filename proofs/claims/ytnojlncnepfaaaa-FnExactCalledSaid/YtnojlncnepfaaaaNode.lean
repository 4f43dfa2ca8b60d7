/- What the node functions answer, program and model alike, and the walks of their laws. -/
import Derived.Test.YtnojlncnepfaaaaBase
namespace Go.Proofs.Ytnojlncnepfaaaa
open Go.ChangeShapes Go.WideShapes Go.ChangeAt Go.RowKit
set_option linter.unusedVariables false
set_option linter.unusedSimpArgs false

def kidF (s l r : Int) : Int := if s = 0 then l else if s = 1 then r else 0
def leftF (s kid l : Int) : Int := if s = 0 then kid else l
def rightF (s kid r : Int) : Int := if s = 1 then kid else r
def sideF (key k : Int) : Int := if key < k then 0 else 1
theorem ret_i {a b : Int} (h : a = b) : Ending.returned (.int .i64 a) = .returned (.int .i64 b) := by rw [h]
theorem below_size {B : Nat} {w w' : World} (h : Below B w w') : w.heap.size ≤ w'.heap.size := h.size


end Go.Proofs.Ytnojlncnepfaaaa
