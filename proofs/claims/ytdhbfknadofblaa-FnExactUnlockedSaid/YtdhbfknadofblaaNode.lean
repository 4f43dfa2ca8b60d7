/- What the node functions answer, program and model alike, and the walks of their laws. -/
import Derived.Test.YtdhbfknadofblaaBase
namespace Go.Proofs.Ytdhbfknadofblaa
open Go.ChangeShapes Go.WideShapes Go.ChangeAt Go.RowKit
set_option linter.unusedVariables false
set_option linter.unusedSimpArgs false

def kidF (s l r : Int) : Int := if s = 0 then l else if s = 1 then r else 0
def leftF (s kid l : Int) : Int := if s = 0 then kid else l
def rightF (s kid r : Int) : Int := if s = 1 then kid else r
def sideF (key k : Int) : Int := if key < k then 0 else 1
theorem ret_i {a b : Int} (h : a = b) : Ending.returned (.int .i64 a) = .returned (.int .i64 b) := by rw [h]
theorem below_size {B : Nat} {w w' : World} (h : Below B w w') : w.heap.size ≤ w'.heap.size := h.size


set_option maxHeartbeats 1000000 in
theorem toNode_any (k v l r o : Int) (g : Bool) (lt rt : Int) (w : World) :
    Calls Try.prog 21 #[.agg #[.int .i64 k, .int .i64 v, .int .i64 l, .int .i64 r, .int .i64 o, .bool g, .int .i64 lt, .int .i64 rt]] w fun e w' => e = .returned (.agg #[.int .i64 k, .int .i64 v, .int .i64 l, .int .i64 r, .int .i64 o, .bool g, .int .i64 lt, .int .i64 rt]) ∧ Below w.heap.size w w' := by
  go_enter Try.func21, Try.ntmps21
  go_wp2
  exact bodyPost_ret (v := .agg #[.int .i64 k, .int .i64 v, .int .i64 l, .int .i64 r, .int .i64 o, .bool g, .int .i64 lt, .int .i64 rt]) (by simp [results, Try.results21, go_sem]) rfl ⟨rfl, (by repeat (first | exact Below.refl _ _ | assumption | refine Below.drew ?_ | refine Below.alloc ?_ (by simp; try omega) _ | refine Below.setCell ?_ (by simp; try omega) _ | (refine Below.trans ?_ (Below.mono (by assumption) (by simp; try omega)))))⟩

set_option maxHeartbeats 1000000 in
theorem eqNode_same (k v l r o : Int) (g : Bool) (lt rt : Int) (w : World) :
    Calls Try.prog 25 #[.agg #[.int .i64 k, .int .i64 v, .int .i64 l, .int .i64 r, .int .i64 o, .bool g, .int .i64 lt, .int .i64 rt], .agg #[.int .i64 k, .int .i64 v, .int .i64 l, .int .i64 r, .int .i64 o, .bool g, .int .i64 lt, .int .i64 rt]] w fun e w' => e = .returned (.bool true) ∧ Below w.heap.size w w' := by
  cases g
  all_goals
    go_enter Try.func25, Try.ntmps25
    go_wp2
    go_ret
    exact ⟨rfl, (by repeat (first | exact Below.refl _ _ | assumption | refine Below.drew ?_ | refine Below.alloc ?_ (by simp; try omega) _ | refine Below.setCell ?_ (by simp; try omega) _ | (refine Below.trans ?_ (Below.mono (by assumption) (by simp; try omega)))))⟩


end Go.Proofs.Ytdhbfknadofblaa
