/- Calls: what the model answers. -/
import Derived.Test.YthllpgjggmdmmaaNodesOk
namespace Go.Proofs.Ythllpgjggmdmmaa
open Go.ChangeShapes Go.WideShapes Go.ChangeAt Go.RowKit
set_option linter.unusedVariables false
set_option linter.unusedSimpArgs false

def callB (c k v : Int) : Bool := inB c 1 3 && inB k 0 99 && (if c = 2 then inB v 0 999 else v == 0)
def noneB (c k v : Int) : Bool := c == 0 && k == 0 && v == 0
set_option maxHeartbeats 1000000 in
theorem spec_CallOk (c k v : Int) (w : World) :
    Calls Try.prog 59 #[.agg #[.int .i64 c, .int .i64 k, .int .i64 v]] w fun e w' => e = .returned (.bool (callB c k v)) ∧ Below w.heap.size w w' := by
  rcases Bool.eq_false_or_eq_true (inB c 1 3) with t0 | t0
  · rcases Bool.eq_false_or_eq_true (inB k 0 99) with t1 | t1
    · by_cases h2 : c = 2
      · subst h2
        have hr : callB 2 k v = inB v 0 999 := by simp [callB, t0, t1]
        rw [hr]
        clear hr
        go_enter Try.func59, Try.ntmps59
        go_wp2_with (go_at_call 38; refine (spec_in _ _ _ _).mono ?_; rintro e w1 ⟨rfl, rfl⟩)
        go_ret
        exact ⟨rfl, (Below.refl _ _).alloc (Nat.le_refl _) _⟩
      · have hr : callB c k v = (v == 0) := by simp [callB, t0, t1, h2]
        rw [hr]
        clear hr
        go_enter Try.func59, Try.ntmps59
        go_wp2_with (go_at_call 38; refine (spec_in _ _ _ _).mono ?_; rintro e w1 ⟨rfl, rfl⟩)
        go_ret
        exact ⟨rfl, (Below.refl _ _).alloc (Nat.le_refl _) _⟩
    · have hr : callB c k v = false := by simp [callB, t0, t1]
      rw [hr]
      clear hr
      go_enter Try.func59, Try.ntmps59
      go_wp2_with (go_at_call 38; refine (spec_in _ _ _ _).mono ?_; rintro e w1 ⟨rfl, rfl⟩)
      go_ret
      exact ⟨rfl, (Below.refl _ _).alloc (Nat.le_refl _) _⟩
  · have hr : callB c k v = false := by simp [callB, t0]
    rw [hr]
    clear hr
    go_enter Try.func59, Try.ntmps59
    go_wp2_with (go_at_call 38; refine (spec_in _ _ _ _).mono ?_; rintro e w1 ⟨rfl, rfl⟩)
    go_ret
    exact ⟨rfl, (Below.refl _ _).alloc (Nat.le_refl _) _⟩

set_option maxHeartbeats 1000000 in
theorem spec_none (c k v : Int) (w : World) :
    Calls Try.prog 60 #[.agg #[.int .i64 c, .int .i64 k, .int .i64 v]] w fun e w' => e = .returned (.bool (noneB c k v)) ∧ Below w.heap.size w w' := by
  go_enter Try.func60, Try.ntmps60
  go_wp2
  all_goals
    go_ret
    exact ⟨by simp_all [noneB], (Below.refl _ _).alloc (Nat.le_refl _) _⟩

end Go.Proofs.Ythllpgjggmdmmaa
