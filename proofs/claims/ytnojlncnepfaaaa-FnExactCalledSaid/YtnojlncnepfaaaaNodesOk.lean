/- The checks of nodes: what the model and the program answer. -/
import Derived.Test.YtnojlncnepfaaaaList
namespace Go.Proofs.Ytnojlncnepfaaaa
open Go.ChangeShapes Go.WideShapes Go.ChangeAt Go.RowKit
set_option linter.unusedVariables false
set_option linter.unusedSimpArgs false

def inB (x lo hi : Int) : Bool := decide (lo ≤ x) && decide (x ≤ hi)
def linkB (n : ND) (many : Int) : Bool := inB n.l 0 (many - 1) && inB n.r 0 (many - 1) && inB n.o 0 6 && inB n.lt 0 10000 && inB n.rt 0 10000
def linkL (n : ND) (many : Int) : Bool := (inB n.l 0 (many - 1) && inB n.r 0 (many - 1)) && (inB n.lt 0 10000 && inB n.rt 0 10000) && inB n.o 0 6
def entB (n : ND) : Bool := inB n.k 0 99 && inB n.v 0 999
def rootB (n : ND) : Bool := (n.k == -1) && (n.v == 0) && (n.l == 0) && !n.g
def nodesB (l : List ND) : Bool := decide (1 ≤ l.length) && decide (l.length ≤ 30) && (match l with | [] => false | n :: r => rootB n && linkB n l.length && r.all fun m => entB m && linkB m l.length)
theorem inB_t {x lo hi : Int} (h : inB x lo hi = true) : lo ≤ x ∧ x ≤ hi := by simpa [inB] using h


theorem spec_in (x lo hi : Int) (w : World) :
    Calls Try.prog 15 #[.int .i64 x, .int .i64 lo, .int .i64 hi] w fun e w' => e = .returned (.bool (inB x lo hi)) ∧ w = w' := by
  by_cases h1 : lo ≤ x
  · by_cases h2 : x ≤ hi
    · have hr : inB x lo hi = true := by simp [inB, h1, h2]
      rw [hr]
      go_enter Try.func15, Try.ntmps15
      go_wp2
      go_ret
      exact ⟨rfl, rfl⟩
    · have hr : inB x lo hi = false := by simp [inB, h2]
      rw [hr]
      go_enter Try.func15, Try.ntmps15
      go_wp2
      go_ret
      exact ⟨rfl, rfl⟩
  · have hr : inB x lo hi = false := by simp [inB, h1]
    rw [hr]
    go_enter Try.func15, Try.ntmps15
    go_wp2
    go_ret
    exact ⟨rfl, rfl⟩

theorem impl_in (x lo hi : Int) (w : World) :
    Calls Try.prog 30 #[.int .i64 x, .int .i64 lo, .int .i64 hi] w fun e w' => e = .returned (.bool (inB x lo hi)) ∧ w = w' := by
  by_cases h1 : lo ≤ x
  · by_cases h2 : x ≤ hi
    · have hr : inB x lo hi = true := by simp [inB, h1, h2]
      rw [hr]
      go_enter Try.func30, Try.ntmps30
      go_wp2
      go_ret
      exact ⟨rfl, rfl⟩
    · have hr : inB x lo hi = false := by simp [inB, h2]
      rw [hr]
      go_enter Try.func30, Try.ntmps30
      go_wp2
      go_ret
      exact ⟨rfl, rfl⟩
  · have hr : inB x lo hi = false := by simp [inB, h1]
    rw [hr]
    go_enter Try.func30, Try.ntmps30
    go_wp2
    go_ret
    exact ⟨rfl, rfl⟩


set_option maxHeartbeats 1000000 in
theorem spec_tag (x : Int) (w : World) :
    Calls Try.prog 19 #[.int .i64 x] w fun e w' => e = .returned (.bool (inB x 0 10000)) ∧ w = w' := by
  rcases Bool.eq_false_or_eq_true (inB x 0 10000) with t0 | t0
  rotate_left
  · have hr : (inB x 0 10000) = false := by simp [and_true, t0]
    rw [hr]
    clear hr
    go_enter Try.func19, Try.ntmps19
    go_wp2_with (first | (go_at_call 15; refine (spec_in _ _ _ _).mono ?_; rintro e w1 ⟨rfl, rfl⟩))
    go_ret
    exact ⟨rfl, rfl⟩
  have hr : (inB x 0 10000) = true := by simp [and_true, t0]
  rw [hr]
  clear hr
  go_enter Try.func19, Try.ntmps19
  go_wp2_with (first | (go_at_call 15; refine (spec_in _ _ _ _).mono ?_; rintro e w1 ⟨rfl, rfl⟩))
  go_ret
  exact ⟨rfl, rfl⟩

theorem linkL_eq (n : ND) (many : Int) : linkL n many = linkB n many := by
  unfold linkL linkB
  cases inB n.l 0 (many - 1) <;> cases inB n.r 0 (many - 1) <;> cases inB n.o 0 6 <;> cases inB n.lt 0 10000 <;> cases inB n.rt 0 10000 <;> rfl

end Go.Proofs.Ytnojlncnepfaaaa
