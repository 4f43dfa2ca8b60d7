/- The checks of nodes: what the model and the program answer. -/
import Derived.Test.YthllpgjggmdmmaaList
namespace Go.Proofs.Ythllpgjggmdmmaa
open Go.ChangeShapes Go.WideShapes Go.ChangeAt Go.RowKit
set_option linter.unusedVariables false
set_option linter.unusedSimpArgs false

def inB (x lo hi : Int) : Bool := decide (lo ≤ x) && decide (x ≤ hi)
def linkB (n : ND) (many : Int) : Bool := inB n.l 0 (many - 1) && inB n.r 0 (many - 1) && inB n.o 0 6 && inB n.lt 0 10000 && inB n.rt 0 10000
def linkL (n : ND) (many : Int) : Bool := (inB n.l 0 (many - 1) && inB n.r 0 (many - 1)) && (inB n.lt 0 10000 && inB n.rt 0 10000) && inB n.o 0 6
def entB (n : ND) : Bool := inB n.k 0 99 && inB n.v 0 999
def rootB (n : ND) : Bool := (n.k == -1) && (n.v == 0) && (n.l == 0) && !n.g
def nodesB (l : List ND) : Bool := decide (1 ≤ l.length) && decide (l.length ≤ 30) && (match l with | [] => false | n :: r => rootB n && linkB n l.length && r.all fun m => entB m && linkB m l.length)
theorem inB_t {x lo hi : Int} (h : inB x lo hi = true) : lo ≤ x ∧ x ≤ hi := by simpa [inB] using h


theorem spec_in (x lo hi : Int) (w : World) :
    Calls Try.prog 38 #[.int .i64 x, .int .i64 lo, .int .i64 hi] w fun e w' => e = .returned (.bool (inB x lo hi)) ∧ w = w' := by
  by_cases h1 : lo ≤ x
  · by_cases h2 : x ≤ hi
    · have hr : inB x lo hi = true := by simp [inB, h1, h2]
      rw [hr]
      go_enter Try.func38, Try.ntmps38
      go_wp2
      go_ret
      exact ⟨rfl, rfl⟩
    · have hr : inB x lo hi = false := by simp [inB, h2]
      rw [hr]
      go_enter Try.func38, Try.ntmps38
      go_wp2
      go_ret
      exact ⟨rfl, rfl⟩
  · have hr : inB x lo hi = false := by simp [inB, h1]
    rw [hr]
    go_enter Try.func38, Try.ntmps38
    go_wp2
    go_ret
    exact ⟨rfl, rfl⟩

theorem impl_in (x lo hi : Int) (w : World) :
    Calls Try.prog 74 #[.int .i64 x, .int .i64 lo, .int .i64 hi] w fun e w' => e = .returned (.bool (inB x lo hi)) ∧ w = w' := by
  by_cases h1 : lo ≤ x
  · by_cases h2 : x ≤ hi
    · have hr : inB x lo hi = true := by simp [inB, h1, h2]
      rw [hr]
      go_enter Try.func74, Try.ntmps74
      go_wp2
      go_ret
      exact ⟨rfl, rfl⟩
    · have hr : inB x lo hi = false := by simp [inB, h2]
      rw [hr]
      go_enter Try.func74, Try.ntmps74
      go_wp2
      go_ret
      exact ⟨rfl, rfl⟩
  · have hr : inB x lo hi = false := by simp [inB, h1]
    rw [hr]
    go_enter Try.func74, Try.ntmps74
    go_wp2
    go_ret
    exact ⟨rfl, rfl⟩


set_option maxHeartbeats 1000000 in
theorem spec_tag (x : Int) (w : World) :
    Calls Try.prog 61 #[.int .i64 x] w fun e w' => e = .returned (.bool (inB x 0 10000)) ∧ w = w' := by
  rcases Bool.eq_false_or_eq_true (inB x 0 10000) with t0 | t0
  rotate_left
  · have hr : (inB x 0 10000) = false := by simp [and_true, t0]
    rw [hr]
    clear hr
    go_enter Try.func61, Try.ntmps61
    go_wp2_with (first | (go_at_call 38; refine (spec_in _ _ _ _).mono ?_; rintro e w1 ⟨rfl, rfl⟩))
    go_ret
    exact ⟨rfl, rfl⟩
  have hr : (inB x 0 10000) = true := by simp [and_true, t0]
  rw [hr]
  clear hr
  go_enter Try.func61, Try.ntmps61
  go_wp2_with (first | (go_at_call 38; refine (spec_in _ _ _ _).mono ?_; rintro e w1 ⟨rfl, rfl⟩))
  go_ret
  exact ⟨rfl, rfl⟩

set_option maxHeartbeats 1000000 in
theorem spec_link (k v l r o : Int) (g : Bool) (lt rt : Int) (many : Int) (w : World) (m0 : 1 ≤ many) (m1 : many ≤ 1048576) :
    Calls Try.prog 73 #[.agg #[.int .i64 k, .int .i64 v, .int .i64 l, .int .i64 r, .int .i64 o, .bool g, .int .i64 lt, .int .i64 rt], .int .i64 many] w fun e w' => e = .returned (.bool (linkB ⟨k, v, l, r, o, g, lt, rt⟩ many)) ∧ Below w.heap.size w w' := by
  rcases Bool.eq_false_or_eq_true (inB l 0 (many - 1)) with t0 | t0
  rotate_left
  · have hr : (linkB ⟨k, v, l, r, o, g, lt, rt⟩ many) = false := by simp [linkB, t0]
    rw [hr]
    clear hr
    go_enter Try.func73, Try.ntmps73
    go_wp2_with (first | (go_at_call 38; refine (spec_in _ _ _ _).mono ?_; rintro e w1 ⟨rfl, rfl⟩) | (go_at_call 61; refine (spec_tag _ _).mono ?_; rintro e w1 ⟨rfl, rfl⟩))
    go_ret
    exact ⟨rfl, (by repeat (first | exact Below.refl _ _ | assumption | refine Below.drew ?_ | refine Below.alloc ?_ (by first | omega | (simp; try omega)) _ | refine Below.setCell ?_ (by first | omega | (simp; try omega)) _ | (refine Below.trans ?_ (Below.mono (by assumption) (by first | omega | (simp; try omega))))))⟩
  rcases Bool.eq_false_or_eq_true (inB r 0 (many - 1)) with t1 | t1
  rotate_left
  · have hr : (linkB ⟨k, v, l, r, o, g, lt, rt⟩ many) = false := by simp [linkB, t0, t1]
    rw [hr]
    clear hr
    go_enter Try.func73, Try.ntmps73
    go_wp2_with (first | (go_at_call 38; refine (spec_in _ _ _ _).mono ?_; rintro e w1 ⟨rfl, rfl⟩) | (go_at_call 61; refine (spec_tag _ _).mono ?_; rintro e w1 ⟨rfl, rfl⟩))
    go_ret
    exact ⟨rfl, (by repeat (first | exact Below.refl _ _ | assumption | refine Below.drew ?_ | refine Below.alloc ?_ (by first | omega | (simp; try omega)) _ | refine Below.setCell ?_ (by first | omega | (simp; try omega)) _ | (refine Below.trans ?_ (Below.mono (by assumption) (by first | omega | (simp; try omega))))))⟩
  rcases Bool.eq_false_or_eq_true (inB o 0 6) with t2 | t2
  rotate_left
  · have hr : (linkB ⟨k, v, l, r, o, g, lt, rt⟩ many) = false := by simp [linkB, t0, t1, t2]
    rw [hr]
    clear hr
    go_enter Try.func73, Try.ntmps73
    go_wp2_with (first | (go_at_call 38; refine (spec_in _ _ _ _).mono ?_; rintro e w1 ⟨rfl, rfl⟩) | (go_at_call 61; refine (spec_tag _ _).mono ?_; rintro e w1 ⟨rfl, rfl⟩))
    go_ret
    exact ⟨rfl, (by repeat (first | exact Below.refl _ _ | assumption | refine Below.drew ?_ | refine Below.alloc ?_ (by first | omega | (simp; try omega)) _ | refine Below.setCell ?_ (by first | omega | (simp; try omega)) _ | (refine Below.trans ?_ (Below.mono (by assumption) (by first | omega | (simp; try omega))))))⟩
  rcases Bool.eq_false_or_eq_true (inB lt 0 10000) with t3 | t3
  rotate_left
  · have hr : (linkB ⟨k, v, l, r, o, g, lt, rt⟩ many) = false := by simp [linkB, t0, t1, t2, t3]
    rw [hr]
    clear hr
    go_enter Try.func73, Try.ntmps73
    go_wp2_with (first | (go_at_call 38; refine (spec_in _ _ _ _).mono ?_; rintro e w1 ⟨rfl, rfl⟩) | (go_at_call 61; refine (spec_tag _ _).mono ?_; rintro e w1 ⟨rfl, rfl⟩))
    go_ret
    exact ⟨rfl, (by repeat (first | exact Below.refl _ _ | assumption | refine Below.drew ?_ | refine Below.alloc ?_ (by first | omega | (simp; try omega)) _ | refine Below.setCell ?_ (by first | omega | (simp; try omega)) _ | (refine Below.trans ?_ (Below.mono (by assumption) (by first | omega | (simp; try omega))))))⟩
  rcases Bool.eq_false_or_eq_true (inB rt 0 10000) with t4 | t4
  rotate_left
  · have hr : (linkB ⟨k, v, l, r, o, g, lt, rt⟩ many) = false := by simp [linkB, t0, t1, t2, t3, t4]
    rw [hr]
    clear hr
    go_enter Try.func73, Try.ntmps73
    go_wp2_with (first | (go_at_call 38; refine (spec_in _ _ _ _).mono ?_; rintro e w1 ⟨rfl, rfl⟩) | (go_at_call 61; refine (spec_tag _ _).mono ?_; rintro e w1 ⟨rfl, rfl⟩))
    go_ret
    exact ⟨rfl, (by repeat (first | exact Below.refl _ _ | assumption | refine Below.drew ?_ | refine Below.alloc ?_ (by first | omega | (simp; try omega)) _ | refine Below.setCell ?_ (by first | omega | (simp; try omega)) _ | (refine Below.trans ?_ (Below.mono (by assumption) (by first | omega | (simp; try omega))))))⟩
  have hr : (linkB ⟨k, v, l, r, o, g, lt, rt⟩ many) = true := by simp [linkB, t0, t1, t2, t3, t4]
  rw [hr]
  clear hr
  go_enter Try.func73, Try.ntmps73
  go_wp2_with (first | (go_at_call 38; refine (spec_in _ _ _ _).mono ?_; rintro e w1 ⟨rfl, rfl⟩) | (go_at_call 61; refine (spec_tag _ _).mono ?_; rintro e w1 ⟨rfl, rfl⟩))
  go_ret
  exact ⟨rfl, (by repeat (first | exact Below.refl _ _ | assumption | refine Below.drew ?_ | refine Below.alloc ?_ (by first | omega | (simp; try omega)) _ | refine Below.setCell ?_ (by first | omega | (simp; try omega)) _ | (refine Below.trans ?_ (Below.mono (by assumption) (by first | omega | (simp; try omega))))))⟩

set_option maxHeartbeats 1000000 in
theorem impl_kid (k v l r o : Int) (g : Bool) (lt rt : Int) (s : Int) (w : World) :
    Calls Try.prog 81 #[.agg #[.int .i64 k, .int .i64 v, .int .i64 l, .int .i64 r, .int .i64 o, .bool g, .int .i64 lt, .int .i64 rt], .int .i64 s] w fun e w' => e = .returned (.int .i64 (kidF s l r)) ∧ Below w.heap.size w w' := by
  by_cases h0 : s = 0
  · subst h0
    go_enter Try.func81, Try.ntmps81
    go_wp2
    go_ret
    exact ⟨rfl, (by repeat (first | exact Below.refl _ _ | assumption | refine Below.drew ?_ | refine Below.alloc ?_ (by first | omega | (simp; try omega)) _ | refine Below.setCell ?_ (by first | omega | (simp; try omega)) _ | (refine Below.trans ?_ (Below.mono (by assumption) (by first | omega | (simp; try omega))))))⟩
  · by_cases h1 : s = 1
    · subst h1
      go_enter Try.func81, Try.ntmps81
      go_wp2
      go_ret
      exact ⟨rfl, (by repeat (first | exact Below.refl _ _ | assumption | refine Below.drew ?_ | refine Below.alloc ?_ (by first | omega | (simp; try omega)) _ | refine Below.setCell ?_ (by first | omega | (simp; try omega)) _ | (refine Below.trans ?_ (Below.mono (by assumption) (by first | omega | (simp; try omega))))))⟩
    · have hv : kidF s l r = 0 := by simp [kidF, h0, h1]
      have g0 : (s == 0) = false := by simpa using h0
      have g1 : (s == 1) = false := by simpa using h1
      rw [hv]
      clear hv h0 h1
      go_enter Try.func81, Try.ntmps81
      go_wp2
      go_ret
      exact ⟨rfl, (by repeat (first | exact Below.refl _ _ | assumption | refine Below.drew ?_ | refine Below.alloc ?_ (by first | omega | (simp; try omega)) _ | refine Below.setCell ?_ (by first | omega | (simp; try omega)) _ | (refine Below.trans ?_ (Below.mono (by assumption) (by first | omega | (simp; try omega))))))⟩

set_option maxHeartbeats 1000000 in
theorem impl_tag (k v l r o : Int) (g : Bool) (lt rt : Int) (s : Int) (w : World) :
    Calls Try.prog 94 #[.agg #[.int .i64 k, .int .i64 v, .int .i64 l, .int .i64 r, .int .i64 o, .bool g, .int .i64 lt, .int .i64 rt], .int .i64 s] w fun e w' => e = .returned (.int .i64 (kidF s lt rt)) ∧ Below w.heap.size w w' := by
  by_cases h0 : s = 0
  · subst h0
    go_enter Try.func94, Try.ntmps94
    go_wp2
    go_ret
    exact ⟨rfl, (by repeat (first | exact Below.refl _ _ | assumption | refine Below.drew ?_ | refine Below.alloc ?_ (by first | omega | (simp; try omega)) _ | refine Below.setCell ?_ (by first | omega | (simp; try omega)) _ | (refine Below.trans ?_ (Below.mono (by assumption) (by first | omega | (simp; try omega))))))⟩
  · by_cases h1 : s = 1
    · subst h1
      go_enter Try.func94, Try.ntmps94
      go_wp2
      go_ret
      exact ⟨rfl, (by repeat (first | exact Below.refl _ _ | assumption | refine Below.drew ?_ | refine Below.alloc ?_ (by first | omega | (simp; try omega)) _ | refine Below.setCell ?_ (by first | omega | (simp; try omega)) _ | (refine Below.trans ?_ (Below.mono (by assumption) (by first | omega | (simp; try omega))))))⟩
    · have hv : kidF s lt rt = 0 := by simp [kidF, h0, h1]
      have g0 : (s == 0) = false := by simpa using h0
      have g1 : (s == 1) = false := by simpa using h1
      rw [hv]
      clear hv h0 h1
      go_enter Try.func94, Try.ntmps94
      go_wp2
      go_ret
      exact ⟨rfl, (by repeat (first | exact Below.refl _ _ | assumption | refine Below.drew ?_ | refine Below.alloc ?_ (by first | omega | (simp; try omega)) _ | refine Below.setCell ?_ (by first | omega | (simp; try omega)) _ | (refine Below.trans ?_ (Below.mono (by assumption) (by first | omega | (simp; try omega))))))⟩

set_option maxHeartbeats 1000000 in
theorem impl_root (k v l r o : Int) (g : Bool) (lt rt : Int) (w : World) :
    Calls Try.prog 82 #[.agg #[.int .i64 k, .int .i64 v, .int .i64 l, .int .i64 r, .int .i64 o, .bool g, .int .i64 lt, .int .i64 rt]] w fun e w' => e = .returned (.bool (rootB ⟨k, v, l, r, o, g, lt, rt⟩)) ∧ Below w.heap.size w w' := by
  rcases Bool.eq_false_or_eq_true ((k == -1)) with t0 | t0
  rotate_left
  · have hr : (rootB ⟨k, v, l, r, o, g, lt, rt⟩) = false := by simp [rootB, t0]
    rw [hr]
    clear hr
    go_enter Try.func82, Try.ntmps82
    go_wp2
    go_ret
    exact ⟨rfl, (by repeat (first | exact Below.refl _ _ | assumption | refine Below.drew ?_ | refine Below.alloc ?_ (by first | omega | (simp; try omega)) _ | refine Below.setCell ?_ (by first | omega | (simp; try omega)) _ | (refine Below.trans ?_ (Below.mono (by assumption) (by first | omega | (simp; try omega))))))⟩
  rcases Bool.eq_false_or_eq_true ((v == 0)) with t1 | t1
  rotate_left
  · have hr : (rootB ⟨k, v, l, r, o, g, lt, rt⟩) = false := by simp [rootB, t0, t1]
    rw [hr]
    clear hr
    go_enter Try.func82, Try.ntmps82
    go_wp2
    go_ret
    exact ⟨rfl, (by repeat (first | exact Below.refl _ _ | assumption | refine Below.drew ?_ | refine Below.alloc ?_ (by first | omega | (simp; try omega)) _ | refine Below.setCell ?_ (by first | omega | (simp; try omega)) _ | (refine Below.trans ?_ (Below.mono (by assumption) (by first | omega | (simp; try omega))))))⟩
  rcases Bool.eq_false_or_eq_true ((l == 0)) with t2 | t2
  rotate_left
  · have hr : (rootB ⟨k, v, l, r, o, g, lt, rt⟩) = false := by simp [rootB, t0, t1, t2]
    rw [hr]
    clear hr
    go_enter Try.func82, Try.ntmps82
    go_wp2
    go_ret
    exact ⟨rfl, (by repeat (first | exact Below.refl _ _ | assumption | refine Below.drew ?_ | refine Below.alloc ?_ (by first | omega | (simp; try omega)) _ | refine Below.setCell ?_ (by first | omega | (simp; try omega)) _ | (refine Below.trans ?_ (Below.mono (by assumption) (by first | omega | (simp; try omega))))))⟩
  rcases Bool.eq_false_or_eq_true ((!g)) with t3 | t3
  rotate_left
  · have hr : (rootB ⟨k, v, l, r, o, g, lt, rt⟩) = false := by simp [rootB, t0, t1, t2, t3]
    rw [hr]
    clear hr
    go_enter Try.func82, Try.ntmps82
    go_wp2
    go_ret
    exact ⟨rfl, (by repeat (first | exact Below.refl _ _ | assumption | refine Below.drew ?_ | refine Below.alloc ?_ (by first | omega | (simp; try omega)) _ | refine Below.setCell ?_ (by first | omega | (simp; try omega)) _ | (refine Below.trans ?_ (Below.mono (by assumption) (by first | omega | (simp; try omega))))))⟩
  have hr : (rootB ⟨k, v, l, r, o, g, lt, rt⟩) = true := by simp [rootB, t0, t1, t2, t3]
  rw [hr]
  clear hr
  go_enter Try.func82, Try.ntmps82
  go_wp2
  go_ret
  exact ⟨rfl, (by repeat (first | exact Below.refl _ _ | assumption | refine Below.drew ?_ | refine Below.alloc ?_ (by first | omega | (simp; try omega)) _ | refine Below.setCell ?_ (by first | omega | (simp; try omega)) _ | (refine Below.trans ?_ (Below.mono (by assumption) (by first | omega | (simp; try omega))))))⟩

set_option maxHeartbeats 1000000 in
theorem impl_ent (k v l r o : Int) (g : Bool) (lt rt : Int) (w : World) :
    Calls Try.prog 83 #[.agg #[.int .i64 k, .int .i64 v, .int .i64 l, .int .i64 r, .int .i64 o, .bool g, .int .i64 lt, .int .i64 rt]] w fun e w' => e = .returned (.bool (entB ⟨k, v, l, r, o, g, lt, rt⟩)) ∧ Below w.heap.size w w' := by
  rcases Bool.eq_false_or_eq_true (inB k 0 99) with t0 | t0
  rotate_left
  · have hr : (entB ⟨k, v, l, r, o, g, lt, rt⟩) = false := by simp [entB, t0]
    rw [hr]
    clear hr
    go_enter Try.func83, Try.ntmps83
    go_wp2_with (first | (go_at_call 74; refine (impl_in _ _ _ _).mono ?_; rintro e w1 ⟨rfl, rfl⟩))
    go_ret
    exact ⟨rfl, (by repeat (first | exact Below.refl _ _ | assumption | refine Below.drew ?_ | refine Below.alloc ?_ (by first | omega | (simp; try omega)) _ | refine Below.setCell ?_ (by first | omega | (simp; try omega)) _ | (refine Below.trans ?_ (Below.mono (by assumption) (by first | omega | (simp; try omega))))))⟩
  rcases Bool.eq_false_or_eq_true (inB v 0 999) with t1 | t1
  rotate_left
  · have hr : (entB ⟨k, v, l, r, o, g, lt, rt⟩) = false := by simp [entB, t0, t1]
    rw [hr]
    clear hr
    go_enter Try.func83, Try.ntmps83
    go_wp2_with (first | (go_at_call 74; refine (impl_in _ _ _ _).mono ?_; rintro e w1 ⟨rfl, rfl⟩))
    go_ret
    exact ⟨rfl, (by repeat (first | exact Below.refl _ _ | assumption | refine Below.drew ?_ | refine Below.alloc ?_ (by first | omega | (simp; try omega)) _ | refine Below.setCell ?_ (by first | omega | (simp; try omega)) _ | (refine Below.trans ?_ (Below.mono (by assumption) (by first | omega | (simp; try omega))))))⟩
  have hr : (entB ⟨k, v, l, r, o, g, lt, rt⟩) = true := by simp [entB, t0, t1]
  rw [hr]
  clear hr
  go_enter Try.func83, Try.ntmps83
  go_wp2_with (first | (go_at_call 74; refine (impl_in _ _ _ _).mono ?_; rintro e w1 ⟨rfl, rfl⟩))
  go_ret
  exact ⟨rfl, (by repeat (first | exact Below.refl _ _ | assumption | refine Below.drew ?_ | refine Below.alloc ?_ (by first | omega | (simp; try omega)) _ | refine Below.setCell ?_ (by first | omega | (simp; try omega)) _ | (refine Below.trans ?_ (Below.mono (by assumption) (by first | omega | (simp; try omega))))))⟩

set_option maxHeartbeats 1000000 in
theorem impl_both_kid (k v l r o : Int) (g : Bool) (lt rt : Int) (most : Int) (w : World) :
    Calls Try.prog 93 #[.func (.func 81) #[.agg #[.int .i64 k, .int .i64 v, .int .i64 l, .int .i64 r, .int .i64 o, .bool g, .int .i64 lt, .int .i64 rt]] #[], .int .i64 most] w fun e w' => e = .returned (.bool (inB l 0 most && inB r 0 most)) ∧ Below w.heap.size w w' := by
  have q0 : kidF 0 l r = l := rfl
  have q1 : kidF 1 l r = r := rfl
  rcases Bool.eq_false_or_eq_true (inB l 0 most) with t0 | t0
  rotate_left
  · have hr : (inB l 0 most && inB r 0 most) = false := by simp [and_true, t0]
    rw [hr]
    clear hr
    go_enter Try.func93, Try.ntmps93
    go_wp2_with (first | (go_at_call 81; ((with_reducible refine (impl_kid _ _ _ _ _ _ _ _ _ _).mono ?_); rintro e w1 ⟨rfl, hb⟩; obtain ⟨hc, hf⟩ := bcell hb; have hz := hb.size; (try simp at hc); (try simp at hf); (try simp at hz); have hz0 : w.heap.size ≤ w1.heap.size := (by omega))) | (go_at_call 74; refine (impl_in _ _ _ _).mono ?_; rintro e w1 ⟨rfl, rfl⟩))
    go_ret
    exact ⟨rfl, (by repeat (first | exact Below.refl _ _ | assumption | refine Below.drew ?_ | refine Below.alloc ?_ (by first | omega | (simp; try omega)) _ | refine Below.setCell ?_ (by first | omega | (simp; try omega)) _ | (refine Below.trans ?_ (Below.mono (by assumption) (by first | omega | (simp; try omega))))))⟩
  rcases Bool.eq_false_or_eq_true (inB r 0 most) with t1 | t1
  rotate_left
  · have hr : (inB l 0 most && inB r 0 most) = false := by simp [and_true, t0, t1]
    rw [hr]
    clear hr
    go_enter Try.func93, Try.ntmps93
    go_wp2_with (first | (go_at_call 81; ((with_reducible refine (impl_kid _ _ _ _ _ _ _ _ _ _).mono ?_); rintro e w1 ⟨rfl, hb⟩; obtain ⟨hc, hf⟩ := bcell hb; have hz := hb.size; (try simp at hc); (try simp at hf); (try simp at hz); have hz0 : w.heap.size ≤ w1.heap.size := (by omega))) | (go_at_call 74; refine (impl_in _ _ _ _).mono ?_; rintro e w1 ⟨rfl, rfl⟩))
    go_ret
    exact ⟨rfl, (by repeat (first | exact Below.refl _ _ | assumption | refine Below.drew ?_ | refine Below.alloc ?_ (by first | omega | (simp; try omega)) _ | refine Below.setCell ?_ (by first | omega | (simp; try omega)) _ | (refine Below.trans ?_ (Below.mono (by assumption) (by first | omega | (simp; try omega))))))⟩
  have hr : (inB l 0 most && inB r 0 most) = true := by simp [and_true, t0, t1]
  rw [hr]
  clear hr
  go_enter Try.func93, Try.ntmps93
  go_wp2_with (first | (go_at_call 81; ((with_reducible refine (impl_kid _ _ _ _ _ _ _ _ _ _).mono ?_); rintro e w1 ⟨rfl, hb⟩; obtain ⟨hc, hf⟩ := bcell hb; have hz := hb.size; (try simp at hc); (try simp at hf); (try simp at hz); have hz0 : w.heap.size ≤ w1.heap.size := (by omega))) | (go_at_call 74; refine (impl_in _ _ _ _).mono ?_; rintro e w1 ⟨rfl, rfl⟩))
  go_ret
  exact ⟨rfl, (by repeat (first | exact Below.refl _ _ | assumption | refine Below.drew ?_ | refine Below.alloc ?_ (by first | omega | (simp; try omega)) _ | refine Below.setCell ?_ (by first | omega | (simp; try omega)) _ | (refine Below.trans ?_ (Below.mono (by assumption) (by first | omega | (simp; try omega))))))⟩

set_option maxHeartbeats 1000000 in
theorem impl_both_tag (k v l r o : Int) (g : Bool) (lt rt : Int) (most : Int) (w : World) :
    Calls Try.prog 93 #[.func (.func 94) #[.agg #[.int .i64 k, .int .i64 v, .int .i64 l, .int .i64 r, .int .i64 o, .bool g, .int .i64 lt, .int .i64 rt]] #[], .int .i64 most] w fun e w' => e = .returned (.bool (inB lt 0 most && inB rt 0 most)) ∧ Below w.heap.size w w' := by
  have q0 : kidF 0 lt rt = lt := rfl
  have q1 : kidF 1 lt rt = rt := rfl
  rcases Bool.eq_false_or_eq_true (inB lt 0 most) with t0 | t0
  rotate_left
  · have hr : (inB lt 0 most && inB rt 0 most) = false := by simp [and_true, t0]
    rw [hr]
    clear hr
    go_enter Try.func93, Try.ntmps93
    go_wp2_with (first | (go_at_call 94; ((with_reducible refine (impl_tag _ _ _ _ _ _ _ _ _ _).mono ?_); rintro e w1 ⟨rfl, hb⟩; obtain ⟨hc, hf⟩ := bcell hb; have hz := hb.size; (try simp at hc); (try simp at hf); (try simp at hz); have hz0 : w.heap.size ≤ w1.heap.size := (by omega))) | (go_at_call 74; refine (impl_in _ _ _ _).mono ?_; rintro e w1 ⟨rfl, rfl⟩))
    go_ret
    exact ⟨rfl, (by repeat (first | exact Below.refl _ _ | assumption | refine Below.drew ?_ | refine Below.alloc ?_ (by first | omega | (simp; try omega)) _ | refine Below.setCell ?_ (by first | omega | (simp; try omega)) _ | (refine Below.trans ?_ (Below.mono (by assumption) (by first | omega | (simp; try omega))))))⟩
  rcases Bool.eq_false_or_eq_true (inB rt 0 most) with t1 | t1
  rotate_left
  · have hr : (inB lt 0 most && inB rt 0 most) = false := by simp [and_true, t0, t1]
    rw [hr]
    clear hr
    go_enter Try.func93, Try.ntmps93
    go_wp2_with (first | (go_at_call 94; ((with_reducible refine (impl_tag _ _ _ _ _ _ _ _ _ _).mono ?_); rintro e w1 ⟨rfl, hb⟩; obtain ⟨hc, hf⟩ := bcell hb; have hz := hb.size; (try simp at hc); (try simp at hf); (try simp at hz); have hz0 : w.heap.size ≤ w1.heap.size := (by omega))) | (go_at_call 74; refine (impl_in _ _ _ _).mono ?_; rintro e w1 ⟨rfl, rfl⟩))
    go_ret
    exact ⟨rfl, (by repeat (first | exact Below.refl _ _ | assumption | refine Below.drew ?_ | refine Below.alloc ?_ (by first | omega | (simp; try omega)) _ | refine Below.setCell ?_ (by first | omega | (simp; try omega)) _ | (refine Below.trans ?_ (Below.mono (by assumption) (by first | omega | (simp; try omega))))))⟩
  have hr : (inB lt 0 most && inB rt 0 most) = true := by simp [and_true, t0, t1]
  rw [hr]
  clear hr
  go_enter Try.func93, Try.ntmps93
  go_wp2_with (first | (go_at_call 94; ((with_reducible refine (impl_tag _ _ _ _ _ _ _ _ _ _).mono ?_); rintro e w1 ⟨rfl, hb⟩; obtain ⟨hc, hf⟩ := bcell hb; have hz := hb.size; (try simp at hc); (try simp at hf); (try simp at hz); have hz0 : w.heap.size ≤ w1.heap.size := (by omega))) | (go_at_call 74; refine (impl_in _ _ _ _).mono ?_; rintro e w1 ⟨rfl, rfl⟩))
  go_ret
  exact ⟨rfl, (by repeat (first | exact Below.refl _ _ | assumption | refine Below.drew ?_ | refine Below.alloc ?_ (by first | omega | (simp; try omega)) _ | refine Below.setCell ?_ (by first | omega | (simp; try omega)) _ | (refine Below.trans ?_ (Below.mono (by assumption) (by first | omega | (simp; try omega))))))⟩

set_option maxHeartbeats 1000000 in
theorem impl_link (k v l r o : Int) (g : Bool) (lt rt : Int) (many : Int) (w : World) (m0 : 1 ≤ many) (m1 : many ≤ 1048576) :
    Calls Try.prog 84 #[.agg #[.int .i64 k, .int .i64 v, .int .i64 l, .int .i64 r, .int .i64 o, .bool g, .int .i64 lt, .int .i64 rt], .int .i64 many] w fun e w' => e = .returned (.bool (linkL ⟨k, v, l, r, o, g, lt, rt⟩ many)) ∧ Below w.heap.size w w' := by
  rcases Bool.eq_false_or_eq_true ((inB l 0 (many - 1) && inB r 0 (many - 1))) with t0 | t0
  rotate_left
  · have hr : (linkL ⟨k, v, l, r, o, g, lt, rt⟩ many) = false := by simp [linkL, t0]
    rw [hr]
    clear hr
    go_enter Try.func84, Try.ntmps84
    go_wp2_with (first | (go_at_call 93; ((with_reducible refine (impl_both_kid _ _ _ _ _ _ _ _ _ _).mono ?_); rintro e w1 ⟨rfl, hb⟩; obtain ⟨hc, hf⟩ := bcell hb; have hz := hb.size; (try simp at hc); (try simp at hf); (try simp at hz); have hz0 : w.heap.size < w1.heap.size := (by omega))) | (go_at_call 93; ((with_reducible refine (impl_both_tag _ _ _ _ _ _ _ _ _ _).mono ?_); rintro e w1 ⟨rfl, hb⟩; obtain ⟨hc, hf⟩ := bcell hb; have hz := hb.size; (try simp at hc); (try simp at hf); (try simp at hz); have hz0 : w.heap.size < w1.heap.size := (by omega))) | (go_at_call 74; refine (impl_in _ _ _ _).mono ?_; rintro e w1 ⟨rfl, rfl⟩))
    go_ret
    exact ⟨rfl, (by repeat (first | exact Below.refl _ _ | assumption | refine Below.drew ?_ | refine Below.alloc ?_ (by first | omega | (simp; try omega)) _ | refine Below.setCell ?_ (by first | omega | (simp; try omega)) _ | (refine Below.trans ?_ (Below.mono (by assumption) (by first | omega | (simp; try omega))))))⟩
  rcases Bool.eq_false_or_eq_true ((inB lt 0 10000 && inB rt 0 10000)) with t1 | t1
  rotate_left
  · have hr : (linkL ⟨k, v, l, r, o, g, lt, rt⟩ many) = false := by simp [linkL, t0, t1]
    rw [hr]
    clear hr
    go_enter Try.func84, Try.ntmps84
    go_wp2_with (first | (go_at_call 93; ((with_reducible refine (impl_both_kid _ _ _ _ _ _ _ _ _ _).mono ?_); rintro e w1 ⟨rfl, hb⟩; obtain ⟨hc, hf⟩ := bcell hb; have hz := hb.size; (try simp at hc); (try simp at hf); (try simp at hz); have hz0 : w.heap.size < w1.heap.size := (by omega))) | (go_at_call 93; ((with_reducible refine (impl_both_tag _ _ _ _ _ _ _ _ _ _).mono ?_); rintro e w1 ⟨rfl, hb⟩; obtain ⟨hc, hf⟩ := bcell hb; have hz := hb.size; (try simp at hc); (try simp at hf); (try simp at hz); have hz0 : w.heap.size < w1.heap.size := (by omega))) | (go_at_call 74; refine (impl_in _ _ _ _).mono ?_; rintro e w1 ⟨rfl, rfl⟩))
    go_ret
    exact ⟨rfl, (by repeat (first | exact Below.refl _ _ | assumption | refine Below.drew ?_ | refine Below.alloc ?_ (by first | omega | (simp; try omega)) _ | refine Below.setCell ?_ (by first | omega | (simp; try omega)) _ | (refine Below.trans ?_ (Below.mono (by assumption) (by first | omega | (simp; try omega))))))⟩
  rcases Bool.eq_false_or_eq_true (inB o 0 6) with t2 | t2
  rotate_left
  · have hr : (linkL ⟨k, v, l, r, o, g, lt, rt⟩ many) = false := by simp [linkL, t0, t1, t2]
    rw [hr]
    clear hr
    go_enter Try.func84, Try.ntmps84
    go_wp2_with (first | (go_at_call 93; ((with_reducible refine (impl_both_kid _ _ _ _ _ _ _ _ _ _).mono ?_); rintro e w1 ⟨rfl, hb⟩; obtain ⟨hc, hf⟩ := bcell hb; have hz := hb.size; (try simp at hc); (try simp at hf); (try simp at hz); have hz0 : w.heap.size < w1.heap.size := (by omega))) | (go_at_call 93; ((with_reducible refine (impl_both_tag _ _ _ _ _ _ _ _ _ _).mono ?_); rintro e w1 ⟨rfl, hb⟩; obtain ⟨hc, hf⟩ := bcell hb; have hz := hb.size; (try simp at hc); (try simp at hf); (try simp at hz); have hz0 : w.heap.size < w1.heap.size := (by omega))) | (go_at_call 74; refine (impl_in _ _ _ _).mono ?_; rintro e w1 ⟨rfl, rfl⟩))
    go_ret
    exact ⟨rfl, (by repeat (first | exact Below.refl _ _ | assumption | refine Below.drew ?_ | refine Below.alloc ?_ (by first | omega | (simp; try omega)) _ | refine Below.setCell ?_ (by first | omega | (simp; try omega)) _ | (refine Below.trans ?_ (Below.mono (by assumption) (by first | omega | (simp; try omega))))))⟩
  have hr : (linkL ⟨k, v, l, r, o, g, lt, rt⟩ many) = true := by simp [linkL, t0, t1, t2]
  rw [hr]
  clear hr
  go_enter Try.func84, Try.ntmps84
  go_wp2_with (first | (go_at_call 93; ((with_reducible refine (impl_both_kid _ _ _ _ _ _ _ _ _ _).mono ?_); rintro e w1 ⟨rfl, hb⟩; obtain ⟨hc, hf⟩ := bcell hb; have hz := hb.size; (try simp at hc); (try simp at hf); (try simp at hz); have hz0 : w.heap.size < w1.heap.size := (by omega))) | (go_at_call 93; ((with_reducible refine (impl_both_tag _ _ _ _ _ _ _ _ _ _).mono ?_); rintro e w1 ⟨rfl, hb⟩; obtain ⟨hc, hf⟩ := bcell hb; have hz := hb.size; (try simp at hc); (try simp at hf); (try simp at hz); have hz0 : w.heap.size < w1.heap.size := (by omega))) | (go_at_call 74; refine (impl_in _ _ _ _).mono ?_; rintro e w1 ⟨rfl, rfl⟩))
  go_ret
  exact ⟨rfl, (by repeat (first | exact Below.refl _ _ | assumption | refine Below.drew ?_ | refine Below.alloc ?_ (by first | omega | (simp; try omega)) _ | refine Below.setCell ?_ (by first | omega | (simp; try omega)) _ | (refine Below.trans ?_ (Below.mono (by assumption) (by first | omega | (simp; try omega))))))⟩

theorem linkL_eq (n : ND) (many : Int) : linkL n many = linkB n many := by
  unfold linkL linkB
  cases inB n.l 0 (many - 1) <;> cases inB n.r 0 (many - 1) <;> cases inB n.o 0 6 <;> cases inB n.lt 0 10000 <;> cases inB n.rt 0 10000 <;> rfl

end Go.Proofs.Ythllpgjggmdmmaa
