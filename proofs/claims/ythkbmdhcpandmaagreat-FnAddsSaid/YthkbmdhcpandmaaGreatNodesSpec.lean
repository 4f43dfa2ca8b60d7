import Derived.Test.YthkbmdhcpandmaaGreatList
namespace Go.Proofs.YthkbmdhcpandmaaGreat
open Go.ChangeShapes Go.WideShapes Go.ChangeAt Go.RowKit
set_option linter.unusedVariables false
set_option linter.unusedSimpArgs false
def inB (x lo hi : Int) : Bool := decide (lo ≤ x) && decide (x ≤ hi)
def linkB (n : ND) (many : Int) : Bool := inB n.l 0 (many - 1) && inB n.r 0 (many - 1) && inB n.o 0 6 && inB n.lt 0 10000 && inB n.rt 0 10000
def linkL (n : ND) (many : Int) : Bool := (inB n.l 0 (many - 1) && inB n.r 0 (many - 1)) && (inB n.lt 0 10000 && inB n.rt 0 10000) && inB n.o 0 6
def entB (n : ND) : Bool := inB n.k 0 99 && inB n.v 0 999
def rootB (n : ND) : Bool := (n.k == -1) && (n.v == 0) && (n.l == 0) && !n.g
def nodesB (l : List ND) : Bool := decide (1 ≤ l.length) && decide (l.length ≤ 30) && (match l with | [] => false | n :: r => rootB n && linkB n l.length && r.all fun m => entB m && linkB m l.length)
theorem inB_t {x lo hi : Int} (h : inB x lo hi = true) : lo ≤ x ∧ x ≤ hi := by simpa [inB] using h
theorem spec_in (x lo hi : Int) (w : World) :
    Calls Tryz.prog 73 #[.int .i64 x, .int .i64 lo, .int .i64 hi] w fun e w' => e = .returned (.bool (inB x lo hi)) ∧ w = w' := by
  by_cases h1 : lo ≤ x
  · by_cases h2 : x ≤ hi
    · have hr : inB x lo hi = true := by simp [inB, h1, h2]
      rw [hr]
      go_enter Tryz.func73, Tryz.ntmps73
      go_wp2
      go_ret
      exact ⟨rfl, rfl⟩
    · have hr : inB x lo hi = false := by simp [inB, h2]
      rw [hr]
      go_enter Tryz.func73, Tryz.ntmps73
      go_wp2
      go_ret
      exact ⟨rfl, rfl⟩
  · have hr : inB x lo hi = false := by simp [inB, h1]
    rw [hr]
    go_enter Tryz.func73, Tryz.ntmps73
    go_wp2
    go_ret
    exact ⟨rfl, rfl⟩
theorem impl_in (x lo hi : Int) (w : World) :
    Calls Tryz.prog 82 #[.int .i64 x, .int .i64 lo, .int .i64 hi] w fun e w' => e = .returned (.bool (inB x lo hi)) ∧ w = w' := by
  by_cases h1 : lo ≤ x
  · by_cases h2 : x ≤ hi
    · have hr : inB x lo hi = true := by simp [inB, h1, h2]
      rw [hr]
      go_enter Tryz.func82, Tryz.ntmps82
      go_wp2
      go_ret
      exact ⟨rfl, rfl⟩
    · have hr : inB x lo hi = false := by simp [inB, h2]
      rw [hr]
      go_enter Tryz.func82, Tryz.ntmps82
      go_wp2
      go_ret
      exact ⟨rfl, rfl⟩
  · have hr : inB x lo hi = false := by simp [inB, h1]
    rw [hr]
    go_enter Tryz.func82, Tryz.ntmps82
    go_wp2
    go_ret
    exact ⟨rfl, rfl⟩
set_option maxHeartbeats 1000000 in
theorem spec_tag (x : Int) (w : World) :
    Calls Tryz.prog 89 #[.int .i64 x] w fun e w' => e = .returned (.bool (inB x 0 10000)) ∧ w = w' := by
  rcases Bool.eq_false_or_eq_true (inB x 0 10000) with t0 | t0
  rotate_left
  · have hr : (inB x 0 10000) = false := by simp [and_true, t0]
    rw [hr]
    clear hr
    go_enter Tryz.func89, Tryz.ntmps89
    go_wp2_with (first | (go_at_call 73; refine (spec_in _ _ _ _).mono ?_; rintro e w1 ⟨rfl, rfl⟩))
    go_ret
    exact ⟨rfl, rfl⟩
  have hr : (inB x 0 10000) = true := by simp [and_true, t0]
  rw [hr]
  clear hr
  go_enter Tryz.func89, Tryz.ntmps89
  go_wp2_with (first | (go_at_call 73; refine (spec_in _ _ _ _).mono ?_; rintro e w1 ⟨rfl, rfl⟩))
  go_ret
  exact ⟨rfl, rfl⟩
set_option maxHeartbeats 1000000 in
theorem spec_link (k v l r o : Int) (g : Bool) (lt rt : Int) (many : Int) (w : World) (m0 : 1 ≤ many) (m1 : many ≤ 1048576) :
    Calls Tryz.prog 87 #[.agg #[.int .i64 k, .int .i64 v, .int .i64 l, .int .i64 r, .int .i64 o, .bool g, .int .i64 lt, .int .i64 rt], .int .i64 many] w fun e w' => e = .returned (.bool (linkB ⟨k, v, l, r, o, g, lt, rt⟩ many)) ∧ Below w.heap.size w w' := by
  rcases Bool.eq_false_or_eq_true (inB l 0 (many - 1)) with t0 | t0
  rotate_left
  · have hr : (linkB ⟨k, v, l, r, o, g, lt, rt⟩ many) = false := by simp [linkB, t0]
    rw [hr]
    clear hr
    go_enter Tryz.func87, Tryz.ntmps87
    go_wp2_with (first | (go_at_call 73; refine (spec_in _ _ _ _).mono ?_; rintro e w1 ⟨rfl, rfl⟩) | (go_at_call 89; refine (spec_tag _ _).mono ?_; rintro e w1 ⟨rfl, rfl⟩))
    go_ret
    exact ⟨rfl, (by repeat (first | exact Below.refl _ _ | assumption | refine Below.drew ?_ | refine Below.alloc ?_ (by first | omega | (simp; try omega)) _ | refine Below.setCell ?_ (by first | omega | (simp; try omega)) _ | (refine Below.trans ?_ (Below.mono (by assumption) (by first | omega | (simp; try omega))))))⟩
  rcases Bool.eq_false_or_eq_true (inB r 0 (many - 1)) with t1 | t1
  rotate_left
  · have hr : (linkB ⟨k, v, l, r, o, g, lt, rt⟩ many) = false := by simp [linkB, t0, t1]
    rw [hr]
    clear hr
    go_enter Tryz.func87, Tryz.ntmps87
    go_wp2_with (first | (go_at_call 73; refine (spec_in _ _ _ _).mono ?_; rintro e w1 ⟨rfl, rfl⟩) | (go_at_call 89; refine (spec_tag _ _).mono ?_; rintro e w1 ⟨rfl, rfl⟩))
    go_ret
    exact ⟨rfl, (by repeat (first | exact Below.refl _ _ | assumption | refine Below.drew ?_ | refine Below.alloc ?_ (by first | omega | (simp; try omega)) _ | refine Below.setCell ?_ (by first | omega | (simp; try omega)) _ | (refine Below.trans ?_ (Below.mono (by assumption) (by first | omega | (simp; try omega))))))⟩
  rcases Bool.eq_false_or_eq_true (inB o 0 6) with t2 | t2
  rotate_left
  · have hr : (linkB ⟨k, v, l, r, o, g, lt, rt⟩ many) = false := by simp [linkB, t0, t1, t2]
    rw [hr]
    clear hr
    go_enter Tryz.func87, Tryz.ntmps87
    go_wp2_with (first | (go_at_call 73; refine (spec_in _ _ _ _).mono ?_; rintro e w1 ⟨rfl, rfl⟩) | (go_at_call 89; refine (spec_tag _ _).mono ?_; rintro e w1 ⟨rfl, rfl⟩))
    go_ret
    exact ⟨rfl, (by repeat (first | exact Below.refl _ _ | assumption | refine Below.drew ?_ | refine Below.alloc ?_ (by first | omega | (simp; try omega)) _ | refine Below.setCell ?_ (by first | omega | (simp; try omega)) _ | (refine Below.trans ?_ (Below.mono (by assumption) (by first | omega | (simp; try omega))))))⟩
  rcases Bool.eq_false_or_eq_true (inB lt 0 10000) with t3 | t3
  rotate_left
  · have hr : (linkB ⟨k, v, l, r, o, g, lt, rt⟩ many) = false := by simp [linkB, t0, t1, t2, t3]
    rw [hr]
    clear hr
    go_enter Tryz.func87, Tryz.ntmps87
    go_wp2_with (first | (go_at_call 73; refine (spec_in _ _ _ _).mono ?_; rintro e w1 ⟨rfl, rfl⟩) | (go_at_call 89; refine (spec_tag _ _).mono ?_; rintro e w1 ⟨rfl, rfl⟩))
    go_ret
    exact ⟨rfl, (by repeat (first | exact Below.refl _ _ | assumption | refine Below.drew ?_ | refine Below.alloc ?_ (by first | omega | (simp; try omega)) _ | refine Below.setCell ?_ (by first | omega | (simp; try omega)) _ | (refine Below.trans ?_ (Below.mono (by assumption) (by first | omega | (simp; try omega))))))⟩
  rcases Bool.eq_false_or_eq_true (inB rt 0 10000) with t4 | t4
  rotate_left
  · have hr : (linkB ⟨k, v, l, r, o, g, lt, rt⟩ many) = false := by simp [linkB, t0, t1, t2, t3, t4]
    rw [hr]
    clear hr
    go_enter Tryz.func87, Tryz.ntmps87
    go_wp2_with (first | (go_at_call 73; refine (spec_in _ _ _ _).mono ?_; rintro e w1 ⟨rfl, rfl⟩) | (go_at_call 89; refine (spec_tag _ _).mono ?_; rintro e w1 ⟨rfl, rfl⟩))
    go_ret
    exact ⟨rfl, (by repeat (first | exact Below.refl _ _ | assumption | refine Below.drew ?_ | refine Below.alloc ?_ (by first | omega | (simp; try omega)) _ | refine Below.setCell ?_ (by first | omega | (simp; try omega)) _ | (refine Below.trans ?_ (Below.mono (by assumption) (by first | omega | (simp; try omega))))))⟩
  have hr : (linkB ⟨k, v, l, r, o, g, lt, rt⟩ many) = true := by simp [linkB, t0, t1, t2, t3, t4]
  rw [hr]
  clear hr
  go_enter Tryz.func87, Tryz.ntmps87
  go_wp2_with (first | (go_at_call 73; refine (spec_in _ _ _ _).mono ?_; rintro e w1 ⟨rfl, rfl⟩) | (go_at_call 89; refine (spec_tag _ _).mono ?_; rintro e w1 ⟨rfl, rfl⟩))
  go_ret
  exact ⟨rfl, (by repeat (first | exact Below.refl _ _ | assumption | refine Below.drew ?_ | refine Below.alloc ?_ (by first | omega | (simp; try omega)) _ | refine Below.setCell ?_ (by first | omega | (simp; try omega)) _ | (refine Below.trans ?_ (Below.mono (by assumption) (by first | omega | (simp; try omega))))))⟩
set_option maxHeartbeats 1000000 in
theorem impl_kid (k v l r o : Int) (g : Bool) (lt rt : Int) (s : Int) (w : World) :
    Calls Tryz.prog 116 #[.agg #[.int .i64 k, .int .i64 v, .int .i64 l, .int .i64 r, .int .i64 o, .bool g, .int .i64 lt, .int .i64 rt], .int .i64 s] w fun e w' => e = .returned (.int .i64 (kidF s l r)) ∧ Below w.heap.size w w' := by
  by_cases h0 : s = 0
  · subst h0
    go_enter Tryz.func116, Tryz.ntmps116
    go_wp2
    go_ret
    exact ⟨rfl, (by repeat (first | exact Below.refl _ _ | assumption | refine Below.drew ?_ | refine Below.alloc ?_ (by first | omega | (simp; try omega)) _ | refine Below.setCell ?_ (by first | omega | (simp; try omega)) _ | (refine Below.trans ?_ (Below.mono (by assumption) (by first | omega | (simp; try omega))))))⟩
  · by_cases h1 : s = 1
    · subst h1
      go_enter Tryz.func116, Tryz.ntmps116
      go_wp2
      go_ret
      exact ⟨rfl, (by repeat (first | exact Below.refl _ _ | assumption | refine Below.drew ?_ | refine Below.alloc ?_ (by first | omega | (simp; try omega)) _ | refine Below.setCell ?_ (by first | omega | (simp; try omega)) _ | (refine Below.trans ?_ (Below.mono (by assumption) (by first | omega | (simp; try omega))))))⟩
    · have hv : kidF s l r = 0 := by simp [kidF, h0, h1]
      have g0 : (s == 0) = false := by simpa using h0
      have g1 : (s == 1) = false := by simpa using h1
      rw [hv]
      clear hv h0 h1
      go_enter Tryz.func116, Tryz.ntmps116
      go_wp2
      go_ret
      exact ⟨rfl, (by repeat (first | exact Below.refl _ _ | assumption | refine Below.drew ?_ | refine Below.alloc ?_ (by first | omega | (simp; try omega)) _ | refine Below.setCell ?_ (by first | omega | (simp; try omega)) _ | (refine Below.trans ?_ (Below.mono (by assumption) (by first | omega | (simp; try omega))))))⟩
set_option maxHeartbeats 1000000 in
theorem impl_tag (k v l r o : Int) (g : Bool) (lt rt : Int) (s : Int) (w : World) :
    Calls Tryz.prog 117 #[.agg #[.int .i64 k, .int .i64 v, .int .i64 l, .int .i64 r, .int .i64 o, .bool g, .int .i64 lt, .int .i64 rt], .int .i64 s] w fun e w' => e = .returned (.int .i64 (kidF s lt rt)) ∧ Below w.heap.size w w' := by
  by_cases h0 : s = 0
  · subst h0
    go_enter Tryz.func117, Tryz.ntmps117
    go_wp2
    go_ret
    exact ⟨rfl, (by repeat (first | exact Below.refl _ _ | assumption | refine Below.drew ?_ | refine Below.alloc ?_ (by first | omega | (simp; try omega)) _ | refine Below.setCell ?_ (by first | omega | (simp; try omega)) _ | (refine Below.trans ?_ (Below.mono (by assumption) (by first | omega | (simp; try omega))))))⟩
  · by_cases h1 : s = 1
    · subst h1
      go_enter Tryz.func117, Tryz.ntmps117
      go_wp2
      go_ret
      exact ⟨rfl, (by repeat (first | exact Below.refl _ _ | assumption | refine Below.drew ?_ | refine Below.alloc ?_ (by first | omega | (simp; try omega)) _ | refine Below.setCell ?_ (by first | omega | (simp; try omega)) _ | (refine Below.trans ?_ (Below.mono (by assumption) (by first | omega | (simp; try omega))))))⟩
    · have hv : kidF s lt rt = 0 := by simp [kidF, h0, h1]
      have g0 : (s == 0) = false := by simpa using h0
      have g1 : (s == 1) = false := by simpa using h1
      rw [hv]
      clear hv h0 h1
      go_enter Tryz.func117, Tryz.ntmps117
      go_wp2
      go_ret
      exact ⟨rfl, (by repeat (first | exact Below.refl _ _ | assumption | refine Below.drew ?_ | refine Below.alloc ?_ (by first | omega | (simp; try omega)) _ | refine Below.setCell ?_ (by first | omega | (simp; try omega)) _ | (refine Below.trans ?_ (Below.mono (by assumption) (by first | omega | (simp; try omega))))))⟩
set_option maxHeartbeats 1000000 in
theorem impl_root (k v l r o : Int) (g : Bool) (lt rt : Int) (w : World) :
    Calls Tryz.prog 83 #[.agg #[.int .i64 k, .int .i64 v, .int .i64 l, .int .i64 r, .int .i64 o, .bool g, .int .i64 lt, .int .i64 rt]] w fun e w' => e = .returned (.bool (rootB ⟨k, v, l, r, o, g, lt, rt⟩)) ∧ Below w.heap.size w w' := by
  rcases Bool.eq_false_or_eq_true ((k == -1)) with t0 | t0
  rotate_left
  · have hr : (rootB ⟨k, v, l, r, o, g, lt, rt⟩) = false := by simp [rootB, t0]
    rw [hr]
    clear hr
    go_enter Tryz.func83, Tryz.ntmps83
    go_wp2
    go_ret
    exact ⟨rfl, (by repeat (first | exact Below.refl _ _ | assumption | refine Below.drew ?_ | refine Below.alloc ?_ (by first | omega | (simp; try omega)) _ | refine Below.setCell ?_ (by first | omega | (simp; try omega)) _ | (refine Below.trans ?_ (Below.mono (by assumption) (by first | omega | (simp; try omega))))))⟩
  rcases Bool.eq_false_or_eq_true ((v == 0)) with t1 | t1
  rotate_left
  · have hr : (rootB ⟨k, v, l, r, o, g, lt, rt⟩) = false := by simp [rootB, t0, t1]
    rw [hr]
    clear hr
    go_enter Tryz.func83, Tryz.ntmps83
    go_wp2
    go_ret
    exact ⟨rfl, (by repeat (first | exact Below.refl _ _ | assumption | refine Below.drew ?_ | refine Below.alloc ?_ (by first | omega | (simp; try omega)) _ | refine Below.setCell ?_ (by first | omega | (simp; try omega)) _ | (refine Below.trans ?_ (Below.mono (by assumption) (by first | omega | (simp; try omega))))))⟩
  rcases Bool.eq_false_or_eq_true ((l == 0)) with t2 | t2
  rotate_left
  · have hr : (rootB ⟨k, v, l, r, o, g, lt, rt⟩) = false := by simp [rootB, t0, t1, t2]
    rw [hr]
    clear hr
    go_enter Tryz.func83, Tryz.ntmps83
    go_wp2
    go_ret
    exact ⟨rfl, (by repeat (first | exact Below.refl _ _ | assumption | refine Below.drew ?_ | refine Below.alloc ?_ (by first | omega | (simp; try omega)) _ | refine Below.setCell ?_ (by first | omega | (simp; try omega)) _ | (refine Below.trans ?_ (Below.mono (by assumption) (by first | omega | (simp; try omega))))))⟩
  rcases Bool.eq_false_or_eq_true ((!g)) with t3 | t3
  rotate_left
  · have hr : (rootB ⟨k, v, l, r, o, g, lt, rt⟩) = false := by simp [rootB, t0, t1, t2, t3]
    rw [hr]
    clear hr
    go_enter Tryz.func83, Tryz.ntmps83
    go_wp2
    go_ret
    exact ⟨rfl, (by repeat (first | exact Below.refl _ _ | assumption | refine Below.drew ?_ | refine Below.alloc ?_ (by first | omega | (simp; try omega)) _ | refine Below.setCell ?_ (by first | omega | (simp; try omega)) _ | (refine Below.trans ?_ (Below.mono (by assumption) (by first | omega | (simp; try omega))))))⟩
  have hr : (rootB ⟨k, v, l, r, o, g, lt, rt⟩) = true := by simp [rootB, t0, t1, t2, t3]
  rw [hr]
  clear hr
  go_enter Tryz.func83, Tryz.ntmps83
  go_wp2
  go_ret
  exact ⟨rfl, (by repeat (first | exact Below.refl _ _ | assumption | refine Below.drew ?_ | refine Below.alloc ?_ (by first | omega | (simp; try omega)) _ | refine Below.setCell ?_ (by first | omega | (simp; try omega)) _ | (refine Below.trans ?_ (Below.mono (by assumption) (by first | omega | (simp; try omega))))))⟩
set_option maxHeartbeats 1000000 in
theorem impl_ent (k v l r o : Int) (g : Bool) (lt rt : Int) (w : World) :
    Calls Tryz.prog 84 #[.agg #[.int .i64 k, .int .i64 v, .int .i64 l, .int .i64 r, .int .i64 o, .bool g, .int .i64 lt, .int .i64 rt]] w fun e w' => e = .returned (.bool (entB ⟨k, v, l, r, o, g, lt, rt⟩)) ∧ Below w.heap.size w w' := by
  rcases Bool.eq_false_or_eq_true (inB k 0 99) with t0 | t0
  rotate_left
  · have hr : (entB ⟨k, v, l, r, o, g, lt, rt⟩) = false := by simp [entB, t0]
    rw [hr]
    clear hr
    go_enter Tryz.func84, Tryz.ntmps84
    go_wp2_with (first | (go_at_call 82; refine (impl_in _ _ _ _).mono ?_; rintro e w1 ⟨rfl, rfl⟩))
    go_ret
    exact ⟨rfl, (by repeat (first | exact Below.refl _ _ | assumption | refine Below.drew ?_ | refine Below.alloc ?_ (by first | omega | (simp; try omega)) _ | refine Below.setCell ?_ (by first | omega | (simp; try omega)) _ | (refine Below.trans ?_ (Below.mono (by assumption) (by first | omega | (simp; try omega))))))⟩
  rcases Bool.eq_false_or_eq_true (inB v 0 999) with t1 | t1
  rotate_left
  · have hr : (entB ⟨k, v, l, r, o, g, lt, rt⟩) = false := by simp [entB, t0, t1]
    rw [hr]
    clear hr
    go_enter Tryz.func84, Tryz.ntmps84
    go_wp2_with (first | (go_at_call 82; refine (impl_in _ _ _ _).mono ?_; rintro e w1 ⟨rfl, rfl⟩))
    go_ret
    exact ⟨rfl, (by repeat (first | exact Below.refl _ _ | assumption | refine Below.drew ?_ | refine Below.alloc ?_ (by first | omega | (simp; try omega)) _ | refine Below.setCell ?_ (by first | omega | (simp; try omega)) _ | (refine Below.trans ?_ (Below.mono (by assumption) (by first | omega | (simp; try omega))))))⟩
  have hr : (entB ⟨k, v, l, r, o, g, lt, rt⟩) = true := by simp [entB, t0, t1]
  rw [hr]
  clear hr
  go_enter Tryz.func84, Tryz.ntmps84
  go_wp2_with (first | (go_at_call 82; refine (impl_in _ _ _ _).mono ?_; rintro e w1 ⟨rfl, rfl⟩))
  go_ret
  exact ⟨rfl, (by repeat (first | exact Below.refl _ _ | assumption | refine Below.drew ?_ | refine Below.alloc ?_ (by first | omega | (simp; try omega)) _ | refine Below.setCell ?_ (by first | omega | (simp; try omega)) _ | (refine Below.trans ?_ (Below.mono (by assumption) (by first | omega | (simp; try omega))))))⟩
set_option maxHeartbeats 1000000 in
theorem impl_both_kid (k v l r o : Int) (g : Bool) (lt rt : Int) (most : Int) (w : World) :
    Calls Tryz.prog 115 #[.func (.func 116) #[.agg #[.int .i64 k, .int .i64 v, .int .i64 l, .int .i64 r, .int .i64 o, .bool g, .int .i64 lt, .int .i64 rt]] #[], .int .i64 most] w fun e w' => e = .returned (.bool (inB l 0 most && inB r 0 most)) ∧ Below w.heap.size w w' := by
  have q0 : kidF 0 l r = l := rfl
  have q1 : kidF 1 l r = r := rfl
  rcases Bool.eq_false_or_eq_true (inB l 0 most) with t0 | t0
  rotate_left
  · have hr : (inB l 0 most && inB r 0 most) = false := by simp [and_true, t0]
    rw [hr]
    clear hr
    go_enter Tryz.func115, Tryz.ntmps115
    go_wp2_with (first | (go_at_call 116; ((with_reducible refine (impl_kid _ _ _ _ _ _ _ _ _ _).mono ?_); rintro e w1 ⟨rfl, hb⟩; obtain ⟨hc, hf⟩ := bcell hb; have hz := hb.size; (try simp at hc); (try simp at hf); (try simp at hz); have hz0 : w.heap.size ≤ w1.heap.size := (by omega))) | (go_at_call 82; refine (impl_in _ _ _ _).mono ?_; rintro e w1 ⟨rfl, rfl⟩))
    go_ret
    exact ⟨rfl, (by repeat (first | exact Below.refl _ _ | assumption | refine Below.drew ?_ | refine Below.alloc ?_ (by first | omega | (simp; try omega)) _ | refine Below.setCell ?_ (by first | omega | (simp; try omega)) _ | (refine Below.trans ?_ (Below.mono (by assumption) (by first | omega | (simp; try omega))))))⟩
  rcases Bool.eq_false_or_eq_true (inB r 0 most) with t1 | t1
  rotate_left
  · have hr : (inB l 0 most && inB r 0 most) = false := by simp [and_true, t0, t1]
    rw [hr]
    clear hr
    go_enter Tryz.func115, Tryz.ntmps115
    go_wp2_with (first | (go_at_call 116; ((with_reducible refine (impl_kid _ _ _ _ _ _ _ _ _ _).mono ?_); rintro e w1 ⟨rfl, hb⟩; obtain ⟨hc, hf⟩ := bcell hb; have hz := hb.size; (try simp at hc); (try simp at hf); (try simp at hz); have hz0 : w.heap.size ≤ w1.heap.size := (by omega))) | (go_at_call 82; refine (impl_in _ _ _ _).mono ?_; rintro e w1 ⟨rfl, rfl⟩))
    go_ret
    exact ⟨rfl, (by repeat (first | exact Below.refl _ _ | assumption | refine Below.drew ?_ | refine Below.alloc ?_ (by first | omega | (simp; try omega)) _ | refine Below.setCell ?_ (by first | omega | (simp; try omega)) _ | (refine Below.trans ?_ (Below.mono (by assumption) (by first | omega | (simp; try omega))))))⟩
  have hr : (inB l 0 most && inB r 0 most) = true := by simp [and_true, t0, t1]
  rw [hr]
  clear hr
  go_enter Tryz.func115, Tryz.ntmps115
  go_wp2_with (first | (go_at_call 116; ((with_reducible refine (impl_kid _ _ _ _ _ _ _ _ _ _).mono ?_); rintro e w1 ⟨rfl, hb⟩; obtain ⟨hc, hf⟩ := bcell hb; have hz := hb.size; (try simp at hc); (try simp at hf); (try simp at hz); have hz0 : w.heap.size ≤ w1.heap.size := (by omega))) | (go_at_call 82; refine (impl_in _ _ _ _).mono ?_; rintro e w1 ⟨rfl, rfl⟩))
  go_ret
  exact ⟨rfl, (by repeat (first | exact Below.refl _ _ | assumption | refine Below.drew ?_ | refine Below.alloc ?_ (by first | omega | (simp; try omega)) _ | refine Below.setCell ?_ (by first | omega | (simp; try omega)) _ | (refine Below.trans ?_ (Below.mono (by assumption) (by first | omega | (simp; try omega))))))⟩
set_option maxHeartbeats 1000000 in
theorem impl_both_tag (k v l r o : Int) (g : Bool) (lt rt : Int) (most : Int) (w : World) :
    Calls Tryz.prog 115 #[.func (.func 117) #[.agg #[.int .i64 k, .int .i64 v, .int .i64 l, .int .i64 r, .int .i64 o, .bool g, .int .i64 lt, .int .i64 rt]] #[], .int .i64 most] w fun e w' => e = .returned (.bool (inB lt 0 most && inB rt 0 most)) ∧ Below w.heap.size w w' := by
  have q0 : kidF 0 lt rt = lt := rfl
  have q1 : kidF 1 lt rt = rt := rfl
  rcases Bool.eq_false_or_eq_true (inB lt 0 most) with t0 | t0
  rotate_left
  · have hr : (inB lt 0 most && inB rt 0 most) = false := by simp [and_true, t0]
    rw [hr]
    clear hr
    go_enter Tryz.func115, Tryz.ntmps115
    go_wp2_with (first | (go_at_call 117; ((with_reducible refine (impl_tag _ _ _ _ _ _ _ _ _ _).mono ?_); rintro e w1 ⟨rfl, hb⟩; obtain ⟨hc, hf⟩ := bcell hb; have hz := hb.size; (try simp at hc); (try simp at hf); (try simp at hz); have hz0 : w.heap.size ≤ w1.heap.size := (by omega))) | (go_at_call 82; refine (impl_in _ _ _ _).mono ?_; rintro e w1 ⟨rfl, rfl⟩))
    go_ret
    exact ⟨rfl, (by repeat (first | exact Below.refl _ _ | assumption | refine Below.drew ?_ | refine Below.alloc ?_ (by first | omega | (simp; try omega)) _ | refine Below.setCell ?_ (by first | omega | (simp; try omega)) _ | (refine Below.trans ?_ (Below.mono (by assumption) (by first | omega | (simp; try omega))))))⟩
  rcases Bool.eq_false_or_eq_true (inB rt 0 most) with t1 | t1
  rotate_left
  · have hr : (inB lt 0 most && inB rt 0 most) = false := by simp [and_true, t0, t1]
    rw [hr]
    clear hr
    go_enter Tryz.func115, Tryz.ntmps115
    go_wp2_with (first | (go_at_call 117; ((with_reducible refine (impl_tag _ _ _ _ _ _ _ _ _ _).mono ?_); rintro e w1 ⟨rfl, hb⟩; obtain ⟨hc, hf⟩ := bcell hb; have hz := hb.size; (try simp at hc); (try simp at hf); (try simp at hz); have hz0 : w.heap.size ≤ w1.heap.size := (by omega))) | (go_at_call 82; refine (impl_in _ _ _ _).mono ?_; rintro e w1 ⟨rfl, rfl⟩))
    go_ret
    exact ⟨rfl, (by repeat (first | exact Below.refl _ _ | assumption | refine Below.drew ?_ | refine Below.alloc ?_ (by first | omega | (simp; try omega)) _ | refine Below.setCell ?_ (by first | omega | (simp; try omega)) _ | (refine Below.trans ?_ (Below.mono (by assumption) (by first | omega | (simp; try omega))))))⟩
  have hr : (inB lt 0 most && inB rt 0 most) = true := by simp [and_true, t0, t1]
  rw [hr]
  clear hr
  go_enter Tryz.func115, Tryz.ntmps115
  go_wp2_with (first | (go_at_call 117; ((with_reducible refine (impl_tag _ _ _ _ _ _ _ _ _ _).mono ?_); rintro e w1 ⟨rfl, hb⟩; obtain ⟨hc, hf⟩ := bcell hb; have hz := hb.size; (try simp at hc); (try simp at hf); (try simp at hz); have hz0 : w.heap.size ≤ w1.heap.size := (by omega))) | (go_at_call 82; refine (impl_in _ _ _ _).mono ?_; rintro e w1 ⟨rfl, rfl⟩))
  go_ret
  exact ⟨rfl, (by repeat (first | exact Below.refl _ _ | assumption | refine Below.drew ?_ | refine Below.alloc ?_ (by first | omega | (simp; try omega)) _ | refine Below.setCell ?_ (by first | omega | (simp; try omega)) _ | (refine Below.trans ?_ (Below.mono (by assumption) (by first | omega | (simp; try omega))))))⟩
set_option maxHeartbeats 1000000 in
theorem impl_link (k v l r o : Int) (g : Bool) (lt rt : Int) (many : Int) (w : World) (m0 : 1 ≤ many) (m1 : many ≤ 1048576) :
    Calls Tryz.prog 85 #[.agg #[.int .i64 k, .int .i64 v, .int .i64 l, .int .i64 r, .int .i64 o, .bool g, .int .i64 lt, .int .i64 rt], .int .i64 many] w fun e w' => e = .returned (.bool (linkL ⟨k, v, l, r, o, g, lt, rt⟩ many)) ∧ Below w.heap.size w w' := by
  rcases Bool.eq_false_or_eq_true ((inB l 0 (many - 1) && inB r 0 (many - 1))) with t0 | t0
  rotate_left
  · have hr : (linkL ⟨k, v, l, r, o, g, lt, rt⟩ many) = false := by simp [linkL, t0]
    rw [hr]
    clear hr
    go_enter Tryz.func85, Tryz.ntmps85
    go_wp2_with (first | (go_at_call 115; ((with_reducible refine (impl_both_kid _ _ _ _ _ _ _ _ _ _).mono ?_); rintro e w1 ⟨rfl, hb⟩; obtain ⟨hc, hf⟩ := bcell hb; have hz := hb.size; (try simp at hc); (try simp at hf); (try simp at hz); have hz0 : w.heap.size < w1.heap.size := (by omega))) | (go_at_call 115; ((with_reducible refine (impl_both_tag _ _ _ _ _ _ _ _ _ _).mono ?_); rintro e w1 ⟨rfl, hb⟩; obtain ⟨hc, hf⟩ := bcell hb; have hz := hb.size; (try simp at hc); (try simp at hf); (try simp at hz); have hz0 : w.heap.size < w1.heap.size := (by omega))) | (go_at_call 82; refine (impl_in _ _ _ _).mono ?_; rintro e w1 ⟨rfl, rfl⟩))
    go_ret
    exact ⟨rfl, (by repeat (first | exact Below.refl _ _ | assumption | refine Below.drew ?_ | refine Below.alloc ?_ (by first | omega | (simp; try omega)) _ | refine Below.setCell ?_ (by first | omega | (simp; try omega)) _ | (refine Below.trans ?_ (Below.mono (by assumption) (by first | omega | (simp; try omega))))))⟩
  rcases Bool.eq_false_or_eq_true ((inB lt 0 10000 && inB rt 0 10000)) with t1 | t1
  rotate_left
  · have hr : (linkL ⟨k, v, l, r, o, g, lt, rt⟩ many) = false := by simp [linkL, t0, t1]
    rw [hr]
    clear hr
    go_enter Tryz.func85, Tryz.ntmps85
    go_wp2_with (first | (go_at_call 115; ((with_reducible refine (impl_both_kid _ _ _ _ _ _ _ _ _ _).mono ?_); rintro e w1 ⟨rfl, hb⟩; obtain ⟨hc, hf⟩ := bcell hb; have hz := hb.size; (try simp at hc); (try simp at hf); (try simp at hz); have hz0 : w.heap.size < w1.heap.size := (by omega))) | (go_at_call 115; ((with_reducible refine (impl_both_tag _ _ _ _ _ _ _ _ _ _).mono ?_); rintro e w1 ⟨rfl, hb⟩; obtain ⟨hc, hf⟩ := bcell hb; have hz := hb.size; (try simp at hc); (try simp at hf); (try simp at hz); have hz0 : w.heap.size < w1.heap.size := (by omega))) | (go_at_call 82; refine (impl_in _ _ _ _).mono ?_; rintro e w1 ⟨rfl, rfl⟩))
    go_ret
    exact ⟨rfl, (by repeat (first | exact Below.refl _ _ | assumption | refine Below.drew ?_ | refine Below.alloc ?_ (by first | omega | (simp; try omega)) _ | refine Below.setCell ?_ (by first | omega | (simp; try omega)) _ | (refine Below.trans ?_ (Below.mono (by assumption) (by first | omega | (simp; try omega))))))⟩
  rcases Bool.eq_false_or_eq_true (inB o 0 6) with t2 | t2
  rotate_left
  · have hr : (linkL ⟨k, v, l, r, o, g, lt, rt⟩ many) = false := by simp [linkL, t0, t1, t2]
    rw [hr]
    clear hr
    go_enter Tryz.func85, Tryz.ntmps85
    go_wp2_with (first | (go_at_call 115; ((with_reducible refine (impl_both_kid _ _ _ _ _ _ _ _ _ _).mono ?_); rintro e w1 ⟨rfl, hb⟩; obtain ⟨hc, hf⟩ := bcell hb; have hz := hb.size; (try simp at hc); (try simp at hf); (try simp at hz); have hz0 : w.heap.size < w1.heap.size := (by omega))) | (go_at_call 115; ((with_reducible refine (impl_both_tag _ _ _ _ _ _ _ _ _ _).mono ?_); rintro e w1 ⟨rfl, hb⟩; obtain ⟨hc, hf⟩ := bcell hb; have hz := hb.size; (try simp at hc); (try simp at hf); (try simp at hz); have hz0 : w.heap.size < w1.heap.size := (by omega))) | (go_at_call 82; refine (impl_in _ _ _ _).mono ?_; rintro e w1 ⟨rfl, rfl⟩))
    go_ret
    exact ⟨rfl, (by repeat (first | exact Below.refl _ _ | assumption | refine Below.drew ?_ | refine Below.alloc ?_ (by first | omega | (simp; try omega)) _ | refine Below.setCell ?_ (by first | omega | (simp; try omega)) _ | (refine Below.trans ?_ (Below.mono (by assumption) (by first | omega | (simp; try omega))))))⟩
  have hr : (linkL ⟨k, v, l, r, o, g, lt, rt⟩ many) = true := by simp [linkL, t0, t1, t2]
  rw [hr]
  clear hr
  go_enter Tryz.func85, Tryz.ntmps85
  go_wp2_with (first | (go_at_call 115; ((with_reducible refine (impl_both_kid _ _ _ _ _ _ _ _ _ _).mono ?_); rintro e w1 ⟨rfl, hb⟩; obtain ⟨hc, hf⟩ := bcell hb; have hz := hb.size; (try simp at hc); (try simp at hf); (try simp at hz); have hz0 : w.heap.size < w1.heap.size := (by omega))) | (go_at_call 115; ((with_reducible refine (impl_both_tag _ _ _ _ _ _ _ _ _ _).mono ?_); rintro e w1 ⟨rfl, hb⟩; obtain ⟨hc, hf⟩ := bcell hb; have hz := hb.size; (try simp at hc); (try simp at hf); (try simp at hz); have hz0 : w.heap.size < w1.heap.size := (by omega))) | (go_at_call 82; refine (impl_in _ _ _ _).mono ?_; rintro e w1 ⟨rfl, rfl⟩))
  go_ret
  exact ⟨rfl, (by repeat (first | exact Below.refl _ _ | assumption | refine Below.drew ?_ | refine Below.alloc ?_ (by first | omega | (simp; try omega)) _ | refine Below.setCell ?_ (by first | omega | (simp; try omega)) _ | (refine Below.trans ?_ (Below.mono (by assumption) (by first | omega | (simp; try omega))))))⟩
theorem linkL_eq (n : ND) (many : Int) : linkL n many = linkB n many := by
  unfold linkL linkB
  cases inB n.l 0 (many - 1) <;> cases inB n.r 0 (many - 1) <;> cases inB n.o 0 6 <;> cases inB n.lt 0 10000 <;> cases inB n.rt 0 10000 <;> rfl
theorem spec_link_n (n : ND) (many : Int) (w : World) (m0 : 1 ≤ many) (m1 : many ≤ 1048576) :
    Calls Tryz.prog 87 #[.agg #[.int .i64 n.k, .int .i64 n.v, .int .i64 n.l, .int .i64 n.r, .int .i64 n.o, .bool n.g, .int .i64 n.lt, .int .i64 n.rt], .int .i64 many] w fun e w' => e = .returned (.bool (linkB n many)) ∧ Below w.heap.size w w' :=
  spec_link n.k n.v n.l n.r n.o n.g n.lt n.rt many w m0 m1
theorem nodesB_long {l : List ND} (h : 30 < l.length) : nodesB l = false := by
  have h1 : decide (l.length ≤ 30) = false := decide_eq_false (by omega)
  simp [nodesB, h1]
theorem nodesB_first {n : ND} {r : List ND} (h : (rootB n && linkB n (n :: r).length) = false) : nodesB (n :: r) = false := by
  simp only [nodesB, h, Bool.false_and, Bool.and_false]
theorem nodesB_rest {n m : ND} {r : List ND} (hm : m ∈ r) (h : (entB m && linkB m (n :: r).length) = false) : nodesB (n :: r) = false := by
  have e : (r.all fun m => entB m && linkB m (n :: r).length) = false := by
    rw [List.all_eq_false]
    exact ⟨m, hm, by rw [h]; simp⟩
  simp only [nodesB, e, Bool.and_false]
theorem nodesB_true {n : ND} {r : List ND} (hl : (n :: r).length ≤ 30) (h : (rootB n && linkB n (n :: r).length) = true) (hr : ∀ m ∈ r, (entB m && linkB m (n :: r).length) = true) : nodesB (n :: r) = true := by
  have e : (r.all fun m => entB m && linkB m (n :: r).length) = true := List.all_eq_true.2 hr
  have e1 : decide (1 ≤ (n :: r).length) = true := by simp
  have e2 : decide ((n :: r).length ≤ 30) = true := by simpa using hl
  simp only [nodesB, e, e1, e2, h, Bool.and_self]
theorem get_mem_tail {n m : ND} {r : List ND} {k : Nat} (h : (n :: r)[k]? = some m) (hk : 1 ≤ k) : m ∈ r := by
  obtain ⟨j, rfl⟩ : ∃ j, k = j + 1 := ⟨k - 1, by omega⟩
  simp only [List.getElem?_cons_succ] at h
  exact List.mem_of_getElem? h
def RestTo (n : ND) (r : List ND) (k : Nat) : Prop := ∀ j m, 1 ≤ j → j < k → (n :: r)[j]? = some m → (entB m && linkB m (n :: r).length) = true
theorem RestTo.all {n : ND} {r : List ND} (h : RestTo n r (n :: r).length) : ∀ m ∈ r, (entB m && linkB m (n :: r).length) = true := by
  intro m hm
  obtain ⟨i, hi⟩ := List.mem_iff_getElem?.1 hm
  have hl : i < r.length := (List.getElem?_eq_some_iff.1 hi).1
  exact h (i + 1) m (by omega) (by simp; omega) (by simpa using hi)
theorem RestTo.step {n m : ND} {r : List ND} {k : Nat} (h : RestTo n r k) (hm : (n :: r)[k]? = some m) (ht : (entB m && linkB m (n :: r).length) = true) : RestTo n r (k + 1) := by
  intro j m' h1 h2 h3
  by_cases e : j = k
  · subst e
    rw [hm] at h3
    cases h3
    exact ht
  · exact h j m' h1 (by omega) h3
theorem RestTo.one (n : ND) (r : List ND) : RestTo n r 1 := fun j m h1 h2 => by omega
def Says (l : List ND) (w : World) (e : Ending) (w' : World) : Prop := e = .returned (.bool (nodesB l)) ∧ Below w.heap.size w w'
theorem Says.of {l : List ND} {w w' : World} {b : Bool} (h : nodesB l = b) (hb : Below w.heap.size w w') : Says l w (.returned (.bool b)) w' := ⟨by rw [h], hb⟩
set_option maxHeartbeats 2000000 in
theorem spec_nodesOk_nil (v : Value) (w : World) (h : NSl w v []) : Calls Tryz.prog 44 #[v] w (Says [] w) := by
  obtain ⟨a1, c1, rfl⟩ := h.nil
  clear h
  go_enter Tryz.func44, Tryz.ntmps44
  go_wp2
  go_ret
  exact Says.of rfl (Below.refl _ _)
set_option maxHeartbeats 2000000 in
theorem spec_nodesOk_long (v : Value) (l : List ND) (w : World) (h : NSl w v l) (hl : 30 < l.length) (hl2 : l.length ≤ 1048576) : Calls Tryz.prog 44 #[v] w (Says l w) := by
  have hn := nodesB_long hl
  obtain ⟨b1, o1, c1, rfl, k1, m1, s1, H1⟩ := h.at (by intro e; rw [e] at hl; simp at hl)
  clear h H1
  go_enter Tryz.func44, Tryz.ntmps44
  go_wp2
  go_ret
  exact Says.of hn (Below.refl _ _)
set_option maxRecDepth 100000 in
set_option maxHeartbeats 4000000 in
theorem spec_nodesOk_bad (v : Value) (n : ND) (r : List ND) (w : World) (h : NSl w v (n :: r)) (hl : (n :: r).length ≤ 30) (hbad : (rootB n && linkB n (n :: r).length) = false) : Calls Tryz.prog 44 #[v] w (Says (n :: r) w) := by
  have hn := nodesB_first hbad
  obtain ⟨b1, o1, c1, rfl, k1, m1, s1, H1⟩ := h.at (by simp)
  have A1 := H1 0 n rfl
  simp only [At8, Nat.zero_mul, Nat.add_zero] at A1
  obtain ⟨N, hN⟩ : ∃ N, N = (n :: r).length := ⟨_, rfl⟩
  have hN1 : 1 ≤ N := by rw [hN]; simp
  have hs : n :: r = n :: r := rfl
  rw [← hN] at hl hbad k1 ⊢
  have HN := Lib.hid hn
  clear h H1 hN hn
  unfold maxLen at m1
  have j0 : (1 : Int) ≤ (N : Int) := by omega
  have j1 : (N : Int) ≤ 30 := by omega
  rcases Bool.eq_false_or_eq_true (n.k != -1) with t0 | t0
  · clear hbad
    go_enter Tryz.func44, Tryz.ntmps44
    go_wp2
    go_ret
    exact Says.of HN.out (by repeat (first | exact Below.refl _ _ | assumption | refine Below.drew ?_ | refine Below.alloc ?_ (by first | omega | (simp; try omega)) _ | refine Below.setCell ?_ (by first | omega | (simp; try omega)) _ | (refine Below.trans ?_ (Below.mono (by assumption) (by first | omega | (simp; try omega))))))
  rcases Bool.eq_false_or_eq_true (n.v != 0) with t1 | t1
  · clear hbad
    go_enter Tryz.func44, Tryz.ntmps44
    go_wp2
    go_ret
    exact Says.of HN.out (by repeat (first | exact Below.refl _ _ | assumption | refine Below.drew ?_ | refine Below.alloc ?_ (by first | omega | (simp; try omega)) _ | refine Below.setCell ?_ (by first | omega | (simp; try omega)) _ | (refine Below.trans ?_ (Below.mono (by assumption) (by first | omega | (simp; try omega))))))
  rcases Bool.eq_false_or_eq_true (n.l != 0) with t2 | t2
  · clear hbad
    go_enter Tryz.func44, Tryz.ntmps44
    go_wp2
    go_ret
    exact Says.of HN.out (by repeat (first | exact Below.refl _ _ | assumption | refine Below.drew ?_ | refine Below.alloc ?_ (by first | omega | (simp; try omega)) _ | refine Below.setCell ?_ (by first | omega | (simp; try omega)) _ | (refine Below.trans ?_ (Below.mono (by assumption) (by first | omega | (simp; try omega))))))
  rcases Bool.eq_false_or_eq_true n.g with t3 | t3
  · clear hbad
    go_enter Tryz.func44, Tryz.ntmps44
    go_wp2
    go_ret
    exact Says.of HN.out (by repeat (first | exact Below.refl _ _ | assumption | refine Below.drew ?_ | refine Below.alloc ?_ (by first | omega | (simp; try omega)) _ | refine Below.setCell ?_ (by first | omega | (simp; try omega)) _ | (refine Below.trans ?_ (Below.mono (by assumption) (by first | omega | (simp; try omega))))))
  have T3 := Lib.hid t3
  obtain ⟨rk, rv, rl, rr, ro, rg, rlt, rrt⟩ := n
  obtain rfl : rk = -1 := by simpa [bne] using t0
  obtain rfl : rv = 0 := by simpa [bne] using t1
  obtain rfl : rl = 0 := by simpa [bne] using t2
  obtain rfl : rg = false := T3.out
  have hL : linkB ⟨-1, 0, 0, rr, ro, false, rlt, rrt⟩ N = false := by simpa [rootB] using hbad
  clear hbad t0 t1 t2 T3
  go_enter Tryz.func44, Tryz.ntmps44
  go_wp2_with (first | (go_at_call 87; refine (spec_link _ _ _ _ _ _ _ _ _ _ (by omega) (by omega)).mono ?_; rintro e w1 ⟨rfl, hb1⟩; have hz1 := hb1.size; (try simp at hz1)))
  go_ret
  exact Says.of HN.out (by repeat (first | exact Below.refl _ _ | assumption | refine Below.drew ?_ | refine Below.alloc ?_ (by first | omega | (simp; try omega)) _ | refine Below.setCell ?_ (by first | omega | (simp; try omega)) _ | (refine Below.trans ?_ (Below.mono (by assumption) (by first | omega | (simp; try omega))))))
set_option maxRecDepth 100000 in
set_option maxHeartbeats 4000000 in
theorem spec_nodesOk_good (v : Value) (n : ND) (r : List ND) (w : World) (h : NSl w v (n :: r)) (hl : (n :: r).length ≤ 30) (hgood : (rootB n && linkB n (n :: r).length) = true) : Calls Tryz.prog 44 #[v] w (Says (n :: r) w) := by
  have hfin := nodesB_true (n := n) (r := r) hl hgood
  obtain ⟨b1, o1, c1, rfl, k1, m1, s1, H1⟩ := h.at (by simp)
  have A1 := H1 0 n rfl
  obtain ⟨N, hN⟩ : ∃ N, N = (n :: r).length := ⟨_, rfl⟩
  have hN1 : 1 ≤ N := by rw [hN]; simp
  rw [← hN] at hl hgood k1 ⊢
  have HF := Lib.hid hfin
  have HN := Lib.hid hN
  have HH := Lib.hid H1
  clear h hN hfin H1
  unfold maxLen at m1
  have j0 : (1 : Int) ≤ (N : Int) := by omega
  have j1 : (N : Int) ≤ 30 := by omega
  have hroot : rootB n = true := by revert hgood; cases rootB n <;> simp
  have hL : linkB n N = true := by revert hgood; cases linkB n N <;> simp
  obtain ⟨rk, rv, rl, rr, ro, rg, rlt, rrt⟩ := n
  simp only [rootB, Bool.and_eq_true, beq_iff_eq, Bool.not_eq_true'] at hroot
  obtain ⟨⟨⟨rfl, rfl⟩, rfl⟩, rfl⟩ := hroot
  simp only [At8, Nat.zero_mul, Nat.add_zero] at A1
  clear hgood
  go_enter Tryz.func44, Tryz.ntmps44
  go_wp2_with (first | (go_at_call 87; refine (spec_link _ _ _ _ _ _ _ _ _ _ (by omega) (by omega)).mono ?_; rintro e w1 ⟨rfl, hb1⟩; have hz1 := hb1.size; (try simp at hz1)))
  have hB : Below w.heap.size w w1 := (by repeat (first | exact Below.refl _ _ | assumption | refine Below.drew ?_ | refine Below.alloc ?_ (by first | omega | (simp; try omega)) _ | refine Below.setCell ?_ (by first | omega | (simp; try omega)) _ | (refine Below.trans ?_ (Below.mono (by assumption) (by first | omega | (simp; try omega))))))
  clear A1 hL hb1 hz1
  go_loopw [4] (fun i wr => ∃ k : Nat, 1 ≤ k ∧ k ≤ N ∧ i = .int .i64 k ∧ Hid (RestTo ⟨-1, 0, 0, rr, ro, false, rlt, rrt⟩ r k) ∧ Below w.heap.size w wr) (fun i _ => N - (intOf i).toNat)
  case atStart => exact ⟨1, Nat.le_refl _, by omega, rfl, Lib.hid (RestTo.one _ _), hB⟩
  case round =>
    clear hB
    obtain ⟨k, hk0, hk, rfl, HR, hB⟩ := hrel
    by_cases hlt : k < N
    · obtain ⟨m, hg⟩ : ∃ m, (⟨-1, 0, 0, rr, ro, false, rlt, rrt⟩ :: r : List ND)[k]? = some m := ⟨_, List.getElem?_eq_getElem (by rw [← HN.out]; exact hlt)⟩
      have A2 := (HH.out k m hg).below hB s1
      simp only [At8] at A2
      have HG := Lib.hid hg
      have j2 : (0 : Int) ≤ (k : Int) := by omega
      have j3 : (k : Int) < (N : Int) := by omega
      have hz := hB.size
      clear hg
      rcases Bool.eq_false_or_eq_true (inB m.k 0 99) with t0 | t0
      rotate_left
      · go_wp2_with (first | (go_at_call 73; refine (spec_in _ _ _ _).mono ?_; rintro e w1 ⟨rfl, rfl⟩))
        go_ret
        exact Says.of (nodesB_rest (get_mem_tail HG.out hk0) (by rw [← HN.out]; simp [entB, t0])) (by repeat (first | exact Below.refl _ _ | assumption | refine Below.drew ?_ | refine Below.alloc ?_ (by first | omega | (simp; try omega)) _ | refine Below.setCell ?_ (by first | omega | (simp; try omega)) _ | (refine Below.trans ?_ (Below.mono (by assumption) (by first | omega | (simp; try omega))))))
      rcases Bool.eq_false_or_eq_true (inB m.v 0 999) with t1 | t1
      rotate_left
      · go_wp2_with (first | (go_at_call 73; refine (spec_in _ _ _ _).mono ?_; rintro e w1 ⟨rfl, rfl⟩))
        go_ret
        exact Says.of (nodesB_rest (get_mem_tail HG.out hk0) (by rw [← HN.out]; simp [entB, t1])) (by repeat (first | exact Below.refl _ _ | assumption | refine Below.drew ?_ | refine Below.alloc ?_ (by first | omega | (simp; try omega)) _ | refine Below.setCell ?_ (by first | omega | (simp; try omega)) _ | (refine Below.trans ?_ (Below.mono (by assumption) (by first | omega | (simp; try omega))))))
      rcases Bool.eq_false_or_eq_true (linkB m N) with t2 | t2
      rotate_left
      · go_wp2_with (first | (go_at_call 73; refine (spec_in _ _ _ _).mono ?_; rintro e w1 ⟨rfl, rfl⟩) | (go_at_call 87; refine (spec_link_n m _ _ (by omega) (by omega)).mono ?_; rintro e w1 ⟨rfl, hb1⟩; have hz1 := hb1.size))
        go_ret
        exact Says.of (nodesB_rest (get_mem_tail HG.out hk0) (by rw [← HN.out]; simp [t2])) (by repeat (first | exact Below.refl _ _ | assumption | refine Below.drew ?_ | refine Below.alloc ?_ (by first | omega | (simp; try omega)) _ | refine Below.setCell ?_ (by first | omega | (simp; try omega)) _ | (refine Below.trans ?_ (Below.mono (by assumption) (by first | omega | (simp; try omega))))))
      · go_wp2_with (first | (go_at_call 73; refine (spec_in _ _ _ _).mono ?_; rintro e w1 ⟨rfl, rfl⟩) | (go_at_call 87; refine (spec_link_n m _ _ (by omega) (by omega)).mono ?_; rintro e w1 ⟨rfl, hb1⟩; have hz1 := hb1.size))
        go_roundw
        case rel => exact ⟨k + 1, by omega, by omega, by go_num, Lib.hid (HR.out.step HG.out (by rw [← HN.out]; simp [entB, t0, t1, t2])), (by repeat (first | exact Below.refl _ _ | assumption | refine Below.drew ?_ | refine Below.alloc ?_ (by first | omega | (simp; try omega)) _ | refine Below.setCell ?_ (by first | omega | (simp; try omega)) _ | (refine Below.trans ?_ (Below.mono (by assumption) (by first | omega | (simp; try omega))))))⟩
        case measure => simp [intOf]; omega
    · obtain rfl : k = N := by omega
      go_wp2
      go_ret
      exact Says.of (HF.out (RestTo.all (by rw [← HN.out]; exact HR.out))) hB
theorem spec_NodesOk (v : Value) (l : List ND) (w : World) (h : NSl w v l) (hl : l.length ≤ 1048576) : Calls Tryz.prog 44 #[v] w (Says l w) := by
  match l, h, hl with
  | [], h, _ => exact spec_nodesOk_nil v w h
  | n :: r, h, hl =>
    by_cases h30 : (n :: r).length ≤ 30
    · rcases Bool.eq_false_or_eq_true (rootB n && linkB n (n :: r).length) with hg | hg
      · exact spec_nodesOk_good v n r w h h30 hg
      · exact spec_nodesOk_bad v n r w h h30 hg
    · exact spec_nodesOk_long v _ w h (by omega) hl
end Go.Proofs.YthkbmdhcpandmaaGreat
