import Derived.Test.YtfjafncipjdnfaaGreatList
namespace Go.Proofs.YtfjafncipjdnfaaGreat
open Go.ChangeShapes Go.WideShapes Go.ChangeAt Go.RowKit
set_option linter.unusedVariables false
set_option linter.unusedSimpArgs false
def ZA (x lo hi : Int) : Bool := decide (lo ≤ x) && decide (x ≤ hi)
def rB (n : ND) (many : Int) : Bool := ZA n.l 0 (many - 1) && ZA n.r 0 (many - 1) && ZA n.o 0 6 && ZA n.lt 0 10000 && ZA n.rt 0 10000
def zF (n : ND) (many : Int) : Bool := (ZA n.l 0 (many - 1) && ZA n.r 0 (many - 1)) && (ZA n.lt 0 10000 && ZA n.rt 0 10000) && ZA n.o 0 6
def SD (n : ND) : Bool := ZA n.k 0 99 && ZA n.v 0 999
def KC (n : ND) : Bool := (n.k == -1) && (n.v == 0) && (n.l == 0) && !n.g
def PA (l : List ND) : Bool := decide (1 ≤ l.length) && decide (l.length ≤ 30) && (match l with | [] => false | n :: r => KC n && rB n l.length && r.all fun m => SD m && rB m l.length)
theorem QC {x lo hi : Int} (h : ZA x lo hi = true) : lo ≤ x ∧ x ≤ hi := by simpa [ZA] using h
theorem UA (x lo hi : Int) (w : World) :
    Calls Tryz.prog 100 #[.int .i64 x, .int .i64 lo, .int .i64 hi] w fun e w' => e = .returned (.bool (ZA x lo hi)) ∧ w = w' := by
  by_cases h1 : lo ≤ x
  · by_cases h2 : x ≤ hi
    · have hr : ZA x lo hi = true := by simp [ZA, h1, h2]
      rw [hr]
      go_enter Tryz.func100, Tryz.ntmps100
      go_wp2
      go_ret
      exact ⟨rfl, rfl⟩
    · have hr : ZA x lo hi = false := by simp [ZA, h2]
      rw [hr]
      go_enter Tryz.func100, Tryz.ntmps100
      go_wp2
      go_ret
      exact ⟨rfl, rfl⟩
  · have hr : ZA x lo hi = false := by simp [ZA, h1]
    rw [hr]
    go_enter Tryz.func100, Tryz.ntmps100
    go_wp2
    go_ret
    exact ⟨rfl, rfl⟩
theorem zC (x lo hi : Int) (w : World) :
    Calls Tryz.prog 83 #[.int .i64 x, .int .i64 lo, .int .i64 hi] w fun e w' => e = .returned (.bool (ZA x lo hi)) ∧ w = w' := by
  by_cases h1 : lo ≤ x
  · by_cases h2 : x ≤ hi
    · have hr : ZA x lo hi = true := by simp [ZA, h1, h2]
      rw [hr]
      go_enter Tryz.func83, Tryz.ntmps83
      go_wp2
      go_ret
      exact ⟨rfl, rfl⟩
    · have hr : ZA x lo hi = false := by simp [ZA, h2]
      rw [hr]
      go_enter Tryz.func83, Tryz.ntmps83
      go_wp2
      go_ret
      exact ⟨rfl, rfl⟩
  · have hr : ZA x lo hi = false := by simp [ZA, h1]
    rw [hr]
    go_enter Tryz.func83, Tryz.ntmps83
    go_wp2
    go_ret
    exact ⟨rfl, rfl⟩
set_option maxHeartbeats 1000000 in
theorem sE (x : Int) (w : World) :
    Calls Tryz.prog 112 #[.int .i64 x] w fun e w' => e = .returned (.bool (ZA x 0 10000)) ∧ w = w' := by
  rcases Bool.eq_false_or_eq_true (ZA x 0 10000) with t0 | t0
  rotate_left
  · have hr : (ZA x 0 10000) = false := by simp [and_true, t0]
    rw [hr]
    clear hr
    go_enter Tryz.func112, Tryz.ntmps112
    go_wp2_with (first | (go_at_call 100; refine (UA _ _ _ _).mono ?_; rintro e w1 ⟨rfl, rfl⟩))
    go_ret
    exact ⟨rfl, rfl⟩
  have hr : (ZA x 0 10000) = true := by simp [and_true, t0]
  rw [hr]
  clear hr
  go_enter Tryz.func112, Tryz.ntmps112
  go_wp2_with (first | (go_at_call 100; refine (UA _ _ _ _).mono ?_; rintro e w1 ⟨rfl, rfl⟩))
  go_ret
  exact ⟨rfl, rfl⟩
set_option maxHeartbeats 1000000 in
theorem KG (k v l r o : Int) (g : Bool) (lt rt : Int) (many : Int) (w : World) (m0 : 1 ≤ many) (m1 : many ≤ 1048576) :
    Calls Tryz.prog 110 #[.agg #[.int .i64 k, .int .i64 v, .int .i64 l, .int .i64 r, .int .i64 o, .bool g, .int .i64 lt, .int .i64 rt], .int .i64 many] w fun e w' => e = .returned (.bool (rB ⟨k, v, l, r, o, g, lt, rt⟩ many)) ∧ Below w.heap.size w w' := by
  rcases Bool.eq_false_or_eq_true (ZA l 0 (many - 1)) with t0 | t0
  rotate_left
  · have hr : (rB ⟨k, v, l, r, o, g, lt, rt⟩ many) = false := by simp [rB, t0]
    rw [hr]
    clear hr
    go_enter Tryz.func110, Tryz.ntmps110
    go_wp2_with (first | (go_at_call 100; refine (UA _ _ _ _).mono ?_; rintro e w1 ⟨rfl, rfl⟩) | (go_at_call 112; refine (sE _ _).mono ?_; rintro e w1 ⟨rfl, rfl⟩))
    go_ret
    exact ⟨rfl, bB⟩
  rcases Bool.eq_false_or_eq_true (ZA r 0 (many - 1)) with t1 | t1
  rotate_left
  · have hr : (rB ⟨k, v, l, r, o, g, lt, rt⟩ many) = false := by simp [rB, t0, t1]
    rw [hr]
    clear hr
    go_enter Tryz.func110, Tryz.ntmps110
    go_wp2_with (first | (go_at_call 100; refine (UA _ _ _ _).mono ?_; rintro e w1 ⟨rfl, rfl⟩) | (go_at_call 112; refine (sE _ _).mono ?_; rintro e w1 ⟨rfl, rfl⟩))
    go_ret
    exact ⟨rfl, bB⟩
  rcases Bool.eq_false_or_eq_true (ZA o 0 6) with t2 | t2
  rotate_left
  · have hr : (rB ⟨k, v, l, r, o, g, lt, rt⟩ many) = false := by simp [rB, t0, t1, t2]
    rw [hr]
    clear hr
    go_enter Tryz.func110, Tryz.ntmps110
    go_wp2_with (first | (go_at_call 100; refine (UA _ _ _ _).mono ?_; rintro e w1 ⟨rfl, rfl⟩) | (go_at_call 112; refine (sE _ _).mono ?_; rintro e w1 ⟨rfl, rfl⟩))
    go_ret
    exact ⟨rfl, bB⟩
  rcases Bool.eq_false_or_eq_true (ZA lt 0 10000) with t3 | t3
  rotate_left
  · have hr : (rB ⟨k, v, l, r, o, g, lt, rt⟩ many) = false := by simp [rB, t0, t1, t2, t3]
    rw [hr]
    clear hr
    go_enter Tryz.func110, Tryz.ntmps110
    go_wp2_with (first | (go_at_call 100; refine (UA _ _ _ _).mono ?_; rintro e w1 ⟨rfl, rfl⟩) | (go_at_call 112; refine (sE _ _).mono ?_; rintro e w1 ⟨rfl, rfl⟩))
    go_ret
    exact ⟨rfl, bB⟩
  rcases Bool.eq_false_or_eq_true (ZA rt 0 10000) with t4 | t4
  rotate_left
  · have hr : (rB ⟨k, v, l, r, o, g, lt, rt⟩ many) = false := by simp [rB, t0, t1, t2, t3, t4]
    rw [hr]
    clear hr
    go_enter Tryz.func110, Tryz.ntmps110
    go_wp2_with (first | (go_at_call 100; refine (UA _ _ _ _).mono ?_; rintro e w1 ⟨rfl, rfl⟩) | (go_at_call 112; refine (sE _ _).mono ?_; rintro e w1 ⟨rfl, rfl⟩))
    go_ret
    exact ⟨rfl, bB⟩
  have hr : (rB ⟨k, v, l, r, o, g, lt, rt⟩ many) = true := by simp [rB, t0, t1, t2, t3, t4]
  rw [hr]
  clear hr
  go_enter Tryz.func110, Tryz.ntmps110
  go_wp2_with (first | (go_at_call 100; refine (UA _ _ _ _).mono ?_; rintro e w1 ⟨rfl, rfl⟩) | (go_at_call 112; refine (sE _ _).mono ?_; rintro e w1 ⟨rfl, rfl⟩))
  go_ret
  exact ⟨rfl, bB⟩
set_option maxHeartbeats 1000000 in
theorem YH (k v l r o : Int) (g : Bool) (lt rt : Int) (s : Int) (w : World) :
    Calls Tryz.prog 88 #[.agg #[.int .i64 k, .int .i64 v, .int .i64 l, .int .i64 r, .int .i64 o, .bool g, .int .i64 lt, .int .i64 rt], .int .i64 s] w fun e w' => e = .returned (.int .i64 (XA s l r)) ∧ Below w.heap.size w w' := by
  by_cases h0 : s = 0
  · subst h0
    go_enter Tryz.func88, Tryz.ntmps88
    go_wp2
    go_ret
    exact ⟨rfl, bB⟩
  · by_cases h1 : s = 1
    · subst h1
      go_enter Tryz.func88, Tryz.ntmps88
      go_wp2
      go_ret
      exact ⟨rfl, bB⟩
    · have hv : XA s l r = 0 := by simp [XA, h0, h1]
      have g0 : (s == 0) = false := by simpa using h0
      have g1 : (s == 1) = false := by simpa using h1
      rw [hv]
      clear hv h0 h1
      go_enter Tryz.func88, Tryz.ntmps88
      go_wp2
      go_ret
      exact ⟨rfl, bB⟩
set_option maxHeartbeats 1000000 in
theorem WH (k v l r o : Int) (g : Bool) (lt rt : Int) (s : Int) (w : World) :
    Calls Tryz.prog 127 #[.agg #[.int .i64 k, .int .i64 v, .int .i64 l, .int .i64 r, .int .i64 o, .bool g, .int .i64 lt, .int .i64 rt], .int .i64 s] w fun e w' => e = .returned (.int .i64 (XA s lt rt)) ∧ Below w.heap.size w w' := by
  by_cases h0 : s = 0
  · subst h0
    go_enter Tryz.func127, Tryz.ntmps127
    go_wp2
    go_ret
    exact ⟨rfl, bB⟩
  · by_cases h1 : s = 1
    · subst h1
      go_enter Tryz.func127, Tryz.ntmps127
      go_wp2
      go_ret
      exact ⟨rfl, bB⟩
    · have hv : XA s lt rt = 0 := by simp [XA, h0, h1]
      have g0 : (s == 0) = false := by simpa using h0
      have g1 : (s == 1) = false := by simpa using h1
      rw [hv]
      clear hv h0 h1
      go_enter Tryz.func127, Tryz.ntmps127
      go_wp2
      go_ret
      exact ⟨rfl, bB⟩
set_option maxHeartbeats 1000000 in
theorem GM (k v l r o : Int) (g : Bool) (lt rt : Int) (w : World) :
    Calls Tryz.prog 84 #[.agg #[.int .i64 k, .int .i64 v, .int .i64 l, .int .i64 r, .int .i64 o, .bool g, .int .i64 lt, .int .i64 rt]] w fun e w' => e = .returned (.bool (KC ⟨k, v, l, r, o, g, lt, rt⟩)) ∧ Below w.heap.size w w' := by
  rcases Bool.eq_false_or_eq_true ((k == -1)) with t0 | t0
  rotate_left
  · have hr : (KC ⟨k, v, l, r, o, g, lt, rt⟩) = false := by simp [KC, t0]
    rw [hr]
    clear hr
    go_enter Tryz.func84, Tryz.ntmps84
    go_wp2
    go_ret
    exact ⟨rfl, bB⟩
  rcases Bool.eq_false_or_eq_true ((v == 0)) with t1 | t1
  rotate_left
  · have hr : (KC ⟨k, v, l, r, o, g, lt, rt⟩) = false := by simp [KC, t0, t1]
    rw [hr]
    clear hr
    go_enter Tryz.func84, Tryz.ntmps84
    go_wp2
    go_ret
    exact ⟨rfl, bB⟩
  rcases Bool.eq_false_or_eq_true ((l == 0)) with t2 | t2
  rotate_left
  · have hr : (KC ⟨k, v, l, r, o, g, lt, rt⟩) = false := by simp [KC, t0, t1, t2]
    rw [hr]
    clear hr
    go_enter Tryz.func84, Tryz.ntmps84
    go_wp2
    go_ret
    exact ⟨rfl, bB⟩
  rcases Bool.eq_false_or_eq_true ((!g)) with t3 | t3
  rotate_left
  · have hr : (KC ⟨k, v, l, r, o, g, lt, rt⟩) = false := by simp [KC, t0, t1, t2, t3]
    rw [hr]
    clear hr
    go_enter Tryz.func84, Tryz.ntmps84
    go_wp2
    go_ret
    exact ⟨rfl, bB⟩
  have hr : (KC ⟨k, v, l, r, o, g, lt, rt⟩) = true := by simp [KC, t0, t1, t2, t3]
  rw [hr]
  clear hr
  go_enter Tryz.func84, Tryz.ntmps84
  go_wp2
  go_ret
  exact ⟨rfl, bB⟩
set_option maxHeartbeats 1000000 in
theorem yN (k v l r o : Int) (g : Bool) (lt rt : Int) (w : World) :
    Calls Tryz.prog 85 #[.agg #[.int .i64 k, .int .i64 v, .int .i64 l, .int .i64 r, .int .i64 o, .bool g, .int .i64 lt, .int .i64 rt]] w fun e w' => e = .returned (.bool (SD ⟨k, v, l, r, o, g, lt, rt⟩)) ∧ Below w.heap.size w w' := by
  rcases Bool.eq_false_or_eq_true (ZA k 0 99) with t0 | t0
  rotate_left
  · have hr : (SD ⟨k, v, l, r, o, g, lt, rt⟩) = false := by simp [SD, t0]
    rw [hr]
    clear hr
    go_enter Tryz.func85, Tryz.ntmps85
    go_wp2_with (first | (go_at_call 83; refine (zC _ _ _ _).mono ?_; rintro e w1 ⟨rfl, rfl⟩))
    go_ret
    exact ⟨rfl, bB⟩
  rcases Bool.eq_false_or_eq_true (ZA v 0 999) with t1 | t1
  rotate_left
  · have hr : (SD ⟨k, v, l, r, o, g, lt, rt⟩) = false := by simp [SD, t0, t1]
    rw [hr]
    clear hr
    go_enter Tryz.func85, Tryz.ntmps85
    go_wp2_with (first | (go_at_call 83; refine (zC _ _ _ _).mono ?_; rintro e w1 ⟨rfl, rfl⟩))
    go_ret
    exact ⟨rfl, bB⟩
  have hr : (SD ⟨k, v, l, r, o, g, lt, rt⟩) = true := by simp [SD, t0, t1]
  rw [hr]
  clear hr
  go_enter Tryz.func85, Tryz.ntmps85
  go_wp2_with (first | (go_at_call 83; refine (zC _ _ _ _).mono ?_; rintro e w1 ⟨rfl, rfl⟩))
  go_ret
  exact ⟨rfl, bB⟩
set_option maxHeartbeats 1000000 in
theorem ZD (k v l r o : Int) (g : Bool) (lt rt : Int) (most : Int) (w : World) :
    Calls Tryz.prog 126 #[.func (.func 88) #[.agg #[.int .i64 k, .int .i64 v, .int .i64 l, .int .i64 r, .int .i64 o, .bool g, .int .i64 lt, .int .i64 rt]] #[], .int .i64 most] w fun e w' => e = .returned (.bool (ZA l 0 most && ZA r 0 most)) ∧ Below w.heap.size w w' := by
  have q0 : XA 0 l r = l := rfl
  have q1 : XA 1 l r = r := rfl
  rcases Bool.eq_false_or_eq_true (ZA l 0 most) with t0 | t0
  rotate_left
  · have hr : (ZA l 0 most && ZA r 0 most) = false := by simp [and_true, t0]
    rw [hr]
    clear hr
    go_enter Tryz.func126, Tryz.ntmps126
    go_wp2_with (first | (go_at_call 88; ((with_reducible refine (YH _ _ _ _ _ _ _ _ _ _).mono ?_); rintro e w1 ⟨rfl, hb⟩; obtain ⟨hc, hf⟩ := IE hb; have hz := hb.size; (try simp at hc); (try simp at hf); (try simp at hz); have hz0 : w.heap.size ≤ w1.heap.size := (by omega))) | (go_at_call 83; refine (zC _ _ _ _).mono ?_; rintro e w1 ⟨rfl, rfl⟩))
    go_ret
    exact ⟨rfl, bB⟩
  rcases Bool.eq_false_or_eq_true (ZA r 0 most) with t1 | t1
  rotate_left
  · have hr : (ZA l 0 most && ZA r 0 most) = false := by simp [and_true, t0, t1]
    rw [hr]
    clear hr
    go_enter Tryz.func126, Tryz.ntmps126
    go_wp2_with (first | (go_at_call 88; ((with_reducible refine (YH _ _ _ _ _ _ _ _ _ _).mono ?_); rintro e w1 ⟨rfl, hb⟩; obtain ⟨hc, hf⟩ := IE hb; have hz := hb.size; (try simp at hc); (try simp at hf); (try simp at hz); have hz0 : w.heap.size ≤ w1.heap.size := (by omega))) | (go_at_call 83; refine (zC _ _ _ _).mono ?_; rintro e w1 ⟨rfl, rfl⟩))
    go_ret
    exact ⟨rfl, bB⟩
  have hr : (ZA l 0 most && ZA r 0 most) = true := by simp [and_true, t0, t1]
  rw [hr]
  clear hr
  go_enter Tryz.func126, Tryz.ntmps126
  go_wp2_with (first | (go_at_call 88; ((with_reducible refine (YH _ _ _ _ _ _ _ _ _ _).mono ?_); rintro e w1 ⟨rfl, hb⟩; obtain ⟨hc, hf⟩ := IE hb; have hz := hb.size; (try simp at hc); (try simp at hf); (try simp at hz); have hz0 : w.heap.size ≤ w1.heap.size := (by omega))) | (go_at_call 83; refine (zC _ _ _ _).mono ?_; rintro e w1 ⟨rfl, rfl⟩))
  go_ret
  exact ⟨rfl, bB⟩
set_option maxHeartbeats 1000000 in
theorem YD (k v l r o : Int) (g : Bool) (lt rt : Int) (most : Int) (w : World) :
    Calls Tryz.prog 126 #[.func (.func 127) #[.agg #[.int .i64 k, .int .i64 v, .int .i64 l, .int .i64 r, .int .i64 o, .bool g, .int .i64 lt, .int .i64 rt]] #[], .int .i64 most] w fun e w' => e = .returned (.bool (ZA lt 0 most && ZA rt 0 most)) ∧ Below w.heap.size w w' := by
  have q0 : XA 0 lt rt = lt := rfl
  have q1 : XA 1 lt rt = rt := rfl
  rcases Bool.eq_false_or_eq_true (ZA lt 0 most) with t0 | t0
  rotate_left
  · have hr : (ZA lt 0 most && ZA rt 0 most) = false := by simp [and_true, t0]
    rw [hr]
    clear hr
    go_enter Tryz.func126, Tryz.ntmps126
    go_wp2_with (first | (go_at_call 127; ((with_reducible refine (WH _ _ _ _ _ _ _ _ _ _).mono ?_); rintro e w1 ⟨rfl, hb⟩; obtain ⟨hc, hf⟩ := IE hb; have hz := hb.size; (try simp at hc); (try simp at hf); (try simp at hz); have hz0 : w.heap.size ≤ w1.heap.size := (by omega))) | (go_at_call 83; refine (zC _ _ _ _).mono ?_; rintro e w1 ⟨rfl, rfl⟩))
    go_ret
    exact ⟨rfl, bB⟩
  rcases Bool.eq_false_or_eq_true (ZA rt 0 most) with t1 | t1
  rotate_left
  · have hr : (ZA lt 0 most && ZA rt 0 most) = false := by simp [and_true, t0, t1]
    rw [hr]
    clear hr
    go_enter Tryz.func126, Tryz.ntmps126
    go_wp2_with (first | (go_at_call 127; ((with_reducible refine (WH _ _ _ _ _ _ _ _ _ _).mono ?_); rintro e w1 ⟨rfl, hb⟩; obtain ⟨hc, hf⟩ := IE hb; have hz := hb.size; (try simp at hc); (try simp at hf); (try simp at hz); have hz0 : w.heap.size ≤ w1.heap.size := (by omega))) | (go_at_call 83; refine (zC _ _ _ _).mono ?_; rintro e w1 ⟨rfl, rfl⟩))
    go_ret
    exact ⟨rfl, bB⟩
  have hr : (ZA lt 0 most && ZA rt 0 most) = true := by simp [and_true, t0, t1]
  rw [hr]
  clear hr
  go_enter Tryz.func126, Tryz.ntmps126
  go_wp2_with (first | (go_at_call 127; ((with_reducible refine (WH _ _ _ _ _ _ _ _ _ _).mono ?_); rintro e w1 ⟨rfl, hb⟩; obtain ⟨hc, hf⟩ := IE hb; have hz := hb.size; (try simp at hc); (try simp at hf); (try simp at hz); have hz0 : w.heap.size ≤ w1.heap.size := (by omega))) | (go_at_call 83; refine (zC _ _ _ _).mono ?_; rintro e w1 ⟨rfl, rfl⟩))
  go_ret
  exact ⟨rfl, bB⟩
set_option maxHeartbeats 1000000 in
theorem IM (k v l r o : Int) (g : Bool) (lt rt : Int) (many : Int) (w : World) (m0 : 1 ≤ many) (m1 : many ≤ 1048576) :
    Calls Tryz.prog 86 #[.agg #[.int .i64 k, .int .i64 v, .int .i64 l, .int .i64 r, .int .i64 o, .bool g, .int .i64 lt, .int .i64 rt], .int .i64 many] w fun e w' => e = .returned (.bool (zF ⟨k, v, l, r, o, g, lt, rt⟩ many)) ∧ Below w.heap.size w w' := by
  rcases Bool.eq_false_or_eq_true ((ZA l 0 (many - 1) && ZA r 0 (many - 1))) with t0 | t0
  rotate_left
  · have hr : (zF ⟨k, v, l, r, o, g, lt, rt⟩ many) = false := by simp [zF, t0]
    rw [hr]
    clear hr
    go_enter Tryz.func86, Tryz.ntmps86
    go_wp2_with (first | (go_at_call 126; ((with_reducible refine (ZD _ _ _ _ _ _ _ _ _ _).mono ?_); rintro e w1 ⟨rfl, hb⟩; obtain ⟨hc, hf⟩ := IE hb; have hz := hb.size; (try simp at hc); (try simp at hf); (try simp at hz); have hz0 : w.heap.size < w1.heap.size := (by omega))) | (go_at_call 126; ((with_reducible refine (YD _ _ _ _ _ _ _ _ _ _).mono ?_); rintro e w1 ⟨rfl, hb⟩; obtain ⟨hc, hf⟩ := IE hb; have hz := hb.size; (try simp at hc); (try simp at hf); (try simp at hz); have hz0 : w.heap.size < w1.heap.size := (by omega))) | (go_at_call 83; refine (zC _ _ _ _).mono ?_; rintro e w1 ⟨rfl, rfl⟩))
    go_ret
    exact ⟨rfl, bB⟩
  rcases Bool.eq_false_or_eq_true ((ZA lt 0 10000 && ZA rt 0 10000)) with t1 | t1
  rotate_left
  · have hr : (zF ⟨k, v, l, r, o, g, lt, rt⟩ many) = false := by simp [zF, t0, t1]
    rw [hr]
    clear hr
    go_enter Tryz.func86, Tryz.ntmps86
    go_wp2_with (first | (go_at_call 126; ((with_reducible refine (ZD _ _ _ _ _ _ _ _ _ _).mono ?_); rintro e w1 ⟨rfl, hb⟩; obtain ⟨hc, hf⟩ := IE hb; have hz := hb.size; (try simp at hc); (try simp at hf); (try simp at hz); have hz0 : w.heap.size < w1.heap.size := (by omega))) | (go_at_call 126; ((with_reducible refine (YD _ _ _ _ _ _ _ _ _ _).mono ?_); rintro e w1 ⟨rfl, hb⟩; obtain ⟨hc, hf⟩ := IE hb; have hz := hb.size; (try simp at hc); (try simp at hf); (try simp at hz); have hz0 : w.heap.size < w1.heap.size := (by omega))) | (go_at_call 83; refine (zC _ _ _ _).mono ?_; rintro e w1 ⟨rfl, rfl⟩))
    go_ret
    exact ⟨rfl, bB⟩
  rcases Bool.eq_false_or_eq_true (ZA o 0 6) with t2 | t2
  rotate_left
  · have hr : (zF ⟨k, v, l, r, o, g, lt, rt⟩ many) = false := by simp [zF, t0, t1, t2]
    rw [hr]
    clear hr
    go_enter Tryz.func86, Tryz.ntmps86
    go_wp2_with (first | (go_at_call 126; ((with_reducible refine (ZD _ _ _ _ _ _ _ _ _ _).mono ?_); rintro e w1 ⟨rfl, hb⟩; obtain ⟨hc, hf⟩ := IE hb; have hz := hb.size; (try simp at hc); (try simp at hf); (try simp at hz); have hz0 : w.heap.size < w1.heap.size := (by omega))) | (go_at_call 126; ((with_reducible refine (YD _ _ _ _ _ _ _ _ _ _).mono ?_); rintro e w1 ⟨rfl, hb⟩; obtain ⟨hc, hf⟩ := IE hb; have hz := hb.size; (try simp at hc); (try simp at hf); (try simp at hz); have hz0 : w.heap.size < w1.heap.size := (by omega))) | (go_at_call 83; refine (zC _ _ _ _).mono ?_; rintro e w1 ⟨rfl, rfl⟩))
    go_ret
    exact ⟨rfl, bB⟩
  have hr : (zF ⟨k, v, l, r, o, g, lt, rt⟩ many) = true := by simp [zF, t0, t1, t2]
  rw [hr]
  clear hr
  go_enter Tryz.func86, Tryz.ntmps86
  go_wp2_with (first | (go_at_call 126; ((with_reducible refine (ZD _ _ _ _ _ _ _ _ _ _).mono ?_); rintro e w1 ⟨rfl, hb⟩; obtain ⟨hc, hf⟩ := IE hb; have hz := hb.size; (try simp at hc); (try simp at hf); (try simp at hz); have hz0 : w.heap.size < w1.heap.size := (by omega))) | (go_at_call 126; ((with_reducible refine (YD _ _ _ _ _ _ _ _ _ _).mono ?_); rintro e w1 ⟨rfl, hb⟩; obtain ⟨hc, hf⟩ := IE hb; have hz := hb.size; (try simp at hc); (try simp at hf); (try simp at hz); have hz0 : w.heap.size < w1.heap.size := (by omega))) | (go_at_call 83; refine (zC _ _ _ _).mono ?_; rintro e w1 ⟨rfl, rfl⟩))
  go_ret
  exact ⟨rfl, bB⟩
theorem rN (n : ND) (many : Int) : zF n many = rB n many := by
  unfold zF rB
  cases ZA n.l 0 (many - 1) <;> cases ZA n.r 0 (many - 1) <;> cases ZA n.o 0 6 <;> cases ZA n.lt 0 10000 <;> cases ZA n.rt 0 10000 <;> rfl
theorem WG (n : ND) (many : Int) (w : World) (m0 : 1 ≤ many) (m1 : many ≤ 1048576) :
    Calls Tryz.prog 110 #[.agg #[.int .i64 n.k, .int .i64 n.v, .int .i64 n.l, .int .i64 n.r, .int .i64 n.o, .bool n.g, .int .i64 n.lt, .int .i64 n.rt], .int .i64 many] w fun e w' => e = .returned (.bool (rB n many)) ∧ Below w.heap.size w w' :=
  KG n.k n.v n.l n.r n.o n.g n.lt n.rt many w m0 m1
theorem eH {l : List ND} (h : 30 < l.length) : PA l = false := by
  have h1 : decide (l.length ≤ 30) = false := decide_eq_false (by omega)
  simp [PA, h1]
theorem cF {n : ND} {r : List ND} (h : (KC n && rB n (n :: r).length) = false) : PA (n :: r) = false := by
  simp only [PA, h, Bool.false_and, Bool.and_false]
theorem cE {n m : ND} {r : List ND} (hm : m ∈ r) (h : (SD m && rB m (n :: r).length) = false) : PA (n :: r) = false := by
  have e : (r.all fun m => SD m && rB m (n :: r).length) = false := by
    rw [List.all_eq_false]
    exact ⟨m, hm, by rw [h]; simp⟩
  simp only [PA, e, Bool.and_false]
theorem xF {n : ND} {r : List ND} (hl : (n :: r).length ≤ 30) (h : (KC n && rB n (n :: r).length) = true) (hr : ∀ m ∈ r, (SD m && rB m (n :: r).length) = true) : PA (n :: r) = true := by
  have e : (r.all fun m => SD m && rB m (n :: r).length) = true := List.all_eq_true.2 hr
  have e1 : decide (1 ≤ (n :: r).length) = true := by simp
  have e2 : decide ((n :: r).length ≤ 30) = true := by simpa using hl
  simp only [PA, e, e1, e2, h, Bool.and_self]
theorem fF {n m : ND} {r : List ND} {k : Nat} (h : (n :: r)[k]? = some m) (hk : 1 ≤ k) : m ∈ r := by
  obtain ⟨j, rfl⟩ : ∃ j, k = j + 1 := ⟨k - 1, by omega⟩
  simp only [List.getElem?_cons_succ] at h
  exact List.mem_of_getElem? h
def RestTo (n : ND) (r : List ND) (k : Nat) : Prop := ∀ j m, 1 ≤ j → j < k → (n :: r)[j]? = some m → (SD m && rB m (n :: r).length) = true
theorem RestTo.all {n : ND} {r : List ND} (h : RestTo n r (n :: r).length) : ∀ m ∈ r, (SD m && rB m (n :: r).length) = true := by
  intro m hm
  obtain ⟨i, hi⟩ := List.mem_iff_getElem?.1 hm
  have hl : i < r.length := (List.getElem?_eq_some_iff.1 hi).1
  exact h (i + 1) m (by omega) (by simp; omega) (by simpa using hi)
theorem RestTo.step {n m : ND} {r : List ND} {k : Nat} (h : RestTo n r k) (hm : (n :: r)[k]? = some m) (ht : (SD m && rB m (n :: r).length) = true) : RestTo n r (k + 1) := by
  intro j m' h1 h2 h3
  by_cases e : j = k
  · subst e
    rw [hm] at h3
    cases h3
    exact ht
  · exact h j m' h1 (by omega) h3
theorem RestTo.one (n : ND) (r : List ND) : RestTo n r 1 := fun j m h1 h2 => by omega
def Says (l : List ND) (w : World) (e : Ending) (w' : World) : Prop := e = .returned (.bool (PA l)) ∧ Below w.heap.size w w'
theorem Says.of {l : List ND} {w w' : World} {b : Bool} (h : PA l = b) (hb : Below w.heap.size w w') : Says l w (.returned (.bool b)) w' := ⟨by rw [h], hb⟩
set_option maxHeartbeats 2000000 in
theorem IG (v : Value) (w : World) (h : NSl w v []) : Calls Tryz.prog 62 #[v] w (Says [] w) := by
  obtain ⟨a1, c1, rfl⟩ := h.nil
  clear h
  go_enter Tryz.func62, Tryz.ntmps62
  go_wp2
  go_ret
  exact Says.of rfl (Below.refl _ _)
set_option maxHeartbeats 2000000 in
theorem nG (v : Value) (l : List ND) (w : World) (h : NSl w v l) (hl : 30 < l.length) (hl2 : l.length ≤ 1048576) : Calls Tryz.prog 62 #[v] w (Says l w) := by
  have hn := eH hl
  obtain ⟨b1, o1, c1, rfl, k1, m1, s1, H1⟩ := h.at (by intro e; rw [e] at hl; simp at hl)
  clear h H1
  go_enter Tryz.func62, Tryz.ntmps62
  go_wp2
  go_ret
  exact Says.of hn (Below.refl _ _)
set_option maxRecDepth 100000 in
set_option maxHeartbeats 4000000 in
theorem JG (v : Value) (n : ND) (r : List ND) (w : World) (h : NSl w v (n :: r)) (hl : (n :: r).length ≤ 30) (hbad : (KC n && rB n (n :: r).length) = false) : Calls Tryz.prog 62 #[v] w (Says (n :: r) w) := by
  have hn := cF hbad
  obtain ⟨b1, o1, c1, rfl, k1, m1, s1, H1⟩ := h.at (by simp)
  have A1 := H1 0 n rfl
  simp only [At8, Nat.zero_mul, Nat.add_zero] at A1
  obtain ⟨N, hN⟩ : ∃ N, N = (n :: r).length := ⟨_, rfl⟩
  have hN1 : 1 ≤ N := by rw [hN]; simp
  have hs : n :: r = n :: r := rfl
  rw [← hN] at hl hbad k1 ⊢
  have HN := Lib.hid hn
  clear h H1 hN hn
  unfold maxLen at m1
  have j0 : (1 : Int) ≤ (N : Int) := by omega
  have j1 : (N : Int) ≤ 30 := by omega
  rcases Bool.eq_false_or_eq_true (n.k != -1) with t0 | t0
  · clear hbad
    go_enter Tryz.func62, Tryz.ntmps62
    go_wp2
    go_ret
    exact Says.of HN.out bB
  rcases Bool.eq_false_or_eq_true (n.v != 0) with t1 | t1
  · clear hbad
    go_enter Tryz.func62, Tryz.ntmps62
    go_wp2
    go_ret
    exact Says.of HN.out bB
  rcases Bool.eq_false_or_eq_true (n.l != 0) with t2 | t2
  · clear hbad
    go_enter Tryz.func62, Tryz.ntmps62
    go_wp2
    go_ret
    exact Says.of HN.out bB
  rcases Bool.eq_false_or_eq_true n.g with t3 | t3
  · clear hbad
    go_enter Tryz.func62, Tryz.ntmps62
    go_wp2
    go_ret
    exact Says.of HN.out bB
  have T3 := Lib.hid t3
  obtain ⟨rk, rv, rl, rr, ro, rg, rlt, rrt⟩ := n
  obtain rfl : rk = -1 := by simpa [bne] using t0
  obtain rfl : rv = 0 := by simpa [bne] using t1
  obtain rfl : rl = 0 := by simpa [bne] using t2
  obtain rfl : rg = false := T3.out
  have hL : rB ⟨-1, 0, 0, rr, ro, false, rlt, rrt⟩ N = false := by simpa [KC] using hbad
  clear hbad t0 t1 t2 T3
  go_enter Tryz.func62, Tryz.ntmps62
  go_wp2_with (first | (go_at_call 110; refine (KG _ _ _ _ _ _ _ _ _ _ (by omega) (by omega)).mono ?_; rintro e w1 ⟨rfl, hb1⟩; have hz1 := hb1.size; (try simp at hz1)))
  go_ret
  exact Says.of HN.out bB
set_option maxRecDepth 100000 in
set_option maxHeartbeats 4000000 in
theorem oG (v : Value) (n : ND) (r : List ND) (w : World) (h : NSl w v (n :: r)) (hl : (n :: r).length ≤ 30) (hgood : (KC n && rB n (n :: r).length) = true) : Calls Tryz.prog 62 #[v] w (Says (n :: r) w) := by
  have hfin := xF (n := n) (r := r) hl hgood
  obtain ⟨b1, o1, c1, rfl, k1, m1, s1, H1⟩ := h.at (by simp)
  have A1 := H1 0 n rfl
  obtain ⟨N, hN⟩ : ∃ N, N = (n :: r).length := ⟨_, rfl⟩
  have hN1 : 1 ≤ N := by rw [hN]; simp
  rw [← hN] at hl hgood k1 ⊢
  have HF := Lib.hid hfin
  have HN := Lib.hid hN
  have HH := Lib.hid H1
  clear h hN hfin H1
  unfold maxLen at m1
  have j0 : (1 : Int) ≤ (N : Int) := by omega
  have j1 : (N : Int) ≤ 30 := by omega
  have hroot : KC n = true := by revert hgood; cases KC n <;> simp
  have hL : rB n N = true := by revert hgood; cases rB n N <;> simp
  obtain ⟨rk, rv, rl, rr, ro, rg, rlt, rrt⟩ := n
  simp only [KC, Bool.and_eq_true, beq_iff_eq, Bool.not_eq_true'] at hroot
  obtain ⟨⟨⟨rfl, rfl⟩, rfl⟩, rfl⟩ := hroot
  simp only [At8, Nat.zero_mul, Nat.add_zero] at A1
  clear hgood
  go_enter Tryz.func62, Tryz.ntmps62
  go_wp2_with (first | (go_at_call 110; refine (KG _ _ _ _ _ _ _ _ _ _ (by omega) (by omega)).mono ?_; rintro e w1 ⟨rfl, hb1⟩; have hz1 := hb1.size; (try simp at hz1)))
  have hB : Below w.heap.size w w1 := bB
  clear A1 hL hb1 hz1
  go_loopw [4] (fun i wr => ∃ k : Nat, 1 ≤ k ∧ k ≤ N ∧ i = .int .i64 k ∧ Hid (RestTo ⟨-1, 0, 0, rr, ro, false, rlt, rrt⟩ r k) ∧ Below w.heap.size w wr) (fun i _ => N - (intOf i).toNat)
  case atStart => exact ⟨1, Nat.le_refl _, by omega, rfl, Lib.hid (RestTo.one _ _), hB⟩
  case round =>
    clear hB
    obtain ⟨k, hk0, hk, rfl, HR, hB⟩ := hrel
    by_cases hlt : k < N
    · obtain ⟨m, hg⟩ : ∃ m, (⟨-1, 0, 0, rr, ro, false, rlt, rrt⟩ :: r : List ND)[k]? = some m := ⟨_, List.getElem?_eq_getElem (by rw [← HN.out]; exact hlt)⟩
      have A2 := (HH.out k m hg).below hB s1
      simp only [At8] at A2
      have HG := Lib.hid hg
      have j2 : (0 : Int) ≤ (k : Int) := by omega
      have j3 : (k : Int) < (N : Int) := by omega
      have hz := hB.size
      clear hg
      rcases Bool.eq_false_or_eq_true (ZA m.k 0 99) with t0 | t0
      rotate_left
      · go_wp2_with (first | (go_at_call 100; refine (UA _ _ _ _).mono ?_; rintro e w1 ⟨rfl, rfl⟩))
        go_ret
        exact Says.of (cE (fF HG.out hk0) (by rw [← HN.out]; simp [SD, t0])) bB
      rcases Bool.eq_false_or_eq_true (ZA m.v 0 999) with t1 | t1
      rotate_left
      · go_wp2_with (first | (go_at_call 100; refine (UA _ _ _ _).mono ?_; rintro e w1 ⟨rfl, rfl⟩))
        go_ret
        exact Says.of (cE (fF HG.out hk0) (by rw [← HN.out]; simp [SD, t1])) bB
      rcases Bool.eq_false_or_eq_true (rB m N) with t2 | t2
      rotate_left
      · go_wp2_with (first | (go_at_call 100; refine (UA _ _ _ _).mono ?_; rintro e w1 ⟨rfl, rfl⟩) | (go_at_call 110; refine (WG m _ _ (by omega) (by omega)).mono ?_; rintro e w1 ⟨rfl, hb1⟩; have hz1 := hb1.size))
        go_ret
        exact Says.of (cE (fF HG.out hk0) (by rw [← HN.out]; simp [t2])) bB
      · go_wp2_with (first | (go_at_call 100; refine (UA _ _ _ _).mono ?_; rintro e w1 ⟨rfl, rfl⟩) | (go_at_call 110; refine (WG m _ _ (by omega) (by omega)).mono ?_; rintro e w1 ⟨rfl, hb1⟩; have hz1 := hb1.size))
        go_roundw
        case rel => exact ⟨k + 1, by omega, by omega, by go_num, Lib.hid (HR.out.step HG.out (by rw [← HN.out]; simp [SD, t0, t1, t2])), bB⟩
        case measure => simp [intOf]; omega
    · obtain rfl : k = N := by omega
      go_wp2
      go_ret
      exact Says.of (HF.out (RestTo.all (by rw [← HN.out]; exact HR.out))) hB
theorem CD (v : Value) (l : List ND) (w : World) (h : NSl w v l) (hl : l.length ≤ 1048576) : Calls Tryz.prog 62 #[v] w (Says l w) := by
  match l, h, hl with
  | [], h, _ => exact IG v w h
  | n :: r, h, hl =>
    by_cases h30 : (n :: r).length ≤ 30
    · rcases Bool.eq_false_or_eq_true (KC n && rB n (n :: r).length) with hg | hg
      · exact oG v n r w h h30 hg
      · exact JG v n r w h h30 hg
    · exact nG v _ w h (by omega) hl
end Go.Proofs.YtfjafncipjdnfaaGreat
