import Derived.Test.YtfjafncipjdnfaaGreatNodesSpec
namespace Go.Proofs.YtfjafncipjdnfaaGreat
open Go.ChangeShapes Go.WideShapes Go.ChangeAt Go.RowKit
set_option linter.unusedVariables false
set_option linter.unusedSimpArgs false
def RC (c k v : Int) : Bool := ZA c 1 3 && ZA k 0 99 && (if c = 2 then ZA v 0 999 else v == 0)
def NG (c k v r : Int) : Bool := RC c k v && ZA r 1 3 && (c != 1 || r != 3)
def uG (c k v : Int) : Bool := c == 0 && k == 0 && v == 0
theorem vD {w : World} {g : Nat} {t : TypeId} {a b c : Value} (h : Blk w g t [a, b, c]) : w.cell? ⟨g, 0, none⟩ = some a ∧ w.cell? ⟨g, 1, none⟩ = some b ∧ w.cell? ⟨g, 2, none⟩ = some c ∧ ∀ i, w.frozen? ⟨g, i, none⟩ = false :=
  ⟨h.cell 0, h.cell 1, h.cell 2, fun i => h.free i⟩
set_option maxHeartbeats 1000000 in
theorem DE (c k v : Int) (w : World) :
    Calls Tryz.prog 68 #[.agg #[.int .i64 c, .int .i64 k, .int .i64 v]] w fun e w' => e = .returned (.bool (RC c k v)) ∧ Below w.heap.size w w' := by
  rcases Bool.eq_false_or_eq_true (ZA c 1 3) with t0 | t0
  · rcases Bool.eq_false_or_eq_true (ZA k 0 99) with t1 | t1
    · by_cases h2 : c = 2
      · subst h2
        have hr : RC 2 k v = ZA v 0 999 := by simp [RC, t0, t1]
        rw [hr]
        clear hr
        go_enter Tryz.func68, Tryz.ntmps68
        go_wp2_with (go_at_call 100; refine (UA _ _ _ _).mono ?_; rintro e w1 ⟨rfl, rfl⟩)
        go_ret
        exact ⟨rfl, (Below.refl _ _).alloc (Nat.le_refl _) _⟩
      · have hr : RC c k v = (v == 0) := by simp [RC, t0, t1, h2]
        rw [hr]
        clear hr
        go_enter Tryz.func68, Tryz.ntmps68
        go_wp2_with (go_at_call 100; refine (UA _ _ _ _).mono ?_; rintro e w1 ⟨rfl, rfl⟩)
        go_ret
        exact ⟨rfl, (Below.refl _ _).alloc (Nat.le_refl _) _⟩
    · have hr : RC c k v = false := by simp [RC, t0, t1]
      rw [hr]
      clear hr
      go_enter Tryz.func68, Tryz.ntmps68
      go_wp2_with (go_at_call 100; refine (UA _ _ _ _).mono ?_; rintro e w1 ⟨rfl, rfl⟩)
      go_ret
      exact ⟨rfl, (Below.refl _ _).alloc (Nat.le_refl _) _⟩
  · have hr : RC c k v = false := by simp [RC, t0]
    rw [hr]
    clear hr
    go_enter Tryz.func68, Tryz.ntmps68
    go_wp2_with (go_at_call 100; refine (UA _ _ _ _).mono ?_; rintro e w1 ⟨rfl, rfl⟩)
    go_ret
    exact ⟨rfl, (Below.refl _ _).alloc (Nat.le_refl _) _⟩
set_option maxHeartbeats 1000000 in
theorem oM (c k v : Int) (w : World) :
    Calls Tryz.prog 111 #[.agg #[.int .i64 c, .int .i64 k, .int .i64 v]] w fun e w' => e = .returned (.bool (uG c k v)) ∧ Below w.heap.size w w' := by
  go_enter Tryz.func111, Tryz.ntmps111
  go_wp2
  all_goals
    go_ret
    exact ⟨by simp_all [uG], (Below.refl _ _).alloc (Nat.le_refl _) _⟩
set_option maxHeartbeats 1000000 in
theorem qG (c k v r : Int) (w : World) :
    Calls Tryz.prog 149 #[.agg #[.int .i64 c, .int .i64 k, .int .i64 v], .int .i64 r] w fun e w' => e = .returned (.bool (NG c k v r)) ∧ Below w.heap.size w w' := by
  have C := fun w => DE c k v w
  have HR : NG c k v r = (RC c k v && ZA r 1 3 && (c != 1 || r != 3)) := rfl
  rw [HR]
  generalize RC c k v = cb at C ⊢
  clear HR
  cases cb
  · go_enter Tryz.func149, Tryz.ntmps149
    go_wp2_with fail
    refine (C _).mono ?_
    rintro e w1 ⟨rfl, hB1⟩
    go_wp2
    go_ret
    exact ⟨rfl, ((Below.refl _ _).alloc (Nat.le_refl _) _).trans (hB1.mono (by simp))⟩
  · rcases Bool.eq_false_or_eq_true (ZA r 1 3) with t | t
    · rw [t]
      have T := Lib.hid t
      clear t
      by_cases h1 : c = 1
      · subst h1
        go_enter Tryz.func149, Tryz.ntmps149
        go_wp2_with fail
        refine (C _).mono ?_
        rintro e w1 ⟨rfl, hB1⟩
        obtain ⟨q0, q1, q2, qf⟩ := vD (Blk.below (e := 43) (cs := [.int .i64 1, .int .i64 k, .int .i64 v]) (heap_alloc_new w _) hB1 (by simp))
        go_wp2_with fail
        refine (UA _ _ _ _).mono ?_
        rintro e w1' ⟨rfl, rfl⟩
        rw [T.out]
        go_wp2
        go_ret
        exact ⟨rfl, ((Below.refl _ _).alloc (Nat.le_refl _) _).trans (hB1.mono (by simp))⟩
      · have h1' : (c != 1) = true := by simpa using h1
        rw [h1']
        go_enter Tryz.func149, Tryz.ntmps149
        go_wp2_with fail
        refine (C _).mono ?_
        rintro e w1 ⟨rfl, hB1⟩
        obtain ⟨q0, q1, q2, qf⟩ := vD (Blk.below (e := 43) (cs := [.int .i64 c, .int .i64 k, .int .i64 v]) (heap_alloc_new w _) hB1 (by simp))
        go_wp2_with fail
        refine (UA _ _ _ _).mono ?_
        rintro e w1' ⟨rfl, rfl⟩
        rw [T.out]
        go_wp2
        go_ret
        exact ⟨rfl, ((Below.refl _ _).alloc (Nat.le_refl _) _).trans (hB1.mono (by simp))⟩
    · rw [t]
      have T := Lib.hid t
      clear t
      go_enter Tryz.func149, Tryz.ntmps149
      go_wp2_with fail
      refine (C _).mono ?_
      rintro e w1 ⟨rfl, hB1⟩
      go_wp2_with fail
      refine (UA _ _ _ _).mono ?_
      rintro e w1' ⟨rfl, rfl⟩
      rw [T.out]
      go_wp2
      go_ret
      exact ⟨rfl, ((Below.refl _ _).alloc (Nat.le_refl _) _).trans (hB1.mono (by simp))⟩
end Go.Proofs.YtfjafncipjdnfaaGreat
