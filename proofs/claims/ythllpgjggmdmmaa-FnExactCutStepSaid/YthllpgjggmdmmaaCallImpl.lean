/- Calls: what the program answers. -/
import Derived.Test.YthllpgjggmdmmaaCall
import Derived.Deep.QuietTactic
import Derived.BigQuiet
namespace Go.Proofs.Ythllpgjggmdmmaa
open Go.ChangeShapes Go.WideShapes Go.ChangeAt Go.RowKit
set_option linter.unusedVariables false
set_option linter.unusedSimpArgs false

def mostF (c : Int) : Int := if c = 2 then 999 else 0
theorem callB_most (c k v : Int) : callB c k v = (inB c 1 3 && inB k 0 99 && inB v 0 (mostF c)) := by
  unfold callB mostF
  by_cases h : c = 2
  · simp [h]
  · simp only [h, if_false]
    congr 1
    by_cases hv : v = 0
    · simp [hv, inB]
    · have : inB v 0 0 = false := by simp [inB]; omega
      rw [this]
      simpa using hv
set_option maxHeartbeats 1000000 in
theorem impl_isKnown (c : Int) (w : World) :
    Calls Try.prog 98 #[.int .i64 c] w fun e w' => e = .returned (.bool (inB c 1 3)) ∧ w = w' := by
  go_enter Try.func98, Try.ntmps98
  go_wp2_with fail
  refine (impl_in _ _ _ _).mono ?_
  rintro e w1 ⟨rfl, rfl⟩
  go_wp2
  go_ret
  exact ⟨rfl, rfl⟩
set_option maxHeartbeats 1000000 in
theorem impl_mostValue (c : Int) (w : World) :
    Calls Try.prog 99 #[.int .i64 c] w fun e w' => e = .returned (.int .i64 (mostF c)) ∧ w = w' := by
  by_cases h : c = 2
  · subst h
    go_enter Try.func99, Try.ntmps99
    go_wp2
    go_ret
    exact ⟨rfl, rfl⟩
  · have e : mostF c = 0 := by simp [mostF, h]
    rw [e]
    go_enter Try.func99, Try.ntmps99
    go_wp2
    go_ret
    exact ⟨rfl, rfl⟩
set_option maxHeartbeats 1000000 in
theorem impl_codedOf (c k v : Int) (w : World) :
    Calls Try.prog 96 #[.agg #[.int .i64 c, .int .i64 k, .int .i64 v]] w fun e w' => e = .returned (.agg #[.int .i64 c, .int .i64 k, .int .i64 v]) ∧ Below w.heap.size w w' := by
  go_enter Try.func96, Try.ntmps96
  go_wp2
  exact bodyPost_ret (v := .agg #[.int .i64 c, .int .i64 k, .int .i64 v]) (by simp [results, Try.results96, go_sem]) rfl ⟨rfl, by repeat (first | exact Below.refl _ _ | refine Below.alloc ?_ (by simp) _ | refine Below.setCell ?_ (by simp) _)⟩
theorem belowN {B : Nat} {a w : World} (h : Below B a w) (n : Nat) : Below B a (w.drewN n) := h.trans ⟨rfl, rfl, rfl, Nat.le_refl _, fun _ _ => rfl⟩
theorem quiet_same {f : FuncId} {args : Array Value} {w : World} {n : Nat} {v : Value} (h : Calls Try.prog f args (w.drewN n) fun e w' => e = .returned v ∧ w.drewN n = w') : Calls Try.prog f args (w.drewN n) fun e w'' => e = .returned v ∧ ∃ m, w'' = w.drewN m :=
  Calls.quiet_of_same (h.mono fun _ _ ⟨a, b⟩ => ⟨a, b.symm⟩)
set_option maxHeartbeats 1000000 in
theorem impl_isRight0 (c k v : Int) (w : World) :
    Calls Try.prog 97 #[.agg #[.int .i64 c, .int .i64 k, .int .i64 v]] w fun e w' => e = .returned (.bool (inB c 1 3 && inB k 0 99 && inB v 0 (mostF c))) ∧ Below w.heap.size w w' := by
  have C0 := fun w => impl_isKnown c w
  have C1 := fun w => impl_in k 0 99 w
  have C2 := fun w => impl_in v 0 (mostF c) w
  generalize inB c 1 3 = t0 at C0 ⊢
  generalize inB k 0 99 = t1 at C1 ⊢
  generalize inB v 0 (mostF c) = t2 at C2 ⊢
  cases t0
  · go_enter Try.func97, Try.ntmps97
    go_wp2
    go_quiet (first | (go_at_call 98; refine quiet_same (C0 _)) | (go_at_call 99; refine quiet_same (impl_mostValue _ _)) | (go_at_call 74; first | (with_reducible exact quiet_same (C1 _)) | (with_reducible exact quiet_same (C2 _))))
    go_wp2
    go_ret
    exact ⟨rfl, belowN ((Below.refl _ _).alloc (Nat.le_refl _) _) _⟩
  · cases t1
    · go_enter Try.func97, Try.ntmps97
      go_wp2
      go_quiet (first | (go_at_call 98; refine quiet_same (C0 _)) | (go_at_call 99; refine quiet_same (impl_mostValue _ _)) | (go_at_call 74; first | (with_reducible exact quiet_same (C1 _)) | (with_reducible exact quiet_same (C2 _))))
      go_wp2
      go_ret
      exact ⟨rfl, belowN ((Below.refl _ _).alloc (Nat.le_refl _) _) _⟩
    · go_enter Try.func97, Try.ntmps97
      go_wp2
      go_quiet (first | (go_at_call 98; refine quiet_same (C0 _)) | (go_at_call 99; refine quiet_same (impl_mostValue _ _)) | (go_at_call 74; first | (with_reducible exact quiet_same (C1 _)) | (with_reducible exact quiet_same (C2 _))))
      go_wp2
      go_ret
      exact ⟨rfl, belowN ((Below.refl _ _).alloc (Nat.le_refl _) _) _⟩
theorem impl_isRight (c k v : Int) (w : World) :
    Calls Try.prog 97 #[.agg #[.int .i64 c, .int .i64 k, .int .i64 v]] w fun e w' => e = .returned (.bool (callB c k v)) ∧ Below w.heap.size w w' := by
  rw [callB_most]
  exact impl_isRight0 c k v w
set_option maxHeartbeats 1000000 in
theorem impl_CallOk (c k v : Int) (w : World) :
    Calls Try.prog 88 #[.agg #[.int .i64 c, .int .i64 k, .int .i64 v]] w fun e w' => e = .returned (.bool (callB c k v)) ∧ Below w.heap.size w w' := by
  go_enter Try.func88, Try.ntmps88
  go_wp2_with fail
  refine (impl_codedOf _ _ _ _).mono ?_
  rintro e w1 ⟨rfl, hB1⟩
  go_wp2_with fail
  refine (impl_isRight _ _ _ _).mono ?_
  rintro e w2 ⟨rfl, hB2⟩
  go_wp2
  go_ret
  have s1 := hB1.size
  simp at s1
  exact ⟨rfl, (((Below.refl _ _).alloc (Nat.le_refl _) _).trans (hB1.mono (by simp))).trans (hB2.mono (by omega))⟩
end Go.Proofs.Ythllpgjggmdmmaa
