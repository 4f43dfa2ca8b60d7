/- What the node functions answer, program and model alike, and the walks of their laws. -/
import Derived.Test.YtoamnecoiicljaaBase
namespace Go.Proofs.Ytoamnecoiicljaa
open Go.ChangeShapes Go.WideShapes Go.ChangeAt Go.RowKit
set_option linter.unusedVariables false
set_option linter.unusedSimpArgs false

def kidF (s l r : Int) : Int := if s = 0 then l else if s = 1 then r else 0
def leftF (s kid l : Int) : Int := if s = 0 then kid else l
def rightF (s kid r : Int) : Int := if s = 1 then kid else r
def sideF (key k : Int) : Int := if key < k then 0 else 1
theorem ret_i {a b : Int} (h : a = b) : Ending.returned (.int .i64 a) = .returned (.int .i64 b) := by rw [h]
theorem below_size {B : Nat} {w w' : World} (h : Below B w w') : w.heap.size ≤ w'.heap.size := h.size


set_option maxHeartbeats 1000000 in
theorem toNode_any (k v l r o : Int) (g : Bool) (lt rt : Int) (w : World) :
    Calls Try.prog 42 #[.agg #[.int .i64 k, .int .i64 v, .int .i64 l, .int .i64 r, .int .i64 o, .bool g, .int .i64 lt, .int .i64 rt]] w fun e w' => e = .returned (.agg #[.int .i64 k, .int .i64 v, .int .i64 l, .int .i64 r, .int .i64 o, .bool g, .int .i64 lt, .int .i64 rt]) ∧ Below w.heap.size w w' := by
  go_enter Try.func42, Try.ntmps42
  go_wp2
  exact bodyPost_ret (v := .agg #[.int .i64 k, .int .i64 v, .int .i64 l, .int .i64 r, .int .i64 o, .bool g, .int .i64 lt, .int .i64 rt]) (by simp [results, Try.results42, go_sem]) rfl ⟨rfl, (by repeat (first | exact Below.refl _ _ | assumption | refine Below.drew ?_ | refine Below.alloc ?_ (by simp; try omega) _ | refine Below.setCell ?_ (by simp; try omega) _ | (refine Below.trans ?_ (Below.mono (by assumption) (by simp; try omega)))))⟩

set_option maxHeartbeats 1000000 in
theorem eqNode_same (k v l r o : Int) (g : Bool) (lt rt : Int) (w : World) :
    Calls Try.prog 48 #[.agg #[.int .i64 k, .int .i64 v, .int .i64 l, .int .i64 r, .int .i64 o, .bool g, .int .i64 lt, .int .i64 rt], .agg #[.int .i64 k, .int .i64 v, .int .i64 l, .int .i64 r, .int .i64 o, .bool g, .int .i64 lt, .int .i64 rt]] w fun e w' => e = .returned (.bool true) ∧ Below w.heap.size w w' := by
  cases g
  all_goals
    go_enter Try.func48, Try.ntmps48
    go_wp2
    go_ret
    exact ⟨rfl, (by repeat (first | exact Below.refl _ _ | assumption | refine Below.drew ?_ | refine Below.alloc ?_ (by simp; try omega) _ | refine Below.setCell ?_ (by simp; try omega) _ | (refine Below.trans ?_ (Below.mono (by assumption) (by simp; try omega)))))⟩


set_option maxHeartbeats 1000000 in
theorem spec_KidOf (k v l r o : Int) (g : Bool) (lt rt : Int) (s : Int) (w : World) :
    Calls Try.prog 54 #[.agg #[.int .i64 k, .int .i64 v, .int .i64 l, .int .i64 r, .int .i64 o, .bool g, .int .i64 lt, .int .i64 rt], .int .i64 s] w fun e w' => e = .returned (.int .i64 (kidF s l r)) ∧ Below w.heap.size w w' := by
  by_cases h0 : s = 0
  · subst h0
    go_enter Try.func54, Try.ntmps54
    go_wp2
    go_ret
    exact ⟨rfl, (by repeat (first | exact Below.refl _ _ | assumption | refine Below.drew ?_ | refine Below.alloc ?_ (by simp; try omega) _ | refine Below.setCell ?_ (by simp; try omega) _ | (refine Below.trans ?_ (Below.mono (by assumption) (by simp; try omega)))))⟩
  · by_cases h1 : s = 1
    · subst h1
      go_enter Try.func54, Try.ntmps54
      go_wp2
      go_ret
      exact ⟨rfl, (by repeat (first | exact Below.refl _ _ | assumption | refine Below.drew ?_ | refine Below.alloc ?_ (by simp; try omega) _ | refine Below.setCell ?_ (by simp; try omega) _ | (refine Below.trans ?_ (Below.mono (by assumption) (by simp; try omega)))))⟩
    · have hv : kidF s l r = 0 := by simp [kidF, h0, h1]
      have g0 : (s == 0) = false := by simpa using h0
      have g1 : (s == 1) = false := by simpa using h1
      rw [hv]
      clear hv h0 h1
      go_enter Try.func54, Try.ntmps54
      go_wp2
      go_ret
      exact ⟨rfl, (by repeat (first | exact Below.refl _ _ | assumption | refine Below.drew ?_ | refine Below.alloc ?_ (by simp; try omega) _ | refine Below.setCell ?_ (by simp; try omega) _ | (refine Below.trans ?_ (Below.mono (by assumption) (by simp; try omega)))))⟩

set_option maxHeartbeats 1000000 in
theorem spec_TagAt (k v l r o : Int) (g : Bool) (lt rt : Int) (s : Int) (w : World) :
    Calls Try.prog 29 #[.agg #[.int .i64 k, .int .i64 v, .int .i64 l, .int .i64 r, .int .i64 o, .bool g, .int .i64 lt, .int .i64 rt], .int .i64 s] w fun e w' => e = .returned (.int .i64 (kidF s lt rt)) ∧ Below w.heap.size w w' := by
  by_cases h0 : s = 0
  · subst h0
    go_enter Try.func29, Try.ntmps29
    go_wp2
    go_ret
    exact ⟨rfl, (by repeat (first | exact Below.refl _ _ | assumption | refine Below.drew ?_ | refine Below.alloc ?_ (by simp; try omega) _ | refine Below.setCell ?_ (by simp; try omega) _ | (refine Below.trans ?_ (Below.mono (by assumption) (by simp; try omega)))))⟩
  · by_cases h1 : s = 1
    · subst h1
      go_enter Try.func29, Try.ntmps29
      go_wp2
      go_ret
      exact ⟨rfl, (by repeat (first | exact Below.refl _ _ | assumption | refine Below.drew ?_ | refine Below.alloc ?_ (by simp; try omega) _ | refine Below.setCell ?_ (by simp; try omega) _ | (refine Below.trans ?_ (Below.mono (by assumption) (by simp; try omega)))))⟩
    · have hv : kidF s lt rt = 0 := by simp [kidF, h0, h1]
      have g0 : (s == 0) = false := by simpa using h0
      have g1 : (s == 1) = false := by simpa using h1
      rw [hv]
      clear hv h0 h1
      go_enter Try.func29, Try.ntmps29
      go_wp2
      go_ret
      exact ⟨rfl, (by repeat (first | exact Below.refl _ _ | assumption | refine Below.drew ?_ | refine Below.alloc ?_ (by simp; try omega) _ | refine Below.setCell ?_ (by simp; try omega) _ | (refine Below.trans ?_ (Below.mono (by assumption) (by simp; try omega)))))⟩

set_option maxHeartbeats 1000000 in
theorem spec_SideOf (k v l r o : Int) (g : Bool) (lt rt : Int) (s : Int) (w : World) :
    Calls Try.prog 55 #[.agg #[.int .i64 k, .int .i64 v, .int .i64 l, .int .i64 r, .int .i64 o, .bool g, .int .i64 lt, .int .i64 rt], .int .i64 s] w fun e w' => e = .returned (.int .i64 (sideF s k)) ∧ Below w.heap.size w w' := by
  by_cases h0 : s < k
  · have hv : sideF s k = 0 := by simp [sideF, h0]
    rw [hv]
    clear hv
    go_enter Try.func55, Try.ntmps55
    go_wp2
    go_ret
    exact ⟨rfl, (by repeat (first | exact Below.refl _ _ | assumption | refine Below.drew ?_ | refine Below.alloc ?_ (by simp; try omega) _ | refine Below.setCell ?_ (by simp; try omega) _ | (refine Below.trans ?_ (Below.mono (by assumption) (by simp; try omega)))))⟩
  · have hv : sideF s k = 1 := by simp [sideF, h0]
    rw [hv]
    clear hv
    go_enter Try.func55, Try.ntmps55
    go_wp2
    go_ret
    exact ⟨rfl, (by repeat (first | exact Below.refl _ _ | assumption | refine Below.drew ?_ | refine Below.alloc ?_ (by simp; try omega) _ | refine Below.setCell ?_ (by simp; try omega) _ | (refine Below.trans ?_ (Below.mono (by assumption) (by simp; try omega)))))⟩

set_option maxHeartbeats 1000000 in
theorem impl_KidOf (k v l r o : Int) (g : Bool) (lt rt : Int) (s : Int) (w : World) :
    Calls Try.prog 76 #[.agg #[.int .i64 k, .int .i64 v, .int .i64 l, .int .i64 r, .int .i64 o, .bool g, .int .i64 lt, .int .i64 rt], .int .i64 s] w fun e w' => e = .returned (.int .i64 (kidF s l r)) ∧ Below w.heap.size w w' := by
  by_cases h0 : s = 0
  · subst h0
    go_enter Try.func76, Try.ntmps76
    go_wp2
    go_ret
    exact ⟨rfl, (by repeat (first | exact Below.refl _ _ | assumption | refine Below.drew ?_ | refine Below.alloc ?_ (by simp; try omega) _ | refine Below.setCell ?_ (by simp; try omega) _ | (refine Below.trans ?_ (Below.mono (by assumption) (by simp; try omega)))))⟩
  · by_cases h1 : s = 1
    · subst h1
      go_enter Try.func76, Try.ntmps76
      go_wp2
      go_ret
      exact ⟨rfl, (by repeat (first | exact Below.refl _ _ | assumption | refine Below.drew ?_ | refine Below.alloc ?_ (by simp; try omega) _ | refine Below.setCell ?_ (by simp; try omega) _ | (refine Below.trans ?_ (Below.mono (by assumption) (by simp; try omega)))))⟩
    · have hv : kidF s l r = 0 := by simp [kidF, h0, h1]
      have g0 : (s == 0) = false := by simpa using h0
      have g1 : (s == 1) = false := by simpa using h1
      rw [hv]
      clear hv h0 h1
      go_enter Try.func76, Try.ntmps76
      go_wp2
      go_ret
      exact ⟨rfl, (by repeat (first | exact Below.refl _ _ | assumption | refine Below.drew ?_ | refine Below.alloc ?_ (by simp; try omega) _ | refine Below.setCell ?_ (by simp; try omega) _ | (refine Below.trans ?_ (Below.mono (by assumption) (by simp; try omega)))))⟩

set_option maxHeartbeats 1000000 in
theorem impl_TagAt (k v l r o : Int) (g : Bool) (lt rt : Int) (s : Int) (w : World) :
    Calls Try.prog 78 #[.agg #[.int .i64 k, .int .i64 v, .int .i64 l, .int .i64 r, .int .i64 o, .bool g, .int .i64 lt, .int .i64 rt], .int .i64 s] w fun e w' => e = .returned (.int .i64 (kidF s lt rt)) ∧ Below w.heap.size w w' := by
  by_cases h0 : s = 0
  · subst h0
    go_enter Try.func78, Try.ntmps78
    go_wp2
    go_ret
    exact ⟨rfl, (by repeat (first | exact Below.refl _ _ | assumption | refine Below.drew ?_ | refine Below.alloc ?_ (by simp; try omega) _ | refine Below.setCell ?_ (by simp; try omega) _ | (refine Below.trans ?_ (Below.mono (by assumption) (by simp; try omega)))))⟩
  · by_cases h1 : s = 1
    · subst h1
      go_enter Try.func78, Try.ntmps78
      go_wp2
      go_ret
      exact ⟨rfl, (by repeat (first | exact Below.refl _ _ | assumption | refine Below.drew ?_ | refine Below.alloc ?_ (by simp; try omega) _ | refine Below.setCell ?_ (by simp; try omega) _ | (refine Below.trans ?_ (Below.mono (by assumption) (by simp; try omega)))))⟩
    · have hv : kidF s lt rt = 0 := by simp [kidF, h0, h1]
      have g0 : (s == 0) = false := by simpa using h0
      have g1 : (s == 1) = false := by simpa using h1
      rw [hv]
      clear hv h0 h1
      go_enter Try.func78, Try.ntmps78
      go_wp2
      go_ret
      exact ⟨rfl, (by repeat (first | exact Below.refl _ _ | assumption | refine Below.drew ?_ | refine Below.alloc ?_ (by simp; try omega) _ | refine Below.setCell ?_ (by simp; try omega) _ | (refine Below.trans ?_ (Below.mono (by assumption) (by simp; try omega)))))⟩

set_option maxHeartbeats 1000000 in
theorem impl_SideOf (k v l r o : Int) (g : Bool) (lt rt : Int) (s : Int) (w : World) :
    Calls Try.prog 77 #[.agg #[.int .i64 k, .int .i64 v, .int .i64 l, .int .i64 r, .int .i64 o, .bool g, .int .i64 lt, .int .i64 rt], .int .i64 s] w fun e w' => e = .returned (.int .i64 (sideF s k)) ∧ Below w.heap.size w w' := by
  by_cases h0 : s < k
  · have hv : sideF s k = 0 := by simp [sideF, h0]
    rw [hv]
    clear hv
    go_enter Try.func77, Try.ntmps77
    go_wp2
    go_ret
    exact ⟨rfl, (by repeat (first | exact Below.refl _ _ | assumption | refine Below.drew ?_ | refine Below.alloc ?_ (by simp; try omega) _ | refine Below.setCell ?_ (by simp; try omega) _ | (refine Below.trans ?_ (Below.mono (by assumption) (by simp; try omega)))))⟩
  · have hv : sideF s k = 1 := by simp [sideF, h0]
    rw [hv]
    clear hv
    go_enter Try.func77, Try.ntmps77
    go_wp2
    go_ret
    exact ⟨rfl, (by repeat (first | exact Below.refl _ _ | assumption | refine Below.drew ?_ | refine Below.alloc ?_ (by simp; try omega) _ | refine Below.setCell ?_ (by simp; try omega) _ | (refine Below.trans ?_ (Below.mono (by assumption) (by simp; try omega)))))⟩

end Go.Proofs.Ytoamnecoiicljaa
