/- What the node functions answer, program and model alike, and the walks of their laws. -/
import Derived.Test.YthllpgjggmdmmaaBase
namespace Go.Proofs.Ythllpgjggmdmmaa
open Go.ChangeShapes Go.WideShapes Go.ChangeAt Go.RowKit
set_option linter.unusedVariables false
set_option linter.unusedSimpArgs false

def kidF (s l r : Int) : Int := if s = 0 then l else if s = 1 then r else 0
def leftF (s kid l : Int) : Int := if s = 0 then kid else l
def rightF (s kid r : Int) : Int := if s = 1 then kid else r
theorem ret_i {a b : Int} (h : a = b) : Ending.returned (.int .i64 a) = .returned (.int .i64 b) := by rw [h]
set_option maxHeartbeats 1000000 in
theorem toNode_any (k v l r o : Int) (g : Bool) (lt rt : Int) (w : World) :
    Calls Try.prog 47 #[.agg #[.int .i64 k, .int .i64 v, .int .i64 l, .int .i64 r, .int .i64 o, .bool g, .int .i64 lt, .int .i64 rt]] w fun e w' => e = .returned (.agg #[.int .i64 k, .int .i64 v, .int .i64 l, .int .i64 r, .int .i64 o, .bool g, .int .i64 lt, .int .i64 rt]) ∧ Below w.heap.size w w' := by
  go_enter Try.func47, Try.ntmps47
  go_wp2
  exact bodyPost_ret (v := .agg #[.int .i64 k, .int .i64 v, .int .i64 l, .int .i64 r, .int .i64 o, .bool g, .int .i64 lt, .int .i64 rt]) (by simp [results, Try.results47, go_sem]) rfl ⟨rfl, (by repeat (first | exact Below.refl _ _ | assumption | refine Below.drew ?_ | refine Below.alloc ?_ (by simp; try omega) _ | refine Below.setCell ?_ (by simp; try omega) _ | (refine Below.trans ?_ (Below.mono (by assumption) (by simp; try omega)))))⟩

set_option maxHeartbeats 1000000 in
theorem eqNode_same (k v l r o : Int) (g : Bool) (lt rt : Int) (w : World) :
    Calls Try.prog 56 #[.agg #[.int .i64 k, .int .i64 v, .int .i64 l, .int .i64 r, .int .i64 o, .bool g, .int .i64 lt, .int .i64 rt], .agg #[.int .i64 k, .int .i64 v, .int .i64 l, .int .i64 r, .int .i64 o, .bool g, .int .i64 lt, .int .i64 rt]] w fun e w' => e = .returned (.bool true) ∧ Below w.heap.size w w' := by
  cases g
  all_goals
    go_enter Try.func56, Try.ntmps56
    go_wp2
    go_ret
    exact ⟨rfl, (by repeat (first | exact Below.refl _ _ | assumption | refine Below.drew ?_ | refine Below.alloc ?_ (by simp; try omega) _ | refine Below.setCell ?_ (by simp; try omega) _ | (refine Below.trans ?_ (Below.mono (by assumption) (by simp; try omega)))))⟩


set_option maxHeartbeats 1000000 in
theorem spec_KidOf (k v l r o : Int) (g : Bool) (lt rt : Int) (s : Int) (w : World) :
    Calls Try.prog 44 #[.agg #[.int .i64 k, .int .i64 v, .int .i64 l, .int .i64 r, .int .i64 o, .bool g, .int .i64 lt, .int .i64 rt], .int .i64 s] w fun e w' => e = .returned (.int .i64 (kidF s l r)) ∧ Below w.heap.size w w' := by
  by_cases h0 : s = 0
  · subst h0
    go_enter Try.func44, Try.ntmps44
    go_wp2
    go_ret
    exact ⟨rfl, (by repeat (first | exact Below.refl _ _ | assumption | refine Below.drew ?_ | refine Below.alloc ?_ (by simp; try omega) _ | refine Below.setCell ?_ (by simp; try omega) _ | (refine Below.trans ?_ (Below.mono (by assumption) (by simp; try omega)))))⟩
  · by_cases h1 : s = 1
    · subst h1
      go_enter Try.func44, Try.ntmps44
      go_wp2
      go_ret
      exact ⟨rfl, (by repeat (first | exact Below.refl _ _ | assumption | refine Below.drew ?_ | refine Below.alloc ?_ (by simp; try omega) _ | refine Below.setCell ?_ (by simp; try omega) _ | (refine Below.trans ?_ (Below.mono (by assumption) (by simp; try omega)))))⟩
    · have hv : kidF s l r = 0 := by simp [kidF, h0, h1]
      have g0 : (s == 0) = false := by simpa using h0
      have g1 : (s == 1) = false := by simpa using h1
      rw [hv]
      clear hv h0 h1
      go_enter Try.func44, Try.ntmps44
      go_wp2
      go_ret
      exact ⟨rfl, (by repeat (first | exact Below.refl _ _ | assumption | refine Below.drew ?_ | refine Below.alloc ?_ (by simp; try omega) _ | refine Below.setCell ?_ (by simp; try omega) _ | (refine Below.trans ?_ (Below.mono (by assumption) (by simp; try omega)))))⟩

set_option maxHeartbeats 1000000 in
theorem impl_KidOf (k v l r o : Int) (g : Bool) (lt rt : Int) (s : Int) (w : World) :
    Calls Try.prog 69 #[.agg #[.int .i64 k, .int .i64 v, .int .i64 l, .int .i64 r, .int .i64 o, .bool g, .int .i64 lt, .int .i64 rt], .int .i64 s] w fun e w' => e = .returned (.int .i64 (kidF s l r)) ∧ Below w.heap.size w w' := by
  by_cases h0 : s = 0
  · subst h0
    go_enter Try.func69, Try.ntmps69
    go_wp2
    go_ret
    exact ⟨rfl, (by repeat (first | exact Below.refl _ _ | assumption | refine Below.drew ?_ | refine Below.alloc ?_ (by simp; try omega) _ | refine Below.setCell ?_ (by simp; try omega) _ | (refine Below.trans ?_ (Below.mono (by assumption) (by simp; try omega)))))⟩
  · by_cases h1 : s = 1
    · subst h1
      go_enter Try.func69, Try.ntmps69
      go_wp2
      go_ret
      exact ⟨rfl, (by repeat (first | exact Below.refl _ _ | assumption | refine Below.drew ?_ | refine Below.alloc ?_ (by simp; try omega) _ | refine Below.setCell ?_ (by simp; try omega) _ | (refine Below.trans ?_ (Below.mono (by assumption) (by simp; try omega)))))⟩
    · have hv : kidF s l r = 0 := by simp [kidF, h0, h1]
      have g0 : (s == 0) = false := by simpa using h0
      have g1 : (s == 1) = false := by simpa using h1
      rw [hv]
      clear hv h0 h1
      go_enter Try.func69, Try.ntmps69
      go_wp2
      go_ret
      exact ⟨rfl, (by repeat (first | exact Below.refl _ _ | assumption | refine Below.drew ?_ | refine Below.alloc ?_ (by simp; try omega) _ | refine Below.setCell ?_ (by simp; try omega) _ | (refine Below.trans ?_ (Below.mono (by assumption) (by simp; try omega)))))⟩

set_option maxHeartbeats 1000000 in
theorem spec_WithKid (k v l r o : Int) (g : Bool) (lt rt : Int) (s : Int) (kid : Int) (w : World) :
    Calls Try.prog 46 #[.agg #[.int .i64 k, .int .i64 v, .int .i64 l, .int .i64 r, .int .i64 o, .bool g, .int .i64 lt, .int .i64 rt], .int .i64 s, .int .i64 kid] w fun e w' => e = .returned (.agg #[.int .i64 k, .int .i64 v, .int .i64 (leftF s kid l), .int .i64 (rightF s kid r), .int .i64 o, .bool g, .int .i64 lt, .int .i64 rt]) ∧ Below w.heap.size w w' := by
  by_cases h0 : s = 0
  · subst h0
    go_enter Try.func46, Try.ntmps46
    go_wp2
    exact bodyPost_ret (v := .agg #[.int .i64 k, .int .i64 v, .int .i64 (leftF 0 kid l), .int .i64 (rightF 0 kid r), .int .i64 o, .bool g, .int .i64 lt, .int .i64 rt]) (by simp [results, Try.results46, go_sem, leftF, rightF]) rfl ⟨rfl, (by repeat (first | exact Below.refl _ _ | assumption | refine Below.drew ?_ | refine Below.alloc ?_ (by simp; try omega) _ | refine Below.setCell ?_ (by simp; try omega) _ | (refine Below.trans ?_ (Below.mono (by assumption) (by simp; try omega)))))⟩
  · by_cases h1 : s = 1
    · subst h1
      go_enter Try.func46, Try.ntmps46
      go_wp2
      exact bodyPost_ret (v := .agg #[.int .i64 k, .int .i64 v, .int .i64 (leftF 1 kid l), .int .i64 (rightF 1 kid r), .int .i64 o, .bool g, .int .i64 lt, .int .i64 rt]) (by simp [results, Try.results46, go_sem, leftF, rightF]) rfl ⟨rfl, (by repeat (first | exact Below.refl _ _ | assumption | refine Below.drew ?_ | refine Below.alloc ?_ (by simp; try omega) _ | refine Below.setCell ?_ (by simp; try omega) _ | (refine Below.trans ?_ (Below.mono (by assumption) (by simp; try omega)))))⟩
    · have hl : leftF s kid l = l := by simp [leftF, h0]
      have hr : rightF s kid r = r := by simp [rightF, h1]
      have g0 : (s == 0) = false := by simpa using h0
      have g1 : (s == 1) = false := by simpa using h1
      rw [hl, hr]
      clear hl hr h0 h1
      go_enter Try.func46, Try.ntmps46
      go_wp2
      exact bodyPost_ret (v := .agg #[.int .i64 k, .int .i64 v, .int .i64 l, .int .i64 r, .int .i64 o, .bool g, .int .i64 lt, .int .i64 rt]) (by simp [results, Try.results46, go_sem]) rfl ⟨rfl, (by repeat (first | exact Below.refl _ _ | assumption | refine Below.drew ?_ | refine Below.alloc ?_ (by simp; try omega) _ | refine Below.setCell ?_ (by simp; try omega) _ | (refine Below.trans ?_ (Below.mono (by assumption) (by simp; try omega)))))⟩


set_option maxHeartbeats 1000000 in
theorem spec_WithTag (k v l r o : Int) (g : Bool) (lt rt : Int) (s : Int) (w : World) :
    Calls Try.prog 21 #[.agg #[.int .i64 k, .int .i64 v, .int .i64 l, .int .i64 r, .int .i64 o, .bool g, .int .i64 lt, .int .i64 rt], .int .i64 s] w fun e w' => e = .returned (.agg #[.int .i64 k, .int .i64 v, .int .i64 l, .int .i64 r, .int .i64 o, .bool g, .int .i64 (leftF s (wrap64 (lt + 1)) lt), .int .i64 (rightF s (wrap64 (rt + 1)) rt)]) ∧ Below w.heap.size w w' := by
  by_cases h0 : s = 0
  · subst h0
    go_enter Try.func21, Try.ntmps21
    go_wp2
    exact bodyPost_ret (v := .agg #[.int .i64 k, .int .i64 v, .int .i64 l, .int .i64 r, .int .i64 o, .bool g, .int .i64 (leftF 0 (wrap64 (lt + 1)) lt), .int .i64 (rightF 0 (wrap64 (rt + 1)) rt)]) (by simp [results, Try.results21, go_sem, leftF, rightF]) rfl ⟨rfl, (by repeat (first | exact Below.refl _ _ | assumption | refine Below.drew ?_ | refine Below.alloc ?_ (by simp; try omega) _ | refine Below.setCell ?_ (by simp; try omega) _ | (refine Below.trans ?_ (Below.mono (by assumption) (by simp; try omega)))))⟩
  · by_cases h1 : s = 1
    · subst h1
      go_enter Try.func21, Try.ntmps21
      go_wp2
      exact bodyPost_ret (v := .agg #[.int .i64 k, .int .i64 v, .int .i64 l, .int .i64 r, .int .i64 o, .bool g, .int .i64 (leftF 1 (wrap64 (lt + 1)) lt), .int .i64 (rightF 1 (wrap64 (rt + 1)) rt)]) (by simp [results, Try.results21, go_sem, leftF, rightF]) rfl ⟨rfl, (by repeat (first | exact Below.refl _ _ | assumption | refine Below.drew ?_ | refine Below.alloc ?_ (by simp; try omega) _ | refine Below.setCell ?_ (by simp; try omega) _ | (refine Below.trans ?_ (Below.mono (by assumption) (by simp; try omega)))))⟩
    · have hl : leftF s (wrap64 (lt + 1)) lt = lt := by simp [leftF, h0]
      have hr : rightF s (wrap64 (rt + 1)) rt = rt := by simp [rightF, h1]
      have g0 : (s == 0) = false := by simpa using h0
      have g1 : (s == 1) = false := by simpa using h1
      rw [hl, hr]
      clear hl hr h0 h1
      go_enter Try.func21, Try.ntmps21
      go_wp2
      exact bodyPost_ret (v := .agg #[.int .i64 k, .int .i64 v, .int .i64 l, .int .i64 r, .int .i64 o, .bool g, .int .i64 lt, .int .i64 rt]) (by simp [results, Try.results21, go_sem]) rfl ⟨rfl, (by repeat (first | exact Below.refl _ _ | assumption | refine Below.drew ?_ | refine Below.alloc ?_ (by simp; try omega) _ | refine Below.setCell ?_ (by simp; try omega) _ | (refine Below.trans ?_ (Below.mono (by assumption) (by simp; try omega)))))⟩


set_option maxHeartbeats 1000000 in
theorem impl_WithKid (k v l r o : Int) (g : Bool) (lt rt : Int) (s : Int) (kid : Int) (w : World) :
    Calls Try.prog 71 #[.agg #[.int .i64 k, .int .i64 v, .int .i64 l, .int .i64 r, .int .i64 o, .bool g, .int .i64 lt, .int .i64 rt], .int .i64 s, .int .i64 kid] w fun e w' => e = .returned (.agg #[.int .i64 k, .int .i64 v, .int .i64 (leftF s kid l), .int .i64 (rightF s kid r), .int .i64 o, .bool g, .int .i64 lt, .int .i64 rt]) ∧ Below w.heap.size w w' := by
  by_cases h0 : s = 0
  · subst h0
    go_enter Try.func71, Try.ntmps71
    go_wp2
    exact bodyPost_ret (v := .agg #[.int .i64 k, .int .i64 v, .int .i64 (leftF 0 kid l), .int .i64 (rightF 0 kid r), .int .i64 o, .bool g, .int .i64 lt, .int .i64 rt]) (by simp [results, Try.results71, go_sem, leftF, rightF]) rfl ⟨rfl, (by repeat (first | exact Below.refl _ _ | assumption | refine Below.drew ?_ | refine Below.alloc ?_ (by simp; try omega) _ | refine Below.setCell ?_ (by simp; try omega) _ | (refine Below.trans ?_ (Below.mono (by assumption) (by simp; try omega)))))⟩
  · by_cases h1 : s = 1
    · subst h1
      go_enter Try.func71, Try.ntmps71
      go_wp2
      exact bodyPost_ret (v := .agg #[.int .i64 k, .int .i64 v, .int .i64 (leftF 1 kid l), .int .i64 (rightF 1 kid r), .int .i64 o, .bool g, .int .i64 lt, .int .i64 rt]) (by simp [results, Try.results71, go_sem, leftF, rightF]) rfl ⟨rfl, (by repeat (first | exact Below.refl _ _ | assumption | refine Below.drew ?_ | refine Below.alloc ?_ (by simp; try omega) _ | refine Below.setCell ?_ (by simp; try omega) _ | (refine Below.trans ?_ (Below.mono (by assumption) (by simp; try omega)))))⟩
    · have hl : leftF s kid l = l := by simp [leftF, h0]
      have hr : rightF s kid r = r := by simp [rightF, h1]
      have g0 : (s == 0) = false := by simpa using h0
      have g1 : (s == 1) = false := by simpa using h1
      rw [hl, hr]
      clear hl hr h0 h1
      go_enter Try.func71, Try.ntmps71
      go_wp2
      exact bodyPost_ret (v := .agg #[.int .i64 k, .int .i64 v, .int .i64 l, .int .i64 r, .int .i64 o, .bool g, .int .i64 lt, .int .i64 rt]) (by simp [results, Try.results71, go_sem]) rfl ⟨rfl, (by repeat (first | exact Below.refl _ _ | assumption | refine Below.drew ?_ | refine Below.alloc ?_ (by simp; try omega) _ | refine Below.setCell ?_ (by simp; try omega) _ | (refine Below.trans ?_ (Below.mono (by assumption) (by simp; try omega)))))⟩


set_option maxHeartbeats 1000000 in
theorem impl_WithTag (k v l r o : Int) (g : Bool) (lt rt : Int) (s : Int) (w : World) :
    Calls Try.prog 72 #[.agg #[.int .i64 k, .int .i64 v, .int .i64 l, .int .i64 r, .int .i64 o, .bool g, .int .i64 lt, .int .i64 rt], .int .i64 s] w fun e w' => e = .returned (.agg #[.int .i64 k, .int .i64 v, .int .i64 l, .int .i64 r, .int .i64 o, .bool g, .int .i64 (leftF s (wrap64 (lt + 1)) lt), .int .i64 (rightF s (wrap64 (rt + 1)) rt)]) ∧ Below w.heap.size w w' := by
  by_cases h0 : s = 0
  · subst h0
    go_enter Try.func72, Try.ntmps72
    go_wp2
    exact bodyPost_ret (v := .agg #[.int .i64 k, .int .i64 v, .int .i64 l, .int .i64 r, .int .i64 o, .bool g, .int .i64 (leftF 0 (wrap64 (lt + 1)) lt), .int .i64 (rightF 0 (wrap64 (rt + 1)) rt)]) (by simp [results, Try.results72, go_sem, leftF, rightF]) rfl ⟨rfl, (by repeat (first | exact Below.refl _ _ | assumption | refine Below.drew ?_ | refine Below.alloc ?_ (by simp; try omega) _ | refine Below.setCell ?_ (by simp; try omega) _ | (refine Below.trans ?_ (Below.mono (by assumption) (by simp; try omega)))))⟩
  · by_cases h1 : s = 1
    · subst h1
      go_enter Try.func72, Try.ntmps72
      go_wp2
      exact bodyPost_ret (v := .agg #[.int .i64 k, .int .i64 v, .int .i64 l, .int .i64 r, .int .i64 o, .bool g, .int .i64 (leftF 1 (wrap64 (lt + 1)) lt), .int .i64 (rightF 1 (wrap64 (rt + 1)) rt)]) (by simp [results, Try.results72, go_sem, leftF, rightF]) rfl ⟨rfl, (by repeat (first | exact Below.refl _ _ | assumption | refine Below.drew ?_ | refine Below.alloc ?_ (by simp; try omega) _ | refine Below.setCell ?_ (by simp; try omega) _ | (refine Below.trans ?_ (Below.mono (by assumption) (by simp; try omega)))))⟩
    · have hl : leftF s (wrap64 (lt + 1)) lt = lt := by simp [leftF, h0]
      have hr : rightF s (wrap64 (rt + 1)) rt = rt := by simp [rightF, h1]
      have g0 : (s == 0) = false := by simpa using h0
      have g1 : (s == 1) = false := by simpa using h1
      rw [hl, hr]
      clear hl hr h0 h1
      go_enter Try.func72, Try.ntmps72
      go_wp2
      exact bodyPost_ret (v := .agg #[.int .i64 k, .int .i64 v, .int .i64 l, .int .i64 r, .int .i64 o, .bool g, .int .i64 lt, .int .i64 rt]) (by simp [results, Try.results72, go_sem]) rfl ⟨rfl, (by repeat (first | exact Below.refl _ _ | assumption | refine Below.drew ?_ | refine Below.alloc ?_ (by simp; try omega) _ | refine Below.setCell ?_ (by simp; try omega) _ | (refine Below.trans ?_ (Below.mono (by assumption) (by simp; try omega)))))⟩

end Go.Proofs.Ythllpgjggmdmmaa
