/- FnExactRoots: the law answers true. No condition. -/
import Derived.Test.YtafkgapkkkipnaaRows1
import Derived.Test.YtafkgapkkkipnaaRows2
namespace Go.Proofs.Ytafkgapkkkipnaa.fnExactRoots
open Go.ChangeShapes Go.WideShapes Go.ChangeAt Go.RowKit
set_option linter.unusedVariables false
set_option linter.unusedSimpArgs false

def rootN : ND := ⟨-1, 0, 0, 0, 0, false, 0, 0⟩

theorem spec_Roots (w : World) : Calls Try.prog 30 #[] w (Fresh w [rootN]) := by
  go_enter Try.func30, Try.ntmps30
  go_wp2
  go_ret
  exact ⟨w.heap.size, _, rfl, Nat.le_refl _, ⟨1, [], rfl, Nat.le_refl _, by simp [maxLen], rfl, heap_alloc_new w _⟩, (by repeat (first | exact Below.refl _ _ | assumption | refine Below.drew ?_ | refine Below.alloc ?_ (by first | omega | (simp; try omega)) _ | refine Below.setCell ?_ (by first | omega | (simp; try omega)) _ | (refine Below.trans ?_ (Below.mono (by assumption) (by first | omega | (simp; try omega))))))⟩

theorem impl_Roots (w : World) : Calls Try.prog 29 #[] w (Fresh w [rootN]) := by
  go_enter Try.func29, Try.ntmps29
  go_wp2
  go_ret
  exact ⟨w.heap.size, _, rfl, Nat.le_refl _, ⟨1, [], rfl, Nat.le_refl _, by simp [maxLen], rfl, heap_alloc_new w _⟩, (by repeat (first | exact Below.refl _ _ | assumption | refine Below.drew ?_ | refine Below.alloc ?_ (by first | omega | (simp; try omega)) _ | refine Below.setCell ?_ (by first | omega | (simp; try omega)) _ | (refine Below.trans ?_ (Below.mono (by assumption) (by first | omega | (simp; try omega))))))⟩

set_option maxHeartbeats 1000000 in
theorem walk (w : World) : Calls Try.prog 5 #[] w fun e w' => e = .returned (.bool true) ∧ Below w.heap.size w w' := by
  go_enter Try.func5, Try.ntmps5
  go_wp2_with fail
  refine (spec_Roots _).mono ?_
  rintro e w1 ⟨g1, u1, rfl, hg1, hO1, hB1⟩
  go_wp2_with fail
  refine (impl_Roots _).mono ?_
  rintro e w2 ⟨g2, u2, rfl, hg2, hO2, hB2⟩
  have hB2' := hB1.trans (hB2.mono hB1.size)
  have hP2 := hO1.below hB2 hO1.lt
  go_wp2_with fail
  refine (eqNodeS_same _ _ _ _ hO2.sl hP2.sl).mono ?_
  rintro e w3 ⟨rfl, hB3⟩
  have hB3' := hB2'.trans (hB3.mono hB2'.size)
  have hP3 := hP2.below hB3 hP2.lt
  have hQ3 := hO2.below hB3 hO2.lt
  have hne : g1 ≠ g2 := by have := hO1.lt; omega
  go_wp2_with fail
  refine (markNodeS_own _ g2 1 _ 1 _ hQ3 (by omega) (by omega) (by omega)).mono ?_
  rintro e w4 ⟨rfl, hO4, hU4⟩
  have hs1 := hB1.size
  have hs3 := hB3'.size
  have hB4' := hB3'.trans (hU4.below (B := w.heap.size) (by omega) (by omega))
  have hP4 := hP3.but hU4 hne
  go_wp2_with fail
  refine (heldNodeS_same _ 1 1 _ hO4.sl (by omega) (by omega) (by omega)).mono ?_
  rintro e w5 ⟨rfl, rfl⟩
  go_wp2_with fail
  refine (impl_Roots _).mono ?_
  rintro e w6 ⟨g6, u6, rfl, hg6, hO6, hB6⟩
  have hB6' := hB4'.trans (hB6.mono hB4'.size)
  have hP6 := hP4.below hB6 hP4.lt
  have hO46 := hO4.below hB6 hO4.lt
  go_wp2_with fail
  refine (eqNodeS_same _ _ _ _ hO6.sl hP6.sl).mono ?_
  rintro e w7 ⟨rfl, hB7⟩
  have hO47 := hO46.below hB7 hO46.lt
  go_wp2_with fail
  refine (heldNodeS_same _ 1 1 _ hO47.sl (by omega) (by omega) (by omega)).mono ?_
  rintro e w8 ⟨rfl, rfl⟩
  go_wp2
  go_ret
  exact ⟨rfl, hB6'.trans (hB7.mono hB6'.size)⟩

set_option maxRecDepth 100000 in
theorem lifted (os : Os) (started : os.Started) (H : Type) (enc : TypeId × Value → H) :
    ReturnsInHanded {} Try.checked os 5 .any (Rows.fnExactRootsSpec.pre6 enc Try.prog Try.f5 Rows.fnExactRootsRow.domain false) (Rows.fnExactRootsSpec.post enc Try.prog Try.f5 false true false false) := by
  refine returnsInHanded_of_change (C := Try.checked) own started (by kernel_rfl) Try.func5
    (ChangeSpec.witness6 (enc := enc) (C := Try.checked) false ⟨#[], #[], []⟩ 8 (by kernel_rfl) (by kernel_rfl) (by kernel_rfl) (by kernel_rfl)) ?_
  intro W base args ds gs before hval0 hW hcnd _
  have hval : ∀ (j : Nat) t v, Try.f5.params[j]? = some t → args[j]? = some v → Value.okWide Try.prog W .any base t v := hval0
  have hW' := hW
  obtain ⟨p, q, hA0, hV, rfl, hfz, hnd⟩ := hW
  have hA : DataW.TrodAll enc Try.prog W 0 (fun _ => true) true Try.f5.params.toList args.toList ds p := hA0
  rw [Try.params5] at hA hval
  obtain ⟨hargs, rfl, rfl⟩ := trodAll_nil hA
  obtain rfl : args = #[] := by cases args; simp_all
  obtain ⟨rfl, rfl⟩ := trodVars_none hV
  clear hA0 hval0
  refine (walk  W ).mono fun e W' ⟨he, bel⟩ => ?_
  subst he
  exact ⟨_, rfl, _, _, _, [], _, [], hW', trodAll_mk1 (shut_bool Try.underlying4 _), trodAll_mk0, rfl, bel.frame _, fun h => by cases h⟩

theorem over : Rows.fnExactRootsRow.holds Try.pinned (OpenSpec.ofChange Rows.fnExactRootsSpec) :=
  OpenClaim.holds_of_wide 5 Try.f5 rfl rfl rfl rfl rfl rfl rfl ⟨rfl, rfl, rfl, rfl, rfl⟩ rfl rfl rfl rfl rfl (by kernel_rfl) Try.func5 (by kernel_rfl)
    (of_decide_eq_true (by kernel_rfl)) (by unfold Func.isWrapper; rw [if_neg (of_decide_eq_false (by kernel_rfl))]; exact ⟨rfl, rfl⟩)
    (fun os started H enc _ => lifted os started H enc)

theorem proved : Rows.FnExactRootsSaid := over
end Go.Proofs.Ytafkgapkkkipnaa.fnExactRoots
