/- FnExactCountsOk: whatever the arguments are, the law answers true and leaves them as they were. No condition. -/
import Derived.Test.YtfbnopihllnmbaaOpenI
import Derived.Test.YtfbnopihllnmbaaReader
namespace Go.Proofs.Ytfbnopihllnmbaa.fnExactCountsOk
open Go.ChangeShapes Go.WideShapes Go.ChangeAt Go.RowKit
set_option linter.unusedVariables false
set_option linter.unusedSimpArgs false

set_option maxHeartbeats 4000000 in
theorem walk (v : Value) (l : List Int) (w : World) (h : SlI w v l) :
    Calls Try.prog 3 #[v] w fun e w' => e = .returned (.bool true) ∧ Below w.heap.size w w' := by
  by_cases hl : l.length ≤ 1048576
  · obtain ⟨a, cap, rfl, _⟩ := id h
    have z0 : ¬ (l.length : Int) > 1048576 := by omega
    have H := Lib.hid h
    clear h
    go_enter Try.func3, Try.ntmps3
    go_wp2_with fail
    refine (toInt64S_any _ l _ H.out hl).mono ?_
    rintro e w1 ⟨g1, u1, rfl, hg1, hO1, hB1⟩
    go_wp2_with fail
    refine (spec_CountsOk _ l _ hO1.sl hl).mono ?_
    rintro e w1' ⟨rfl, rfl⟩
    go_wp2_with fail
    refine (toInt64S_any _ l _ (H.out.below hB1) hl).mono ?_
    rintro e w2 ⟨g2, u2, rfl, hg2, hO2, hB2⟩
    have hB2' := hB1.trans (hB2.mono hB1.size)
    go_wp2_with fail
    refine (impl_CountsOk _ l _ hO2.sl hl).mono ?_
    rintro e w3 ⟨rfl, hB3⟩
    have hB3' := hB2'.trans (hB3.mono hB2'.size)
    go_wp2_with fail
    refine (toInt64S_any _ l _ (H.out.below hB3') hl).mono ?_
    rintro e w4 ⟨g4, u4, rfl, hg4, hO4, hB4⟩
    have hB4' := hB3'.trans (hB4.mono hB3'.size)
    have hO5 := (hO2.below hB3 hO2.lt).below hB4 (by have := hB3.size; have := hO2.lt; omega)
    go_wp2_with fail
    refine (eqInt64S_same _ _ l _ hO5.sl hO4.sl).mono ?_
    rintro e w5 ⟨rfl, hB5⟩
    have hB5' := hB4'.trans (hB5.mono hB4'.size)
    go_wp2
    go_ret
    exact ⟨rfl, hB5'⟩
  · obtain ⟨a, cap, rfl, hc1, hc2, _⟩ := h
    unfold maxLen at hc2
    have z0 : (l.length : Int) > 1048576 := by omega
    go_enter Try.func3, Try.ntmps3
    go_wp2
    go_ret
    exact ⟨rfl, Below.refl _ _⟩

set_option maxRecDepth 100000 in
theorem lifted (os : Os) (started : os.Started) (H : Type) (enc : TypeId × Value → H) :
    ReturnsInHanded {} Try.checked os 3 .any (Rows.fnExactCountsOkSpec.pre6 enc Try.prog Try.f3 Rows.fnExactCountsOkRow.domain false) (Rows.fnExactCountsOkSpec.post enc Try.prog Try.f3 false true false false) := by
  refine returnsInHanded_of_change (C := Try.checked) own started (by kernel_rfl) Try.func3
    (ChangeSpec.witness6 (enc := enc) (C := Try.checked) false ⟨#[], #[.slice none 0 0], []⟩ 8 (by kernel_rfl) (by kernel_rfl) (by kernel_rfl) (by kernel_rfl)) ?_
  intro W base args ds gs before hval0 hW hcnd _
  have hval : ∀ (j : Nat) t v, Try.f3.params[j]? = some t → args[j]? = some v → Value.okWide Try.prog W .any base t v := hval0
  have hW' := hW
  obtain ⟨p, q, hA0, hV, rfl, hfz, hnd⟩ := hW
  have hA : DataW.TrodAll enc Try.prog W 0 (fun _ => true) true Try.f3.params.toList args.toList ds p := hA0
  rw [Try.params3] at hA hval
  obtain ⟨v0, vs0, d0, ds0, p0, q0, hargs, rfl, rfl, h0, r0⟩ := trodAll_cons hA
  obtain ⟨rfl, rfl, rfl⟩ := trodAll_nil r0
  obtain rfl : args = #[v0] := by cases args; simp_all
  obtain ⟨rfl, rfl⟩ := trodVars_none hV
  have k0 := h0
  have lt0 : ∀ x ∈ p0, x.block < W.heap.size := by obtain ⟨m, hm⟩ := k0; exact DataW.trod_lt m _ _ _ hm
  obtain ⟨l_0, hl_0⟩ := open_i64s (hval 0 22 v0 rfl rfl) h0
  clear hA0 hval0
  refine (walk v0 l_0 W hl_0).mono fun e W' ⟨he, bel⟩ => ?_
  subst he
  exact ⟨_, rfl, _, _, _, [], _, [], hW', trodAll_mk1 (shut_bool Try.underlying4 _), (trodAll_cons_mk (Below.trod laidOut (by kernel_rfl) (of_decide_eq_true (by kernel_rfl)) k0 bel lt0) trodAll_mk0), rfl, bel.frame _, fun h => by cases h⟩

theorem over : Rows.fnExactCountsOkRow.holds Try.pinned (OpenSpec.ofChange Rows.fnExactCountsOkSpec) :=
  OpenClaim.holds_of_wide 3 Try.f3 rfl rfl rfl rfl rfl rfl rfl ⟨rfl, rfl, rfl, rfl, rfl⟩ rfl rfl rfl rfl rfl (by kernel_rfl) Try.func3 (by kernel_rfl)
    (of_decide_eq_true (by kernel_rfl)) (by unfold Func.isWrapper; rw [if_neg (of_decide_eq_false (by kernel_rfl))]; exact ⟨rfl, rfl⟩)
    (fun os started H enc _ => lifted os started H enc)

theorem proved : Rows.FnExactCountsOkSaid := over
end Go.Proofs.Ytfbnopihllnmbaa.fnExactCountsOk
