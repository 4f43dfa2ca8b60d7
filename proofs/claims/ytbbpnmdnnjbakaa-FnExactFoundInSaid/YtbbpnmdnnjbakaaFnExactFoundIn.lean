/- FnExactFoundIn: whatever the arguments are, the law answers true and leaves them as they were. No condition. -/
import Derived.Test.YtbbpnmdnnjbakaaOpen
import Derived.Test.YtbbpnmdnnjbakaaFound
namespace Go.Proofs.Ytbbpnmdnnjbakaa.fnExactFoundIn
open Go.ChangeShapes Go.WideShapes Go.ChangeAt Go.RowKit
set_option linter.unusedVariables false
set_option linter.unusedSimpArgs false

set_option maxHeartbeats 1000000 in
theorem walk (v : Value) (l : List ND) (x : Int) (w : World) (h : NSl w v l) (hx : In64 x) :
    Calls Try.prog 5 #[v, .int .i64 x] w fun e w' => e = .returned (.bool true) ∧ Below w.heap.size w w' := by
  by_cases hl : l.length ≤ 1048576
  · obtain ⟨a, cap, rfl, _⟩ := id h
    have z0 : ¬ ((1048576 : Nat) : Int) - (l.length : Int) < 0 := by omega
    have H := Lib.hid h
    clear h
    go_enter Try.func5, Try.ntmps5
    go_wp2_with fail
    refine (szNodeS_in _ _ _ 1048576 _ hl (by omega)).mono ?_
    rintro e w1 ⟨rfl, rfl⟩
    go_wp2_with fail
    refine (toNodeS_any _ l _ H.out hl).mono ?_
    rintro e w1 ⟨g1, u1, rfl, hg1, hO1, hB1⟩
    go_wp2_with fail
    refine (spec_FoundIn _ l x hx _ hO1.sl hl).mono ?_
    rintro e w2 ⟨rfl, hB2⟩
    have hB2' := hB1.trans (hB2.mono hB1.size)
    go_wp2_with fail
    refine (toNodeS_any _ l _ (H.out.below hB2') hl).mono ?_
    rintro e w3 ⟨g3, u3, rfl, hg3, hO3, hB3⟩
    have hB3' := hB2'.trans (hB3.mono hB2'.size)
    go_wp2_with fail
    refine (impl_FoundIn _ l x hx _ hO3.sl hl).mono ?_
    rintro e w4 ⟨rfl, hB4⟩
    have hB4' := hB3'.trans (hB4.mono hB3'.size)
    have hO4 := hO3.below hB4 hO3.lt
    go_wp2_with fail
    refine (toNodeS_any _ l _ (H.out.below hB4') hl).mono ?_
    rintro e w5 ⟨g5, u5, rfl, hg5, hO5, hB5⟩
    have hB5' := hB4'.trans (hB5.mono hB4'.size)
    have hO6 := hO4.below hB5 hO4.lt
    go_wp2_with fail
    refine (eqNodeS_same _ _ l _ hO6.sl hO5.sl).mono ?_
    rintro e w6 ⟨rfl, hB6⟩
    go_wp2
    go_ret
    exact ⟨rfl, hB5'.trans (hB6.mono hB5'.size)⟩
  · obtain ⟨a, cap, rfl, hc1, hc2, _⟩ := h
    go_enter Try.func5, Try.ntmps5
    go_wp2_with fail
    refine (szNodeS_out _ _ _ 1048576 _ (by omega) (by omega) (by omega)).mono ?_
    rintro e w1 ⟨rfl, rfl⟩
    go_wp2
    go_ret
    exact ⟨rfl, Below.refl _ _⟩

set_option maxRecDepth 100000 in
theorem lifted (os : Os) (started : os.Started) (H : Type) (enc : TypeId × Value → H) :
    ReturnsInHanded {} Try.checked os 5 .any (Rows.fnExactFoundInSpec.pre6 enc Try.prog Try.f5 Rows.fnExactFoundInRow.domain false) (Rows.fnExactFoundInSpec.post enc Try.prog Try.f5 false true false false) := by
  refine returnsInHanded_of_change (C := Try.checked) own started (by kernel_rfl) Try.func5
    (ChangeSpec.witness6 (enc := enc) (C := Try.checked) false ⟨#[], #[.slice none 0 0, .int .i64 0], []⟩ 8 (by kernel_rfl) (by kernel_rfl) (by kernel_rfl) (by kernel_rfl)) ?_
  intro W base args ds gs before hval0 hW hcnd _
  have hval : ∀ (j : Nat) t v, Try.f5.params[j]? = some t → args[j]? = some v → Value.okWide Try.prog W .any base t v := hval0
  have hW' := hW
  obtain ⟨p, q, hA0, hV, rfl, hfz, hnd⟩ := hW
  have hA : DataW.TrodAll enc Try.prog W 0 (fun _ => true) true Try.f5.params.toList args.toList ds p := hA0
  rw [Try.params5] at hA hval
  obtain ⟨v0, vs0, d0, ds0, p0, q0, hargs, rfl, rfl, h0, r0⟩ := trodAll_cons hA
  obtain ⟨v1, vs1, d1, ds1, p1, q1, rfl, rfl, rfl, h1, r1⟩ := trodAll_cons r0
  obtain ⟨rfl, rfl, rfl⟩ := trodAll_nil r1
  obtain rfl : args = #[v0, v1] := by cases args; simp_all
  obtain ⟨rfl, rfl⟩ := trodVars_none hV
  have k0 := h0
  have lt0 : ∀ x ∈ p0, x.block < W.heap.size := by obtain ⟨m, hm⟩ := k0; exact DataW.trod_lt m _ _ _ hm
  obtain ⟨l_0, hl_0⟩ := open_nodes (hval 0 22 v0 rfl rfl) h0
  obtain ⟨a1, rfl, rfl, rfl, w1⟩ := open_int Try.underlying2 (hval 1 2 v1 rfl rfl) h1
  clear hA0 hval0
  refine (walk v0 l_0 a1 W hl_0 (in64_wf w1)).mono fun e W' ⟨he, bel⟩ => ?_
  subst he
  exact ⟨_, rfl, _, _, _, [], _, [], hW', trodAll_mk1 (shut_bool Try.underlying4 _), (trodAll_cons_mk (Below.trod laidOut (by kernel_rfl) (of_decide_eq_true (by kernel_rfl)) k0 bel lt0) (trodAll_cons_mk (shut_int Try.underlying2 w1) trodAll_mk0)), rfl, bel.frame _, fun h => by cases h⟩

theorem over : Rows.fnExactFoundInRow.holds Try.pinned (OpenSpec.ofChange Rows.fnExactFoundInSpec) :=
  OpenClaim.holds_of_wide 5 Try.f5 rfl rfl rfl rfl rfl rfl rfl ⟨rfl, rfl, rfl, rfl, rfl⟩ rfl rfl rfl rfl rfl (by kernel_rfl) Try.func5 (by kernel_rfl)
    (of_decide_eq_true (by kernel_rfl)) (by unfold Func.isWrapper; rw [if_neg (of_decide_eq_false (by kernel_rfl))]; exact ⟨rfl, rfl⟩)
    (fun os started H enc _ => lifted os started H enc)

theorem proved : Rows.FnExactFoundInSaid := over
end Go.Proofs.Ytbbpnmdnnjbakaa.fnExactFoundIn
