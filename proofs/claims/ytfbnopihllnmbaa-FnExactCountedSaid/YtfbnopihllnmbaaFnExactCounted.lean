/- FnExactCounted: whatever the arguments are, the law answers true and leaves them as they were. No condition. -/
import Derived.Test.YtfbnopihllnmbaaOpenI
import Derived.Test.YtfbnopihllnmbaaReaderSpec
namespace Go.Proofs.Ytfbnopihllnmbaa.fnExactCounted
open Go.ChangeShapes Go.WideShapes Go.ChangeAt Go.RowKit
set_option linter.unusedVariables false
set_option linter.unusedSimpArgs false

set_option maxHeartbeats 4000000 in
theorem walk (v : Value) (l : List Int) (a0 : Int) (w : World) (h : SlI w v l) (b0 : In64 a0) :
    Calls Try.prog 5 #[v, .int .i64 a0] w fun e w' => e = .returned (.bool true) ∧ Below w.heap.size w w' := by
  by_cases hl : l.length ≤ 1048576
  · obtain ⟨a, cap, rfl, _⟩ := id h
    have CS := fun v w h => spec_Counted v l a0 w h hl 
    have CI := fun v w h => impl_Counted v l a0 w h hl 
    have hlen := countR_len l a0
    generalize countR l a0 = r at CS CI hlen
    obtain ⟨rl, rb⟩ := r
    simp only at hlen
    have z0 : ¬ ((1048576 : Nat) : Int) - (l.length : Int) < 0 := by omega
    have z1 : ¬ (1 + (l.length : Int) < 0) := by omega
    have z3 : ¬ (l.length : Int) > 1048576 := by omega
    have z2 : ¬ (1 + (rl.length : Int) < 0) := by omega
    have H := Lib.hid h
    have HS := Lib.hid CS
    have HI := Lib.hid CI
    clear h CS CI
    go_enter Try.func5, Try.ntmps5
    go_wp2_with fail
    refine (toInt64S_any _ l _ H.out hl).mono ?_
    rintro e w1 ⟨g1, u1, rfl, hg1, hO1, hB1⟩
    have s1 := hB1.size
    go_wp2_with fail
    refine (HS.out _ _ hO1.sl).mono ?_
    rintro e w2 ⟨u2, rfl, hR2, hB2⟩
    have s2 := hB2.size
    have hB2' := hB1.trans (hB2.mono s1)
    go_wp2_with fail
    refine (toInt64S_any _ l _ (H.out.below hB2') hl).mono ?_
    rintro e w3 ⟨g3, u3, rfl, hg3, hO3, hB3⟩
    have s3 := hB3.size
    have hB3' := hB2'.trans (hB3.mono hB2'.size)
    have hR3 := hR2.below hB3 (Nat.le_refl _)
    have l3 := hO3.lt
    go_wp2_with fail
    refine (HI.out _ _ hO3.sl).mono ?_
    rintro e w4 ⟨u4, rfl, hP4, hB4⟩
    have s4 := hB4.size
    have hB4' := hB3'.trans (hB4.mono hB3'.size)
    have hO4 := hO3.below hB4 hO3.lt
    have hR4 := hR3.below hB4 s3
    go_wp2_with fail
    refine (eqInt64S_same _ _ rl _ hP4.sl hR4.sl).mono ?_
    rintro e w5 ⟨rfl, hB5⟩
    have s5 := hB5.size
    have hB5' := hB4'.trans (hB5.mono hB4'.size)
    have hO5 := hO4.below hB5 hO4.lt
    have hR5 := hR4.below hB5 (by omega)
    have hP5 := hP4.below hB5 (Nat.le_refl _)
    go_wp2_with fail
    refine (toInt64S_any _ l _ (H.out.below hB5') hl).mono ?_
    rintro e w6 ⟨g6, u6, rfl, hg6, hO6, hB6⟩
    have s6 := hB6.size
    have hB6' := hB5'.trans (hB6.mono hB5'.size)
    have hO7 := hO5.below hB6 hO5.lt
    have hR6 := hR5.below hB6 (by omega)
    have hP6 := hP5.below hB6 (by omega)
    go_wp2_with fail
    refine (eqInt64S_same _ _ l _ hO7.sl hO6.sl).mono ?_
    rintro e w7 ⟨rfl, hB7⟩
    have s7 := hB7.size
    have hB7' := hB6'.trans (hB7.mono hB6'.size)
    have hO8 := hO7.below hB7 hO7.lt
    have hR7 := hR6.below hB7 (by omega)
    have hP7 := hP6.below hB7 (by omega)
    go_wp2_with fail
    refine (markInt64S_own _ g3 l.length _ 1 _ hO8 hl (by omega) (by omega)).mono ?_
    rintro e w8 ⟨rfl, hM8, hU8⟩
    have s8 := hU8.size
    have hR8 := hR7.but hU8 (.inr hg3)
    have hP8 := hP7.but hU8 (.inl l3)
    have hB8' := hB7'.trans (hU8.below (B := w.heap.size) (by omega) hB7'.size)
    go_wp2_with fail
    refine (eqInt64S_same _ _ rl _ hP8.sl hR8.sl).mono ?_
    rintro e w9 ⟨rfl, hB9⟩
    have s9 := hB9.size
    have hB9' := hB8'.trans (hB9.mono hB8'.size)
    have hR9 := hR8.below hB9 (by omega)
    have hP9 := hP8.below hB9 (by omega)
    go_wp2_with fail
    refine (markInt64S_any _ w3.heap.size w4.heap.size rl.length _ 1 _ hP9 (by omega) (by omega) (by omega) (by omega)).mono ?_
    rintro e w10 ⟨rfl, hQ10, hB10⟩
    have s10 := hB10.size
    have hR10 := hR9.below hB10 (by omega)
    have hB10' := hB9'.trans (hB10.mono (show w.heap.size ≤ w3.heap.size from hB3'.size))
    go_wp2_with fail
    refine (heldInt64S_same _ _ 1 _ hQ10 (by omega) (by omega) (by omega)).mono ?_
    rintro e w11 ⟨rfl, rfl⟩
    go_wp2_with fail
    refine (toInt64S_any _ l _ (H.out.below hB10') hl).mono ?_
    rintro e w12 ⟨g12, u12, rfl, hg12, hO12, hB12⟩
    have s12 := hB12.size
    have hB12' := hB10'.trans (hB12.mono hB10'.size)
    have hR12 := hR10.below hB12 (by omega)
    have hQ12 := hQ10.below hB12
    go_wp2_with fail
    refine (HI.out _ _ hO12.sl).mono ?_
    rintro e w13 ⟨u13, rfl, hP13, hB13⟩
    have s13 := hB13.size
    have hB13' := hB12'.trans (hB13.mono hB12'.size)
    have hR13 := hR12.below hB13 (by omega)
    have hQ13 := hQ12.below hB13
    go_wp2_with fail
    refine (eqInt64S_same _ _ rl _ hP13.sl hR13.sl).mono ?_
    rintro e w14 ⟨rfl, hB14⟩
    have hB14' := hB13'.trans (hB14.mono hB13'.size)
    have hQ14 := hQ13.below hB14
    go_wp2_with fail
    refine (heldInt64S_same _ _ 1 _ hQ14 (by omega) (by omega) (by omega)).mono ?_
    rintro e w15 ⟨rfl, rfl⟩
    go_wp2
    go_ret
    exact ⟨rfl, hB14'⟩
  · obtain ⟨a, cap, rfl, hc1, hc2, _⟩ := h
    unfold maxLen at hc2
    have z3 : (l.length : Int) > 1048576 := by omega
    go_enter Try.func5, Try.ntmps5
    go_wp2
    go_ret
    exact ⟨rfl, Below.refl _ _⟩

set_option maxRecDepth 100000 in
theorem lifted (os : Os) (started : os.Started) (H : Type) (enc : TypeId × Value → H) :
    ReturnsInHanded {} Try.checked os 5 .any (Rows.fnExactCountedSpec.pre6 enc Try.prog Try.f5 Rows.fnExactCountedRow.domain false) (Rows.fnExactCountedSpec.post enc Try.prog Try.f5 false true false false) := by
  refine returnsInHanded_of_change (C := Try.checked) own started (by kernel_rfl) Try.func5
    (ChangeSpec.witness6 (enc := enc) (C := Try.checked) false ⟨#[], #[.slice none 0 0, .int .i64 0], []⟩ 8 (by kernel_rfl) (by kernel_rfl) (by kernel_rfl) (by kernel_rfl)) ?_
  intro W base args ds gs before hval0 hW hcnd _
  have hval : ∀ (j : Nat) t v, Try.f5.params[j]? = some t → args[j]? = some v → Value.okWide Try.prog W .any base t v := hval0
  have hW' := hW
  obtain ⟨p, q, hA0, hV, rfl, hfz, hnd⟩ := hW
  have hA : DataW.TrodAll enc Try.prog W 0 (fun _ => true) true Try.f5.params.toList args.toList ds p := hA0
  rw [Try.params5] at hA hval
  obtain ⟨v0, vs0, d0, ds0, p0, q0, hargs, rfl, rfl, h0, r0⟩ := trodAll_cons hA
  obtain ⟨v1, vs1, d1, ds1, p1, q1, rfl, rfl, rfl, h1, r1⟩ := trodAll_cons r0
  obtain ⟨rfl, rfl, rfl⟩ := trodAll_nil r1
  obtain rfl : args = #[v0, v1] := by cases args; simp_all
  obtain ⟨rfl, rfl⟩ := trodVars_none hV
  have k0 := h0
  have lt0 : ∀ x ∈ p0, x.block < W.heap.size := by obtain ⟨m, hm⟩ := k0; exact DataW.trod_lt m _ _ _ hm
  obtain ⟨l_0, hl_0⟩ := open_i64s (hval 0 22 v0 rfl rfl) h0
  obtain ⟨a1, rfl, rfl, rfl, w1⟩ := open_int Try.underlying2 (hval 1 2 v1 rfl rfl) h1
  clear hA0 hval0
  refine (walk v0 l_0 a1 W hl_0 (in64_wf w1)).mono fun e W' ⟨he, bel⟩ => ?_
  subst he
  exact ⟨_, rfl, _, _, _, [], _, [], hW', trodAll_mk1 (shut_bool Try.underlying4 _), (trodAll_cons_mk (Below.trod laidOut (by kernel_rfl) (of_decide_eq_true (by kernel_rfl)) k0 bel lt0) (trodAll_cons_mk (shut_int Try.underlying2 w1) trodAll_mk0)), rfl, bel.frame _, fun h => by cases h⟩

theorem over : Rows.fnExactCountedRow.holds Try.pinned (OpenSpec.ofChange Rows.fnExactCountedSpec) :=
  OpenClaim.holds_of_wide 5 Try.f5 rfl rfl rfl rfl rfl rfl rfl ⟨rfl, rfl, rfl, rfl, rfl⟩ rfl rfl rfl rfl rfl (by kernel_rfl) Try.func5 (by kernel_rfl)
    (of_decide_eq_true (by kernel_rfl)) (by unfold Func.isWrapper; rw [if_neg (of_decide_eq_false (by kernel_rfl))]; exact ⟨rfl, rfl⟩)
    (fun os started H enc _ => lifted os started H enc)

theorem proved : Rows.FnExactCountedSaid := over
end Go.Proofs.Ytfbnopihllnmbaa.fnExactCounted
