/- FnExactResting: whatever the arguments are, the law answers true and leaves them as they were. No condition. -/
import Derived.Test.YtnojlncnepfaaaaLawHand
import Derived.Test.YtnojlncnepfaaaaHandImpl
namespace Go.Proofs.Ytnojlncnepfaaaa.fnExactResting
open Go.ChangeShapes Go.WideShapes Go.ChangeAt Go.RowKit
set_option linter.unusedVariables false
set_option linter.unusedSimpArgs false


set_option maxRecDepth 100000 in
set_option maxHeartbeats 4000000 in
theorem walk (r o : Int) (w0 : World) (_ : In64 r) (_ : In64 o) :
    Calls Try.prog 4 #[.int .i64 r, .int .i64 o] w0 fun e w' => e = .returned (.bool true) ∧ Below w0.heap.size w0 w' := by
  have hM := Mem.start w0
  go_enter Try.func4, Try.ntmps4
  refine wp_seq_k fun Kn1 cn1 => ?_
  refine wl_region ?_
  refine wl_pure (by kernel_rfl) (.bool false) (by kernel_rfl) ?_
  go_frame
  refine wl_nil ?_
  refine cn1 _ _ ?_
  clear cn1
  refine wp_seq_k fun Kn2 cn2 => ?_
  refine wl_region ?_
  refine wl_pure (by kernel_rfl) (.int .i64 r) (by kernel_rfl) ?_
  go_frame
  refine wl_pure (by kernel_rfl) (.int .i64 o) (by kernel_rfl) ?_
  go_frame
  refine wl_call (by kernel_rfl) 9 #[.int .i64 r, .int .i64 o] (by kernel_rfl) (spec_Resting r o _) ?_
  rintro e W1 ⟨rfl, hb⟩
  refine ⟨_, rfl, ?_⟩
  replace hM := hM.call hb
  go_frame
  refine wl_alloc (by kernel_rfl) hM 29 rfl (HD.cells HD.zero) Z_impl_Hand ?_
  clear hM; intro g1 W2 hM
  go_frame
  refine wl_store (by kernel_rfl) hM 0 rfl 29 _ _ rfl rfl rfl (HD.cells (restH r o)) rfl I_impl_Hand rfl (hd_one' _) ?_
  clear hM; intro W3 hM; replace hM : Mem w0 W3 [(g1, 29, (HD.cells (restH r o)))] := hM
  refine wl_nil ?_
  refine cn2 _ _ ?_
  clear cn2
  refine wp_seq_k fun Kn3 cn3 => ?_
  refine wl_region ?_
  refine wl_pure (by kernel_rfl) (.int .i64 r) (by kernel_rfl) ?_
  go_frame
  refine wl_pure (by kernel_rfl) (.int .i64 o) (by kernel_rfl) ?_
  go_frame
  refine wl_call (by kernel_rfl) 10 #[.int .i64 r, .int .i64 o] (by kernel_rfl) (impl_Resting r o _) ?_
  rintro e W4 ⟨rfl, hb⟩
  refine ⟨_, rfl, ?_⟩
  replace hM := hM.call hb
  go_frame
  refine wl_alloc (by kernel_rfl) hM 29 rfl (HD.cells HD.zero) Z_impl_Hand ?_
  clear hM; intro g2 W5 hM
  go_frame
  refine wl_store (by kernel_rfl) hM 0 rfl 29 _ _ rfl rfl rfl (HD.cells (restH r o)) rfl I_impl_Hand rfl (hd_one' _) ?_
  clear hM; intro W6 hM; replace hM : Mem w0 W6 [(g2, 29, (HD.cells (restH r o))), (g1, 29, (HD.cells (restH r o)))] := hM
  refine wl_nil ?_
  refine cn3 _ _ ?_
  clear cn3
  refine wp_seq_k fun Kn4 cn4 => ?_
  refine wp_seq_k fun Kn5 cn5 => ?_
  refine wl_region ?_
  refine wl_load (by kernel_rfl) hM 0 rfl 29 _ rfl rfl Try.underlying29 I_impl_Hand ?_
  go_frame
  refine wl_load (by kernel_rfl) hM 1 rfl 29 _ rfl rfl Try.underlying29 I_impl_Hand ?_
  go_frame
  refine wl_call (by kernel_rfl) 11 #[.agg (HD.cells (restH r o)).toArray, .agg (HD.cells (restH r o)).toArray] (by kernel_rfl) (eqHand_self (restH r o) _) ?_
  rintro e W7 ⟨rfl, hb⟩
  refine ⟨_, rfl, ?_⟩
  replace hM := hM.call hb
  go_frame
  refine wl_pure (by kernel_rfl) (.bool false) (by kernel_rfl) ?_
  go_frame
  refine wl_nil ?_
  refine cn5 _ _ ?_
  clear cn5
  refine wp_cond_false rfl ?_
  refine wp_skip ?_
  refine cn4 _ _ ?_
  clear cn4
  refine wp_seq_k fun Kn6 cn6 => ?_
  refine wl_region ?_
  refine wl_pure (by kernel_rfl) (.bool true) (by kernel_rfl) ?_
  go_frame
  refine wl_nil ?_
  refine cn6 _ _ ?_
  clear cn6
  refine wp_ret ?_
  exact bodyPost_ret (v := .bool true) (ret_tmp 4 rfl rfl) rfl ⟨rfl, hM.below⟩

set_option maxRecDepth 100000 in
theorem lifted (os : Os) (started : os.Started) (H : Type) (enc : TypeId × Value → H) :
    ReturnsInHanded {} Try.checked os 4 .any (Rows.fnExactRestingSpec.pre6 enc Try.prog Try.f4 Rows.fnExactRestingRow.domain false) (Rows.fnExactRestingSpec.post enc Try.prog Try.f4 false true false false) := by
  refine returnsInHanded_of_change (C := Try.checked) own started (by kernel_rfl) Try.func4
    (ChangeSpec.witness6 (enc := enc) (C := Try.checked) false ⟨#[], #[.int .i64 0, .int .i64 0], []⟩ 8 (by kernel_rfl) (by kernel_rfl) (by kernel_rfl) (by kernel_rfl)) ?_
  intro W base args ds gs before hval0 hW hcnd _
  have hval : ∀ (j : Nat) t v, Try.f4.params[j]? = some t → args[j]? = some v → Value.okWide Try.prog W .any base t v := hval0
  have hW' := hW
  obtain ⟨p, q, hA0, hV, rfl, hfz, hnd⟩ := hW
  have hA : DataW.TrodAll enc Try.prog W 0 (fun _ => true) true Try.f4.params.toList args.toList ds p := hA0
  rw [Try.params4] at hA hval
  obtain ⟨v0, vs0, d0, ds0, p0, q0, hargs, rfl, rfl, h0, r0⟩ := trodAll_cons hA
  obtain ⟨v1, vs1, d1, ds1, p1, q1, rfl, rfl, rfl, h1, r1⟩ := trodAll_cons r0
  obtain ⟨rfl, rfl, rfl⟩ := trodAll_nil r1
  obtain rfl : args = #[v0, v1] := by cases args; simp_all
  obtain ⟨rfl, rfl⟩ := trodVars_none hV
  obtain ⟨a0, rfl, rfl, rfl, w0⟩ := open_int Try.underlying2 (hval 0 2 v0 rfl rfl) h0
  obtain ⟨a1, rfl, rfl, rfl, w1⟩ := open_int Try.underlying2 (hval 1 2 v1 rfl rfl) h1
  clear hA0 hval0
  refine (walk a0 a1 W (in64_wf w0) (in64_wf w1)).mono fun e W' ⟨he, bel⟩ => ?_
  subst he
  exact ⟨_, rfl, _, _, _, [], _, [], hW', trodAll_mk1 (shut_bool Try.underlying4 _), (trodAll_cons_mk (shut_int Try.underlying2 w0) (trodAll_cons_mk (shut_int Try.underlying2 w1) trodAll_mk0)), rfl, bel.frame _, fun h => by cases h⟩

theorem over : Rows.fnExactRestingRow.holds Try.pinned (OpenSpec.ofChange Rows.fnExactRestingSpec) :=
  OpenClaim.holds_of_wide 4 Try.f4 rfl rfl rfl rfl rfl rfl rfl ⟨rfl, rfl, rfl, rfl, rfl⟩ rfl rfl rfl rfl rfl (by kernel_rfl) Try.func4 (by kernel_rfl)
    (of_decide_eq_true (by kernel_rfl)) (by unfold Func.isWrapper; rw [if_neg (of_decide_eq_false (by kernel_rfl))]; exact ⟨rfl, rfl⟩)
    (fun os started H enc _ => lifted os started H enc)

theorem proved : Rows.FnExactRestingSaid := over
end Go.Proofs.Ytnojlncnepfaaaa.fnExactResting
