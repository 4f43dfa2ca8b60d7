/- FnExactHandOk: whatever the arguments are, the law answers true and leaves them as they were. No condition. -/
import Derived.Test.YtnojlncnepfaaaaLawHand
import Derived.Test.YtnojlncnepfaaaaHandImpl
namespace Go.Proofs.Ytnojlncnepfaaaa.fnExactHandOk
open Go.ChangeShapes Go.WideShapes Go.ChangeAt Go.RowKit
set_option linter.unusedVariables false
set_option linter.unusedSimpArgs false


set_option maxRecDepth 100000 in
set_option maxHeartbeats 4000000 in
theorem walk (h : HD) (w0 : World) (_ : h.Fits) :
    Calls Try.prog 3 #[h.val] w0 fun e w' => e = .returned (.bool true) ∧ Below w0.heap.size w0 w' := by
  unfold HD.val
  have hM := Mem.start w0
  go_enter Try.func3, Try.ntmps3
  refine wp_seq_k fun Kn1 cn1 => ?_
  refine wl_region ?_
  refine wl_box (by kernel_rfl) hM 25 _ rfl (HD.cells h) rfl ?_
  clear hM; intro g1 W1 hM
  go_frame
  refine wl_pure (by kernel_rfl) (.bool false) (by kernel_rfl) ?_
  go_frame
  refine wl_nil ?_
  refine cn1 _ _ ?_
  clear cn1
  refine wp_seq_k fun Kn2 cn2 => ?_
  refine wl_region ?_
  refine wl_load (by kernel_rfl) hM 0 rfl 25 _ rfl rfl Try.underlying25 I_laws_Hand ?_
  go_frame
  refine wl_call (by kernel_rfl) 7 #[.agg (HD.cells h).toArray] (by kernel_rfl) (toHand_any h _) ?_
  rintro e W2 ⟨rfl, hb⟩
  refine ⟨_, rfl, ?_⟩
  replace hM := hM.call hb
  go_frame
  refine wl_call (by kernel_rfl) 6 #[.agg (HD.cells h).toArray] (by kernel_rfl) (spec_HandOk h _) ?_
  rintro e W3 ⟨rfl, hb⟩
  refine ⟨_, rfl, ?_⟩
  replace hM := hM.call hb
  go_frame
  refine wl_pure (by kernel_rfl) (.bool (handB h)) (by kernel_rfl) ?_
  go_frame
  refine wl_nil ?_
  refine cn2 _ _ ?_
  clear cn2
  refine wp_seq_k fun Kn3 cn3 => ?_
  refine wl_region ?_
  refine wl_load (by kernel_rfl) hM 0 rfl 25 _ rfl rfl Try.underlying25 I_laws_Hand ?_
  go_frame
  refine wl_call (by kernel_rfl) 7 #[.agg (HD.cells h).toArray] (by kernel_rfl) (toHand_any h _) ?_
  rintro e W4 ⟨rfl, hb⟩
  refine ⟨_, rfl, ?_⟩
  replace hM := hM.call hb
  go_frame
  refine wl_call (by kernel_rfl) 8 #[.agg (HD.cells h).toArray] (by kernel_rfl) (impl_HandOk h _) ?_
  rintro e W5 ⟨rfl, hb⟩
  refine ⟨_, rfl, ?_⟩
  replace hM := hM.call hb
  go_frame
  refine wl_pure (by kernel_rfl) (.bool (handB h)) (by kernel_rfl) ?_
  go_frame
  refine wl_nil ?_
  refine cn3 _ _ ?_
  clear cn3
  refine wp_seq_k fun Kn4 cn4 => ?_
  refine wp_seq_k fun Kn5 cn5 => ?_
  refine wl_region ?_
  refine wl_pure (by kernel_rfl) (.bool (handB h)) (by kernel_rfl) ?_
  go_frame
  refine wl_pure (by kernel_rfl) (.bool (handB h)) (by kernel_rfl) ?_
  go_frame
  refine wl_pureB (by kernel_rfl) (b := ((handB h) != (handB h))) (by kernel_rfl) ((bne_self_eq_false _)) ?_
  go_frame
  refine wl_nil ?_
  refine cn5 _ _ ?_
  clear cn5
  refine wp_cond_false rfl ?_
  refine wp_skip ?_
  refine cn4 _ _ ?_
  clear cn4
  refine wp_seq_k fun Kn6 cn6 => ?_
  refine wl_region ?_
  refine wl_pure (by kernel_rfl) (.bool true) (by kernel_rfl) ?_
  go_frame
  refine wl_nil ?_
  refine cn6 _ _ ?_
  clear cn6
  refine wp_ret ?_
  exact bodyPost_ret (v := .bool true) (ret_tmp 2 rfl rfl) rfl ⟨rfl, hM.below⟩

set_option maxRecDepth 100000 in
theorem lifted (os : Os) (started : os.Started) (H : Type) (enc : TypeId × Value → H) :
    ReturnsInHanded {} Try.checked os 3 .any (Rows.fnExactHandOkSpec.pre6 enc Try.prog Try.f3 Rows.fnExactHandOkRow.domain false) (Rows.fnExactHandOkSpec.post enc Try.prog Try.f3 false true false false) := by
  refine returnsInHanded_of_change (C := Try.checked) own started (by kernel_rfl) Try.func3
    (ChangeSpec.witness6 (enc := enc) (C := Try.checked) false ⟨#[], #[.agg #[.int .i64 0, .int .i64 0, .int .i64 0, .int .i64 0, .int .i64 0, .int .i64 0, .int .i64 0, .int .i64 0, .int .i64 0, .int .i64 0, .int .i64 0, .int .i64 0, .int .i64 0, .bool false, .int .i64 0, .int .i64 0, .int .i64 0]], []⟩ 8 (by kernel_rfl) (by kernel_rfl) (by kernel_rfl) (by kernel_rfl)) ?_
  intro W base args ds gs before hval0 hW hcnd _
  have hval : ∀ (j : Nat) t v, Try.f3.params[j]? = some t → args[j]? = some v → Value.okWide Try.prog W .any base t v := hval0
  have hW' := hW
  obtain ⟨p, q, hA0, hV, rfl, hfz, hnd⟩ := hW
  have hA : DataW.TrodAll enc Try.prog W 0 (fun _ => true) true Try.f3.params.toList args.toList ds p := hA0
  rw [Try.params3] at hA hval
  obtain ⟨v0, vs0, d0, ds0, p0, q0, hargs, rfl, rfl, h0, r0⟩ := trodAll_cons hA
  obtain ⟨rfl, rfl, rfl⟩ := trodAll_nil r0
  obtain rfl : args = #[v0] := by cases args; simp_all
  obtain ⟨rfl, rfl⟩ := trodVars_none hV
  have k0 := h0
  have lt0 : ∀ x ∈ p0, x.block < W.heap.size := by obtain ⟨m, hm⟩ := k0; exact DataW.trod_lt m _ _ _ hm
  obtain ⟨h_0, rfl, bd0⟩ := open_hand (hval 0 25 v0 rfl rfl) h0
  clear hA0 hval0
  refine (walk h_0 W bd0).mono fun e W' ⟨he, bel⟩ => ?_
  subst he
  exact ⟨_, rfl, _, _, _, [], _, [], hW', trodAll_mk1 (shut_bool Try.underlying4 _), (trodAll_cons_mk (Below.trod laidOut (by kernel_rfl) (of_decide_eq_true (by kernel_rfl)) k0 bel lt0) trodAll_mk0), rfl, bel.frame _, fun h => by cases h⟩

theorem over : Rows.fnExactHandOkRow.holds Try.pinned (OpenSpec.ofChange Rows.fnExactHandOkSpec) :=
  OpenClaim.holds_of_wide 3 Try.f3 rfl rfl rfl rfl rfl rfl rfl ⟨rfl, rfl, rfl, rfl, rfl⟩ rfl rfl rfl rfl rfl (by kernel_rfl) Try.func3 (by kernel_rfl)
    (of_decide_eq_true (by kernel_rfl)) (by unfold Func.isWrapper; rw [if_neg (of_decide_eq_false (by kernel_rfl))]; exact ⟨rfl, rfl⟩)
    (fun os started H enc _ => lifted os started H enc)

theorem proved : Rows.FnExactHandOkSaid := over
end Go.Proofs.Ytnojlncnepfaaaa.fnExactHandOk
