/- FnExactReplyOk: whatever the arguments are, the law answers true and leaves them as they were. No condition. -/
import Derived.Test.YtlfgifmbidihgaaOpenC
import Derived.Test.YtlfgifmbidihgaaCallImpl
namespace Go.Proofs.Ytlfgifmbidihgaa.fnExactReplyOk
open Go.ChangeShapes Go.WideShapes Go.ChangeAt Go.RowKit
set_option linter.unusedVariables false
set_option linter.unusedSimpArgs false

set_option maxHeartbeats 1000000 in
theorem walk (c k v : Int) (r : Int) (w : World) (_ : In64 c ∧ In64 k ∧ In64 v) (_ : In64 r) :
    Calls Try.prog 4 #[.agg #[.int .i64 c, .int .i64 k, .int .i64 v], .int .i64 r] w fun e w' => e = .returned (.bool true) ∧ Below w.heap.size w w' := by
  go_enter Try.func4, Try.ntmps4
  go_wp2_with fail
  refine (toCall_any _ _ _ _).mono ?_
  rintro e w1 ⟨rfl, h1⟩
  have z1 := h1.size
  simp at z1
  have b1 := ((Below.refl w.heap.size w).alloc (Nat.le_refl _) _).trans (h1.mono (by simp))
  have k1 := Blk.below (e := 23) (cs := [Value.int .i64 c, .int .i64 k, .int .i64 v]) (heap_alloc_new w _) h1 (by simp)
  obtain ⟨q1_0, q1_1, q1_2, q1_f⟩ := cur_cells3 k1
  go_wp2_with fail
  refine (spec_ReplyOk _ _ _ _ _).mono ?_
  rintro e w2 ⟨rfl, h2⟩
  have z2 := h2.size
  have b2 := b1.trans (h2.mono (by omega))
  have k2 := k1.below h2 (by omega)
  obtain ⟨q2_0, q2_1, q2_2, q2_f⟩ := cur_cells3 k2
  go_wp2_with fail
  refine (toCall_any _ _ _ _).mono ?_
  rintro e w3 ⟨rfl, h3⟩
  have z3 := h3.size
  have b3 := b2.trans (h3.mono (by omega))
  have k3 := k2.below h3 (by omega)
  obtain ⟨q3_0, q3_1, q3_2, q3_f⟩ := cur_cells3 k3
  go_wp2_with fail
  refine (impl_ReplyOk _ _ _ _ _).mono ?_
  rintro e w4 ⟨rfl, h4⟩
  have z4 := h4.size
  have b4 := b3.trans (h4.mono (by omega))
  have k4 := k3.below h4 (by omega)
  obtain ⟨q4_0, q4_1, q4_2, q4_f⟩ := cur_cells3 k4
  go_wp2
  go_ret
  exact ⟨rfl, b4⟩

set_option maxRecDepth 100000 in
theorem lifted (os : Os) (started : os.Started) (H : Type) (enc : TypeId × Value → H) :
    ReturnsInHanded {} Try.checked os 4 .any (Rows.fnExactReplyOkSpec.pre6 enc Try.prog Try.f4 Rows.fnExactReplyOkRow.domain false) (Rows.fnExactReplyOkSpec.post enc Try.prog Try.f4 false true false false) := by
  refine returnsInHanded_of_change (C := Try.checked) own started (by kernel_rfl) Try.func4
    (ChangeSpec.witness6 (enc := enc) (C := Try.checked) false ⟨#[], #[.agg #[.int .i64 0, .int .i64 0, .int .i64 0], .int .i64 0], []⟩ 8 (by kernel_rfl) (by kernel_rfl) (by kernel_rfl) (by kernel_rfl)) ?_
  intro W base args ds gs before hval0 hW hcnd _
  have hval : ∀ (j : Nat) t v, Try.f4.params[j]? = some t → args[j]? = some v → Value.okWide Try.prog W .any base t v := hval0
  have hW' := hW
  obtain ⟨p, q, hA0, hV, rfl, hfz, hnd⟩ := hW
  have hA : DataW.TrodAll enc Try.prog W 0 (fun _ => true) true Try.f4.params.toList args.toList ds p := hA0
  rw [Try.params4] at hA hval
  obtain ⟨v0, vs0, d0, ds0, p0, q0, hargs, rfl, rfl, h0, r0⟩ := trodAll_cons hA
  obtain ⟨v1, vs1, d1, ds1, p1, q1, rfl, rfl, rfl, h1, r1⟩ := trodAll_cons r0
  obtain ⟨rfl, rfl, rfl⟩ := trodAll_nil r1
  obtain rfl : args = #[v0, v1] := by cases args; simp_all
  obtain ⟨rfl, rfl⟩ := trodVars_none hV
  have k0 := h0
  have lt0 : ∀ x ∈ p0, x.block < W.heap.size := by obtain ⟨m, hm⟩ := k0; exact DataW.trod_lt m _ _ _ hm
  obtain ⟨c_0, k_0, y_0, rfl, bd0⟩ := open_call (hval 0 23 v0 rfl rfl) h0
  obtain ⟨a1, rfl, rfl, rfl, w1⟩ := open_int Try.underlying2 (hval 1 2 v1 rfl rfl) h1
  clear hA0 hval0
  refine (walk c_0 k_0 y_0 a1 W bd0 (in64_wf w1)).mono fun e W' ⟨he, bel⟩ => ?_
  subst he
  exact ⟨_, rfl, _, _, _, [], _, [], hW', trodAll_mk1 (shut_bool Try.underlying4 _), (trodAll_cons_mk (Below.trod laidOut (by kernel_rfl) (of_decide_eq_true (by kernel_rfl)) k0 bel lt0) (trodAll_cons_mk (shut_int Try.underlying2 w1) trodAll_mk0)), rfl, bel.frame _, fun h => by cases h⟩

theorem over : Rows.fnExactReplyOkRow.holds Try.pinned (OpenSpec.ofChange Rows.fnExactReplyOkSpec) :=
  OpenClaim.holds_of_wide 4 Try.f4 rfl rfl rfl rfl rfl rfl rfl ⟨rfl, rfl, rfl, rfl, rfl⟩ rfl rfl rfl rfl rfl (by kernel_rfl) Try.func4 (by kernel_rfl)
    (of_decide_eq_true (by kernel_rfl)) (by unfold Func.isWrapper; rw [if_neg (of_decide_eq_false (by kernel_rfl))]; exact ⟨rfl, rfl⟩)
    (fun os started H enc _ => lifted os started H enc)

theorem proved : Rows.FnExactReplyOkSaid := over
end Go.Proofs.Ytlfgifmbidihgaa.fnExactReplyOk
