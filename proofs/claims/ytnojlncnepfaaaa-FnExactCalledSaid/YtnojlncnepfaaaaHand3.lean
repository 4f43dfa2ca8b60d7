/- Called of the model. -/
import Derived.Test.YtnojlncnepfaaaaHand2
namespace Go.Proofs.Ytnojlncnepfaaaa
open Go.ChangeShapes Go.WideShapes Go.ChangeAt Go.RowKit
set_option linter.unusedVariables false
set_option linter.unusedSimpArgs false


set_option maxRecDepth 100000 in
set_option maxHeartbeats 4000000 in
theorem spec_Called (h : HD) (c k v : Int) (w0 : World) :
    Calls Try.prog 12 #[h.val, .agg #[.int .i64 c, .int .i64 k, .int .i64 v]] w0 fun e w' => e = .returned (.tuple #[(calledR h c k v).1.val, .int .i64 (calledR h c k v).2]) ∧ Below w0.heap.size w0 w' := by
  unfold HD.val
  have hM := Mem.start w0
  go_enter Try.func12, Try.ntmps12
  refine wp_seq_k fun Kn1 cn1 => ?_
  refine wl_region ?_
  refine wl_box (by kernel_rfl) hM 29 _ rfl (HD.cells h) rfl ?_
  clear hM; intro g1 W1 hM
  go_frame
  refine wl_box (by kernel_rfl) hM 27 _ rfl [.int .i64 c, .int .i64 k, .int .i64 v] rfl ?_
  clear hM; intro g2 W2 hM
  go_frame
  refine wl_alloc (by kernel_rfl) hM 29 rfl (HD.cells HD.zero) Z_impl_Hand ?_
  clear hM; intro g3 W3 hM
  go_frame
  refine wl_pure (by kernel_rfl) (.int .i64 0) (by kernel_rfl) ?_
  go_frame
  refine wl_nil ?_
  refine cn1 _ _ ?_
  clear cn1
  refine wp_seq_k fun Kn2 cn2 => ?_
  refine wp_block ?_
  refine wp_seq_k fun Kn3 cn3 => ?_
  rcases Bool.eq_false_or_eq_true ((handB h)) with hx1 | hx1
  · refine wl_region ?_
    refine wl_load (by kernel_rfl) hM 2 rfl 29 _ rfl rfl Try.underlying29 I_impl_Hand ?_
    go_frame
    refine wl_call (by kernel_rfl) 6 #[.agg (HD.cells h).toArray] (by kernel_rfl) (spec_HandOk h _) ?_
    rintro e W4 ⟨rfl, hb⟩
    refine ⟨.bool true, congrArg (fun b => Ending.returned (.bool b)) hx1, ?_⟩
    replace hM := hM.call hb
    go_frame
    refine wl_pure (by kernel_rfl) (.bool false) (by kernel_rfl) ?_
    go_frame
    refine wl_pure (by kernel_rfl) (.bool false) (by kernel_rfl) ?_
    go_frame
    refine wl_nil ?_
    refine cn3 _ _ ?_
    clear cn3
    refine wp_cond_false rfl ?_
    refine wp_seq_k fun Kn4 cn4 => ?_
    refine wl_region ?_
    refine wl_pure (by kernel_rfl) (.pointer (some ⟨g1, 0, none⟩)) (by kernel_rfl) ?_
    go_frame
    refine wl_loadc (by kernel_rfl) hM 2 rfl 2 _ rfl 0 rfl Try.underlying2 rfl rfl ?_
    go_frame
    refine wl_pure (by kernel_rfl) (.bool (h.at_ != 0)) (by kernel_rfl) ?_
    go_frame
    refine wl_pure (by kernel_rfl) (.bool (h.at_ != 0)) (by kernel_rfl) ?_
    go_frame
    refine wl_nil ?_
    refine cn4 _ _ ?_
    clear cn4
    rcases Bool.eq_false_or_eq_true ((h.at_ != 0)) with hx2 | hx2
    · rw [hx2]
      refine wp_cond_true rfl ?_
      refine wp_seq_k fun Kn5 cn5 => ?_
      refine wl_region ?_
      refine wl_load (by kernel_rfl) hM 2 rfl 29 _ rfl rfl Try.underlying29 I_impl_Hand ?_
      go_frame
      refine wl_store (by kernel_rfl) hM 0 rfl 29 _ _ rfl rfl rfl (HD.cells h) rfl I_impl_Hand rfl (hd_one' _) ?_
      clear hM; intro W5 hM; replace hM : Mem w0 W5 [(g3, 29, (HD.cells h)), (g2, 27, [.int .i64 c, .int .i64 k, .int .i64 v]), (g1, 29, (HD.cells h))] := hM
      refine wl_pure (by kernel_rfl) (.int .i64 1) (by kernel_rfl) ?_
      go_frame
      refine wl_nil ?_
      refine cn5 _ _ ?_
      clear cn5
      refine wp_ret ?_
      simp only [Exit.then, Exit.inBlock]
      have hR : calledR h c k v = (h, 1) := by simp [calledR, restH, askH, hx1, hx2]
      rw [hR]
      exact bodyPost_ret (ret_two (p := 4) (u := 5) (v := .int .i64 1) rfl hM 0 rfl rfl rfl Try.underlying29 I_impl_Hand) rfl ⟨rfl, hM.below⟩
    · rw [hx2]
      refine wp_cond_false rfl ?_
      refine wp_seq_k fun Kn5 cn5 => ?_
      rcases Bool.eq_false_or_eq_true ((callB c k v)) with hx3 | hx3
      · refine wl_region ?_
        refine wl_load (by kernel_rfl) hM 1 rfl 27 _ rfl rfl Try.underlying27 I_impl_Call ?_
        go_frame
        refine wl_call (by kernel_rfl) 16 #[.agg #[.int .i64 c, .int .i64 k, .int .i64 v]] (by kernel_rfl) (spec_CallOk c k v _) ?_
        rintro e W5 ⟨rfl, hb⟩
        refine ⟨.bool true, congrArg (fun b => Ending.returned (.bool b)) hx3, ?_⟩
        replace hM := hM.call hb
        go_frame
        refine wl_pure (by kernel_rfl) (.bool false) (by kernel_rfl) ?_
        go_frame
        refine wl_pure (by kernel_rfl) (.bool false) (by kernel_rfl) ?_
        go_frame
        refine wl_nil ?_
        refine cn5 _ _ ?_
        clear cn5
        refine wp_cond_false rfl ?_
        refine wp_skip ?_
        refine cn2 _ _ ?_
        clear cn2
        refine wp_seq_k fun Kn6 cn6 => ?_
        refine wl_region ?_
        refine wl_call (by kernel_rfl) 9 #[.int .i64 0, .int .i64 0] (by kernel_rfl) (spec_Resting 0 0 _) ?_
        rintro e W6 ⟨rfl, hb⟩
        refine ⟨_, rfl, ?_⟩
        replace hM := hM.call hb
        go_frame
        refine wl_alloc (by kernel_rfl) hM 29 rfl (HD.cells HD.zero) Z_impl_Hand ?_
        clear hM; intro g4 W7 hM
        go_frame
        refine wl_store (by kernel_rfl) hM 0 rfl 29 _ _ rfl rfl rfl (HD.cells (restH 0 0)) rfl I_impl_Hand rfl (hd_one' _) ?_
        clear hM; intro W8 hM; replace hM : Mem w0 W8 [(g4, 29, (HD.cells (restH 0 0))), (g3, 29, (HD.cells HD.zero)), (g2, 27, [.int .i64 c, .int .i64 k, .int .i64 v]), (g1, 29, (HD.cells h))] := hM
        refine wl_nil ?_
        refine cn6 _ _ ?_
        clear cn6
        refine wp_seq_k fun Kn7 cn7 => ?_
        refine wl_region ?_
        refine wl_load (by kernel_rfl) hM 2 rfl 27 _ rfl rfl Try.underlying27 I_impl_Call ?_
        go_frame
        refine wl_pure (by kernel_rfl) (.pointer (some ⟨g4, 1, none⟩)) (by kernel_rfl) ?_
        go_frame
        refine wl_storep (by kernel_rfl) hM 0 rfl 27 _ _ rfl rfl 1 rfl [.int .i64 c, .int .i64 k, .int .i64 v] rfl I_impl_Call (by simp [HD.cells]) rfl ?_
        clear hM; intro W9 hM; replace hM : Mem w0 W9 [(g4, 29, (HD.cells { (restH 0 0) with c := c, k := k, v := v })), (g3, 29, (HD.cells HD.zero)), (g2, 27, [.int .i64 c, .int .i64 k, .int .i64 v]), (g1, 29, (HD.cells h))] := hM
        refine wl_nil ?_
        refine cn7 _ _ ?_
        clear cn7
        refine wp_seq_k fun Kn8 cn8 => ?_
        refine wl_region ?_
        refine wl_pure (by kernel_rfl) (.pointer (some ⟨g4, 0, none⟩)) (by kernel_rfl) ?_
        go_frame
        refine wl_storec (by kernel_rfl) hM 0 rfl 2 _ _ rfl rfl 0 rfl (.int .i64 1) rfl rfl rfl I_int64 (by simp [HD.cells]) ?_
        clear hM; intro W10 hM; replace hM : Mem w0 W10 [(g4, 29, (HD.cells { (restH 0 0) with c := c, k := k, v := v, at_ := 1 })), (g3, 29, (HD.cells HD.zero)), (g2, 27, [.int .i64 c, .int .i64 k, .int .i64 v]), (g1, 29, (HD.cells h))] := hM
        refine wl_nil ?_
        refine cn8 _ _ ?_
        clear cn8
        refine wp_seq_k fun Kn9 cn9 => ?_
        refine wl_region ?_
        refine wl_load (by kernel_rfl) hM 0 rfl 29 _ rfl rfl Try.underlying29 I_impl_Hand ?_
        go_frame
        refine wl_store (by kernel_rfl) hM 1 rfl 29 _ _ rfl rfl rfl (HD.cells { (restH 0 0) with c := c, k := k, v := v, at_ := 1 }) rfl I_impl_Hand rfl (hd_one' _) ?_
        clear hM; intro W11 hM; replace hM : Mem w0 W11 [(g4, 29, (HD.cells { (restH 0 0) with c := c, k := k, v := v, at_ := 1 })), (g3, 29, (HD.cells { (restH 0 0) with c := c, k := k, v := v, at_ := 1 })), (g2, 27, [.int .i64 c, .int .i64 k, .int .i64 v]), (g1, 29, (HD.cells h))] := hM
        refine wl_pure (by kernel_rfl) (.int .i64 0) (by kernel_rfl) ?_
        go_frame
        refine wl_nil ?_
        refine cn9 _ _ ?_
        clear cn9
        refine wp_ret ?_
        have hR : calledR h c k v = ({ (restH 0 0) with c := c, k := k, v := v, at_ := 1 }, 0) := by simp [calledR, restH, askH, hx1, hx2, hx3]
        rw [hR]
        exact bodyPost_ret (ret_two (p := 4) (u := 5) (v := .int .i64 0) rfl hM 1 rfl rfl rfl Try.underlying29 I_impl_Hand) rfl ⟨rfl, hM.below⟩
      · refine wl_region ?_
        refine wl_load (by kernel_rfl) hM 1 rfl 27 _ rfl rfl Try.underlying27 I_impl_Call ?_
        go_frame
        refine wl_call (by kernel_rfl) 16 #[.agg #[.int .i64 c, .int .i64 k, .int .i64 v]] (by kernel_rfl) (spec_CallOk c k v _) ?_
        rintro e W5 ⟨rfl, hb⟩
        refine ⟨.bool false, congrArg (fun b => Ending.returned (.bool b)) hx3, ?_⟩
        replace hM := hM.call hb
        go_frame
        refine wl_pure (by kernel_rfl) (.bool true) (by kernel_rfl) ?_
        go_frame
        refine wl_pure (by kernel_rfl) (.bool true) (by kernel_rfl) ?_
        go_frame
        refine wl_nil ?_
        refine cn5 _ _ ?_
        clear cn5
        refine wp_cond_true rfl ?_
        refine wp_seq_k fun Kn6 cn6 => ?_
        refine wl_region ?_
        refine wl_load (by kernel_rfl) hM 2 rfl 29 _ rfl rfl Try.underlying29 I_impl_Hand ?_
        go_frame
        refine wl_store (by kernel_rfl) hM 0 rfl 29 _ _ rfl rfl rfl (HD.cells h) rfl I_impl_Hand rfl (hd_one' _) ?_
        clear hM; intro W6 hM; replace hM : Mem w0 W6 [(g3, 29, (HD.cells h)), (g2, 27, [.int .i64 c, .int .i64 k, .int .i64 v]), (g1, 29, (HD.cells h))] := hM
        refine wl_pure (by kernel_rfl) (.int .i64 2) (by kernel_rfl) ?_
        go_frame
        refine wl_nil ?_
        refine cn6 _ _ ?_
        clear cn6
        refine wp_ret ?_
        simp only [Exit.then, Exit.inBlock]
        have hR : calledR h c k v = (h, 2) := by simp [calledR, restH, askH, hx1, hx2, hx3]
        rw [hR]
        exact bodyPost_ret (ret_two (p := 4) (u := 5) (v := .int .i64 2) rfl hM 0 rfl rfl rfl Try.underlying29 I_impl_Hand) rfl ⟨rfl, hM.below⟩
  · refine wl_region ?_
    refine wl_load (by kernel_rfl) hM 2 rfl 29 _ rfl rfl Try.underlying29 I_impl_Hand ?_
    go_frame
    refine wl_call (by kernel_rfl) 6 #[.agg (HD.cells h).toArray] (by kernel_rfl) (spec_HandOk h _) ?_
    rintro e W4 ⟨rfl, hb⟩
    refine ⟨.bool false, congrArg (fun b => Ending.returned (.bool b)) hx1, ?_⟩
    replace hM := hM.call hb
    go_frame
    refine wl_pure (by kernel_rfl) (.bool true) (by kernel_rfl) ?_
    go_frame
    refine wl_pure (by kernel_rfl) (.bool true) (by kernel_rfl) ?_
    go_frame
    refine wl_nil ?_
    refine cn3 _ _ ?_
    clear cn3
    refine wp_cond_true rfl ?_
    refine wp_seq_k fun Kn4 cn4 => ?_
    refine wl_region ?_
    refine wl_pure (by kernel_rfl) (.agg (HD.cells HD.zero).toArray) (by kernel_rfl) ?_
    go_frame
    refine wl_store (by kernel_rfl) hM 0 rfl 29 _ _ rfl rfl rfl (HD.cells HD.zero) rfl I_impl_Hand rfl (hd_one' _) ?_
    clear hM; intro W5 hM; replace hM : Mem w0 W5 [(g3, 29, (HD.cells HD.zero)), (g2, 27, [.int .i64 c, .int .i64 k, .int .i64 v]), (g1, 29, (HD.cells h))] := hM
    refine wl_pure (by kernel_rfl) (.int .i64 3) (by kernel_rfl) ?_
    go_frame
    refine wl_nil ?_
    refine cn4 _ _ ?_
    clear cn4
    refine wp_ret ?_
    simp only [Exit.then, Exit.inBlock]
    have hR : calledR h c k v = (HD.zero, 3) := by simp [calledR, restH, askH, hx1]
    rw [hR]
    exact bodyPost_ret (ret_two (p := 4) (u := 5) (v := .int .i64 3) rfl hM 0 rfl rfl rfl Try.underlying29 I_impl_Hand) rfl ⟨rfl, hM.below⟩
end Go.Proofs.Ytnojlncnepfaaaa
