/- FnExactCalled: whatever the arguments are, the law answers true and leaves them as they were. No condition. -/
import Derived.Test.YtnojlncnepfaaaaLawHand
import Derived.Test.YtnojlncnepfaaaaHandImpl
import Derived.Test.YtnojlncnepfaaaaHand3
namespace Go.Proofs.Ytnojlncnepfaaaa.fnExactCalled
open Go.ChangeShapes Go.WideShapes Go.ChangeAt Go.RowKit
set_option linter.unusedVariables false
set_option linter.unusedSimpArgs false


set_option maxRecDepth 100000 in
set_option maxHeartbeats 4000000 in
theorem walk (h : HD) (c k v : Int) (w0 : World) (_ : h.Fits) (_ : In64 c ∧ In64 k ∧ In64 v) :
    Calls Try.prog 5 #[h.val, .agg #[.int .i64 c, .int .i64 k, .int .i64 v]] w0 fun e w' => e = .returned (.bool true) ∧ Below w0.heap.size w0 w' := by
  have CS := fun w => spec_Called h c k v w
  have CI := fun w => impl_Called h c k v w
  generalize calledR h c k v = R at CS CI
  obtain ⟨x, n⟩ := R
  unfold HD.val at *
  have hM := Mem.start w0
  go_enter Try.func5, Try.ntmps5
  refine wp_seq_k fun Kn1 cn1 => ?_
  refine wl_region ?_
  refine wl_box (by kernel_rfl) hM 25 _ rfl (HD.cells h) rfl ?_
  clear hM; intro g1 W1 hM
  go_frame
  refine wl_box (by kernel_rfl) hM 23 _ rfl [.int .i64 c, .int .i64 k, .int .i64 v] rfl ?_
  clear hM; intro g2 W2 hM
  go_frame
  refine wl_pure (by kernel_rfl) (.bool false) (by kernel_rfl) ?_
  go_frame
  refine wl_nil ?_
  refine cn1 _ _ ?_
  clear cn1
  refine wp_seq_k fun Kn2 cn2 => ?_
  -- region 1, drawn: one after the other
  refine wa_join (fun act W => ∃ (g3 : Nat), act = ⟨#[.agg (HD.cells h).toArray, .agg #[.int .i64 c, .int .i64 k, .int .i64 v], .pointer (some ⟨g1, 0, none⟩), .pointer (some ⟨g2, 0, none⟩), .bool false, .pointer (some ⟨g3, 0, none⟩), .int .i64 n, undef, undef, .tuple #[.agg (HD.cells x).toArray, .int .i64 n], .agg (HD.cells h).toArray, .agg (HD.cells h).toArray, .agg #[.int .i64 c, .int .i64 k, .int .i64 v], .agg #[.int .i64 c, .int .i64 k, .int .i64 v], .tuple #[.agg (HD.cells x).toArray, .int .i64 n], .agg (HD.cells x).toArray, .int .i64 n, undef, undef, undef, undef, undef, undef, undef, undef, undef, undef, undef, undef, undef, undef, undef, undef, undef], []⟩ ∧ Mem w0 W [(g3, 29, (HD.cells x)), (g2, 23, [.int .i64 c, .int .i64 k, .int .i64 v]), (g1, 25, (HD.cells h))]) ?_ ?_
  · clear hM
    rintro act W8 ⟨g3, rfl, hM⟩
    refine cn2 _ _ ?_
    clear cn2
    refine wp_seq_k fun Kn3 cn3 => ?_
    -- region 2, drawn: one after the other
    refine wa_join (fun act W => ∃ (g4 : Nat), act = ⟨#[.agg (HD.cells h).toArray, .agg #[.int .i64 c, .int .i64 k, .int .i64 v], .pointer (some ⟨g1, 0, none⟩), .pointer (some ⟨g2, 0, none⟩), .bool false, .pointer (some ⟨g3, 0, none⟩), .int .i64 n, .pointer (some ⟨g4, 0, none⟩), .int .i64 n, .tuple #[.agg (HD.cells x).toArray, .int .i64 n], .agg (HD.cells h).toArray, .agg (HD.cells h).toArray, .agg #[.int .i64 c, .int .i64 k, .int .i64 v], .agg #[.int .i64 c, .int .i64 k, .int .i64 v], .tuple #[.agg (HD.cells x).toArray, .int .i64 n], .agg (HD.cells x).toArray, .int .i64 n, .tuple #[.agg (HD.cells x).toArray, .int .i64 n], .agg (HD.cells h).toArray, .agg (HD.cells h).toArray, .agg #[.int .i64 c, .int .i64 k, .int .i64 v], .agg #[.int .i64 c, .int .i64 k, .int .i64 v], .tuple #[.agg (HD.cells x).toArray, .int .i64 n], .agg (HD.cells x).toArray, .int .i64 n, undef, undef, undef, undef, undef, undef, undef, undef, undef], []⟩ ∧ Mem w0 W [(g4, 29, (HD.cells x)), (g3, 29, (HD.cells x)), (g2, 23, [.int .i64 c, .int .i64 k, .int .i64 v]), (g1, 25, (HD.cells h))]) ?_ ?_
    · clear hM
      rintro act W14 ⟨g4, rfl, hM⟩
      refine cn3 _ _ ?_
      clear cn3
      refine wp_seq_k fun Kn4 cn4 => ?_
      refine wp_seq_k fun Kn5 cn5 => ?_
      refine wl_region ?_
      refine wl_load (by kernel_rfl) hM 0 rfl 29 _ rfl rfl Try.underlying29 I_impl_Hand ?_
      go_frame
      refine wl_load (by kernel_rfl) hM 1 rfl 29 _ rfl rfl Try.underlying29 I_impl_Hand ?_
      go_frame
      refine wl_call (by kernel_rfl) 11 #[.agg (HD.cells x).toArray, .agg (HD.cells x).toArray] (by kernel_rfl) (eqHand_self x _) ?_
      rintro e W15 ⟨rfl, hb⟩
      refine ⟨_, rfl, ?_⟩
      replace hM := hM.call hb
      go_frame
      refine wl_pure (by kernel_rfl) (.bool false) (by kernel_rfl) ?_
      go_frame
      refine wl_pure (by kernel_rfl) (.bool false) (by kernel_rfl) ?_
      go_frame
      refine wl_pure (by kernel_rfl) (.int .i64 n) (by kernel_rfl) ?_
      go_frame
      refine wl_pure (by kernel_rfl) (.int .i64 n) (by kernel_rfl) ?_
      go_frame
      refine wl_pureB (by kernel_rfl) (b := (n != n)) (by kernel_rfl) ((bne_self_eq_false _)) ?_
      go_frame
      refine wl_pure (by kernel_rfl) (.bool false) (by kernel_rfl) ?_
      go_frame
      refine wl_nil ?_
      refine cn5 _ _ ?_
      clear cn5
      refine wp_cond_false rfl ?_
      refine wp_skip ?_
      refine cn4 _ _ ?_
      clear cn4
      refine wp_seq_k fun Kn6 cn6 => ?_
      refine wl_region ?_
      refine wl_pure (by kernel_rfl) (.bool true) (by kernel_rfl) ?_
      go_frame
      refine wl_nil ?_
      refine cn6 _ _ ?_
      clear cn6
      refine wp_ret ?_
      exact bodyPost_ret (v := .bool true) (ret_tmp 4 rfl rfl) rfl ⟨rfl, hM.below⟩
    · skip
      refine wa_start (fun w => Below w0.heap.size w0 w ∧ Blk w g1 25 (HD.cells h) ∧ Blk w g2 23 [.int .i64 c, .int .i64 k, .int .i64 v]) 11 rfl (by kernel_rfl) ?_
      replace hM := hM.drew
      refine wa_take 0 (some 18) (.agg (HD.cells h).toArray) rfl rfl (by kernel_rfl) (by kernel_rfl) (by kernel_rfl) (fun _ _ _ h => h) (by kernel_rfl) (fun w hS => r_load hS.2.1 25 _ rfl rfl Try.underlying25 I_laws_Hand) ⟨hM.below, hM.blk 2 rfl, hM.blk 1 rfl⟩ ?_
      go_frame
      refine wa_take 2 (some 20) (.agg #[.int .i64 c, .int .i64 k, .int .i64 v]) rfl rfl (by kernel_rfl) (by kernel_rfl) (by kernel_rfl) (fun _ _ _ h => h) (by kernel_rfl) (fun w hS => r_load hS.2.2 23 _ rfl rfl Try.underlying23 I_laws_Call) ⟨hM.below, hM.blk 2 rfl, hM.blk 1 rfl⟩ ?_
      go_frame
      refine wa_two 1 8 (by kernel_rfl) ?_ ?_
      · refine wo_call (some 19) rfl rfl (by kernel_rfl) 7 #[.agg (HD.cells h).toArray] (by kernel_rfl) (toHand_any h _) ?_
        rintro e W9 ⟨rfl, hb⟩
        replace hM := hM.call hb
        refine ⟨_, rfl, ⟨hM.below, hM.blk 2 rfl, hM.blk 1 rfl⟩, ?_⟩
        go_frame
        refine wa_two 3 8 (by kernel_rfl) ?_ ?_
        · refine wo_call (some 21) rfl rfl (by kernel_rfl) 13 #[.agg #[.int .i64 c, .int .i64 k, .int .i64 v]] (by kernel_rfl) (toCall_any c k v _) ?_
          rintro e W10 ⟨rfl, hb⟩
          replace hM := hM.call hb
          refine ⟨_, rfl, ⟨hM.below, hM.blk 2 rfl, hM.blk 1 rfl⟩, ?_⟩
          go_frame
          refine wa_two 4 8 (by kernel_rfl) ?_ ?_
          · refine wo_call (some 22) rfl rfl (by kernel_rfl) 14 #[.agg (HD.cells h).toArray, .agg #[.int .i64 c, .int .i64 k, .int .i64 v]] (by kernel_rfl) (CI _) ?_
            rintro e W11 ⟨rfl, hb⟩
            replace hM := hM.call hb
            refine ⟨_, rfl, ⟨hM.below, hM.blk 2 rfl, hM.blk 1 rfl⟩, ?_⟩
            go_frame
            refine wa_take 5 (some 17) (.tuple #[.agg (HD.cells x).toArray, .int .i64 n]) rfl rfl (by kernel_rfl) (by kernel_rfl) (by kernel_rfl) (fun _ _ _ h => h) (by kernel_rfl) (fun w hS => by kernel_rfl) ⟨hM.below, hM.blk 2 rfl, hM.blk 1 rfl⟩ ?_
            go_frame
            refine wa_take 6 (some 23) (.agg (HD.cells x).toArray) rfl rfl (by kernel_rfl) (by kernel_rfl) (by kernel_rfl) (fun _ _ _ h => h) (by kernel_rfl) (fun w hS => by kernel_rfl) ⟨hM.below, hM.blk 2 rfl, hM.blk 1 rfl⟩ ?_
            go_frame
            refine wa_take 7 (some 24) (.int .i64 n) rfl rfl (by kernel_rfl) (by kernel_rfl) (by kernel_rfl) (fun _ _ _ h => h) (by kernel_rfl) (fun w hS => by kernel_rfl) ⟨hM.below, hM.blk 2 rfl, hM.blk 1 rfl⟩ ?_
            go_frame
            refine wa_one 8 (by kernel_rfl) ?_
            refine wo_alloc (some 7) rfl rfl (by kernel_rfl) hM 29 rfl (HD.cells HD.zero) Z_impl_Hand ?_
            clear hM; intro g4 W12 hM
            refine ⟨⟨hM.below, hM.blk 3 rfl, hM.blk 2 rfl⟩, ?_⟩
            go_frame
            refine wa_one 9 (by kernel_rfl) ?_
            refine wo_store rfl (by kernel_rfl) hM 0 rfl 29 _ _ rfl rfl (by kernel_rfl) (HD.cells x) (by kernel_rfl) I_impl_Hand rfl (hd_one' _) ?_
            clear hM; intro W13 hM; replace hM : Mem w0 W13 [(g4, 29, (HD.cells x)), (g3, 29, (HD.cells x)), (g2, 23, [.int .i64 c, .int .i64 k, .int .i64 v]), (g1, 25, (HD.cells h))] := hM
            refine ⟨⟨hM.below, hM.blk 3 rfl, hM.blk 2 rfl⟩, ?_⟩
            refine wa_take 10 (some 8) (.int .i64 n) rfl rfl (by kernel_rfl) (by kernel_rfl) (by kernel_rfl) (fun _ _ _ h => h) (by kernel_rfl) (fun w hS => by kernel_rfl) ⟨hM.below, hM.blk 3 rfl, hM.blk 2 rfl⟩ ?_
            go_frame
            refine wa_doneJ (by kernel_rfl) ?_
            exact ⟨g4, rfl, hM⟩
          · refine wo_alloc (some 7) rfl rfl (by kernel_rfl) hM 29 rfl (HD.cells HD.zero) Z_impl_Hand ?_
            clear hM; intro g4 W11 hM
            refine ⟨⟨hM.below, hM.blk 3 rfl, hM.blk 2 rfl⟩, ?_⟩
            go_frame
            refine wa_one 4 (by kernel_rfl) ?_
            refine wo_call (some 22) rfl rfl (by kernel_rfl) 14 #[.agg (HD.cells h).toArray, .agg #[.int .i64 c, .int .i64 k, .int .i64 v]] (by kernel_rfl) (CI _) ?_
            rintro e W12 ⟨rfl, hb⟩
            replace hM := hM.call hb
            refine ⟨_, rfl, ⟨hM.below, hM.blk 3 rfl, hM.blk 2 rfl⟩, ?_⟩
            go_frame
            refine wa_take 5 (some 17) (.tuple #[.agg (HD.cells x).toArray, .int .i64 n]) rfl rfl (by kernel_rfl) (by kernel_rfl) (by kernel_rfl) (fun _ _ _ h => h) (by kernel_rfl) (fun w hS => by kernel_rfl) ⟨hM.below, hM.blk 3 rfl, hM.blk 2 rfl⟩ ?_
            go_frame
            refine wa_take 6 (some 23) (.agg (HD.cells x).toArray) rfl rfl (by kernel_rfl) (by kernel_rfl) (by kernel_rfl) (fun _ _ _ h => h) (by kernel_rfl) (fun w hS => by kernel_rfl) ⟨hM.below, hM.blk 3 rfl, hM.blk 2 rfl⟩ ?_
            go_frame
            refine wa_take 7 (some 24) (.int .i64 n) rfl rfl (by kernel_rfl) (by kernel_rfl) (by kernel_rfl) (fun _ _ _ h => h) (by kernel_rfl) (fun w hS => by kernel_rfl) ⟨hM.below, hM.blk 3 rfl, hM.blk 2 rfl⟩ ?_
            go_frame
            refine wa_one 9 (by kernel_rfl) ?_
            refine wo_store rfl (by kernel_rfl) hM 0 rfl 29 _ _ rfl rfl (by kernel_rfl) (HD.cells x) (by kernel_rfl) I_impl_Hand rfl (hd_one' _) ?_
            clear hM; intro W13 hM; replace hM : Mem w0 W13 [(g4, 29, (HD.cells x)), (g3, 29, (HD.cells x)), (g2, 23, [.int .i64 c, .int .i64 k, .int .i64 v]), (g1, 25, (HD.cells h))] := hM
            refine ⟨⟨hM.below, hM.blk 3 rfl, hM.blk 2 rfl⟩, ?_⟩
            refine wa_take 10 (some 8) (.int .i64 n) rfl rfl (by kernel_rfl) (by kernel_rfl) (by kernel_rfl) (fun _ _ _ h => h) (by kernel_rfl) (fun w hS => by kernel_rfl) ⟨hM.below, hM.blk 3 rfl, hM.blk 2 rfl⟩ ?_
            go_frame
            refine wa_doneJ (by kernel_rfl) ?_
            exact ⟨g4, rfl, hM⟩
        · refine wo_alloc (some 7) rfl rfl (by kernel_rfl) hM 29 rfl (HD.cells HD.zero) Z_impl_Hand ?_
          clear hM; intro g4 W10 hM
          refine ⟨⟨hM.below, hM.blk 3 rfl, hM.blk 2 rfl⟩, ?_⟩
          go_frame
          refine wa_one 3 (by kernel_rfl) ?_
          refine wo_call (some 21) rfl rfl (by kernel_rfl) 13 #[.agg #[.int .i64 c, .int .i64 k, .int .i64 v]] (by kernel_rfl) (toCall_any c k v _) ?_
          rintro e W11 ⟨rfl, hb⟩
          replace hM := hM.call hb
          refine ⟨_, rfl, ⟨hM.below, hM.blk 3 rfl, hM.blk 2 rfl⟩, ?_⟩
          go_frame
          refine wa_one 4 (by kernel_rfl) ?_
          refine wo_call (some 22) rfl rfl (by kernel_rfl) 14 #[.agg (HD.cells h).toArray, .agg #[.int .i64 c, .int .i64 k, .int .i64 v]] (by kernel_rfl) (CI _) ?_
          rintro e W12 ⟨rfl, hb⟩
          replace hM := hM.call hb
          refine ⟨_, rfl, ⟨hM.below, hM.blk 3 rfl, hM.blk 2 rfl⟩, ?_⟩
          go_frame
          refine wa_take 5 (some 17) (.tuple #[.agg (HD.cells x).toArray, .int .i64 n]) rfl rfl (by kernel_rfl) (by kernel_rfl) (by kernel_rfl) (fun _ _ _ h => h) (by kernel_rfl) (fun w hS => by kernel_rfl) ⟨hM.below, hM.blk 3 rfl, hM.blk 2 rfl⟩ ?_
          go_frame
          refine wa_take 6 (some 23) (.agg (HD.cells x).toArray) rfl rfl (by kernel_rfl) (by kernel_rfl) (by kernel_rfl) (fun _ _ _ h => h) (by kernel_rfl) (fun w hS => by kernel_rfl) ⟨hM.below, hM.blk 3 rfl, hM.blk 2 rfl⟩ ?_
          go_frame
          refine wa_take 7 (some 24) (.int .i64 n) rfl rfl (by kernel_rfl) (by kernel_rfl) (by kernel_rfl) (fun _ _ _ h => h) (by kernel_rfl) (fun w hS => by kernel_rfl) ⟨hM.below, hM.blk 3 rfl, hM.blk 2 rfl⟩ ?_
          go_frame
          refine wa_one 9 (by kernel_rfl) ?_
          refine wo_store rfl (by kernel_rfl) hM 0 rfl 29 _ _ rfl rfl (by kernel_rfl) (HD.cells x) (by kernel_rfl) I_impl_Hand rfl (hd_one' _) ?_
          clear hM; intro W13 hM; replace hM : Mem w0 W13 [(g4, 29, (HD.cells x)), (g3, 29, (HD.cells x)), (g2, 23, [.int .i64 c, .int .i64 k, .int .i64 v]), (g1, 25, (HD.cells h))] := hM
          refine ⟨⟨hM.below, hM.blk 3 rfl, hM.blk 2 rfl⟩, ?_⟩
          refine wa_take 10 (some 8) (.int .i64 n) rfl rfl (by kernel_rfl) (by kernel_rfl) (by kernel_rfl) (fun _ _ _ h => h) (by kernel_rfl) (fun w hS => by kernel_rfl) ⟨hM.below, hM.blk 3 rfl, hM.blk 2 rfl⟩ ?_
          go_frame
          refine wa_doneJ (by kernel_rfl) ?_
          exact ⟨g4, rfl, hM⟩
      · refine wo_alloc (some 7) rfl rfl (by kernel_rfl) hM 29 rfl (HD.cells HD.zero) Z_impl_Hand ?_
        clear hM; intro g4 W9 hM
        refine ⟨⟨hM.below, hM.blk 3 rfl, hM.blk 2 rfl⟩, ?_⟩
        go_frame
        refine wa_one 1 (by kernel_rfl) ?_
        refine wo_call (some 19) rfl rfl (by kernel_rfl) 7 #[.agg (HD.cells h).toArray] (by kernel_rfl) (toHand_any h _) ?_
        rintro e W10 ⟨rfl, hb⟩
        replace hM := hM.call hb
        refine ⟨_, rfl, ⟨hM.below, hM.blk 3 rfl, hM.blk 2 rfl⟩, ?_⟩
        go_frame
        refine wa_one 3 (by kernel_rfl) ?_
        refine wo_call (some 21) rfl rfl (by kernel_rfl) 13 #[.agg #[.int .i64 c, .int .i64 k, .int .i64 v]] (by kernel_rfl) (toCall_any c k v _) ?_
        rintro e W11 ⟨rfl, hb⟩
        replace hM := hM.call hb
        refine ⟨_, rfl, ⟨hM.below, hM.blk 3 rfl, hM.blk 2 rfl⟩, ?_⟩
        go_frame
        refine wa_one 4 (by kernel_rfl) ?_
        refine wo_call (some 22) rfl rfl (by kernel_rfl) 14 #[.agg (HD.cells h).toArray, .agg #[.int .i64 c, .int .i64 k, .int .i64 v]] (by kernel_rfl) (CI _) ?_
        rintro e W12 ⟨rfl, hb⟩
        replace hM := hM.call hb
        refine ⟨_, rfl, ⟨hM.below, hM.blk 3 rfl, hM.blk 2 rfl⟩, ?_⟩
        go_frame
        refine wa_take 5 (some 17) (.tuple #[.agg (HD.cells x).toArray, .int .i64 n]) rfl rfl (by kernel_rfl) (by kernel_rfl) (by kernel_rfl) (fun _ _ _ h => h) (by kernel_rfl) (fun w hS => by kernel_rfl) ⟨hM.below, hM.blk 3 rfl, hM.blk 2 rfl⟩ ?_
        go_frame
        refine wa_take 6 (some 23) (.agg (HD.cells x).toArray) rfl rfl (by kernel_rfl) (by kernel_rfl) (by kernel_rfl) (fun _ _ _ h => h) (by kernel_rfl) (fun w hS => by kernel_rfl) ⟨hM.below, hM.blk 3 rfl, hM.blk 2 rfl⟩ ?_
        go_frame
        refine wa_take 7 (some 24) (.int .i64 n) rfl rfl (by kernel_rfl) (by kernel_rfl) (by kernel_rfl) (fun _ _ _ h => h) (by kernel_rfl) (fun w hS => by kernel_rfl) ⟨hM.below, hM.blk 3 rfl, hM.blk 2 rfl⟩ ?_
        go_frame
        refine wa_one 9 (by kernel_rfl) ?_
        refine wo_store rfl (by kernel_rfl) hM 0 rfl 29 _ _ rfl rfl (by kernel_rfl) (HD.cells x) (by kernel_rfl) I_impl_Hand rfl (hd_one' _) ?_
        clear hM; intro W13 hM; replace hM : Mem w0 W13 [(g4, 29, (HD.cells x)), (g3, 29, (HD.cells x)), (g2, 23, [.int .i64 c, .int .i64 k, .int .i64 v]), (g1, 25, (HD.cells h))] := hM
        refine ⟨⟨hM.below, hM.blk 3 rfl, hM.blk 2 rfl⟩, ?_⟩
        refine wa_take 10 (some 8) (.int .i64 n) rfl rfl (by kernel_rfl) (by kernel_rfl) (by kernel_rfl) (fun _ _ _ h => h) (by kernel_rfl) (fun w hS => by kernel_rfl) ⟨hM.below, hM.blk 3 rfl, hM.blk 2 rfl⟩ ?_
        go_frame
        refine wa_doneJ (by kernel_rfl) ?_
        exact ⟨g4, rfl, hM⟩
  · skip
    refine wa_start (fun w => Below w0.heap.size w0 w ∧ Blk w g1 25 (HD.cells h) ∧ Blk w g2 23 [.int .i64 c, .int .i64 k, .int .i64 v]) 11 rfl (by kernel_rfl) ?_
    replace hM := hM.drew
    refine wa_take 0 (some 10) (.agg (HD.cells h).toArray) rfl rfl (by kernel_rfl) (by kernel_rfl) (by kernel_rfl) (fun _ _ _ h => h) (by kernel_rfl) (fun w hS => r_load hS.2.1 25 _ rfl rfl Try.underlying25 I_laws_Hand) ⟨hM.below, hM.blk 1 rfl, hM.blk 0 rfl⟩ ?_
    go_frame
    refine wa_take 2 (some 12) (.agg #[.int .i64 c, .int .i64 k, .int .i64 v]) rfl rfl (by kernel_rfl) (by kernel_rfl) (by kernel_rfl) (fun _ _ _ h => h) (by kernel_rfl) (fun w hS => r_load hS.2.2 23 _ rfl rfl Try.underlying23 I_laws_Call) ⟨hM.below, hM.blk 1 rfl, hM.blk 0 rfl⟩ ?_
    go_frame
    refine wa_two 1 8 (by kernel_rfl) ?_ ?_
    · refine wo_call (some 11) rfl rfl (by kernel_rfl) 7 #[.agg (HD.cells h).toArray] (by kernel_rfl) (toHand_any h _) ?_
      rintro e W3 ⟨rfl, hb⟩
      replace hM := hM.call hb
      refine ⟨_, rfl, ⟨hM.below, hM.blk 1 rfl, hM.blk 0 rfl⟩, ?_⟩
      go_frame
      refine wa_two 3 8 (by kernel_rfl) ?_ ?_
      · refine wo_call (some 13) rfl rfl (by kernel_rfl) 13 #[.agg #[.int .i64 c, .int .i64 k, .int .i64 v]] (by kernel_rfl) (toCall_any c k v _) ?_
        rintro e W4 ⟨rfl, hb⟩
        replace hM := hM.call hb
        refine ⟨_, rfl, ⟨hM.below, hM.blk 1 rfl, hM.blk 0 rfl⟩, ?_⟩
        go_frame
        refine wa_two 4 8 (by kernel_rfl) ?_ ?_
        · refine wo_call (some 14) rfl rfl (by kernel_rfl) 12 #[.agg (HD.cells h).toArray, .agg #[.int .i64 c, .int .i64 k, .int .i64 v]] (by kernel_rfl) (CS _) ?_
          rintro e W5 ⟨rfl, hb⟩
          replace hM := hM.call hb
          refine ⟨_, rfl, ⟨hM.below, hM.blk 1 rfl, hM.blk 0 rfl⟩, ?_⟩
          go_frame
          refine wa_take 5 (some 9) (.tuple #[.agg (HD.cells x).toArray, .int .i64 n]) rfl rfl (by kernel_rfl) (by kernel_rfl) (by kernel_rfl) (fun _ _ _ h => h) (by kernel_rfl) (fun w hS => by kernel_rfl) ⟨hM.below, hM.blk 1 rfl, hM.blk 0 rfl⟩ ?_
          go_frame
          refine wa_take 6 (some 15) (.agg (HD.cells x).toArray) rfl rfl (by kernel_rfl) (by kernel_rfl) (by kernel_rfl) (fun _ _ _ h => h) (by kernel_rfl) (fun w hS => by kernel_rfl) ⟨hM.below, hM.blk 1 rfl, hM.blk 0 rfl⟩ ?_
          go_frame
          refine wa_take 7 (some 16) (.int .i64 n) rfl rfl (by kernel_rfl) (by kernel_rfl) (by kernel_rfl) (fun _ _ _ h => h) (by kernel_rfl) (fun w hS => by kernel_rfl) ⟨hM.below, hM.blk 1 rfl, hM.blk 0 rfl⟩ ?_
          go_frame
          refine wa_one 8 (by kernel_rfl) ?_
          refine wo_alloc (some 5) rfl rfl (by kernel_rfl) hM 29 rfl (HD.cells HD.zero) Z_impl_Hand ?_
          clear hM; intro g3 W6 hM
          refine ⟨⟨hM.below, hM.blk 2 rfl, hM.blk 1 rfl⟩, ?_⟩
          go_frame
          refine wa_one 9 (by kernel_rfl) ?_
          refine wo_store rfl (by kernel_rfl) hM 0 rfl 29 _ _ rfl rfl (by kernel_rfl) (HD.cells x) (by kernel_rfl) I_impl_Hand rfl (hd_one' _) ?_
          clear hM; intro W7 hM; replace hM : Mem w0 W7 [(g3, 29, (HD.cells x)), (g2, 23, [.int .i64 c, .int .i64 k, .int .i64 v]), (g1, 25, (HD.cells h))] := hM
          refine ⟨⟨hM.below, hM.blk 2 rfl, hM.blk 1 rfl⟩, ?_⟩
          refine wa_take 10 (some 6) (.int .i64 n) rfl rfl (by kernel_rfl) (by kernel_rfl) (by kernel_rfl) (fun _ _ _ h => h) (by kernel_rfl) (fun w hS => by kernel_rfl) ⟨hM.below, hM.blk 2 rfl, hM.blk 1 rfl⟩ ?_
          go_frame
          refine wa_doneJ (by kernel_rfl) ?_
          exact ⟨g3, rfl, hM⟩
        · refine wo_alloc (some 5) rfl rfl (by kernel_rfl) hM 29 rfl (HD.cells HD.zero) Z_impl_Hand ?_
          clear hM; intro g3 W5 hM
          refine ⟨⟨hM.below, hM.blk 2 rfl, hM.blk 1 rfl⟩, ?_⟩
          go_frame
          refine wa_one 4 (by kernel_rfl) ?_
          refine wo_call (some 14) rfl rfl (by kernel_rfl) 12 #[.agg (HD.cells h).toArray, .agg #[.int .i64 c, .int .i64 k, .int .i64 v]] (by kernel_rfl) (CS _) ?_
          rintro e W6 ⟨rfl, hb⟩
          replace hM := hM.call hb
          refine ⟨_, rfl, ⟨hM.below, hM.blk 2 rfl, hM.blk 1 rfl⟩, ?_⟩
          go_frame
          refine wa_take 5 (some 9) (.tuple #[.agg (HD.cells x).toArray, .int .i64 n]) rfl rfl (by kernel_rfl) (by kernel_rfl) (by kernel_rfl) (fun _ _ _ h => h) (by kernel_rfl) (fun w hS => by kernel_rfl) ⟨hM.below, hM.blk 2 rfl, hM.blk 1 rfl⟩ ?_
          go_frame
          refine wa_take 6 (some 15) (.agg (HD.cells x).toArray) rfl rfl (by kernel_rfl) (by kernel_rfl) (by kernel_rfl) (fun _ _ _ h => h) (by kernel_rfl) (fun w hS => by kernel_rfl) ⟨hM.below, hM.blk 2 rfl, hM.blk 1 rfl⟩ ?_
          go_frame
          refine wa_take 7 (some 16) (.int .i64 n) rfl rfl (by kernel_rfl) (by kernel_rfl) (by kernel_rfl) (fun _ _ _ h => h) (by kernel_rfl) (fun w hS => by kernel_rfl) ⟨hM.below, hM.blk 2 rfl, hM.blk 1 rfl⟩ ?_
          go_frame
          refine wa_one 9 (by kernel_rfl) ?_
          refine wo_store rfl (by kernel_rfl) hM 0 rfl 29 _ _ rfl rfl (by kernel_rfl) (HD.cells x) (by kernel_rfl) I_impl_Hand rfl (hd_one' _) ?_
          clear hM; intro W7 hM; replace hM : Mem w0 W7 [(g3, 29, (HD.cells x)), (g2, 23, [.int .i64 c, .int .i64 k, .int .i64 v]), (g1, 25, (HD.cells h))] := hM
          refine ⟨⟨hM.below, hM.blk 2 rfl, hM.blk 1 rfl⟩, ?_⟩
          refine wa_take 10 (some 6) (.int .i64 n) rfl rfl (by kernel_rfl) (by kernel_rfl) (by kernel_rfl) (fun _ _ _ h => h) (by kernel_rfl) (fun w hS => by kernel_rfl) ⟨hM.below, hM.blk 2 rfl, hM.blk 1 rfl⟩ ?_
          go_frame
          refine wa_doneJ (by kernel_rfl) ?_
          exact ⟨g3, rfl, hM⟩
      · refine wo_alloc (some 5) rfl rfl (by kernel_rfl) hM 29 rfl (HD.cells HD.zero) Z_impl_Hand ?_
        clear hM; intro g3 W4 hM
        refine ⟨⟨hM.below, hM.blk 2 rfl, hM.blk 1 rfl⟩, ?_⟩
        go_frame
        refine wa_one 3 (by kernel_rfl) ?_
        refine wo_call (some 13) rfl rfl (by kernel_rfl) 13 #[.agg #[.int .i64 c, .int .i64 k, .int .i64 v]] (by kernel_rfl) (toCall_any c k v _) ?_
        rintro e W5 ⟨rfl, hb⟩
        replace hM := hM.call hb
        refine ⟨_, rfl, ⟨hM.below, hM.blk 2 rfl, hM.blk 1 rfl⟩, ?_⟩
        go_frame
        refine wa_one 4 (by kernel_rfl) ?_
        refine wo_call (some 14) rfl rfl (by kernel_rfl) 12 #[.agg (HD.cells h).toArray, .agg #[.int .i64 c, .int .i64 k, .int .i64 v]] (by kernel_rfl) (CS _) ?_
        rintro e W6 ⟨rfl, hb⟩
        replace hM := hM.call hb
        refine ⟨_, rfl, ⟨hM.below, hM.blk 2 rfl, hM.blk 1 rfl⟩, ?_⟩
        go_frame
        refine wa_take 5 (some 9) (.tuple #[.agg (HD.cells x).toArray, .int .i64 n]) rfl rfl (by kernel_rfl) (by kernel_rfl) (by kernel_rfl) (fun _ _ _ h => h) (by kernel_rfl) (fun w hS => by kernel_rfl) ⟨hM.below, hM.blk 2 rfl, hM.blk 1 rfl⟩ ?_
        go_frame
        refine wa_take 6 (some 15) (.agg (HD.cells x).toArray) rfl rfl (by kernel_rfl) (by kernel_rfl) (by kernel_rfl) (fun _ _ _ h => h) (by kernel_rfl) (fun w hS => by kernel_rfl) ⟨hM.below, hM.blk 2 rfl, hM.blk 1 rfl⟩ ?_
        go_frame
        refine wa_take 7 (some 16) (.int .i64 n) rfl rfl (by kernel_rfl) (by kernel_rfl) (by kernel_rfl) (fun _ _ _ h => h) (by kernel_rfl) (fun w hS => by kernel_rfl) ⟨hM.below, hM.blk 2 rfl, hM.blk 1 rfl⟩ ?_
        go_frame
        refine wa_one 9 (by kernel_rfl) ?_
        refine wo_store rfl (by kernel_rfl) hM 0 rfl 29 _ _ rfl rfl (by kernel_rfl) (HD.cells x) (by kernel_rfl) I_impl_Hand rfl (hd_one' _) ?_
        clear hM; intro W7 hM; replace hM : Mem w0 W7 [(g3, 29, (HD.cells x)), (g2, 23, [.int .i64 c, .int .i64 k, .int .i64 v]), (g1, 25, (HD.cells h))] := hM
        refine ⟨⟨hM.below, hM.blk 2 rfl, hM.blk 1 rfl⟩, ?_⟩
        refine wa_take 10 (some 6) (.int .i64 n) rfl rfl (by kernel_rfl) (by kernel_rfl) (by kernel_rfl) (fun _ _ _ h => h) (by kernel_rfl) (fun w hS => by kernel_rfl) ⟨hM.below, hM.blk 2 rfl, hM.blk 1 rfl⟩ ?_
        go_frame
        refine wa_doneJ (by kernel_rfl) ?_
        exact ⟨g3, rfl, hM⟩
    · refine wo_alloc (some 5) rfl rfl (by kernel_rfl) hM 29 rfl (HD.cells HD.zero) Z_impl_Hand ?_
      clear hM; intro g3 W3 hM
      refine ⟨⟨hM.below, hM.blk 2 rfl, hM.blk 1 rfl⟩, ?_⟩
      go_frame
      refine wa_one 1 (by kernel_rfl) ?_
      refine wo_call (some 11) rfl rfl (by kernel_rfl) 7 #[.agg (HD.cells h).toArray] (by kernel_rfl) (toHand_any h _) ?_
      rintro e W4 ⟨rfl, hb⟩
      replace hM := hM.call hb
      refine ⟨_, rfl, ⟨hM.below, hM.blk 2 rfl, hM.blk 1 rfl⟩, ?_⟩
      go_frame
      refine wa_one 3 (by kernel_rfl) ?_
      refine wo_call (some 13) rfl rfl (by kernel_rfl) 13 #[.agg #[.int .i64 c, .int .i64 k, .int .i64 v]] (by kernel_rfl) (toCall_any c k v _) ?_
      rintro e W5 ⟨rfl, hb⟩
      replace hM := hM.call hb
      refine ⟨_, rfl, ⟨hM.below, hM.blk 2 rfl, hM.blk 1 rfl⟩, ?_⟩
      go_frame
      refine wa_one 4 (by kernel_rfl) ?_
      refine wo_call (some 14) rfl rfl (by kernel_rfl) 12 #[.agg (HD.cells h).toArray, .agg #[.int .i64 c, .int .i64 k, .int .i64 v]] (by kernel_rfl) (CS _) ?_
      rintro e W6 ⟨rfl, hb⟩
      replace hM := hM.call hb
      refine ⟨_, rfl, ⟨hM.below, hM.blk 2 rfl, hM.blk 1 rfl⟩, ?_⟩
      go_frame
      refine wa_take 5 (some 9) (.tuple #[.agg (HD.cells x).toArray, .int .i64 n]) rfl rfl (by kernel_rfl) (by kernel_rfl) (by kernel_rfl) (fun _ _ _ h => h) (by kernel_rfl) (fun w hS => by kernel_rfl) ⟨hM.below, hM.blk 2 rfl, hM.blk 1 rfl⟩ ?_
      go_frame
      refine wa_take 6 (some 15) (.agg (HD.cells x).toArray) rfl rfl (by kernel_rfl) (by kernel_rfl) (by kernel_rfl) (fun _ _ _ h => h) (by kernel_rfl) (fun w hS => by kernel_rfl) ⟨hM.below, hM.blk 2 rfl, hM.blk 1 rfl⟩ ?_
      go_frame
      refine wa_take 7 (some 16) (.int .i64 n) rfl rfl (by kernel_rfl) (by kernel_rfl) (by kernel_rfl) (fun _ _ _ h => h) (by kernel_rfl) (fun w hS => by kernel_rfl) ⟨hM.below, hM.blk 2 rfl, hM.blk 1 rfl⟩ ?_
      go_frame
      refine wa_one 9 (by kernel_rfl) ?_
      refine wo_store rfl (by kernel_rfl) hM 0 rfl 29 _ _ rfl rfl (by kernel_rfl) (HD.cells x) (by kernel_rfl) I_impl_Hand rfl (hd_one' _) ?_
      clear hM; intro W7 hM; replace hM : Mem w0 W7 [(g3, 29, (HD.cells x)), (g2, 23, [.int .i64 c, .int .i64 k, .int .i64 v]), (g1, 25, (HD.cells h))] := hM
      refine ⟨⟨hM.below, hM.blk 2 rfl, hM.blk 1 rfl⟩, ?_⟩
      refine wa_take 10 (some 6) (.int .i64 n) rfl rfl (by kernel_rfl) (by kernel_rfl) (by kernel_rfl) (fun _ _ _ h => h) (by kernel_rfl) (fun w hS => by kernel_rfl) ⟨hM.below, hM.blk 2 rfl, hM.blk 1 rfl⟩ ?_
      go_frame
      refine wa_doneJ (by kernel_rfl) ?_
      exact ⟨g3, rfl, hM⟩

set_option maxRecDepth 100000 in
theorem lifted (os : Os) (started : os.Started) (H : Type) (enc : TypeId × Value → H) :
    ReturnsInHanded {} Try.checked os 5 .any (Rows.fnExactCalledSpec.pre6 enc Try.prog Try.f5 Rows.fnExactCalledRow.domain false) (Rows.fnExactCalledSpec.post enc Try.prog Try.f5 false true false false) := by
  refine returnsInHanded_of_change (C := Try.checked) own started (by kernel_rfl) Try.func5
    (ChangeSpec.witness6 (enc := enc) (C := Try.checked) false ⟨#[], #[.agg #[.int .i64 0, .int .i64 0, .int .i64 0, .int .i64 0, .int .i64 0, .int .i64 0, .int .i64 0, .int .i64 0, .int .i64 0, .int .i64 0, .int .i64 0, .int .i64 0, .int .i64 0, .bool false, .int .i64 0, .int .i64 0, .int .i64 0], .agg #[.int .i64 0, .int .i64 0, .int .i64 0]], []⟩ 8 (by kernel_rfl) (by kernel_rfl) (by kernel_rfl) (by kernel_rfl)) ?_
  intro W base args ds gs before hval0 hW hcnd _
  have hval : ∀ (j : Nat) t v, Try.f5.params[j]? = some t → args[j]? = some v → Value.okWide Try.prog W .any base t v := hval0
  have hW' := hW
  obtain ⟨p, q, hA0, hV, rfl, hfz, hnd⟩ := hW
  have hA : DataW.TrodAll enc Try.prog W 0 (fun _ => true) true Try.f5.params.toList args.toList ds p := hA0
  rw [Try.params5] at hA hval
  obtain ⟨v0, vs0, d0, ds0, p0, q0, hargs, rfl, rfl, h0, r0⟩ := trodAll_cons hA
  obtain ⟨v1, vs1, d1, ds1, p1, q1, rfl, rfl, rfl, h1, r1⟩ := trodAll_cons r0
  obtain ⟨rfl, rfl, rfl⟩ := trodAll_nil r1
  obtain rfl : args = #[v0, v1] := by cases args; simp_all
  obtain ⟨rfl, rfl⟩ := trodVars_none hV
  have k0 := h0
  have lt0 : ∀ x ∈ p0, x.block < W.heap.size := by obtain ⟨m, hm⟩ := k0; exact DataW.trod_lt m _ _ _ hm
  obtain ⟨h_0, rfl, bd0⟩ := open_hand (hval 0 25 v0 rfl rfl) h0
  have k1 := h1
  have lt1 : ∀ x ∈ p1, x.block < W.heap.size := by obtain ⟨m, hm⟩ := k1; exact DataW.trod_lt m _ _ _ hm
  obtain ⟨c_1, k_1, y_1, rfl, bd1⟩ := open_call (hval 1 23 v1 rfl rfl) h1
  clear hA0 hval0
  refine (walk h_0 c_1 k_1 y_1 W bd0 bd1).mono fun e W' ⟨he, bel⟩ => ?_
  subst he
  exact ⟨_, rfl, _, _, _, [], _, [], hW', trodAll_mk1 (shut_bool Try.underlying4 _), (trodAll_cons_mk (Below.trod laidOut (by kernel_rfl) (of_decide_eq_true (by kernel_rfl)) k0 bel lt0) (trodAll_cons_mk (Below.trod laidOut (by kernel_rfl) (of_decide_eq_true (by kernel_rfl)) k1 bel lt1) trodAll_mk0)), rfl, bel.frame _, fun h => by cases h⟩

theorem over : Rows.fnExactCalledRow.holds Try.pinned (OpenSpec.ofChange Rows.fnExactCalledSpec) :=
  OpenClaim.holds_of_wide 5 Try.f5 rfl rfl rfl rfl rfl rfl rfl ⟨rfl, rfl, rfl, rfl, rfl⟩ rfl rfl rfl rfl rfl (by kernel_rfl) Try.func5 (by kernel_rfl)
    (of_decide_eq_true (by kernel_rfl)) (by unfold Func.isWrapper; rw [if_neg (of_decide_eq_false (by kernel_rfl))]; exact ⟨rfl, rfl⟩)
    (fun os started H enc _ => lifted os started H enc)

theorem proved : Rows.FnExactCalledSaid := over
end Go.Proofs.Ytnojlncnepfaaaa.fnExactCalled
