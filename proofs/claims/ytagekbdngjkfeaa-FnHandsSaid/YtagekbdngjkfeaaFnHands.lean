/- FnHands: whatever the arguments are, the law answers true and leaves them as they were. No condition. -/
import Derived.Test.YtagekbdngjkfeaaShort
import Derived.Test.YtagekbdngjkfeaaShort2
import Derived.Test.YtagekbdngjkfeaaOpenB
import Derived.Test.YtagekbdngjkfeaaDrawHand
import Derived.Test.YtagekbdngjkfeaaHandImpl
namespace Go.Proofs.Ytagekbdngjkfeaa.fnHands
open Go.ChangeShapes Go.WideShapes Go.ChangeAt Go.RowKit
set_option linter.unusedVariables false
set_option maxRecDepth 100000
set_option maxHeartbeats 16000000
set_option linter.unusedSimpArgs false

theorem bts_later {w w1 : World} {v : Value} {l : List Int} (h : Bts w.heap.size w v l) (hb : Below w.heap.size w w1) : Bts w1.heap.size w1 v l := by
  have h1 := h.below hb
  exact ⟨h1.1, h1.2.1, fun hn g hg => Nat.lt_of_lt_of_le (h1.2.2 hn g hg) hb.size⟩
theorem called_done {h : HD} {c k v : Int} (hk : ((calledR h c k v).2 == 0) = true) : ((calledR (calledR h c k v).1 c k v).2 == 1) = true ∧ handB (calledR h c k v).1 = true ∧ ((calledR h c k v).1.at_ == 1) = true ∧ clEq (calledR h c k v).1.c (calledR h c k v).1.k (calledR h c k v).1.v c k v = true := by
  have e : calledR h c k v = (askH c k v, 0) ∧ callB c k v = true := by
    unfold calledR at hk ⊢
    split at hk
    · simp at hk
    · rename_i h1
      rw [if_neg h1]
      split at hk
      · simp at hk
      · rename_i h2
        rw [if_neg h2]
        split at hk
        · simp at hk
        · rename_i h3
          rw [if_neg h3]
          exact ⟨rfl, by simpa using h3⟩
  have hb : handB (askH c k v) = true := by simp [handB, headB, handL, five, askH, e.2, inB]
  rw [e.1]
  refine ⟨?_, hb, rfl, by simp [askH, clEq]⟩
  simp [calledR, hb]
  simp [askH]
theorem rest_ok : handB (restH 0 0) = true := rfl

theorem big_slice (a : Option Addr) (n c : Nat) (w0 : World) :
    Calls Try.prog 4 #[.slice a n c] w0 fun e w' => e = .returned (.bool (decide ((n : Int) > 4096))) ∧ Below w0.heap.size w0 w' := by
  have hM := Mem.start w0
  go_enter Try.func4, Try.ntmps4
  refine wp_seq_k fun _ cn1 => wl_region ?_
  refine np (.bool false) ?_
  go_frame
  refine wl_nil (cn1 _ _ ?_)
  clear cn1
  refine wp_seq_k fun _ cn2 => wl_region ?_
  refine np (.slice a n c) ?_
  refine np (.int .i64 (n : Int)) ?_
  refine np (.bool (decide ((n : Int) > 4096))) ?_
  refine np (.bool (decide ((n : Int) > 4096))) ?_
  go_frame
  refine wl_nil (cn2 _ _ ?_)
  clear cn2
  refine wp_ret ?_
  exact bodyPost_ret (v := .bool (decide ((n : Int) > 4096))) (ret_tmp 2 rfl rfl) rfl ⟨rfl, hM.below⟩

theorem walk1 (va : Option Addr) (vc : Nat) (lb : List Int) (w0 : World) (hbt : Bts w0.heap.size w0 (.slice va lb.length vc) lb) (hl4 : lb.length ≤ 4096) :
    Calls Try.prog 3 #[(.slice va lb.length vc)] w0 fun e w' => e = .returned (.bool true) ∧ Below w0.heap.size w0 w' := by
  have hbg : decide ((lb.length : Int) > 4096) = false := by simp; omega
  have hM := Mem.start w0
  go_enter Try.func3, Try.ntmps3
  refine wp_seq_k fun _ cn1 => wl_region ?_
  refine np (.bool false) ?_
  go_frame
  refine wl_nil (cn1 _ _ ?_)
  clear cn1
  refine wp_seq_k fun Kn2 cn2 => ?_
  refine wp_seq_k fun _ cn3 => wl_region ?_
  refine np (.slice va lb.length vc) ?_
  refine nc (big_slice va lb.length vc _) ?_
  rintro e W1 ⟨rfl, hb⟩
  refine ⟨.bool false, rb hbg, ?_⟩
  replace hM := hM.call hb
  go_frame
  refine wl_nil (cn3 _ _ ?_)
  clear cn3
  refine wp_cond_false rfl ?_
  refine wp_skip ?_
  refine cn2 _ _ ?_
  clear cn2
  refine wp_seq_k fun _ cn4 => wl_region ?_
  refine np (.slice va lb.length vc) ?_
  refine nc (spec_DrawHandOk va vc lb _ (bts_later hbt hM.below) hl4) ?_
  rintro e W2 ⟨⟨hA, rfl⟩, hb⟩
  refine ⟨_, rfl, ?_⟩
  replace hM := hM.call hb
  go_frame
  refine na hM (HD.cells HD.zero) Z_impl_Hand ?_
  clear hM; intro g1 W3 hM
  refine nS hM 0 rfl (HD.cells hA) I_impl_Hand (hd_one' _) ?_
  clear hM; intro W4 hM
  refine wl_nil (cn4 _ _ ?_)
  clear cn4
  refine wp_seq_k fun _ cn5 => wl_region ?_
  refine np (.slice va lb.length vc) ?_
  refine nc (spec_DrawResting va vc lb _ (bts_later hbt hM.below) hl4) ?_
  rintro e W5 ⟨⟨rn, ro, rfl⟩, hb⟩
  refine ⟨_, rfl, ?_⟩
  replace hM := hM.call hb
  go_frame
  refine np (.tuple #[.int .i64 rn, .int .i64 ro]) ?_
  refine np (.int .i64 rn) ?_
  refine np (.int .i64 ro) ?_
  refine np (.int .i64 rn) ?_
  refine np (.int .i64 ro) ?_
  go_frame
  refine wl_nil (cn5 _ _ ?_)
  clear cn5
  refine wp_seq_k fun _ cn6 => wl_region ?_
  refine np (.slice va lb.length vc) ?_
  refine nc (spec_DrawCalled va vc lb _ (bts_later hbt hM.below) hl4) ?_
  rintro e W6 ⟨⟨hU, c, k, v, rfl⟩, hb⟩
  refine ⟨_, rfl, ?_⟩
  replace hM := hM.call hb
  go_frame
  refine np (.tuple #[.agg (HD.cells hU).toArray, .agg #[.int .i64 c, .int .i64 k, .int .i64 v]]) ?_
  refine np (.agg (HD.cells hU).toArray) ?_
  refine np (.agg #[.int .i64 c, .int .i64 k, .int .i64 v]) ?_
  refine na hM (HD.cells HD.zero) Z_impl_Hand ?_
  clear hM; intro g2 W7 hM
  refine na hM [.int .i64 0, .int .i64 0, .int .i64 0] Z_impl_Call ?_
  clear hM; intro g3 W8 hM
  refine nS hM 1 rfl (HD.cells hU) I_impl_Hand (hd_one' _) ?_
  clear hM; intro W9 hM
  refine nS hM 0 rfl [.int .i64 c, .int .i64 k, .int .i64 v] I_impl_Call rfl ?_
  clear hM; intro W10 hM
  refine wl_nil (cn6 _ _ ?_)
  clear cn6
  refine wp_seq_k fun _ cn7 => wl_region ?_
  refine nl hM 1 rfl Try.underlying27 I_impl_Hand ?_
  refine nl hM 0 rfl Try.underlying25 I_impl_Call ?_
  refine nc (impl_Called hU c k v _) ?_
  rintro e W11 ⟨rfl, hb⟩
  refine ⟨_, rfl, ?_⟩
  replace hM := hM.call hb
  go_frame
  refine np (.tuple #[.agg (HD.cells ((calledR hU c k v).1)).toArray, .int .i64 ((calledR hU c k v).2)]) ?_
  refine np (.agg (HD.cells ((calledR hU c k v).1)).toArray) ?_
  refine np (.int .i64 ((calledR hU c k v).2)) ?_
  refine na hM (HD.cells HD.zero) Z_impl_Hand ?_
  clear hM; intro g4 W12 hM
  refine nS hM 0 rfl (HD.cells ((calledR hU c k v).1)) I_impl_Hand (hd_one' _) ?_
  clear hM; intro W13 hM
  refine np (.int .i64 ((calledR hU c k v).2)) ?_
  go_frame
  refine wl_nil (cn7 _ _ ?_)
  clear cn7
  refine wp_seq_k fun _ cn8 => wl_region ?_
  refine nl hM 2 rfl Try.underlying27 I_impl_Hand ?_
  refine nl hM 1 rfl Try.underlying25 I_impl_Call ?_
  refine nc (spec_Called hU c k v _) ?_
  rintro e W14 ⟨rfl, hb⟩
  refine ⟨_, rfl, ?_⟩
  replace hM := hM.call hb
  go_frame
  refine np (.tuple #[.agg (HD.cells ((calledR hU c k v).1)).toArray, .int .i64 ((calledR hU c k v).2)]) ?_
  refine np (.agg (HD.cells ((calledR hU c k v).1)).toArray) ?_
  refine np (.int .i64 ((calledR hU c k v).2)) ?_
  refine na hM (HD.cells HD.zero) Z_impl_Hand ?_
  clear hM; intro g5 W15 hM
  refine nS hM 0 rfl (HD.cells ((calledR hU c k v).1)) I_impl_Hand (hd_one' _) ?_
  clear hM; intro W16 hM
  refine np (.int .i64 ((calledR hU c k v).2)) ?_
  go_frame
  refine wl_nil (cn8 _ _ ?_)
  clear cn8
  refine wp_seq_k fun Kn9 cn9 => ?_
  refine wp_seq_k fun Kn10 cn10 => ?_
  refine wp_region_vals 24 (fun f => ⟨#[.slice va lb.length vc, undef, .bool false, .pointer (some ⟨g1, 0, none⟩), .int .i64 rn, .int .i64 ro, .pointer (some ⟨g2, 0, none⟩), .pointer (some ⟨g3, 0, none⟩), .pointer (some ⟨g4, 0, none⟩), .int .i64 ((calledR hU c k v).2), .pointer (some ⟨g5, 0, none⟩), .int .i64 ((calledR hU c k v).2), undef, undef, .slice va lb.length vc, .bool false, .slice va lb.length vc, .agg (HD.cells hA).toArray, .tuple #[.int .i64 rn, .int .i64 ro], .slice va lb.length vc, .tuple #[.int .i64 rn, .int .i64 ro], .int .i64 rn, .int .i64 ro, .tuple #[.agg (HD.cells hU).toArray, .agg #[.int .i64 c, .int .i64 k, .int .i64 v]], .slice va lb.length vc, .tuple #[.agg (HD.cells hU).toArray, .agg #[.int .i64 c, .int .i64 k, .int .i64 v]], .agg (HD.cells hU).toArray, .agg #[.int .i64 c, .int .i64 k, .int .i64 v], .tuple #[.agg (HD.cells ((calledR hU c k v).1)).toArray, .int .i64 ((calledR hU c k v).2)], .agg (HD.cells hU).toArray, .agg #[.int .i64 c, .int .i64 k, .int .i64 v], .tuple #[.agg (HD.cells ((calledR hU c k v).1)).toArray, .int .i64 ((calledR hU c k v).2)], .agg (HD.cells ((calledR hU c k v).1)).toArray, .int .i64 ((calledR hU c k v).2), .tuple #[.agg (HD.cells ((calledR hU c k v).1)).toArray, .int .i64 ((calledR hU c k v).2)], .agg (HD.cells hU).toArray, .agg #[.int .i64 c, .int .i64 k, .int .i64 v], .tuple #[.agg (HD.cells ((calledR hU c k v).1)).toArray, .int .i64 ((calledR hU c k v).2)], .agg (HD.cells ((calledR hU c k v).1)).toArray, .int .i64 ((calledR hU c k v).2), f 0, f 1, f 2, f 3, f 4, f 5, f 6, f 7, f 8, f 9, f 10, f 11, f 12, f 13, f 14, f 15, f 16, f 17, f 18, f 19, f 20, f 21, f 22, f 23, undef, undef, undef, undef, undef, undef, undef, undef, undef, undef, undef, undef, undef, undef, undef, undef, undef, undef, undef, undef, undef, undef, undef, undef, undef, undef, undef], []⟩) [.agg (HD.cells hA).toArray, .bool (handB hA), .agg (HD.cells hA).toArray, .bool (handB hA), .bool false, .bool false, .int .i64 rn, .int .i64 ro, .agg (HD.cells (restH rn ro)).toArray, .int .i64 rn, .int .i64 ro, .agg (HD.cells (restH rn ro)).toArray, .bool false, .bool false, .bool false, .agg (HD.cells ((calledR hU c k v).1)).toArray, .agg (HD.cells ((calledR hU c k v).1)).toArray, .bool false, .bool false, .bool false, .int .i64 ((calledR hU c k v).2), .int .i64 ((calledR hU c k v).2), .bool false, .bool false] (fun f w => Mem w0 w [(g5, 27, (HD.cells ((calledR hU c k v).1))), (g4, 27, (HD.cells ((calledR hU c k v).1))), (g3, 25, [.int .i64 c, .int .i64 k, .int .i64 v]), (g2, 27, (HD.cells hU)), (g1, 27, (HD.cells hA))]) ⟨#[.slice va lb.length vc, undef, .bool false, .pointer (some ⟨g1, 0, none⟩), .int .i64 rn, .int .i64 ro, .pointer (some ⟨g2, 0, none⟩), .pointer (some ⟨g3, 0, none⟩), .pointer (some ⟨g4, 0, none⟩), .int .i64 ((calledR hU c k v).2), .pointer (some ⟨g5, 0, none⟩), .int .i64 ((calledR hU c k v).2), undef, undef, .slice va lb.length vc, .bool false, .slice va lb.length vc, .agg (HD.cells hA).toArray, .tuple #[.int .i64 rn, .int .i64 ro], .slice va lb.length vc, .tuple #[.int .i64 rn, .int .i64 ro], .int .i64 rn, .int .i64 ro, .tuple #[.agg (HD.cells hU).toArray, .agg #[.int .i64 c, .int .i64 k, .int .i64 v]], .slice va lb.length vc, .tuple #[.agg (HD.cells hU).toArray, .agg #[.int .i64 c, .int .i64 k, .int .i64 v]], .agg (HD.cells hU).toArray, .agg #[.int .i64 c, .int .i64 k, .int .i64 v], .tuple #[.agg (HD.cells ((calledR hU c k v).1)).toArray, .int .i64 ((calledR hU c k v).2)], .agg (HD.cells hU).toArray, .agg #[.int .i64 c, .int .i64 k, .int .i64 v], .tuple #[.agg (HD.cells ((calledR hU c k v).1)).toArray, .int .i64 ((calledR hU c k v).2)], .agg (HD.cells ((calledR hU c k v).1)).toArray, .int .i64 ((calledR hU c k v).2), .tuple #[.agg (HD.cells ((calledR hU c k v).1)).toArray, .int .i64 ((calledR hU c k v).2)], .agg (HD.cells hU).toArray, .agg #[.int .i64 c, .int .i64 k, .int .i64 v], .tuple #[.agg (HD.cells ((calledR hU c k v).1)).toArray, .int .i64 ((calledR hU c k v).2)], .agg (HD.cells ((calledR hU c k v).1)).toArray, .int .i64 ((calledR hU c k v).2), .agg (HD.cells hA).toArray, .bool (handB hA), .agg (HD.cells hA).toArray, .bool (handB hA), .bool false, .bool false, .int .i64 rn, .int .i64 ro, .agg (HD.cells (restH rn ro)).toArray, .int .i64 rn, .int .i64 ro, .agg (HD.cells (restH rn ro)).toArray, .bool false, .bool false, .bool false, .agg (HD.cells ((calledR hU c k v).1)).toArray, .agg (HD.cells ((calledR hU c k v).1)).toArray, .bool false, .bool false, .bool false, .int .i64 ((calledR hU c k v).2), .int .i64 ((calledR hU c k v).2), .bool false, .bool false, undef, undef, undef, undef, undef, undef, undef, undef, undef, undef, undef, undef, undef, undef, undef, undef, undef, undef, undef, undef, undef, undef, undef, undef, undef, undef, undef], []⟩ (fun _ => undef) (by kernel_rfl) (by kernel_rfl) (by kernel_rfl) (by kernel_rfl) rfl (fun f => rfl) hM.drew ⟨
    step_same [] (.agg (HD.cells hA).toArray) (by kernel_rfl) rfl (fun f => by kernel_rfl) (fun f w K hM hK => m_load hM 4 rfl 27 _ rfl rfl Try.underlying27 I_impl_Hand (hK)) (fun f => rfl) (fun f w h => h),
    step_call [0] (.bool (handB hA)) (by kernel_rfl) rfl (fun f => by kernel_rfl) (fun f w K hM hK => m_call 10 #[.agg (HD.cells hA).toArray] (by kernel_rfl) (impl_HandOk hA _) (fun e w' hs => by obtain ⟨rfl, hb⟩ := hs; exact ⟨_, rfl, hK _ (Mem.call hM hb)⟩)) (fun f => rfl) (fun f w h => h),
    step_same [] (.agg (HD.cells hA).toArray) (by kernel_rfl) rfl (fun f => by kernel_rfl) (fun f w K hM hK => m_load hM 4 rfl 27 _ rfl rfl Try.underlying27 I_impl_Hand (hK)) (fun f => rfl) (fun f w h => h),
    step_call [1, 2] (.bool (handB hA)) (by kernel_rfl) rfl (fun f => by kernel_rfl) (fun f w K hM hK => m_call 11 #[.agg (HD.cells hA).toArray] (by kernel_rfl) (spec_HandOk hA _) (fun e w' hs => by obtain ⟨rfl, hb⟩ := hs; exact ⟨_, rfl, hK _ (Mem.call hM hb)⟩)) (fun f => rfl) (fun f w h => h),
    step_same [1, 3] (.bool false) (by kernel_rfl) rfl (fun f => by kernel_rfl) (fun f w K hM hK => m_pureB (b := ((handB hA) != (handB hA))) (by kernel_rfl) ((bne_self_eq_false _)) (hK)) (fun f => rfl) (fun f w h => h),
    step_same [3, 4] (.bool false) (by kernel_rfl) rfl (fun f => by kernel_rfl) (fun f w K hM hK => m_pure (.bool false) (by kernel_rfl) (hK)) (fun f => rfl) (fun f w h => h),
    step_same [5] (.int .i64 rn) (by kernel_rfl) rfl (fun f => by kernel_rfl) (fun f w K hM hK => m_pure (.int .i64 rn) (by kernel_rfl) (hK)) (fun f => rfl) (fun f w h => h),
    step_same [5] (.int .i64 ro) (by kernel_rfl) rfl (fun f => by kernel_rfl) (fun f w K hM hK => m_pure (.int .i64 ro) (by kernel_rfl) (hK)) (fun f => rfl) (fun f w h => h),
    step_call [5, 6, 7] (.agg (HD.cells (restH rn ro)).toArray) (by kernel_rfl) rfl (fun f => by kernel_rfl) (fun f w K hM hK => m_call 12 #[.int .i64 rn, .int .i64 ro] (by kernel_rfl) (impl_Resting rn ro _) (fun e w' hs => by obtain ⟨rfl, hb⟩ := hs; exact ⟨_, rfl, hK _ (Mem.call hM hb)⟩)) (fun f => rfl) (fun f w h => h),
    step_same [5] (.int .i64 rn) (by kernel_rfl) rfl (fun f => by kernel_rfl) (fun f w K hM hK => m_pure (.int .i64 rn) (by kernel_rfl) (hK)) (fun f => rfl) (fun f w h => h),
    step_same [5] (.int .i64 ro) (by kernel_rfl) rfl (fun f => by kernel_rfl) (fun f w K hM hK => m_pure (.int .i64 ro) (by kernel_rfl) (hK)) (fun f => rfl) (fun f w h => h),
    step_call [5, 8, 9, 10] (.agg (HD.cells (restH rn ro)).toArray) (by kernel_rfl) rfl (fun f => by kernel_rfl) (fun f w K hM hK => m_call 13 #[.int .i64 rn, .int .i64 ro] (by kernel_rfl) (spec_Resting rn ro _) (fun e w' hs => by obtain ⟨rfl, hb⟩ := hs; exact ⟨_, rfl, hK _ (Mem.call hM hb)⟩)) (fun f => rfl) (fun f w h => h),
    step_same [5, 8, 11] (.bool false) (by kernel_rfl) rfl (fun f => by kernel_rfl) (fun f w K hM hK => m_pureB (b := (!(hdEq (restH rn ro) (restH rn ro)))) (hd_neq (restH rn ro) (restH rn ro) rfl rfl rfl) ((congrArg Bool.not (hdEq_self _))) (hK)) (fun f => rfl) (fun f w h => h),
    step_same [5, 12] (.bool false) (by kernel_rfl) rfl (fun f => by kernel_rfl) (fun f w K hM hK => m_pure (.bool false) (by kernel_rfl) (hK)) (fun f => rfl) (fun f w h => h),
    step_same [11, 13] (.bool false) (by kernel_rfl) rfl (fun f => by kernel_rfl) (fun f w K hM hK => m_pure (.bool false) (by kernel_rfl) (hK)) (fun f => rfl) (fun f w h => h),
    step_same [14] (.agg (HD.cells ((calledR hU c k v).1)).toArray) (by kernel_rfl) rfl (fun f => by kernel_rfl) (fun f w K hM hK => m_load hM 1 rfl 27 _ rfl rfl Try.underlying27 I_impl_Hand (hK)) (fun f => rfl) (fun f w h => h),
    step_same [14] (.agg (HD.cells ((calledR hU c k v).1)).toArray) (by kernel_rfl) rfl (fun f => by kernel_rfl) (fun f w K hM hK => m_load hM 0 rfl 27 _ rfl rfl Try.underlying27 I_impl_Hand (hK)) (fun f => rfl) (fun f w h => h),
    step_same [14, 15, 16] (.bool false) (by kernel_rfl) rfl (fun f => by kernel_rfl) (fun f w K hM hK => m_pureB (b := (!(hdEq ((calledR hU c k v).1) ((calledR hU c k v).1)))) (hd_neq ((calledR hU c k v).1) ((calledR hU c k v).1) rfl rfl rfl) ((congrArg Bool.not (hdEq_self _))) (hK)) (fun f => rfl) (fun f w h => h),
    step_same [14, 17] (.bool false) (by kernel_rfl) rfl (fun f => by kernel_rfl) (fun f w K hM hK => m_pure (.bool false) (by kernel_rfl) (hK)) (fun f => rfl) (fun f w h => h),
    step_same [14, 18] (.bool false) (by kernel_rfl) rfl (fun f => by kernel_rfl) (fun f w K hM hK => m_pure (.bool false) (by kernel_rfl) (hK)) (fun f => rfl) (fun f w h => h),
    step_same [19] (.int .i64 ((calledR hU c k v).2)) (by kernel_rfl) rfl (fun f => by kernel_rfl) (fun f w K hM hK => m_pure (.int .i64 ((calledR hU c k v).2)) (by kernel_rfl) (hK)) (fun f => rfl) (fun f w h => h),
    step_same [19] (.int .i64 ((calledR hU c k v).2)) (by kernel_rfl) rfl (fun f => by kernel_rfl) (fun f w K hM hK => m_pure (.int .i64 ((calledR hU c k v).2)) (by kernel_rfl) (hK)) (fun f => rfl) (fun f w h => h),
    step_same [19, 20, 21] (.bool false) (by kernel_rfl) rfl (fun f => by kernel_rfl) (fun f w K hM hK => m_pureB (b := ((calledR hU c k v).2 != (calledR hU c k v).2)) (by kernel_rfl) ((bne_self_eq_false _)) (hK)) (fun f => rfl) (fun f w h => h),
    step_same [19, 22] (.bool false) (by kernel_rfl) rfl (fun f => by kernel_rfl) (fun f w K hM hK => m_pure (.bool false) (by kernel_rfl) (hK)) (fun f => rfl) (fun f w h => h),
    trivial⟩ ?_
  clear hM; intro f w' hM
  clear f
  refine WL.out ?_
  simp only [List.drop_succ_cons, List.drop_zero]
  refine wl_nil (cn10 _ _ ?_)
  clear cn10
  refine wp_cond_false rfl ?_
  refine wp_skip ?_
  refine cn9 _ _ ?_
  clear cn9
  refine wp_seq_k fun Kn11 cn11 => ?_
  refine wp_seq_k fun _ cn12 => wl_region ?_
  refine np (.int .i64 ((calledR hU c k v).2)) ?_
  refine np (.bool ((calledR hU c k v).2 == 0)) ?_
  go_frame
  refine wl_nil (cn12 _ _ ?_)
  clear cn12
  rcases tf (((calledR hU c k v).2 == 0)) with hx1 | hx1
  rw [hx1]
  obtain ⟨y2, y3, y4, y5⟩ := called_done hx1
  refine wp_cond_true rfl ?_
  refine wp_seq_k fun _ cn13 => wl_region ?_
  refine nl hM 1 rfl Try.underlying27 I_impl_Hand ?_
  refine nl hM 2 rfl Try.underlying25 I_impl_Call ?_
  refine nc (impl_Called ((calledR hU c k v).1) c k v _) ?_
  rintro e W17 ⟨rfl, hb⟩
  refine ⟨_, rfl, ?_⟩
  replace hM := hM.call hb
  go_frame
  refine np (.tuple #[.agg (HD.cells ((calledR ((calledR hU c k v).1) c k v).1)).toArray, .int .i64 ((calledR ((calledR hU c k v).1) c k v).2)]) ?_
  refine np (.agg (HD.cells ((calledR ((calledR hU c k v).1) c k v).1)).toArray) ?_
  refine np (.int .i64 ((calledR ((calledR hU c k v).1) c k v).2)) ?_
  refine na hM (HD.cells HD.zero) Z_impl_Hand ?_
  clear hM; intro g6 W18 hM
  refine nS hM 0 rfl (HD.cells ((calledR ((calledR hU c k v).1) c k v).1)) I_impl_Hand (hd_one' _) ?_
  clear hM; intro W19 hM
  refine np (.int .i64 ((calledR ((calledR hU c k v).1) c k v).2)) ?_
  go_frame
  refine wl_nil (cn13 _ _ ?_)
  clear cn13
  refine wp_seq_k fun _ cn14 => wl_region ?_
  refine np (.int .i64 ((calledR ((calledR hU c k v).1) c k v).2)) ?_
  refine nB (y2) ?_
  refine np (.bool true) ?_
  refine nl hM 2 rfl Try.underlying27 I_impl_Hand ?_
  refine nc (impl_HandOk ((calledR hU c k v).1) _) ?_
  rintro e W20 ⟨rfl, hb⟩
  refine ⟨.bool true, rb y3, ?_⟩
  replace hM := hM.call hb
  go_frame
  refine np (.bool true) ?_
  refine np (.bool true) ?_
  refine np (.pointer (some ⟨g4, 0, none⟩)) ?_
  refine ng hM 2 rfl 0 Try.underlying2 rfl ?_
  refine nB (y4) ?_
  refine np (.bool true) ?_
  refine np (.bool true) ?_
  refine np (.pointer (some ⟨g4, 1, none⟩)) ?_
  go_frame
  refine wl_part (by kernel_rfl) hM 2 rfl 25 _ rfl 1 rfl Try.underlying25 [.int .i64 (((calledR hU c k v).1).c), .int .i64 (((calledR hU c k v).1).k), .int .i64 (((calledR hU c k v).1).v)] I_impl_Call rfl ?_
  go_frame
  refine nl hM 3 rfl Try.underlying25 I_impl_Call ?_
  go_frame
  refine wl_pureB (by kernel_rfl) (b := (clEq (((calledR hU c k v).1).c) (((calledR hU c k v).1).k) (((calledR hU c k v).1).v) c k v)) (cl_eql (((calledR hU c k v).1).c) (((calledR hU c k v).1).k) (((calledR hU c k v).1).v) c k v rfl rfl rfl) (y5) ?_
  go_frame
  refine np (.bool true) ?_
  refine np (.bool true) ?_
  go_frame
  refine wl_nil (cn14 _ _ ?_)
  clear cn14
  refine wp_ret ?_
  simp only [Exit.then, Exit.inBlock]
  exact bodyPost_ret (v := .bool true) (ret_tmp 2 rfl rfl) rfl ⟨rfl, hM.below⟩
  rw [hx1]
  refine wp_cond_false rfl ?_
  refine wp_skip ?_
  refine cn11 _ _ ?_
  clear cn11
  refine wp_seq_k fun _ cn13 => wl_region ?_
  refine nc (impl_Resting 0 0 _) ?_
  rintro e W17 ⟨rfl, hb⟩
  refine ⟨_, rfl, ?_⟩
  replace hM := hM.call hb
  go_frame
  refine nc (impl_HandOk (restH 0 0) _) ?_
  rintro e W18 ⟨rfl, hb⟩
  refine ⟨.bool true, rb rest_ok, ?_⟩
  replace hM := hM.call hb
  go_frame
  refine np (.bool true) ?_
  go_frame
  refine wl_nil (cn13 _ _ ?_)
  clear cn13
  refine wp_ret ?_
  exact bodyPost_ret (v := .bool true) (ret_tmp 2 rfl rfl) rfl ⟨rfl, hM.below⟩

theorem walk0 (va : Option Addr) (vc : Nat) (lb : List Int) (w0 : World) (hbt : Bts w0.heap.size w0 (.slice va lb.length vc) lb) (hl4 : ¬ lb.length ≤ 4096) :
    Calls Try.prog 3 #[(.slice va lb.length vc)] w0 fun e w' => e = .returned (.bool true) ∧ Below w0.heap.size w0 w' := by
  have hbg : decide ((lb.length : Int) > 4096) = true := by simp; omega
  have hM := Mem.start w0
  go_enter Try.func3, Try.ntmps3
  refine wp_seq_k fun _ cn1 => wl_region ?_
  refine np (.bool false) ?_
  go_frame
  refine wl_nil (cn1 _ _ ?_)
  clear cn1
  refine wp_seq_k fun Kn2 cn2 => ?_
  refine wp_seq_k fun _ cn3 => wl_region ?_
  refine np (.slice va lb.length vc) ?_
  refine nc (big_slice va lb.length vc _) ?_
  rintro e W1 ⟨rfl, hb⟩
  refine ⟨.bool true, rb hbg, ?_⟩
  replace hM := hM.call hb
  go_frame
  refine wl_nil (cn3 _ _ ?_)
  clear cn3
  refine wp_cond_true rfl ?_
  refine wp_seq_k fun _ cn4 => wl_region ?_
  refine np (.bool true) ?_
  go_frame
  refine wl_nil (cn4 _ _ ?_)
  clear cn4
  refine wp_ret ?_
  simp only [Exit.then, Exit.inBlock]
  exact bodyPost_ret (v := .bool true) (ret_tmp 2 rfl rfl) rfl ⟨rfl, hM.below⟩
theorem walk (v : Value) (l : List Int) (w : World) (h : Bts w.heap.size w v l) :
    Calls Try.prog 3 #[v] w fun e w' => e = .returned (.bool true) ∧ Below w.heap.size w w' := by
  obtain ⟨⟨a, c, rfl, hc1, hc2, -⟩, -⟩ := id h
  by_cases hl : l.length ≤ 4096
  · exact walk1 a c l w h hl
  · exact walk0 a c l w h hl

theorem lifted (os : Os) (started : os.Started) (H : Type) (enc : TypeId × Value → H) :
    ReturnsInHanded {} Try.checked os 3 .any (Rows.fnHandsSpec.pre6 enc Try.prog Try.f3 Rows.fnHandsRow.domain false) (Rows.fnHandsSpec.post enc Try.prog Try.f3 false true false false) := by
  refine returnsInHanded_of_change (C := Try.checked) own started (by kernel_rfl) Try.func3
    (ChangeSpec.witness6 (enc := enc) (C := Try.checked) false ⟨#[], #[.slice none 0 0], []⟩ 8 (by kernel_rfl) (by kernel_rfl) (by kernel_rfl) (by kernel_rfl)) ?_
  intro W base args ds gs before hval0 hW hcnd _
  have hval : ∀ (j : Nat) t v, Try.f3.params[j]? = some t → args[j]? = some v → Value.okWide Try.prog W .any base t v := hval0
  have hW' := hW
  obtain ⟨p, q, hA0, hV, rfl, hfz, hnd⟩ := hW
  have hA : DataW.TrodAll enc Try.prog W 0 (fun _ => true) true Try.f3.params.toList args.toList ds p := hA0
  rw [Try.params3] at hA hval
  obtain ⟨v0, vs0, d0, ds0, p0, q0, hargs, rfl, rfl, h0, r0⟩ := trodAll_cons hA
  obtain ⟨rfl, rfl, rfl⟩ := trodAll_nil r0
  obtain rfl : args = #[v0] := by cases args; simp_all
  obtain ⟨rfl, rfl⟩ := trodVars_none hV
  have k0 := h0
  have lt0 : ∀ x ∈ p0, x.block < W.heap.size := by obtain ⟨m, hm⟩ := k0; exact DataW.trod_lt m _ _ _ hm
  obtain ⟨l_0, hl_0⟩ := open_bytes (hval 0 22 v0 rfl rfl) h0
  clear hA0 hval0
  refine (walk v0 l_0 W hl_0).mono fun e W' ⟨he, bel⟩ => ?_
  subst he
  exact ⟨_, rfl, _, _, _, [], _, [], hW', trodAll_mk1 (shut_bool Try.underlying4 _), (trodAll_cons_mk (Below.trod laidOut (by kernel_rfl) (of_decide_eq_true (by kernel_rfl)) k0 bel lt0) trodAll_mk0), rfl, bel.frame _, fun h => by cases h⟩

theorem over : Rows.fnHandsRow.holds Try.pinned (OpenSpec.ofChange Rows.fnHandsSpec) :=
  OpenClaim.holds_of_wide 3 Try.f3 rfl rfl rfl rfl rfl rfl rfl ⟨rfl, rfl, rfl, rfl, rfl⟩ rfl rfl rfl rfl rfl (by kernel_rfl) Try.func3 (by kernel_rfl)
    (of_decide_eq_true (by kernel_rfl)) (by unfold Func.isWrapper; rw [if_neg (of_decide_eq_false (by kernel_rfl))]; exact ⟨rfl, rfl⟩)
    (fun os started H enc _ => lifted os started H enc)

theorem proved : Rows.FnHandsSaid := over
end Go.Proofs.Ytagekbdngjkfeaa.fnHands
