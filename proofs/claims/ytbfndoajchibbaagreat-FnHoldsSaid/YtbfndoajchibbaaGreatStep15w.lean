/- WaitStep of the model. -/
import Derived.Test.YtbfndoajchibbaaGreatShort
import Derived.Test.YtbfndoajchibbaaGreatStep15
namespace Go.Proofs.YtbfndoajchibbaaGreat
open Go.ChangeShapes Go.WideShapes Go.ChangeAt Go.RowKit
set_option linter.unusedVariables false
set_option maxRecDepth 100000
set_option maxHeartbeats 16000000
set_option linter.unusedSimpArgs false


theorem spec_WaitStep (u x : Value) (l : List ND) (c : List Int) (task : Int) (h : HD) (w0 : World) (h1 : NSl w0 u l) (h2 : SlI w0 x c) (hl : l.length ≤ 1048576) (hc : c.length ≤ 1048576) :
    Calls Tryz.prog 93 #[.agg #[u, x], .int .i64 task, h.val] w0 (Says3 (waitR l c task h) w0) := by
  have H1 := h1
  have H2 := h2
  unfold HD.val
  have hM := Mem.start w0
  rcases tf (l7okB l c task h 22 26) with hok | hok
  · obtain ⟨hl0, hc0, hl1, hc1, hat, kt, hkt0, hkt, hcnt, hnodes, qnp, qnc, qnu, qnx, qnw⟩ := ok_facts hok
    obtain ⟨b, off, cap, rfl, kk1, mm1, s1, G1⟩ := h1.at hl0
    obtain ⟨b2, off2, cap2, rfl, kk2, mm2, s2, G2⟩ := h2.at hc0
    have ht : task.toNat = kt := by omega
    have hl30 := (nodes_some hnodes).2
    obtain ⟨ht6, hix, hcs⟩ := ok_task hok
    have hfl := freeR_len l task h
    go_enter Tryz.func93, Tryz.ntmps93
    refine wp_seq_k fun _ cn1 => wl_region ?_
    refine nx hM 55 [.slice (some ⟨b, off, none⟩) l.length cap, .slice (some ⟨b2, off2, none⟩) c.length cap2] ?_
    clear hM; intro g1 W1 hM
    refine nx hM 73 (HD.cells h) ?_
    clear hM; intro g2 W2 hM
    refine na hM [.slice none 0 0, .slice none 0 0] Z_impl_Shared ?_
    clear hM; intro g3 W3 hM
    refine na hM (HD.cells HD.zero) Z_impl_Hand ?_
    clear hM; intro g4 W4 hM
    refine np (.bool false) ?_
    go_frame
    refine wl_nil (cn1 _ _ ?_)
    clear cn1
    refine wp_seq_k fun Kn2 cn2 => ?_
    refine wp_seq_k fun Kn3 cn3 => ?_
    obtain ⟨xg1, hxg1⟩ : ∃ x : Bool, x = ((!l7okB l c task h 22 26) || ((h.at_ != 22) && (h.at_ != 26))) := ⟨_, rfl⟩
    refine wa_join (fun act W => ∃ (U1 : Nat → Value), act = ⟨#[.agg #[.slice (some ⟨b, off, none⟩) l.length cap, .slice (some ⟨b2, off2, none⟩) c.length cap2], .int .i64 task, .agg (HD.cells h).toArray, .pointer (some ⟨g1, 0, none⟩), undef, .pointer (some ⟨g2, 0, none⟩), .pointer (some ⟨g3, 0, none⟩), .pointer (some ⟨g4, 0, none⟩), .bool false, undef, undef, undef, undef, undef, (U1 0), (U1 1), (U1 2), (U1 3), (U1 4), (U1 5), (U1 6), (U1 7), (U1 8), (U1 9), (U1 10), (U1 11), (U1 12), (U1 13), (U1 14), undef, undef, undef, undef, undef, undef, undef, undef, undef, undef, undef, undef, undef, undef, undef, undef, undef, undef, undef, undef, undef, undef, undef, undef, undef, undef, undef, undef, undef, undef, undef, undef, undef, undef, undef, undef, undef], []⟩ ∧ U1 14 = .bool xg1 ∧ Mem w0 W [(g4, 73, (HD.cells HD.zero)), (g3, 55, [.slice none 0 0, .slice none 0 0]), (g2, 73, (HD.cells h)), (g1, 55, [.slice (some ⟨b, off, none⟩) l.length cap, .slice (some ⟨b2, off2, none⟩) c.length cap2])]) ?_ ?_
    clear hM
    rintro act W5 ⟨U1, rfl, hU1, hM⟩
    refine cn3 _ _ ?_
    clear cn3
    rcases tf (((!l7okB l c task h 22 26) || ((h.at_ != 22) && (h.at_ != 26)))) with hx11 | hx11
    refine wp_cond_true (hU1.trans (congrArg Value.bool (hxg1.trans hx11))) ?_
    refine wp_seq_k fun _ cn4 => wl_region ?_
    refine np (.agg #[.slice none 0 0, .slice none 0 0]) ?_
    refine np (.agg (HD.cells HD.zero).toArray) ?_
    refine nS hM 1 rfl [.slice none 0 0, .slice none 0 0] I_impl_Shared rfl ?_
    clear hM; intro W6 hM
    refine nS hM 0 rfl (HD.cells HD.zero) I_impl_Hand (hd_one' _) ?_
    clear hM; intro W7 hM
    refine np (.bool false) ?_
    go_frame
    refine wl_nil (cn4 _ _ ?_)
    clear cn4
    refine wp_ret ?_
    simp only [Exit.then, Exit.inBlock]
    have hR : waitR l c task h = ([], [], HD.zero, false) := by unfold waitR; rw [if_pos hx11]; rfl
    rw [hR]
    exact bodyPost_ret (ret3 (p := 6) (q := 7) (u := 8) (v := .bool false) rfl hM 1 0 rfl rfl rfl rfl rfl) rfl ⟨_, _, rfl, own0, own0, hM.below⟩
    refine wp_cond_false (hU1.trans (congrArg Value.bool (hxg1.trans hx11))) ?_
    refine wp_skip ?_
    refine cn2 _ _ ?_
    clear cn2
    refine wp_seq_k fun _ cn4 => wl_region ?_
    refine nl hM 3 rfl Tryz.underlying55 I_impl_Shared ?_
    refine nc (spec_l7Copy (.slice (some ⟨b, off, none⟩) l.length cap) (.slice (some ⟨b2, off2, none⟩) c.length cap2) l c _ (H1.below hM.below) (H2.below hM.below) hl0 hc0 hl hc) ?_
    rintro e W6 ⟨m1, m2, k1, k2, p1, p2, rfl, ⟨q1, q2, q3, q4, q5, q6⟩, hMc⟩
    refine ⟨_, rfl, ?_⟩
    replace hM := hM.join hMc
    go_frame
    refine na hM [.slice none 0 0, .slice none 0 0] Z_impl_Shared ?_
    clear hM; intro g5 W7 hM
    refine nS hM 0 rfl [.slice (some ⟨m1, 0, none⟩) l.length k1, .slice (some ⟨m2, 0, none⟩) c.length k2] I_impl_Shared rfl ?_
    clear hM; intro W8 hM
    refine wl_nil (cn4 _ _ ?_)
    clear cn4
    refine wp_seq_k fun Kn5 cn5 => ?_
    refine wp_seq_k fun _ cn6 => wl_region ?_
    refine np (.pointer (some ⟨g2, 0, none⟩)) ?_
    refine ng hM 5 rfl 0 Tryz.underlying2 rfl ?_
    refine np (.bool (h.at_ == 26)) ?_
    go_frame
    refine wl_nil (cn6 _ _ ?_)
    clear cn6
    rcases tf ((h.at_ == 26)) with hx12 | hx12
    rw [hx12]
    refine wp_cond_true rfl ?_
    refine wp_seq_k fun _ cn7 => wl_region ?_
    refine nl hM 0 rfl Tryz.underlying55 I_impl_Shared ?_
    refine np (.int .i64 task) ?_
    refine nl hM 5 rfl Tryz.underlying73 I_impl_Hand ?_
    go_frame
    replace hM := hM.pull 1 rfl
    refine nC #[.agg #[.slice (some ⟨m1, 0, none⟩) l.length k1, .slice (some ⟨m2, 0, none⟩) c.length k2], .int .i64 task, .agg (HD.cells h).toArray] (spec_l11Free l task h m1 k1 p1 _ _ _ _ _ _ hM q1 q2 q5 hl30) ?_
    rintro e W9 ⟨ga'1, ka'2, pa'3, rfl, ⟨qa'4, qb'5, qe'6⟩, hM2⟩
    refine ⟨_, rfl, ?_⟩
    clear hM; have hM := hM2; clear hM2
    go_frame
    refine np (.tuple #[.agg #[.slice (some ⟨ga'1, 0, none⟩) ((freeR l task h).1.length) ka'2, .slice (some ⟨m2, 0, none⟩) c.length k2], .agg (HD.cells ((freeR l task h).2)).toArray]) ?_
    refine np (.agg #[.slice (some ⟨ga'1, 0, none⟩) ((freeR l task h).1.length) ka'2, .slice (some ⟨m2, 0, none⟩) c.length k2]) ?_
    refine np (.agg (HD.cells ((freeR l task h).2)).toArray) ?_
    refine na hM [.slice none 0 0, .slice none 0 0] Z_impl_Shared ?_
    clear hM; intro g6 W10 hM
    refine na hM (HD.cells HD.zero) Z_impl_Hand ?_
    clear hM; intro g7 W11 hM
    refine nS hM 1 rfl [.slice (some ⟨ga'1, 0, none⟩) ((freeR l task h).1.length) ka'2, .slice (some ⟨m2, 0, none⟩) c.length k2] I_impl_Shared rfl ?_
    clear hM; intro W12 hM
    refine nS hM 0 rfl (HD.cells ((freeR l task h).2)) I_impl_Hand (hd_one' _) ?_
    clear hM; intro W13 hM
    refine wl_nil (cn7 _ _ ?_)
    clear cn7
    refine wp_seq_k fun _ cn8 => wl_region ?_
    refine nl hM 1 rfl Tryz.underlying55 I_impl_Shared ?_
    refine nl hM 0 rfl Tryz.underlying73 I_impl_Hand ?_
    go_frame
    rcases tf ((sharedB ((freeR l task h).1) c && handB ((freeR l task h).2))) with hx14 | hx14
    refine nc (spec_l7Done (.slice (some ⟨ga'1, 0, none⟩) ((freeR l task h).1.length) ka'2) (.slice (some ⟨m2, 0, none⟩) c.length k2) ((freeR l task h).1) c ((freeR l task h).2) _ (nslX (hM.blk 2 rfl) (by first | rfl | (simp; done) | (simp [liftR_len]; done)) qa'4 qb'5) (sli_blk (hM.blk 4 rfl) q3 q4) (by first | omega | (simp; omega) | (rw [liftR_len]; omega)) hc) ?_
    rintro e W14 ⟨rfl, hb⟩
    refine ⟨.tuple #[.agg #[.slice (some ⟨ga'1, 0, none⟩) ((freeR l task h).1.length) ka'2, .slice (some ⟨m2, 0, none⟩) c.length k2], .agg (HD.cells ((freeR l task h).2)).toArray, .bool true], congrArg Ending.returned (by simp [doneV, HD.val, hx14]), ?_⟩
    replace hM := hM.call hb
    go_frame
    refine np (.agg #[.slice (some ⟨ga'1, 0, none⟩) ((freeR l task h).1.length) ka'2, .slice (some ⟨m2, 0, none⟩) c.length k2]) ?_
    refine np (.agg (HD.cells ((freeR l task h).2)).toArray) ?_
    refine np (.bool true) ?_
    refine nS hM 6 rfl [.slice (some ⟨ga'1, 0, none⟩) ((freeR l task h).1.length) ka'2, .slice (some ⟨m2, 0, none⟩) c.length k2] I_impl_Shared rfl ?_
    clear hM; intro W15 hM
    refine nS hM 5 rfl (HD.cells ((freeR l task h).2)) I_impl_Hand (hd_one' _) ?_
    clear hM; intro W16 hM
    refine np (.bool true) ?_
    go_frame
    refine wl_nil (cn8 _ _ ?_)
    clear cn8
    refine wp_ret ?_
    simp only [Exit.then, Exit.inBlock]
    have hps : 0 < ((freeR l task h).1 : List ND).length := shared_pos (by assumption)
    have hR : waitR l c task h = ((freeR l task h).1, c, (freeR l task h).2, true) := by unfold waitR; rw [if_neg (by rw [hx11]; exact Bool.false_ne_true)]; simp [doneR, noR, hok, hx12, hx14, ht]
    rw [hR]
    exact bodyPost_ret (ret3 (p := 6) (q := 7) (u := 8) (v := .bool true) rfl hM 6 5 rfl rfl rfl rfl rfl) rfl ⟨_, _, rfl, own_nX (hM.blk 2 rfl) (by first | rfl | (simp; done) | (simp [liftR_len]; done)) qa'4 qb'5 (hM.base 2 rfl) hps (by first | exact qe'6 | (simpa [cellsOf_len] using qe'6) | (simpa [cellsOf_len, liftR_len] using qe'6)), own_iblk (hM.blk 4 rfl) q3 q4 (hM.base 4 rfl) hc1 q6, hM.below⟩
    refine nc (spec_l7Done (.slice (some ⟨ga'1, 0, none⟩) ((freeR l task h).1.length) ka'2) (.slice (some ⟨m2, 0, none⟩) c.length k2) ((freeR l task h).1) c ((freeR l task h).2) _ (nslX (hM.blk 2 rfl) (by first | rfl | (simp; done) | (simp [liftR_len]; done)) qa'4 qb'5) (sli_blk (hM.blk 4 rfl) q3 q4) (by first | omega | (simp; omega) | (rw [liftR_len]; omega)) hc) ?_
    rintro e W14 ⟨rfl, hb⟩
    refine ⟨.tuple #[.agg #[.slice none 0 0, .slice none 0 0], .agg (HD.cells HD.zero).toArray, .bool false], congrArg Ending.returned (by simp [doneV, HD.val, hx14]), ?_⟩
    replace hM := hM.call hb
    go_frame
    refine np (.agg #[.slice none 0 0, .slice none 0 0]) ?_
    refine np (.agg (HD.cells HD.zero).toArray) ?_
    refine np (.bool false) ?_
    refine nS hM 6 rfl [.slice none 0 0, .slice none 0 0] I_impl_Shared rfl ?_
    clear hM; intro W15 hM
    refine nS hM 5 rfl (HD.cells HD.zero) I_impl_Hand (hd_one' _) ?_
    clear hM; intro W16 hM
    refine np (.bool false) ?_
    go_frame
    refine wl_nil (cn8 _ _ ?_)
    clear cn8
    refine wp_ret ?_
    simp only [Exit.then, Exit.inBlock]
    have hR : waitR l c task h = ([], [], HD.zero, false) := by unfold waitR; rw [if_neg (by rw [hx11]; exact Bool.false_ne_true)]; simp [doneR, noR, hok, hx12, hx14, ht]
    rw [hR]
    exact bodyPost_ret (ret3 (p := 6) (q := 7) (u := 8) (v := .bool false) rfl hM 6 5 rfl rfl rfl rfl rfl) rfl ⟨_, _, rfl, own0, own0, hM.below⟩
    rw [hx12]
    refine wp_cond_false rfl ?_
    refine wp_skip ?_
    refine cn5 _ _ ?_
    clear cn5
    refine wp_seq_k fun _ cn7 => wl_region ?_
    refine nl hM 6 rfl Tryz.underlying55 I_impl_Shared ?_
    refine np (.int .i64 task) ?_
    refine nl hM 5 rfl Tryz.underlying73 I_impl_Hand ?_
    refine nc (spec_l11Sync (.slice (some ⟨b, off, none⟩) l.length cap) (.slice (some ⟨b2, off2, none⟩) c.length cap2) c task h _ (H2.below hM.below) hc0 hc hix hcs) ?_
    rintro e W9 ⟨rfl, hb⟩
    refine ⟨_, rfl, ?_⟩
    replace hM := hM.call hb
    go_frame
    refine np (.tuple #[.agg (HD.cells ((syncR c task h).1)).toArray, .bool ((syncR c task h).2)]) ?_
    refine np (.agg (HD.cells ((syncR c task h).1)).toArray) ?_
    refine np (.bool ((syncR c task h).2)) ?_
    refine na hM (HD.cells HD.zero) Z_impl_Hand ?_
    clear hM; intro g6 W10 hM
    refine nS hM 0 rfl (HD.cells ((syncR c task h).1)) I_impl_Hand (hd_one' _) ?_
    clear hM; intro W11 hM
    refine np (.bool ((syncR c task h).2)) ?_
    go_frame
    refine wl_nil (cn7 _ _ ?_)
    clear cn7
    refine wp_seq_k fun Kn8 cn8 => ?_
    refine wp_seq_k fun _ cn9 => wl_region ?_
    refine np (.bool ((syncR c task h).2)) ?_
    go_frame
    rcases tf ((syncR c task h).2) with hx16 | hx16
    rw [hx16]
    refine np (.bool false) ?_
    go_frame
    refine wl_nil (cn9 _ _ ?_)
    clear cn9
    refine wp_cond_false rfl ?_
    refine wp_skip ?_
    refine cn8 _ _ ?_
    clear cn8
    refine wp_seq_k fun _ cn10 => wl_region ?_
    refine nl hM 1 rfl Tryz.underlying55 I_impl_Shared ?_
    refine nl hM 0 rfl Tryz.underlying73 I_impl_Hand ?_
    go_frame
    rcases tf ((sharedB l c && handB ((syncR c task h).1))) with hx18 | hx18
    refine nc (spec_l7Done (.slice (some ⟨m1, 0, none⟩) l.length k1) (.slice (some ⟨m2, 0, none⟩) c.length k2) l c ((syncR c task h).1) _ (nslX (hM.blk 2 rfl) (by first | rfl | (simp; done) | (simp [liftR_len]; done)) q1 q2) (sli_blk (hM.blk 3 rfl) q3 q4) (by first | omega | (simp; omega) | (rw [liftR_len]; omega)) hc) ?_
    rintro e W12 ⟨rfl, hb⟩
    refine ⟨.tuple #[.agg #[.slice (some ⟨m1, 0, none⟩) l.length k1, .slice (some ⟨m2, 0, none⟩) c.length k2], .agg (HD.cells ((syncR c task h).1)).toArray, .bool true], congrArg Ending.returned (by simp [doneV, HD.val, hx18]), ?_⟩
    replace hM := hM.call hb
    go_frame
    refine np (.agg #[.slice (some ⟨m1, 0, none⟩) l.length k1, .slice (some ⟨m2, 0, none⟩) c.length k2]) ?_
    refine np (.agg (HD.cells ((syncR c task h).1)).toArray) ?_
    refine np (.bool true) ?_
    refine nS hM 5 rfl [.slice (some ⟨m1, 0, none⟩) l.length k1, .slice (some ⟨m2, 0, none⟩) c.length k2] I_impl_Shared rfl ?_
    clear hM; intro W13 hM
    refine nS hM 4 rfl (HD.cells ((syncR c task h).1)) I_impl_Hand (hd_one' _) ?_
    clear hM; intro W14 hM
    refine np (.bool true) ?_
    go_frame
    refine wl_nil (cn10 _ _ ?_)
    clear cn10
    refine wp_ret ?_
    have hps : 0 < (l : List ND).length := hl1
    have hR : waitR l c task h = (l, c, (syncR c task h).1, true) := by unfold waitR; rw [if_neg (by rw [hx11]; exact Bool.false_ne_true)]; simp [doneR, noR, hok, hx12, hx16, hx18, ht]
    rw [hR]
    exact bodyPost_ret (ret3 (p := 6) (q := 7) (u := 8) (v := .bool true) rfl hM 5 4 rfl rfl rfl rfl rfl) rfl ⟨_, _, rfl, own_nX (hM.blk 2 rfl) (by first | rfl | (simp; done) | (simp [liftR_len]; done)) q1 q2 (hM.base 2 rfl) hps (by first | exact q5 | (simpa [cellsOf_len] using q5) | (simpa [cellsOf_len, liftR_len] using q5)), own_iblk (hM.blk 3 rfl) q3 q4 (hM.base 3 rfl) hc1 q6, hM.below⟩
    refine nc (spec_l7Done (.slice (some ⟨m1, 0, none⟩) l.length k1) (.slice (some ⟨m2, 0, none⟩) c.length k2) l c ((syncR c task h).1) _ (nslX (hM.blk 2 rfl) (by first | rfl | (simp; done) | (simp [liftR_len]; done)) q1 q2) (sli_blk (hM.blk 3 rfl) q3 q4) (by first | omega | (simp; omega) | (rw [liftR_len]; omega)) hc) ?_
    rintro e W12 ⟨rfl, hb⟩
    refine ⟨.tuple #[.agg #[.slice none 0 0, .slice none 0 0], .agg (HD.cells HD.zero).toArray, .bool false], congrArg Ending.returned (by simp [doneV, HD.val, hx18]), ?_⟩
    replace hM := hM.call hb
    go_frame
    refine np (.agg #[.slice none 0 0, .slice none 0 0]) ?_
    refine np (.agg (HD.cells HD.zero).toArray) ?_
    refine np (.bool false) ?_
    refine nS hM 5 rfl [.slice none 0 0, .slice none 0 0] I_impl_Shared rfl ?_
    clear hM; intro W13 hM
    refine nS hM 4 rfl (HD.cells HD.zero) I_impl_Hand (hd_one' _) ?_
    clear hM; intro W14 hM
    refine np (.bool false) ?_
    go_frame
    refine wl_nil (cn10 _ _ ?_)
    clear cn10
    refine wp_ret ?_
    have hR : waitR l c task h = ([], [], HD.zero, false) := by unfold waitR; rw [if_neg (by rw [hx11]; exact Bool.false_ne_true)]; simp [doneR, noR, hok, hx12, hx16, hx18, ht]
    rw [hR]
    exact bodyPost_ret (ret3 (p := 6) (q := 7) (u := 8) (v := .bool false) rfl hM 5 4 rfl rfl rfl rfl rfl) rfl ⟨_, _, rfl, own0, own0, hM.below⟩
    rw [hx16]
    refine np (.bool true) ?_
    go_frame
    refine wl_nil (cn9 _ _ ?_)
    clear cn9
    refine wp_cond_true rfl ?_
    refine wp_seq_k fun Kn10 cn10 => ?_
    refine wa_start (fun w => Below w0.heap.size w0 w ∧ Blk w g5 55 [.slice (some ⟨m1, 0, none⟩) l.length k1, .slice (some ⟨m2, 0, none⟩) c.length k2] ∧ Blk w g2 73 (HD.cells h)) 5 rfl (by kernel_rfl) ?_
    replace hM := hM.drew
    refine wq 0 (some 58) (.agg #[.slice (some ⟨m1, 0, none⟩) l.length k1, .slice (some ⟨m2, 0, none⟩) c.length k2]) ⟨hM.below, hM.blk 1 rfl, hM.blk 6 rfl⟩ rfl (fun w hS => r_load hS.2.1 55 _ rfl rfl Tryz.underlying55 I_impl_Shared) ?_
    go_frame
    refine wq 1 (some 59) (.agg (HD.cells h).toArray) ⟨hM.below, hM.blk 1 rfl, hM.blk 6 rfl⟩ rfl (fun w hS => r_load hS.2.2 73 _ rfl rfl Tryz.underlying73 I_impl_Hand) ?_
    go_frame
    refine wn 2 ?_
    refine oS hM 5 rfl [.slice (some ⟨m1, 0, none⟩) l.length k1, .slice (some ⟨m2, 0, none⟩) c.length k2] I_impl_Shared rfl ?_
    clear hM; intro W12 hM
    refine ⟨⟨hM.below, hM.blk 1 rfl, hM.blk 6 rfl⟩, ?_⟩
    refine wn 3 ?_
    refine oS hM 4 rfl (HD.cells h) I_impl_Hand (hd_one' _) ?_
    clear hM; intro W13 hM
    refine wk ⟨hM.below, hM.blk 1 rfl, hM.blk 6 rfl⟩ fun hs => ?_
    refine wt 4 (some 8) (.bool false) hs ?_
    go_frame
    refine wa_done (by kernel_rfl) ?_
    refine cn10 _ _ ?_
    clear cn10
    refine wp_ret ?_
    simp only [Exit.then, Exit.inBlock]
    have hps : 0 < (l : List ND).length := hl1
    have hR : waitR l c task h = (l, c, h, false) := by unfold waitR; rw [if_neg (by rw [hx11]; exact Bool.false_ne_true)]; simp [doneR, noR, hok, hx12, hx16, ht]
    rw [hR]
    exact bodyPost_ret (ret3 (p := 6) (q := 7) (u := 8) (v := .bool false) rfl hM 5 4 rfl rfl rfl rfl rfl) rfl ⟨_, _, rfl, own_nX (hM.blk 2 rfl) (by first | rfl | (simp; done) | (simp [liftR_len]; done)) q1 q2 (hM.base 2 rfl) hps (by first | exact q5 | (simpa [cellsOf_len] using q5) | (simpa [cellsOf_len, liftR_len] using q5)), own_iblk (hM.blk 3 rfl) q3 q4 (hM.base 3 rfl) hc1 q6, hM.below⟩
    refine wl_region ?_
    refine nl hM 3 rfl Tryz.underlying55 I_impl_Shared ?_
    refine np (.int .i64 task) ?_
    refine nl hM 2 rfl Tryz.underlying73 I_impl_Hand ?_
    refine nc (spec_l7Ok (.slice (some ⟨b, off, none⟩) l.length cap) (.slice (some ⟨b2, off2, none⟩) c.length cap2) l c task h 22 26 _ (H1.below hM.below) (H2.below hM.below) hl hc) ?_
    rintro e W6 ⟨rfl, hb⟩
    refine ⟨.bool true, rb hok, ?_⟩
    replace hM := hM.call hb
    go_frame
    refine np (.bool false) ?_
    refine np (.bool false) ?_
    refine np (.pointer (some ⟨g2, 0, none⟩)) ?_
    refine ng hM 2 rfl 0 Tryz.underlying2 rfl ?_
    refine np (.bool (h.at_ != 22)) ?_
    refine np (.bool (h.at_ != 22)) ?_
    go_frame
    rcases tf ((h.at_ != 22)) with hx19 | hx19
    rw [hx19]
    refine np (.pointer (some ⟨g2, 0, none⟩)) ?_
    refine ng hM 2 rfl 0 Tryz.underlying2 rfl ?_
    refine np (.bool (h.at_ != 26)) ?_
    refine np (.bool (h.at_ != 26)) ?_
    refine np (.bool (h.at_ != 26)) ?_
    go_frame
    refine wl_nil ?_
    exact ⟨(fun i => ([.agg #[.slice (some ⟨b, off, none⟩) l.length cap, .slice (some ⟨b2, off2, none⟩) c.length cap2], .int .i64 task, .agg (HD.cells h).toArray, .bool true, .bool false, .bool false, .pointer (some ⟨g2, 0, none⟩), .int .i64 h.at_, .bool true, .bool true, .pointer (some ⟨g2, 0, none⟩), .int .i64 h.at_, .bool (h.at_ != 26), .bool (h.at_ != 26), .bool (h.at_ != 26)] : List Value).getD i undef), rfl, congrArg Value.bool (show (h.at_ != 26) = xg1 by rw [hxg1]; simp [hok, hx19]), hM⟩
    rw [hx19]
    iterate 3 refine ns ?_
    refine np (.bool false) ?_
    refine np (.bool false) ?_
    go_frame
    refine wl_nil ?_
    exact ⟨(fun i => ([.agg #[.slice (some ⟨b, off, none⟩) l.length cap, .slice (some ⟨b2, off2, none⟩) c.length cap2], .int .i64 task, .agg (HD.cells h).toArray, .bool true, .bool false, .bool false, .pointer (some ⟨g2, 0, none⟩), .int .i64 h.at_, .bool false, .bool false, undef, undef, undef, .bool false, .bool false] : List Value).getD i undef), rfl, congrArg Value.bool (show false = xg1 by rw [hxg1]; simp [hok, hx19]), hM⟩
  · obtain ⟨a1, j1, rfl, -⟩ := h1
    obtain ⟨a2, j2, rfl, -⟩ := h2
    go_enter Tryz.func93, Tryz.ntmps93
    refine wp_seq_k fun _ cn1 => wl_region ?_
    refine nx hM 55 [.slice a1 l.length j1, .slice a2 c.length j2] ?_
    clear hM; intro g1 W1 hM
    refine nx hM 73 (HD.cells h) ?_
    clear hM; intro g2 W2 hM
    refine na hM [.slice none 0 0, .slice none 0 0] Z_impl_Shared ?_
    clear hM; intro g3 W3 hM
    refine na hM (HD.cells HD.zero) Z_impl_Hand ?_
    clear hM; intro g4 W4 hM
    refine np (.bool false) ?_
    go_frame
    refine wl_nil (cn1 _ _ ?_)
    clear cn1
    refine wp_seq_k fun Kn2 cn2 => ?_
    refine wp_seq_k fun _ cn3 => wl_region ?_
    refine nl hM 3 rfl Tryz.underlying55 I_impl_Shared ?_
    refine np (.int .i64 task) ?_
    refine nl hM 2 rfl Tryz.underlying73 I_impl_Hand ?_
    refine nc (spec_l7Ok (.slice a1 l.length j1) (.slice a2 c.length j2) l c task h 22 26 _ (H1.below hM.below) (H2.below hM.below) hl hc) ?_
    rintro e W5 ⟨rfl, hb⟩
    refine ⟨.bool false, rb hok, ?_⟩
    replace hM := hM.call hb
    go_frame
    refine np (.bool true) ?_
    refine np (.bool true) ?_
    iterate 8 refine ns ?_
    refine np (.bool true) ?_
    go_frame
    refine wl_nil (cn3 _ _ ?_)
    clear cn3
    refine wp_cond_true rfl ?_
    refine wp_seq_k fun _ cn4 => wl_region ?_
    refine np (.agg #[.slice none 0 0, .slice none 0 0]) ?_
    refine np (.agg (HD.cells HD.zero).toArray) ?_
    refine nS hM 1 rfl [.slice none 0 0, .slice none 0 0] I_impl_Shared rfl ?_
    clear hM; intro W6 hM
    refine nS hM 0 rfl (HD.cells HD.zero) I_impl_Hand (hd_one' _) ?_
    clear hM; intro W7 hM
    refine np (.bool false) ?_
    go_frame
    refine wl_nil (cn4 _ _ ?_)
    clear cn4
    refine wp_ret ?_
    simp only [Exit.then, Exit.inBlock]
    have hR : waitR l c task h = ([], [], HD.zero, false) := by simp [waitR, doneR, noR, hok]
    rw [hR]
    exact bodyPost_ret (ret3 (p := 6) (q := 7) (u := 8) (v := .bool false) rfl hM 1 0 rfl rfl rfl rfl rfl) rfl ⟨_, _, rfl, own0, own0, hM.below⟩
end Go.Proofs.YtbfndoajchibbaaGreat
