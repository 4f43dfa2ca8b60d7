/- FnExactCutStep: its walk where the step is refused. -/
import Derived.Test.YthllpgjggmdmmaaLawShared
import Derived.Test.YthllpgjggmdmmaaCutImpl2
namespace Go.Proofs.Ythllpgjggmdmmaa
open Go.ChangeShapes Go.WideShapes Go.ChangeAt Go.RowKit
set_option linter.unusedVariables false
set_option linter.unusedSimpArgs false

set_option maxRecDepth 100000 in
set_option maxHeartbeats 16000000 in
theorem fnExactCutStep_Not (ua : Option Addr) (uc : Nat) (xa : Option Addr) (xc : Nat) (l : List ND) (c : List Int) (task : Int) (h : HD) (w0 : World) (h1 : NSl w0 (.slice ua l.length uc) l) (h2 : SlI w0 (.slice xa c.length xc) c) (hz : l.length + c.length ≤ 1048576)
    (hS : ∀ (w : World) (u x : Value), NSl w u l → SlI w x c → Calls Try.prog 5 #[.agg #[u, x], .int .i64 task, h.val] w (Says3 ([], [], HD.zero, false) w))
    (hI : ∀ (w : World) (ua : Option Addr) (uc : Nat) (xa : Option Addr) (xc : Nat), NSl w (.slice ua l.length uc) l → SlI w (.slice xa c.length xc) c → Calls Try.prog 8 #[.agg #[.slice ua l.length uc, .slice xa c.length xc], .int .i64 task, h.val] w (Says3 ([], [], HD.zero, false) w)) :
    Calls Try.prog 3 #[.agg #[.slice ua l.length uc, .slice xa c.length xc], .int .i64 task, h.val] w0 fun e w' => e = .returned (.bool true) ∧ Below w0.heap.size w0 w' := by
  have hl : l.length ≤ 1048576 := by omega
  have hc : c.length ≤ 1048576 := by omega
  have hzz : decide ((1048576 - (l.length : Int) - (c.length : Int)) < 0) = false := by simp; omega
  have hk0 : decide ((1 + 8 * (l.length : Int) + (c.length : Int)) < 0) = false := by simp; omega
  have hk2 : decide ((1 + 8 * ((0 : Nat) : Int) + ((0 : Nat) : Int)) < 0) = false := by decide
  have hk3 : ((1 + 8 * ((0 : Nat) : Int) + ((0 : Nat) : Int)) != 1) = false := by decide
  unfold HD.val at *
  have hM := Mem.start w0
  go_enter Try.func3, Try.ntmps3
  refine wp_seq_k fun Kn1 cn1 => ?_
  refine wl_region ?_
  refine wl_box (by kernel_rfl) hM 25 _ rfl [.slice ua l.length uc, .slice xa c.length xc] rfl ?_
  clear hM; intro g1 W1 hM
  go_frame
  refine wl_box (by kernel_rfl) hM 29 _ rfl (HD.cells h) rfl ?_
  clear hM; intro g2 W2 hM
  go_frame
  refine wl_pure (by kernel_rfl) (.bool false) (by kernel_rfl) ?_
  go_frame
  refine wl_nil ?_
  refine cn1 _ _ ?_
  clear cn1
  refine wp_seq_k fun Kn2 cn2 => ?_
  refine wl_region ?_
  refine wl_pure (by kernel_rfl) (.int .i64 1048576) (by kernel_rfl) ?_
  go_frame
  refine wl_nil ?_
  refine cn2 _ _ ?_
  clear cn2
  refine wp_seq_k fun Kn3 cn3 => ?_
  refine wl_region ?_
  refine wl_load (by kernel_rfl) hM 1 rfl 25 _ rfl rfl Try.underlying25 I_laws_Shared ?_
  go_frame
  refine wl_pure (by kernel_rfl) (.int .i64 1048576) (by kernel_rfl) ?_
  go_frame
  refine wl_call (by kernel_rfl) 4 #[.agg #[.slice ua l.length uc, .slice xa c.length xc], .int .i64 1048576] (by kernel_rfl) (szShared_in ua l.length uc xa c.length xc _ hz) ?_
  rintro e W3 ⟨rfl, hb⟩
  refine ⟨_, rfl, ?_⟩
  replace hM := hM.call hb
  go_frame
  refine wl_pure (by kernel_rfl) (.int .i64 (1048576 - (l.length : Int) - (c.length : Int))) (by kernel_rfl) ?_
  go_frame
  refine wl_nil ?_
  refine cn3 _ _ ?_
  clear cn3
  refine wp_seq_k fun Kn4 cn4 => ?_
  refine wp_seq_k fun Kn5 cn5 => ?_
  refine wl_region ?_
  refine wl_pure (by kernel_rfl) (.int .i64 (1048576 - (l.length : Int) - (c.length : Int))) (by kernel_rfl) ?_
  go_frame
  refine wl_pureB (by kernel_rfl) (b := decide ((1048576 - (l.length : Int) - (c.length : Int)) < 0)) (by kernel_rfl) (hzz) ?_
  go_frame
  refine wl_nil ?_
  refine cn5 _ _ ?_
  clear cn5
  refine wp_cond_false rfl ?_
  refine wp_skip ?_
  refine cn4 _ _ ?_
  clear cn4
  refine wp_seq_k fun Kn6 cn6 => ?_
  -- region 5, drawn: one after the other
  refine wa_join (fun act W => ∃ (g4 g3 ma'1 mb'2 : Nat) (ka'3 : Nat) (kb'4 : Nat) (pa'5 : List Value) (pb'6 : List Value) (v'11 : Option Addr) (y'11 : Option Addr) (j'11 : Nat) (i'11 : Nat), act = ⟨#[.agg #[.slice ua l.length uc, .slice xa c.length xc], .int .i64 task, .agg (HD.cells h).toArray, .pointer (some ⟨g1, 0, none⟩), undef, .pointer (some ⟨g2, 0, none⟩), .bool false, .int .i64 (1048576 - (l.length : Int) - (c.length : Int)), .pointer (some ⟨g3, 0, none⟩), .pointer (some ⟨g4, 0, none⟩), .bool false, undef, undef, undef, undef, undef, undef, undef, undef, undef, undef, .agg #[.slice ua l.length uc, .slice xa c.length xc], .int .i64 1048576, .int .i64 (1048576 - (l.length : Int) - (c.length : Int)), .int .i64 (1048576 - (l.length : Int) - (c.length : Int)), .bool false, .tuple #[.agg #[.slice v'11 0 j'11, .slice y'11 0 i'11], .agg (HD.cells HD.zero).toArray, .bool false], .agg #[.slice ua l.length uc, .slice xa c.length xc], .agg #[.slice (some ⟨ma'1, 0, none⟩) l.length ka'3, .slice (some ⟨mb'2, 0, none⟩) c.length kb'4], .int .i64 task, .agg (HD.cells h).toArray, .agg (HD.cells h).toArray, .tuple #[.agg #[.slice v'11 0 j'11, .slice y'11 0 i'11], .agg (HD.cells HD.zero).toArray, .bool false], .agg #[.slice v'11 0 j'11, .slice y'11 0 i'11], .agg (HD.cells HD.zero).toArray, .bool false, undef, undef, undef, undef, undef, undef, undef, undef, undef, undef, undef, undef, undef, undef, undef, undef, undef, undef, undef, undef, undef, undef, undef, undef, undef, undef, undef, undef, undef, undef, undef, undef, undef, undef, undef, undef, undef, undef, undef, undef, undef, undef, undef, undef, undef, undef, undef, undef, undef, undef, undef, undef, undef, undef, undef, undef, undef, undef, undef, undef, undef, undef, undef, undef, undef, undef, undef, undef, undef, undef, undef, undef, undef, undef, undef, undef, undef, undef, undef, undef, undef, undef, undef, undef, undef, undef, undef, undef, undef, undef, undef, undef, undef, undef, undef, undef, undef], []⟩ ∧ Mem w0 W [(g4, 36, (HD.cells HD.zero)), (g3, 33, [.slice v'11 0 j'11, .slice y'11 0 i'11]), (ma'1, 52, (cellsOf l ++ pa'5)), (mb'2, 2, (cellsI c ++ pb'6)), (g2, 29, (HD.cells h)), (g1, 25, [.slice ua l.length uc, .slice xa c.length xc])] ∧ (l.length ≤ ka'3 ∧ ka'3 ≤ maxLen ∧ c.length ≤ kb'4 ∧ kb'4 ≤ maxLen) ∧ (j'11 ≤ maxLen ∧ i'11 ≤ maxLen)) ?_ ?_
  clear hM
  rintro act W11 ⟨g4, g3, ma'1, mb'2, ka'3, kb'4, pa'5, pb'6, v'11, y'11, j'11, i'11, rfl, hM, ⟨qa'7, qb'8, qc'9, qd'10⟩, ⟨s'11_1, s'11_2⟩⟩
  refine cn6 _ _ ?_
  clear cn6
  refine wp_seq_k fun Kn7 cn7 => ?_
  refine wl_region ?_
  refine wl_load (by kernel_rfl) hM 5 rfl 25 _ rfl rfl Try.underlying25 I_laws_Shared ?_
  go_frame
  refine wl_call (by kernel_rfl) 6 #[.agg #[.slice ua l.length uc, .slice xa c.length xc]] (by kernel_rfl) (toShared_any (.slice ua l.length uc) (.slice xa c.length xc) l c _ (h1.below hM.below) (h2.below hM.below) hl hc) ?_
  rintro e W12 ⟨ma'12, mb'13, ka'14, kb'15, pa'16, pb'17, rfl, ⟨qa'18, qb'19, qc'20, qd'21, -, -⟩, hMc⟩
  refine ⟨_, rfl, ?_⟩
  replace hM := hM.join hMc
  go_frame
  refine wl_alloc (by kernel_rfl) hM 33 rfl [.slice none 0 0, .slice none 0 0] Z_impl_Shared ?_
  clear hM; intro g5 W13 hM
  go_frame
  refine wl_store (by kernel_rfl) hM 0 rfl 33 _ _ rfl rfl rfl [.slice (some ⟨ma'12, 0, none⟩) l.length ka'14, .slice (some ⟨mb'13, 0, none⟩) c.length kb'15] rfl I_impl_Shared rfl rfl ?_
  clear hM; intro W14 hM
  refine wl_nil ?_
  refine cn7 _ _ ?_
  clear cn7
  refine wp_seq_k fun Kn8 cn8 => ?_
  -- region 7, drawn: one after the other
  refine wa_join (fun act W => ∃ (g7 g6 : Nat) (v'22 : Option Addr) (y'22 : Option Addr) (j'22 : Nat) (i'22 : Nat), act = ⟨#[.agg #[.slice ua l.length uc, .slice xa c.length xc], .int .i64 task, .agg (HD.cells h).toArray, .pointer (some ⟨g1, 0, none⟩), undef, .pointer (some ⟨g2, 0, none⟩), .bool false, .int .i64 (1048576 - (l.length : Int) - (c.length : Int)), .pointer (some ⟨g3, 0, none⟩), .pointer (some ⟨g4, 0, none⟩), .bool false, .pointer (some ⟨g5, 0, none⟩), .pointer (some ⟨g6, 0, none⟩), .pointer (some ⟨g7, 0, none⟩), .bool false, undef, undef, undef, undef, undef, undef, .agg #[.slice ua l.length uc, .slice xa c.length xc], .int .i64 1048576, .int .i64 (1048576 - (l.length : Int) - (c.length : Int)), .int .i64 (1048576 - (l.length : Int) - (c.length : Int)), .bool false, .tuple #[.agg #[.slice v'11 0 j'11, .slice y'11 0 i'11], .agg (HD.cells HD.zero).toArray, .bool false], .agg #[.slice ua l.length uc, .slice xa c.length xc], .agg #[.slice (some ⟨ma'1, 0, none⟩) l.length ka'3, .slice (some ⟨mb'2, 0, none⟩) c.length kb'4], .int .i64 task, .agg (HD.cells h).toArray, .agg (HD.cells h).toArray, .tuple #[.agg #[.slice v'11 0 j'11, .slice y'11 0 i'11], .agg (HD.cells HD.zero).toArray, .bool false], .agg #[.slice v'11 0 j'11, .slice y'11 0 i'11], .agg (HD.cells HD.zero).toArray, .bool false, .agg #[.slice ua l.length uc, .slice xa c.length xc], .agg #[.slice (some ⟨ma'12, 0, none⟩) l.length ka'14, .slice (some ⟨mb'13, 0, none⟩) c.length kb'15], .tuple #[.agg #[.slice v'22 0 j'22, .slice y'22 0 i'22], .agg (HD.cells HD.zero).toArray, .bool false], .agg #[.slice (some ⟨ma'12, 0, none⟩) l.length ka'14, .slice (some ⟨mb'13, 0, none⟩) c.length kb'15], .int .i64 task, .agg (HD.cells h).toArray, .agg (HD.cells h).toArray, .tuple #[.agg #[.slice v'22 0 j'22, .slice y'22 0 i'22], .agg (HD.cells HD.zero).toArray, .bool false], .agg #[.slice v'22 0 j'22, .slice y'22 0 i'22], .agg (HD.cells HD.zero).toArray, .bool false, undef, undef, undef, undef, undef, undef, undef, undef, undef, undef, undef, undef, undef, undef, undef, undef, undef, undef, undef, undef, undef, undef, undef, undef, undef, undef, undef, undef, undef, undef, undef, undef, undef, undef, undef, undef, undef, undef, undef, undef, undef, undef, undef, undef, undef, undef, undef, undef, undef, undef, undef, undef, undef, undef, undef, undef, undef, undef, undef, undef, undef, undef, undef, undef, undef, undef, undef, undef, undef, undef, undef, undef, undef, undef, undef, undef, undef, undef, undef, undef, undef, undef, undef, undef, undef, undef], []⟩ ∧ Mem w0 W [(g7, 36, (HD.cells HD.zero)), (g6, 33, [.slice v'22 0 j'22, .slice y'22 0 i'22]), (g5, 33, [.slice (some ⟨ma'12, 0, none⟩) l.length ka'14, .slice (some ⟨mb'13, 0, none⟩) c.length kb'15]), (ma'12, 52, (cellsOf l ++ pa'16)), (mb'13, 2, (cellsI c ++ pb'17)), (g4, 36, (HD.cells HD.zero)), (g3, 33, [.slice v'11 0 j'11, .slice y'11 0 i'11]), (ma'1, 52, (cellsOf l ++ pa'5)), (mb'2, 2, (cellsI c ++ pb'6)), (g2, 29, (HD.cells h)), (g1, 25, [.slice ua l.length uc, .slice xa c.length xc])] ∧ (j'22 ≤ maxLen ∧ i'22 ≤ maxLen)) ?_ ?_
  clear hM
  rintro act W21 ⟨g7, g6, v'22, y'22, j'22, i'22, rfl, hM, ⟨s'22_1, s'22_2⟩⟩
  refine cn8 _ _ ?_
  clear cn8
  refine wp_seq_k fun Kn9 cn9 => ?_
  refine wp_seq_k fun Kn10 cn10 => ?_
  refine wl_region ?_
  refine wl_load (by kernel_rfl) hM 1 rfl 33 _ rfl rfl Try.underlying33 I_impl_Shared ?_
  go_frame
  refine wl_load (by kernel_rfl) hM 6 rfl 33 _ rfl rfl Try.underlying33 I_impl_Shared ?_
  go_frame
  refine wl_call (by kernel_rfl) 9 #[.agg #[.slice v'22 0 j'22, .slice y'22 0 i'22], .agg #[.slice v'11 0 j'11, .slice y'11 0 i'11]] (by kernel_rfl) (eqShared_same (.slice v'22 0 j'22) (.slice y'22 0 i'22) (.slice v'11 0 j'11) (.slice y'11 0 i'11) [] [] _ (nsl_nil s'22_1) (nsl_nil s'11_1) (sli_nil s'22_2) (sli_nil s'11_2)) ?_
  rintro e W22 ⟨rfl, hb⟩
  refine ⟨_, rfl, ?_⟩
  replace hM := hM.call hb
  go_frame
  refine wl_pure (by kernel_rfl) (.bool false) (by kernel_rfl) ?_
  go_frame
  refine wl_pure (by kernel_rfl) (.bool false) (by kernel_rfl) ?_
  go_frame
  refine wl_load (by kernel_rfl) hM 0 rfl 36 _ rfl rfl Try.underlying36 I_impl_Hand ?_
  go_frame
  refine wl_load (by kernel_rfl) hM 5 rfl 36 _ rfl rfl Try.underlying36 I_impl_Hand ?_
  go_frame
  refine wl_call (by kernel_rfl) 10 #[.agg (HD.cells HD.zero).toArray, .agg (HD.cells HD.zero).toArray] (by kernel_rfl) (eqHand_self HD.zero _) ?_
  rintro e W23 ⟨rfl, hb⟩
  refine ⟨_, rfl, ?_⟩
  replace hM := hM.call hb
  go_frame
  refine wl_pure (by kernel_rfl) (.bool false) (by kernel_rfl) ?_
  go_frame
  refine wl_pure (by kernel_rfl) (.bool false) (by kernel_rfl) ?_
  go_frame
  refine wl_pure (by kernel_rfl) (.bool false) (by kernel_rfl) ?_
  go_frame
  refine wl_pure (by kernel_rfl) (.bool false) (by kernel_rfl) ?_
  go_frame
  refine wl_pure (by kernel_rfl) (.bool false) (by kernel_rfl) ?_
  go_frame
  refine wl_pure (by kernel_rfl) (.bool false) (by kernel_rfl) ?_
  go_frame
  refine wl_pure (by kernel_rfl) (.bool false) (by kernel_rfl) ?_
  go_frame
  refine wl_nil ?_
  refine cn10 _ _ ?_
  clear cn10
  refine wp_cond_false rfl ?_
  refine wp_skip ?_
  refine cn9 _ _ ?_
  clear cn9
  refine wp_seq_k fun Kn11 cn11 => ?_
  refine wp_seq_k fun Kn12 cn12 => ?_
  -- region 10, drawn: one after the other
  refine wa_start (fun w => Below w0.heap.size w0 w ∧ Blk w g5 33 [.slice (some ⟨ma'12, 0, none⟩) l.length ka'14, .slice (some ⟨mb'13, 0, none⟩) c.length kb'15] ∧ Blk w g1 25 [.slice ua l.length uc, .slice xa c.length xc]) 5 rfl (by kernel_rfl) ?_
  replace hM := hM.drew
  refine wa_take 0 (some 62) (.agg #[.slice (some ⟨ma'12, 0, none⟩) l.length ka'14, .slice (some ⟨mb'13, 0, none⟩) c.length kb'15]) rfl rfl (by kernel_rfl) (by kernel_rfl) (by kernel_rfl) (fun _ _ _ h => h) (by kernel_rfl) (fun w hS => r_load hS.2.1 33 _ rfl rfl Try.underlying33 I_impl_Shared) ⟨hM.below, hM.blk 2 rfl, hM.blk 10 rfl⟩ ?_
  go_frame
  refine wa_take 1 (some 63) (.agg #[.slice ua l.length uc, .slice xa c.length xc]) rfl rfl (by kernel_rfl) (by kernel_rfl) (by kernel_rfl) (fun _ _ _ h => h) (by kernel_rfl) (fun w hS => r_load hS.2.2 25 _ rfl rfl Try.underlying25 I_laws_Shared) ⟨hM.below, hM.blk 2 rfl, hM.blk 10 rfl⟩ ?_
  go_frame
  refine wa_one 2 (by kernel_rfl) ?_
  refine wo_call (some 64) rfl rfl (by kernel_rfl) 6 #[.agg #[.slice ua l.length uc, .slice xa c.length xc]] (by kernel_rfl) (toShared_any (.slice ua l.length uc) (.slice xa c.length xc) l c _ (h1.below hM.below) (h2.below hM.below) hl hc) ?_
  rintro e W24 ⟨ma'23, mb'24, ka'25, kb'26, pa'27, pb'28, rfl, ⟨qa'29, qb'30, qc'31, qd'32, -, -⟩, hMc⟩
  replace hM := hM.join hMc
  refine ⟨_, rfl, ⟨hM.below, hM.blk 4 rfl, hM.blk 12 rfl⟩, ?_⟩
  go_frame
  refine wa_one 3 (by kernel_rfl) ?_
  refine wo_call (some 65) rfl rfl (by kernel_rfl) 9 #[.agg #[.slice (some ⟨ma'12, 0, none⟩) l.length ka'14, .slice (some ⟨mb'13, 0, none⟩) c.length kb'15], .agg #[.slice (some ⟨ma'23, 0, none⟩) l.length ka'25, .slice (some ⟨mb'24, 0, none⟩) c.length kb'26]] (by kernel_rfl) (eqShared_same (.slice (some ⟨ma'12, 0, none⟩) l.length ka'14) (.slice (some ⟨mb'13, 0, none⟩) c.length kb'15) (.slice (some ⟨ma'23, 0, none⟩) l.length ka'25) (.slice (some ⟨mb'24, 0, none⟩) c.length kb'26) l c _ (nsl_blk (hM.blk 5 rfl) qa'18 qb'19) (nsl_blk (hM.blk 0 rfl) qa'29 qb'30) (sli_blk (hM.blk 6 rfl) qc'20 qd'21) (sli_blk (hM.blk 1 rfl) qc'31 qd'32)) ?_
  rintro e W25 ⟨rfl, hb⟩
  replace hM := hM.call hb
  refine ⟨_, rfl, ⟨hM.below, hM.blk 4 rfl, hM.blk 12 rfl⟩, ?_⟩
  go_frame
  refine wa_take 4 (some 66) (.bool false) rfl rfl (by kernel_rfl) (by kernel_rfl) (by kernel_rfl) (fun _ _ _ h => h) (by kernel_rfl) (fun w hS => by kernel_rfl) ⟨hM.below, hM.blk 4 rfl, hM.blk 12 rfl⟩ ?_
  go_frame
  refine wa_done (by kernel_rfl) ?_
  refine cn12 _ _ ?_
  clear cn12
  refine wp_cond_false rfl ?_
  refine wp_skip ?_
  refine cn11 _ _ ?_
  clear cn11
  refine wp_seq_k fun Kn13 cn13 => ?_
  refine wl_region ?_
  refine wl_pure (by kernel_rfl) (.int .i64 1) (by kernel_rfl) ?_
  go_frame
  refine wl_nil ?_
  refine cn13 _ _ ?_
  clear cn13
  refine wp_seq_k fun Kn14 cn14 => ?_
  refine wl_region ?_
  refine wl_load (by kernel_rfl) hM 4 rfl 33 _ rfl rfl Try.underlying33 I_impl_Shared ?_
  go_frame
  refine wl_pure (by kernel_rfl) (.int .i64 1) (by kernel_rfl) ?_
  go_frame
  replace hM := hM.pull 6 rfl
  replace hM := hM.pull 6 rfl
  replace hM : Mem w0 W25 [(ma'12, 52, (cellsOf l ++ pa'16)), (mb'13, 2, (cellsI c ++ pb'17)), (ma'23, 52, (cellsOf l ++ pa'27)), (mb'24, 2, (cellsI c ++ pb'28)), (g7, 36, (HD.cells HD.zero)), (g6, 33, [.slice v'22 0 j'22, .slice y'22 0 i'22]), (g5, 33, [.slice (some ⟨ma'12, 0, none⟩) l.length ka'14, .slice (some ⟨mb'13, 0, none⟩) c.length kb'15]), (g4, 36, (HD.cells HD.zero)), (g3, 33, [.slice v'11 0 j'11, .slice y'11 0 i'11]), (ma'1, 52, (cellsOf l ++ pa'5)), (mb'2, 2, (cellsI c ++ pb'6)), (g2, 29, (HD.cells h)), (g1, 25, [.slice ua l.length uc, .slice xa c.length xc])] := hM
  refine wl_call (by kernel_rfl) 11 #[.agg #[.slice (some ⟨ma'12, 0, none⟩) l.length ka'14, .slice (some ⟨mb'13, 0, none⟩) c.length kb'15], .int .i64 1] (by kernel_rfl) (markShared_own l.length c.length (cellsOf l) (cellsI c) 1 ma'12 ka'14 pa'16 mb'13 kb'15 pb'17 _ _ _ hM qa'18 qb'19 qc'20 qd'21 (cellsOf_len _) (by simp [cellsI]) (by omega) (by omega) (by omega) (by omega)) ?_
  rintro e W26 ⟨pm'33, pn'34, rfl, hM2⟩
  refine ⟨_, rfl, ?_⟩
  clear hM; have hM := hM2; clear hM2
  go_frame
  refine wl_pure (by kernel_rfl) (.int .i64 (1 + 8 * (l.length : Int) + (c.length : Int))) (by kernel_rfl) ?_
  go_frame
  refine wl_nil ?_
  refine cn14 _ _ ?_
  clear cn14
  refine wp_seq_k fun Kn15 cn15 => ?_
  refine wp_seq_k fun Kn16 cn16 => ?_
  refine wl_region ?_
  refine wl_pure (by kernel_rfl) (.int .i64 (1 + 8 * (l.length : Int) + (c.length : Int))) (by kernel_rfl) ?_
  go_frame
  refine wl_pureB (by kernel_rfl) (b := decide ((1 + 8 * (l.length : Int) + (c.length : Int)) < 0)) (by kernel_rfl) (hk0) ?_
  go_frame
  refine wl_pure (by kernel_rfl) (.bool false) (by kernel_rfl) ?_
  go_frame
  refine wl_load (by kernel_rfl) hM 5 rfl 33 _ rfl rfl Try.underlying33 I_impl_Shared ?_
  go_frame
  refine wl_load (by kernel_rfl) hM 8 rfl 33 _ rfl rfl Try.underlying33 I_impl_Shared ?_
  go_frame
  refine wl_call (by kernel_rfl) 9 #[.agg #[.slice v'22 0 j'22, .slice y'22 0 i'22], .agg #[.slice v'11 0 j'11, .slice y'11 0 i'11]] (by kernel_rfl) (eqShared_same (.slice v'22 0 j'22) (.slice y'22 0 i'22) (.slice v'11 0 j'11) (.slice y'11 0 i'11) [] [] _ (nsl_nil s'22_1) (nsl_nil s'11_1) (sli_nil s'22_2) (sli_nil s'11_2)) ?_
  rintro e W27 ⟨rfl, hb⟩
  refine ⟨_, rfl, ?_⟩
  replace hM := hM.call hb
  go_frame
  refine wl_pure (by kernel_rfl) (.bool false) (by kernel_rfl) ?_
  go_frame
  refine wl_pure (by kernel_rfl) (.bool false) (by kernel_rfl) ?_
  go_frame
  refine wl_pure (by kernel_rfl) (.bool false) (by kernel_rfl) ?_
  go_frame
  refine wl_load (by kernel_rfl) hM 4 rfl 36 _ rfl rfl Try.underlying36 I_impl_Hand ?_
  go_frame
  refine wl_load (by kernel_rfl) hM 7 rfl 36 _ rfl rfl Try.underlying36 I_impl_Hand ?_
  go_frame
  refine wl_call (by kernel_rfl) 10 #[.agg (HD.cells HD.zero).toArray, .agg (HD.cells HD.zero).toArray] (by kernel_rfl) (eqHand_self HD.zero _) ?_
  rintro e W28 ⟨rfl, hb⟩
  refine ⟨_, rfl, ?_⟩
  replace hM := hM.call hb
  go_frame
  refine wl_pure (by kernel_rfl) (.bool false) (by kernel_rfl) ?_
  go_frame
  refine wl_pure (by kernel_rfl) (.bool false) (by kernel_rfl) ?_
  go_frame
  refine wl_pure (by kernel_rfl) (.bool false) (by kernel_rfl) ?_
  go_frame
  refine wl_pure (by kernel_rfl) (.bool false) (by kernel_rfl) ?_
  go_frame
  refine wl_pure (by kernel_rfl) (.bool false) (by kernel_rfl) ?_
  go_frame
  refine wl_pure (by kernel_rfl) (.bool false) (by kernel_rfl) ?_
  go_frame
  refine wl_pure (by kernel_rfl) (.bool false) (by kernel_rfl) ?_
  go_frame
  refine wl_nil ?_
  refine cn16 _ _ ?_
  clear cn16
  refine wp_cond_false rfl ?_
  refine wp_skip ?_
  refine cn15 _ _ ?_
  clear cn15
  refine wp_seq_k fun Kn17 cn17 => ?_
  refine wl_region ?_
  refine wl_pure (by kernel_rfl) (.int .i64 1) (by kernel_rfl) ?_
  go_frame
  refine wl_nil ?_
  refine cn17 _ _ ?_
  clear cn17
  refine wp_seq_k fun Kn18 cn18 => ?_
  refine wl_region ?_
  refine wl_load (by kernel_rfl) hM 5 rfl 33 _ rfl rfl Try.underlying33 I_impl_Shared ?_
  go_frame
  refine wl_pure (by kernel_rfl) (.int .i64 1) (by kernel_rfl) ?_
  go_frame
  refine wl_call (by kernel_rfl) 11 #[.agg #[.slice v'22 0 j'22, .slice y'22 0 i'22], .int .i64 1] (by kernel_rfl) (markShared_nil v'22 j'22 y'22 i'22 1 _ (by omega) (by omega)) ?_
  rintro e W29 ⟨rfl, hb⟩
  refine ⟨_, rfl, ?_⟩
  replace hM := hM.call hb
  go_frame
  refine wl_pure (by kernel_rfl) (.int .i64 1) (by kernel_rfl) ?_
  go_frame
  refine wl_nil ?_
  refine cn18 _ _ ?_
  clear cn18
  refine wp_seq_k fun Kn19 cn19 => ?_
  refine wl_region ?_
  refine wl_pure (by kernel_rfl) (.int .i64 1) (by kernel_rfl) ?_
  go_frame
  refine wl_nil ?_
  refine cn19 _ _ ?_
  clear cn19
  refine wp_seq_k fun Kn20 cn20 => ?_
  refine wl_region ?_
  refine wl_load (by kernel_rfl) hM 5 rfl 33 _ rfl rfl Try.underlying33 I_impl_Shared ?_
  go_frame
  refine wl_pure (by kernel_rfl) (.int .i64 1) (by kernel_rfl) ?_
  go_frame
  refine wl_call (by kernel_rfl) 12 #[.agg #[.slice v'22 0 j'22, .slice y'22 0 i'22], .int .i64 1] (by kernel_rfl) (heldShared_same (.slice v'22 0 j'22) (.slice y'22 0 i'22) 0 0 1 _ (nsl_nil s'22_1) (sli_nil s'22_2) (by omega) (by omega) (by omega) (by omega)) ?_
  rintro e W30 ⟨rfl, hb⟩
  refine ⟨_, rfl, ?_⟩
  replace hM := hM.call hb
  go_frame
  refine wl_pure (by kernel_rfl) (.int .i64 (1 + 8 * ((0 : Nat) : Int) + ((0 : Nat) : Int))) (by kernel_rfl) ?_
  go_frame
  refine wl_nil ?_
  refine cn20 _ _ ?_
  clear cn20
  refine wp_seq_k fun Kn21 cn21 => ?_
  refine wp_seq_k fun Kn22 cn22 => ?_
  refine wl_region ?_
  refine wl_pure (by kernel_rfl) (.int .i64 (1 + 8 * ((0 : Nat) : Int) + ((0 : Nat) : Int))) (by kernel_rfl) ?_
  go_frame
  refine wl_pureB (by kernel_rfl) (b := decide ((1 + 8 * ((0 : Nat) : Int) + ((0 : Nat) : Int)) < 0)) (by kernel_rfl) (hk2) ?_
  go_frame
  refine wl_nil ?_
  refine cn22 _ _ ?_
  clear cn22
  refine wp_cond_false rfl ?_
  refine wp_skip ?_
  refine cn21 _ _ ?_
  clear cn21
  refine wp_seq_k fun Kn23 cn23 => ?_
  refine wp_seq_k fun Kn24 cn24 => ?_
  refine wl_region ?_
  refine wl_pure (by kernel_rfl) (.int .i64 (1 + 8 * ((0 : Nat) : Int) + ((0 : Nat) : Int))) (by kernel_rfl) ?_
  go_frame
  refine wl_pure (by kernel_rfl) (.int .i64 1) (by kernel_rfl) ?_
  go_frame
  refine wl_pureB (by kernel_rfl) (b := ((1 + 8 * ((0 : Nat) : Int) + ((0 : Nat) : Int)) != 1)) (by kernel_rfl) (hk3) ?_
  go_frame
  refine wl_nil ?_
  refine cn24 _ _ ?_
  clear cn24
  refine wp_cond_false rfl ?_
  refine wp_skip ?_
  refine cn23 _ _ ?_
  clear cn23
  refine wp_seq_k fun Kn25 cn25 => ?_
  -- region 24, drawn: one after the other
  refine wa_join (fun act W => ∃ (g9 g8 ma'35 mb'36 : Nat) (ka'37 : Nat) (kb'38 : Nat) (pa'39 : List Value) (pb'40 : List Value) (v'45 : Option Addr) (y'45 : Option Addr) (j'45 : Nat) (i'45 : Nat), act = ⟨#[.agg #[.slice ua l.length uc, .slice xa c.length xc], .int .i64 task, .agg (HD.cells h).toArray, .pointer (some ⟨g1, 0, none⟩), undef, .pointer (some ⟨g2, 0, none⟩), .bool false, .int .i64 (1048576 - (l.length : Int) - (c.length : Int)), .pointer (some ⟨g3, 0, none⟩), .pointer (some ⟨g4, 0, none⟩), .bool false, .pointer (some ⟨g5, 0, none⟩), .pointer (some ⟨g6, 0, none⟩), .pointer (some ⟨g7, 0, none⟩), .bool false, .int .i64 (1 + 8 * (l.length : Int) + (c.length : Int)), .int .i64 1, .int .i64 (1 + 8 * ((0 : Nat) : Int) + ((0 : Nat) : Int)), .pointer (some ⟨g8, 0, none⟩), .pointer (some ⟨g9, 0, none⟩), .bool false, .agg #[.slice ua l.length uc, .slice xa c.length xc], .int .i64 1048576, .int .i64 (1048576 - (l.length : Int) - (c.length : Int)), .int .i64 (1048576 - (l.length : Int) - (c.length : Int)), .bool false, .tuple #[.agg #[.slice v'11 0 j'11, .slice y'11 0 i'11], .agg (HD.cells HD.zero).toArray, .bool false], .agg #[.slice ua l.length uc, .slice xa c.length xc], .agg #[.slice (some ⟨ma'1, 0, none⟩) l.length ka'3, .slice (some ⟨mb'2, 0, none⟩) c.length kb'4], .int .i64 task, .agg (HD.cells h).toArray, .agg (HD.cells h).toArray, .tuple #[.agg #[.slice v'11 0 j'11, .slice y'11 0 i'11], .agg (HD.cells HD.zero).toArray, .bool false], .agg #[.slice v'11 0 j'11, .slice y'11 0 i'11], .agg (HD.cells HD.zero).toArray, .bool false, .agg #[.slice ua l.length uc, .slice xa c.length xc], .agg #[.slice (some ⟨ma'12, 0, none⟩) l.length ka'14, .slice (some ⟨mb'13, 0, none⟩) c.length kb'15], .tuple #[.agg #[.slice v'22 0 j'22, .slice y'22 0 i'22], .agg (HD.cells HD.zero).toArray, .bool false], .agg #[.slice (some ⟨ma'12, 0, none⟩) l.length ka'14, .slice (some ⟨mb'13, 0, none⟩) c.length kb'15], .int .i64 task, .agg (HD.cells h).toArray, .agg (HD.cells h).toArray, .tuple #[.agg #[.slice v'22 0 j'22, .slice y'22 0 i'22], .agg (HD.cells HD.zero).toArray, .bool false], .agg #[.slice v'22 0 j'22, .slice y'22 0 i'22], .agg (HD.cells HD.zero).toArray, .bool false, .agg #[.slice v'22 0 j'22, .slice y'22 0 i'22], .agg #[.slice v'11 0 j'11, .slice y'11 0 i'11], .bool true, .bool false, .bool false, .agg (HD.cells HD.zero).toArray, .agg (HD.cells HD.zero).toArray, .bool true, .bool false, .bool false, .bool false, .bool false, .bool false, .bool false, .bool false, .agg #[.slice (some ⟨ma'12, 0, none⟩) l.length ka'14, .slice (some ⟨mb'13, 0, none⟩) c.length kb'15], .agg #[.slice ua l.length uc, .slice xa c.length xc], .agg #[.slice (some ⟨ma'23, 0, none⟩) l.length ka'25, .slice (some ⟨mb'24, 0, none⟩) c.length kb'26], .bool true, .bool false, .agg #[.slice (some ⟨ma'12, 0, none⟩) l.length ka'14, .slice (some ⟨mb'13, 0, none⟩) c.length kb'15], .int .i64 1, .int .i64 (1 + 8 * (l.length : Int) + (c.length : Int)), .int .i64 (1 + 8 * (l.length : Int) + (c.length : Int)), .bool false, .bool false, .agg #[.slice v'22 0 j'22, .slice y'22 0 i'22], .agg #[.slice v'11 0 j'11, .slice y'11 0 i'11], .bool true, .bool false, .bool false, .bool false, .agg (HD.cells HD.zero).toArray, .agg (HD.cells HD.zero).toArray, .bool true, .bool false, .bool false, .bool false, .bool false, .bool false, .bool false, .bool false, .agg #[.slice v'22 0 j'22, .slice y'22 0 i'22], .int .i64 1, .int .i64 1, .agg #[.slice v'22 0 j'22, .slice y'22 0 i'22], .int .i64 1, .int .i64 (1 + 8 * ((0 : Nat) : Int) + ((0 : Nat) : Int)), .int .i64 (1 + 8 * ((0 : Nat) : Int) + ((0 : Nat) : Int)), .bool false, .int .i64 (1 + 8 * ((0 : Nat) : Int) + ((0 : Nat) : Int)), .int .i64 1, .bool false, .tuple #[.agg #[.slice v'45 0 j'45, .slice y'45 0 i'45], .agg (HD.cells HD.zero).toArray, .bool false], .agg #[.slice ua l.length uc, .slice xa c.length xc], .agg #[.slice (some ⟨ma'35, 0, none⟩) l.length ka'37, .slice (some ⟨mb'36, 0, none⟩) c.length kb'38], .int .i64 task, .agg (HD.cells h).toArray, .agg (HD.cells h).toArray, .tuple #[.agg #[.slice v'45 0 j'45, .slice y'45 0 i'45], .agg (HD.cells HD.zero).toArray, .bool false], .agg #[.slice v'45 0 j'45, .slice y'45 0 i'45], .agg (HD.cells HD.zero).toArray, .bool false, undef, undef, undef, undef, undef, undef, undef, undef, undef, undef, undef, undef, undef, undef, undef, undef, undef, undef, undef, undef, undef, undef, undef], []⟩ ∧ Mem w0 W [(g9, 36, (HD.cells HD.zero)), (g8, 33, [.slice v'45 0 j'45, .slice y'45 0 i'45]), (ma'35, 52, (cellsOf l ++ pa'39)), (mb'36, 2, (cellsI c ++ pb'40)), (ma'12, 52, (cellsOf (markL 1 l.length) ++ pm'33)), (mb'13, 2, (cellsI (markLI (1 + 8 * (l.length : Int)) c.length) ++ pn'34)), (ma'23, 52, (cellsOf l ++ pa'27)), (mb'24, 2, (cellsI c ++ pb'28)), (g7, 36, (HD.cells HD.zero)), (g6, 33, [.slice v'22 0 j'22, .slice y'22 0 i'22]), (g5, 33, [.slice (some ⟨ma'12, 0, none⟩) l.length ka'14, .slice (some ⟨mb'13, 0, none⟩) c.length kb'15]), (g4, 36, (HD.cells HD.zero)), (g3, 33, [.slice v'11 0 j'11, .slice y'11 0 i'11]), (ma'1, 52, (cellsOf l ++ pa'5)), (mb'2, 2, (cellsI c ++ pb'6)), (g2, 29, (HD.cells h)), (g1, 25, [.slice ua l.length uc, .slice xa c.length xc])] ∧ (l.length ≤ ka'37 ∧ ka'37 ≤ maxLen ∧ c.length ≤ kb'38 ∧ kb'38 ≤ maxLen) ∧ (j'45 ≤ maxLen ∧ i'45 ≤ maxLen)) ?_ ?_
  clear hM
  rintro act W38 ⟨g9, g8, ma'35, mb'36, ka'37, kb'38, pa'39, pb'40, v'45, y'45, j'45, i'45, rfl, hM, ⟨qa'41, qb'42, qc'43, qd'44⟩, ⟨s'45_1, s'45_2⟩⟩
  refine cn25 _ _ ?_
  clear cn25
  refine wp_seq_k fun Kn26 cn26 => ?_
  refine wp_seq_k fun Kn27 cn27 => ?_
  refine wl_region ?_
  refine wl_load (by kernel_rfl) hM 1 rfl 33 _ rfl rfl Try.underlying33 I_impl_Shared ?_
  go_frame
  refine wl_load (by kernel_rfl) hM 12 rfl 33 _ rfl rfl Try.underlying33 I_impl_Shared ?_
  go_frame
  refine wl_call (by kernel_rfl) 9 #[.agg #[.slice v'45 0 j'45, .slice y'45 0 i'45], .agg #[.slice v'11 0 j'11, .slice y'11 0 i'11]] (by kernel_rfl) (eqShared_same (.slice v'45 0 j'45) (.slice y'45 0 i'45) (.slice v'11 0 j'11) (.slice y'11 0 i'11) [] [] _ (nsl_nil s'45_1) (nsl_nil s'11_1) (sli_nil s'45_2) (sli_nil s'11_2)) ?_
  rintro e W39 ⟨rfl, hb⟩
  refine ⟨_, rfl, ?_⟩
  replace hM := hM.call hb
  go_frame
  refine wl_pure (by kernel_rfl) (.bool false) (by kernel_rfl) ?_
  go_frame
  refine wl_pure (by kernel_rfl) (.bool false) (by kernel_rfl) ?_
  go_frame
  refine wl_load (by kernel_rfl) hM 0 rfl 36 _ rfl rfl Try.underlying36 I_impl_Hand ?_
  go_frame
  refine wl_load (by kernel_rfl) hM 11 rfl 36 _ rfl rfl Try.underlying36 I_impl_Hand ?_
  go_frame
  refine wl_call (by kernel_rfl) 10 #[.agg (HD.cells HD.zero).toArray, .agg (HD.cells HD.zero).toArray] (by kernel_rfl) (eqHand_self HD.zero _) ?_
  rintro e W40 ⟨rfl, hb⟩
  refine ⟨_, rfl, ?_⟩
  replace hM := hM.call hb
  go_frame
  refine wl_pure (by kernel_rfl) (.bool false) (by kernel_rfl) ?_
  go_frame
  refine wl_pure (by kernel_rfl) (.bool false) (by kernel_rfl) ?_
  go_frame
  refine wl_pure (by kernel_rfl) (.bool false) (by kernel_rfl) ?_
  go_frame
  refine wl_pure (by kernel_rfl) (.bool false) (by kernel_rfl) ?_
  go_frame
  refine wl_pure (by kernel_rfl) (.bool false) (by kernel_rfl) ?_
  go_frame
  refine wl_pure (by kernel_rfl) (.bool false) (by kernel_rfl) ?_
  go_frame
  refine wl_pure (by kernel_rfl) (.bool false) (by kernel_rfl) ?_
  go_frame
  refine wl_nil ?_
  refine cn27 _ _ ?_
  clear cn27
  refine wp_cond_false rfl ?_
  refine wp_skip ?_
  refine cn26 _ _ ?_
  clear cn26
  refine wp_seq_k fun Kn28 cn28 => ?_
  refine wl_region ?_
  refine wl_pure (by kernel_rfl) (.int .i64 1) (by kernel_rfl) ?_
  go_frame
  refine wl_nil ?_
  refine cn28 _ _ ?_
  clear cn28
  refine wp_seq_k fun Kn29 cn29 => ?_
  refine wl_region ?_
  refine wl_load (by kernel_rfl) hM 9 rfl 33 _ rfl rfl Try.underlying33 I_impl_Shared ?_
  go_frame
  refine wl_pure (by kernel_rfl) (.int .i64 1) (by kernel_rfl) ?_
  go_frame
  refine wl_call (by kernel_rfl) 12 #[.agg #[.slice v'22 0 j'22, .slice y'22 0 i'22], .int .i64 1] (by kernel_rfl) (heldShared_same (.slice v'22 0 j'22) (.slice y'22 0 i'22) 0 0 1 _ (nsl_nil s'22_1) (sli_nil s'22_2) (by omega) (by omega) (by omega) (by omega)) ?_
  rintro e W41 ⟨rfl, hb⟩
  refine ⟨_, rfl, ?_⟩
  replace hM := hM.call hb
  go_frame
  refine wl_pure (by kernel_rfl) (.int .i64 (1 + 8 * ((0 : Nat) : Int) + ((0 : Nat) : Int))) (by kernel_rfl) ?_
  go_frame
  refine wl_nil ?_
  refine cn29 _ _ ?_
  clear cn29
  refine wp_seq_k fun Kn30 cn30 => ?_
  refine wp_seq_k fun Kn31 cn31 => ?_
  refine wl_region ?_
  refine wl_pure (by kernel_rfl) (.int .i64 (1 + 8 * ((0 : Nat) : Int) + ((0 : Nat) : Int))) (by kernel_rfl) ?_
  go_frame
  refine wl_pureB (by kernel_rfl) (b := decide ((1 + 8 * ((0 : Nat) : Int) + ((0 : Nat) : Int)) < 0)) (by kernel_rfl) (hk2) ?_
  go_frame
  refine wl_nil ?_
  refine cn31 _ _ ?_
  clear cn31
  refine wp_cond_false rfl ?_
  refine wp_skip ?_
  refine cn30 _ _ ?_
  clear cn30
  refine wp_seq_k fun Kn32 cn32 => ?_
  refine wp_seq_k fun Kn33 cn33 => ?_
  refine wl_region ?_
  refine wl_pure (by kernel_rfl) (.int .i64 (1 + 8 * ((0 : Nat) : Int) + ((0 : Nat) : Int))) (by kernel_rfl) ?_
  go_frame
  refine wl_pure (by kernel_rfl) (.int .i64 1) (by kernel_rfl) ?_
  go_frame
  refine wl_pureB (by kernel_rfl) (b := ((1 + 8 * ((0 : Nat) : Int) + ((0 : Nat) : Int)) != 1)) (by kernel_rfl) (hk3) ?_
  go_frame
  refine wl_nil ?_
  refine cn33 _ _ ?_
  clear cn33
  refine wp_cond_false rfl ?_
  refine wp_skip ?_
  refine cn32 _ _ ?_
  clear cn32
  refine wp_seq_k fun Kn34 cn34 => ?_
  refine wl_region ?_
  refine wl_pure (by kernel_rfl) (.bool true) (by kernel_rfl) ?_
  go_frame
  refine wl_nil ?_
  refine cn34 _ _ ?_
  clear cn34
  refine wp_ret ?_
  exact bodyPost_ret (v := .bool true) (ret_tmp 6 rfl rfl) rfl ⟨rfl, hM.below⟩
  refine wa_start (fun w => Below w0.heap.size w0 w ∧ Blk w g1 25 [.slice ua l.length uc, .slice xa c.length xc] ∧ Blk w g2 29 (HD.cells h)) 15 rfl (by kernel_rfl) ?_
  replace hM := hM.drew
  refine wa_take 0 (some 101) (.agg #[.slice ua l.length uc, .slice xa c.length xc]) rfl rfl (by kernel_rfl) (by kernel_rfl) (by kernel_rfl) (fun _ _ _ h => h) (by kernel_rfl) (fun w hS => r_load hS.2.1 25 _ rfl rfl Try.underlying25 I_laws_Shared) ⟨hM.below, hM.blk 12 rfl, hM.blk 11 rfl⟩ ?_
  go_frame
  refine wa_take 2 (some 103) (.int .i64 task) rfl rfl (by kernel_rfl) (by kernel_rfl) (by kernel_rfl) (fun _ _ _ h => h) (by kernel_rfl) (fun w hS => by kernel_rfl) ⟨hM.below, hM.blk 12 rfl, hM.blk 11 rfl⟩ ?_
  go_frame
  refine wa_take 3 (some 104) (.agg (HD.cells h).toArray) rfl rfl (by kernel_rfl) (by kernel_rfl) (by kernel_rfl) (fun _ _ _ h => h) (by kernel_rfl) (fun w hS => r_load hS.2.2 29 _ rfl rfl Try.underlying29 I_laws_Hand) ⟨hM.below, hM.blk 12 rfl, hM.blk 11 rfl⟩ ?_
  go_frame
  refine wa_three 1 10 11 (by kernel_rfl) ?_ ?_ ?_
  refine wo_call (some 102) rfl rfl (by kernel_rfl) 6 #[.agg #[.slice ua l.length uc, .slice xa c.length xc]] (by kernel_rfl) (toShared_any (.slice ua l.length uc) (.slice xa c.length xc) l c _ (h1.below hM.below) (h2.below hM.below) hl hc) ?_
  rintro e W31 ⟨ma'35, mb'36, ka'37, kb'38, pa'39, pb'40, rfl, ⟨qa'41, qb'42, qc'43, qd'44, -, -⟩, hMc⟩
  replace hM := hM.join hMc
  refine ⟨_, rfl, ⟨hM.below, hM.blk 14 rfl, hM.blk 13 rfl⟩, ?_⟩
  go_frame
  refine wa_three 4 10 11 (by kernel_rfl) ?_ ?_ ?_
  refine wo_call (some 105) rfl rfl (by kernel_rfl) 7 #[.agg (HD.cells h).toArray] (by kernel_rfl) (toHand_any h _) ?_
  rintro e W32 ⟨rfl, hb⟩
  replace hM := hM.call hb
  refine ⟨_, rfl, ⟨hM.below, hM.blk 14 rfl, hM.blk 13 rfl⟩, ?_⟩
  go_frame
  refine wa_three 5 10 11 (by kernel_rfl) ?_ ?_ ?_
  refine wo_call (some 106) rfl rfl (by kernel_rfl) 8 #[.agg #[.slice (some ⟨ma'35, 0, none⟩) l.length ka'37, .slice (some ⟨mb'36, 0, none⟩) c.length kb'38], .int .i64 task, .agg (HD.cells h).toArray] (by kernel_rfl) (hI _ (some ⟨ma'35, 0, none⟩) ka'37 (some ⟨mb'36, 0, none⟩) kb'38 (nsl_blk (hM.blk 0 rfl) qa'41 qb'42) (sli_blk (hM.blk 1 rfl) qc'43 qd'44)) ?_
  rintro e W33 ⟨u', x', rfl, hO1, hO2, hb⟩
  obtain ⟨v'45, j'45, rfl, -, s'45_1⟩ := (show OwnR _ _ _ _ 8 0 [] _ from hO1).slice
  obtain ⟨y'45, i'45, rfl, -, s'45_2⟩ := (show OwnR _ _ _ _ 1 0 [] _ from hO2).slice
  replace hM := hM.call hb
  refine ⟨_, rfl, ⟨hM.below, hM.blk 14 rfl, hM.blk 13 rfl⟩, ?_⟩
  go_frame
  refine wa_take 6 (some 100) (.tuple #[.agg #[.slice v'45 0 j'45, .slice y'45 0 i'45], .agg (HD.cells HD.zero).toArray, .bool false]) rfl rfl (by kernel_rfl) (by kernel_rfl) (by kernel_rfl) (fun _ _ _ h => h) (by kernel_rfl) (fun w hS => by kernel_rfl) ⟨hM.below, hM.blk 14 rfl, hM.blk 13 rfl⟩ ?_
  go_frame
  refine wa_take 7 (some 107) (.agg #[.slice v'45 0 j'45, .slice y'45 0 i'45]) rfl rfl (by kernel_rfl) (by kernel_rfl) (by kernel_rfl) (fun _ _ _ h => h) (by kernel_rfl) (fun w hS => by kernel_rfl) ⟨hM.below, hM.blk 14 rfl, hM.blk 13 rfl⟩ ?_
  go_frame
  refine wa_take 8 (some 108) (.agg (HD.cells HD.zero).toArray) rfl rfl (by kernel_rfl) (by kernel_rfl) (by kernel_rfl) (fun _ _ _ h => h) (by kernel_rfl) (fun w hS => by kernel_rfl) ⟨hM.below, hM.blk 14 rfl, hM.blk 13 rfl⟩ ?_
  go_frame
  refine wa_take 9 (some 109) (.bool false) rfl rfl (by kernel_rfl) (by kernel_rfl) (by kernel_rfl) (fun _ _ _ h => h) (by kernel_rfl) (fun w hS => by kernel_rfl) ⟨hM.below, hM.blk 14 rfl, hM.blk 13 rfl⟩ ?_
  go_frame
  refine wa_two 10 11 (by kernel_rfl) ?_ ?_
  refine wo_alloc (some 18) rfl rfl (by kernel_rfl) hM 33 rfl [.slice none 0 0, .slice none 0 0] Z_impl_Shared ?_
  clear hM; intro g8 W34 hM
  refine ⟨⟨hM.below, hM.blk 15 rfl, hM.blk 14 rfl⟩, ?_⟩
  go_frame
  refine wa_one 11 (by kernel_rfl) ?_
  refine wo_alloc (some 19) rfl rfl (by kernel_rfl) hM 36 rfl (HD.cells HD.zero) Z_impl_Hand ?_
  clear hM; intro g9 W35 hM
  refine ⟨⟨hM.below, hM.blk 16 rfl, hM.blk 15 rfl⟩, ?_⟩
  go_frame
  refine wa_one 12 (by kernel_rfl) ?_
  refine wo_store rfl (by kernel_rfl) hM 1 rfl 33 _ _ rfl rfl (by kernel_rfl) [.slice v'45 0 j'45, .slice y'45 0 i'45] (by kernel_rfl) I_impl_Shared rfl rfl ?_
  clear hM; intro W36 hM
  refine ⟨⟨hM.below, hM.blk 16 rfl, hM.blk 15 rfl⟩, ?_⟩
  refine wa_one 13 (by kernel_rfl) ?_
  refine wo_store rfl (by kernel_rfl) hM 0 rfl 36 _ _ rfl rfl (by kernel_rfl) (HD.cells HD.zero) (by kernel_rfl) I_impl_Hand rfl (hd_one' _) ?_
  clear hM; intro W37 hM
  refine ⟨⟨hM.below, hM.blk 16 rfl, hM.blk 15 rfl⟩, ?_⟩
  refine wa_take 14 (some 20) (.bool false) rfl rfl (by kernel_rfl) (by kernel_rfl) (by kernel_rfl) (fun _ _ _ h => h) (by kernel_rfl) (fun w hS => by kernel_rfl) ⟨hM.below, hM.blk 16 rfl, hM.blk 15 rfl⟩ ?_
  go_frame
  refine wa_doneJ (by kernel_rfl) ?_
  exact ⟨g9, g8, ma'35, mb'36, ka'37, kb'38, pa'39, pb'40, v'45, y'45, j'45, i'45, rfl, hM, ⟨qa'41, qb'42, qc'43, qd'44⟩, ⟨s'45_1, s'45_2⟩⟩
  refine wo_alloc (some 19) rfl rfl (by kernel_rfl) hM 36 rfl (HD.cells HD.zero) Z_impl_Hand ?_
  clear hM; intro g8 W34 hM
  refine ⟨⟨hM.below, hM.blk 15 rfl, hM.blk 14 rfl⟩, ?_⟩
  go_frame
  refine wa_one 10 (by kernel_rfl) ?_
  refine wo_alloc (some 18) rfl rfl (by kernel_rfl) hM 33 rfl [.slice none 0 0, .slice none 0 0] Z_impl_Shared ?_
  clear hM; intro g9 W35 hM
  refine ⟨⟨hM.below, hM.blk 16 rfl, hM.blk 15 rfl⟩, ?_⟩
  go_frame
  refine wa_one 12 (by kernel_rfl) ?_
  refine wo_store rfl (by kernel_rfl) hM 0 rfl 33 _ _ rfl rfl (by kernel_rfl) [.slice v'45 0 j'45, .slice y'45 0 i'45] (by kernel_rfl) I_impl_Shared rfl rfl ?_
  clear hM; intro W36 hM
  refine ⟨⟨hM.below, hM.blk 16 rfl, hM.blk 15 rfl⟩, ?_⟩
  refine wa_one 13 (by kernel_rfl) ?_
  refine wo_store rfl (by kernel_rfl) hM 1 rfl 36 _ _ rfl rfl (by kernel_rfl) (HD.cells HD.zero) (by kernel_rfl) I_impl_Hand rfl (hd_one' _) ?_
  clear hM; intro W37 hM
  refine ⟨⟨hM.below, hM.blk 16 rfl, hM.blk 15 rfl⟩, ?_⟩
  refine wa_take 14 (some 20) (.bool false) rfl rfl (by kernel_rfl) (by kernel_rfl) (by kernel_rfl) (fun _ _ _ h => h) (by kernel_rfl) (fun w hS => by kernel_rfl) ⟨hM.below, hM.blk 16 rfl, hM.blk 15 rfl⟩ ?_
  go_frame
  refine wa_doneJ (by kernel_rfl) ?_
  replace hM := hM.pull 0 rfl
  replace hM := hM.pull 1 rfl
  exact ⟨g8, g9, ma'35, mb'36, ka'37, kb'38, pa'39, pb'40, v'45, y'45, j'45, i'45, rfl, hM, ⟨qa'41, qb'42, qc'43, qd'44⟩, ⟨s'45_1, s'45_2⟩⟩
  refine wo_alloc (some 18) rfl rfl (by kernel_rfl) hM 33 rfl [.slice none 0 0, .slice none 0 0] Z_impl_Shared ?_
  clear hM; intro g8 W33 hM
  refine ⟨⟨hM.below, hM.blk 15 rfl, hM.blk 14 rfl⟩, ?_⟩
  go_frame
  refine wa_two 5 11 (by kernel_rfl) ?_ ?_
  refine wo_call (some 106) rfl rfl (by kernel_rfl) 8 #[.agg #[.slice (some ⟨ma'35, 0, none⟩) l.length ka'37, .slice (some ⟨mb'36, 0, none⟩) c.length kb'38], .int .i64 task, .agg (HD.cells h).toArray] (by kernel_rfl) (hI _ (some ⟨ma'35, 0, none⟩) ka'37 (some ⟨mb'36, 0, none⟩) kb'38 (nsl_blk (hM.blk 1 rfl) qa'41 qb'42) (sli_blk (hM.blk 2 rfl) qc'43 qd'44)) ?_
  rintro e W34 ⟨u', x', rfl, hO1, hO2, hb⟩
  obtain ⟨v'45, j'45, rfl, -, s'45_1⟩ := (show OwnR _ _ _ _ 8 0 [] _ from hO1).slice
  obtain ⟨y'45, i'45, rfl, -, s'45_2⟩ := (show OwnR _ _ _ _ 1 0 [] _ from hO2).slice
  replace hM := hM.call hb
  refine ⟨_, rfl, ⟨hM.below, hM.blk 15 rfl, hM.blk 14 rfl⟩, ?_⟩
  go_frame
  refine wa_take 6 (some 100) (.tuple #[.agg #[.slice v'45 0 j'45, .slice y'45 0 i'45], .agg (HD.cells HD.zero).toArray, .bool false]) rfl rfl (by kernel_rfl) (by kernel_rfl) (by kernel_rfl) (fun _ _ _ h => h) (by kernel_rfl) (fun w hS => by kernel_rfl) ⟨hM.below, hM.blk 15 rfl, hM.blk 14 rfl⟩ ?_
  go_frame
  refine wa_take 7 (some 107) (.agg #[.slice v'45 0 j'45, .slice y'45 0 i'45]) rfl rfl (by kernel_rfl) (by kernel_rfl) (by kernel_rfl) (fun _ _ _ h => h) (by kernel_rfl) (fun w hS => by kernel_rfl) ⟨hM.below, hM.blk 15 rfl, hM.blk 14 rfl⟩ ?_
  go_frame
  refine wa_take 8 (some 108) (.agg (HD.cells HD.zero).toArray) rfl rfl (by kernel_rfl) (by kernel_rfl) (by kernel_rfl) (fun _ _ _ h => h) (by kernel_rfl) (fun w hS => by kernel_rfl) ⟨hM.below, hM.blk 15 rfl, hM.blk 14 rfl⟩ ?_
  go_frame
  refine wa_take 9 (some 109) (.bool false) rfl rfl (by kernel_rfl) (by kernel_rfl) (by kernel_rfl) (fun _ _ _ h => h) (by kernel_rfl) (fun w hS => by kernel_rfl) ⟨hM.below, hM.blk 15 rfl, hM.blk 14 rfl⟩ ?_
  go_frame
  refine wa_one 11 (by kernel_rfl) ?_
  refine wo_alloc (some 19) rfl rfl (by kernel_rfl) hM 36 rfl (HD.cells HD.zero) Z_impl_Hand ?_
  clear hM; intro g9 W35 hM
  refine ⟨⟨hM.below, hM.blk 16 rfl, hM.blk 15 rfl⟩, ?_⟩
  go_frame
  refine wa_one 12 (by kernel_rfl) ?_
  refine wo_store rfl (by kernel_rfl) hM 1 rfl 33 _ _ rfl rfl (by kernel_rfl) [.slice v'45 0 j'45, .slice y'45 0 i'45] (by kernel_rfl) I_impl_Shared rfl rfl ?_
  clear hM; intro W36 hM
  refine ⟨⟨hM.below, hM.blk 16 rfl, hM.blk 15 rfl⟩, ?_⟩
  refine wa_one 13 (by kernel_rfl) ?_
  refine wo_store rfl (by kernel_rfl) hM 0 rfl 36 _ _ rfl rfl (by kernel_rfl) (HD.cells HD.zero) (by kernel_rfl) I_impl_Hand rfl (hd_one' _) ?_
  clear hM; intro W37 hM
  refine ⟨⟨hM.below, hM.blk 16 rfl, hM.blk 15 rfl⟩, ?_⟩
  refine wa_take 14 (some 20) (.bool false) rfl rfl (by kernel_rfl) (by kernel_rfl) (by kernel_rfl) (fun _ _ _ h => h) (by kernel_rfl) (fun w hS => by kernel_rfl) ⟨hM.below, hM.blk 16 rfl, hM.blk 15 rfl⟩ ?_
  go_frame
  refine wa_doneJ (by kernel_rfl) ?_
  exact ⟨g9, g8, ma'35, mb'36, ka'37, kb'38, pa'39, pb'40, v'45, y'45, j'45, i'45, rfl, hM, ⟨qa'41, qb'42, qc'43, qd'44⟩, ⟨s'45_1, s'45_2⟩⟩
  refine wo_alloc (some 19) rfl rfl (by kernel_rfl) hM 36 rfl (HD.cells HD.zero) Z_impl_Hand ?_
  clear hM; intro g9 W34 hM
  refine ⟨⟨hM.below, hM.blk 16 rfl, hM.blk 15 rfl⟩, ?_⟩
  go_frame
  refine wa_one 5 (by kernel_rfl) ?_
  refine wo_call (some 106) rfl rfl (by kernel_rfl) 8 #[.agg #[.slice (some ⟨ma'35, 0, none⟩) l.length ka'37, .slice (some ⟨mb'36, 0, none⟩) c.length kb'38], .int .i64 task, .agg (HD.cells h).toArray] (by kernel_rfl) (hI _ (some ⟨ma'35, 0, none⟩) ka'37 (some ⟨mb'36, 0, none⟩) kb'38 (nsl_blk (hM.blk 2 rfl) qa'41 qb'42) (sli_blk (hM.blk 3 rfl) qc'43 qd'44)) ?_
  rintro e W35 ⟨u', x', rfl, hO1, hO2, hb⟩
  obtain ⟨v'45, j'45, rfl, -, s'45_1⟩ := (show OwnR _ _ _ _ 8 0 [] _ from hO1).slice
  obtain ⟨y'45, i'45, rfl, -, s'45_2⟩ := (show OwnR _ _ _ _ 1 0 [] _ from hO2).slice
  replace hM := hM.call hb
  refine ⟨_, rfl, ⟨hM.below, hM.blk 16 rfl, hM.blk 15 rfl⟩, ?_⟩
  go_frame
  refine wa_take 6 (some 100) (.tuple #[.agg #[.slice v'45 0 j'45, .slice y'45 0 i'45], .agg (HD.cells HD.zero).toArray, .bool false]) rfl rfl (by kernel_rfl) (by kernel_rfl) (by kernel_rfl) (fun _ _ _ h => h) (by kernel_rfl) (fun w hS => by kernel_rfl) ⟨hM.below, hM.blk 16 rfl, hM.blk 15 rfl⟩ ?_
  go_frame
  refine wa_take 7 (some 107) (.agg #[.slice v'45 0 j'45, .slice y'45 0 i'45]) rfl rfl (by kernel_rfl) (by kernel_rfl) (by kernel_rfl) (fun _ _ _ h => h) (by kernel_rfl) (fun w hS => by kernel_rfl) ⟨hM.below, hM.blk 16 rfl, hM.blk 15 rfl⟩ ?_
  go_frame
  refine wa_take 8 (some 108) (.agg (HD.cells HD.zero).toArray) rfl rfl (by kernel_rfl) (by kernel_rfl) (by kernel_rfl) (fun _ _ _ h => h) (by kernel_rfl) (fun w hS => by kernel_rfl) ⟨hM.below, hM.blk 16 rfl, hM.blk 15 rfl⟩ ?_
  go_frame
  refine wa_take 9 (some 109) (.bool false) rfl rfl (by kernel_rfl) (by kernel_rfl) (by kernel_rfl) (fun _ _ _ h => h) (by kernel_rfl) (fun w hS => by kernel_rfl) ⟨hM.below, hM.blk 16 rfl, hM.blk 15 rfl⟩ ?_
  go_frame
  refine wa_one 12 (by kernel_rfl) ?_
  refine wo_store rfl (by kernel_rfl) hM 1 rfl 33 _ _ rfl rfl (by kernel_rfl) [.slice v'45 0 j'45, .slice y'45 0 i'45] (by kernel_rfl) I_impl_Shared rfl rfl ?_
  clear hM; intro W36 hM
  refine ⟨⟨hM.below, hM.blk 16 rfl, hM.blk 15 rfl⟩, ?_⟩
  refine wa_one 13 (by kernel_rfl) ?_
  refine wo_store rfl (by kernel_rfl) hM 0 rfl 36 _ _ rfl rfl (by kernel_rfl) (HD.cells HD.zero) (by kernel_rfl) I_impl_Hand rfl (hd_one' _) ?_
  clear hM; intro W37 hM
  refine ⟨⟨hM.below, hM.blk 16 rfl, hM.blk 15 rfl⟩, ?_⟩
  refine wa_take 14 (some 20) (.bool false) rfl rfl (by kernel_rfl) (by kernel_rfl) (by kernel_rfl) (fun _ _ _ h => h) (by kernel_rfl) (fun w hS => by kernel_rfl) ⟨hM.below, hM.blk 16 rfl, hM.blk 15 rfl⟩ ?_
  go_frame
  refine wa_doneJ (by kernel_rfl) ?_
  exact ⟨g9, g8, ma'35, mb'36, ka'37, kb'38, pa'39, pb'40, v'45, y'45, j'45, i'45, rfl, hM, ⟨qa'41, qb'42, qc'43, qd'44⟩, ⟨s'45_1, s'45_2⟩⟩
  refine wo_alloc (some 19) rfl rfl (by kernel_rfl) hM 36 rfl (HD.cells HD.zero) Z_impl_Hand ?_
  clear hM; intro g8 W33 hM
  refine ⟨⟨hM.below, hM.blk 15 rfl, hM.blk 14 rfl⟩, ?_⟩
  go_frame
  refine wa_two 5 10 (by kernel_rfl) ?_ ?_
  refine wo_call (some 106) rfl rfl (by kernel_rfl) 8 #[.agg #[.slice (some ⟨ma'35, 0, none⟩) l.length ka'37, .slice (some ⟨mb'36, 0, none⟩) c.length kb'38], .int .i64 task, .agg (HD.cells h).toArray] (by kernel_rfl) (hI _ (some ⟨ma'35, 0, none⟩) ka'37 (some ⟨mb'36, 0, none⟩) kb'38 (nsl_blk (hM.blk 1 rfl) qa'41 qb'42) (sli_blk (hM.blk 2 rfl) qc'43 qd'44)) ?_
  rintro e W34 ⟨u', x', rfl, hO1, hO2, hb⟩
  obtain ⟨v'45, j'45, rfl, -, s'45_1⟩ := (show OwnR _ _ _ _ 8 0 [] _ from hO1).slice
  obtain ⟨y'45, i'45, rfl, -, s'45_2⟩ := (show OwnR _ _ _ _ 1 0 [] _ from hO2).slice
  replace hM := hM.call hb
  refine ⟨_, rfl, ⟨hM.below, hM.blk 15 rfl, hM.blk 14 rfl⟩, ?_⟩
  go_frame
  refine wa_take 6 (some 100) (.tuple #[.agg #[.slice v'45 0 j'45, .slice y'45 0 i'45], .agg (HD.cells HD.zero).toArray, .bool false]) rfl rfl (by kernel_rfl) (by kernel_rfl) (by kernel_rfl) (fun _ _ _ h => h) (by kernel_rfl) (fun w hS => by kernel_rfl) ⟨hM.below, hM.blk 15 rfl, hM.blk 14 rfl⟩ ?_
  go_frame
  refine wa_take 7 (some 107) (.agg #[.slice v'45 0 j'45, .slice y'45 0 i'45]) rfl rfl (by kernel_rfl) (by kernel_rfl) (by kernel_rfl) (fun _ _ _ h => h) (by kernel_rfl) (fun w hS => by kernel_rfl) ⟨hM.below, hM.blk 15 rfl, hM.blk 14 rfl⟩ ?_
  go_frame
  refine wa_take 8 (some 108) (.agg (HD.cells HD.zero).toArray) rfl rfl (by kernel_rfl) (by kernel_rfl) (by kernel_rfl) (fun _ _ _ h => h) (by kernel_rfl) (fun w hS => by kernel_rfl) ⟨hM.below, hM.blk 15 rfl, hM.blk 14 rfl⟩ ?_
  go_frame
  refine wa_take 9 (some 109) (.bool false) rfl rfl (by kernel_rfl) (by kernel_rfl) (by kernel_rfl) (fun _ _ _ h => h) (by kernel_rfl) (fun w hS => by kernel_rfl) ⟨hM.below, hM.blk 15 rfl, hM.blk 14 rfl⟩ ?_
  go_frame
  refine wa_one 10 (by kernel_rfl) ?_
  refine wo_alloc (some 18) rfl rfl (by kernel_rfl) hM 33 rfl [.slice none 0 0, .slice none 0 0] Z_impl_Shared ?_
  clear hM; intro g9 W35 hM
  refine ⟨⟨hM.below, hM.blk 16 rfl, hM.blk 15 rfl⟩, ?_⟩
  go_frame
  refine wa_one 12 (by kernel_rfl) ?_
  refine wo_store rfl (by kernel_rfl) hM 0 rfl 33 _ _ rfl rfl (by kernel_rfl) [.slice v'45 0 j'45, .slice y'45 0 i'45] (by kernel_rfl) I_impl_Shared rfl rfl ?_
  clear hM; intro W36 hM
  refine ⟨⟨hM.below, hM.blk 16 rfl, hM.blk 15 rfl⟩, ?_⟩
  refine wa_one 13 (by kernel_rfl) ?_
  refine wo_store rfl (by kernel_rfl) hM 1 rfl 36 _ _ rfl rfl (by kernel_rfl) (HD.cells HD.zero) (by kernel_rfl) I_impl_Hand rfl (hd_one' _) ?_
  clear hM; intro W37 hM
  refine ⟨⟨hM.below, hM.blk 16 rfl, hM.blk 15 rfl⟩, ?_⟩
  refine wa_take 14 (some 20) (.bool false) rfl rfl (by kernel_rfl) (by kernel_rfl) (by kernel_rfl) (fun _ _ _ h => h) (by kernel_rfl) (fun w hS => by kernel_rfl) ⟨hM.below, hM.blk 16 rfl, hM.blk 15 rfl⟩ ?_
  go_frame
  refine wa_doneJ (by kernel_rfl) ?_
  replace hM := hM.pull 0 rfl
  replace hM := hM.pull 1 rfl
  exact ⟨g8, g9, ma'35, mb'36, ka'37, kb'38, pa'39, pb'40, v'45, y'45, j'45, i'45, rfl, hM, ⟨qa'41, qb'42, qc'43, qd'44⟩, ⟨s'45_1, s'45_2⟩⟩
  refine wo_alloc (some 18) rfl rfl (by kernel_rfl) hM 33 rfl [.slice none 0 0, .slice none 0 0] Z_impl_Shared ?_
  clear hM; intro g9 W34 hM
  refine ⟨⟨hM.below, hM.blk 16 rfl, hM.blk 15 rfl⟩, ?_⟩
  go_frame
  refine wa_one 5 (by kernel_rfl) ?_
  refine wo_call (some 106) rfl rfl (by kernel_rfl) 8 #[.agg #[.slice (some ⟨ma'35, 0, none⟩) l.length ka'37, .slice (some ⟨mb'36, 0, none⟩) c.length kb'38], .int .i64 task, .agg (HD.cells h).toArray] (by kernel_rfl) (hI _ (some ⟨ma'35, 0, none⟩) ka'37 (some ⟨mb'36, 0, none⟩) kb'38 (nsl_blk (hM.blk 2 rfl) qa'41 qb'42) (sli_blk (hM.blk 3 rfl) qc'43 qd'44)) ?_
  rintro e W35 ⟨u', x', rfl, hO1, hO2, hb⟩
  obtain ⟨v'45, j'45, rfl, -, s'45_1⟩ := (show OwnR _ _ _ _ 8 0 [] _ from hO1).slice
  obtain ⟨y'45, i'45, rfl, -, s'45_2⟩ := (show OwnR _ _ _ _ 1 0 [] _ from hO2).slice
  replace hM := hM.call hb
  refine ⟨_, rfl, ⟨hM.below, hM.blk 16 rfl, hM.blk 15 rfl⟩, ?_⟩
  go_frame
  refine wa_take 6 (some 100) (.tuple #[.agg #[.slice v'45 0 j'45, .slice y'45 0 i'45], .agg (HD.cells HD.zero).toArray, .bool false]) rfl rfl (by kernel_rfl) (by kernel_rfl) (by kernel_rfl) (fun _ _ _ h => h) (by kernel_rfl) (fun w hS => by kernel_rfl) ⟨hM.below, hM.blk 16 rfl, hM.blk 15 rfl⟩ ?_
  go_frame
  refine wa_take 7 (some 107) (.agg #[.slice v'45 0 j'45, .slice y'45 0 i'45]) rfl rfl (by kernel_rfl) (by kernel_rfl) (by kernel_rfl) (fun _ _ _ h => h) (by kernel_rfl) (fun w hS => by kernel_rfl) ⟨hM.below, hM.blk 16 rfl, hM.blk 15 rfl⟩ ?_
  go_frame
  refine wa_take 8 (some 108) (.agg (HD.cells HD.zero).toArray) rfl rfl (by kernel_rfl) (by kernel_rfl) (by kernel_rfl) (fun _ _ _ h => h) (by kernel_rfl) (fun w hS => by kernel_rfl) ⟨hM.below, hM.blk 16 rfl, hM.blk 15 rfl⟩ ?_
  go_frame
  refine wa_take 9 (some 109) (.bool false) rfl rfl (by kernel_rfl) (by kernel_rfl) (by kernel_rfl) (fun _ _ _ h => h) (by kernel_rfl) (fun w hS => by kernel_rfl) ⟨hM.below, hM.blk 16 rfl, hM.blk 15 rfl⟩ ?_
  go_frame
  refine wa_one 12 (by kernel_rfl) ?_
  refine wo_store rfl (by kernel_rfl) hM 0 rfl 33 _ _ rfl rfl (by kernel_rfl) [.slice v'45 0 j'45, .slice y'45 0 i'45] (by kernel_rfl) I_impl_Shared rfl rfl ?_
  clear hM; intro W36 hM
  refine ⟨⟨hM.below, hM.blk 16 rfl, hM.blk 15 rfl⟩, ?_⟩
  refine wa_one 13 (by kernel_rfl) ?_
  refine wo_store rfl (by kernel_rfl) hM 1 rfl 36 _ _ rfl rfl (by kernel_rfl) (HD.cells HD.zero) (by kernel_rfl) I_impl_Hand rfl (hd_one' _) ?_
  clear hM; intro W37 hM
  refine ⟨⟨hM.below, hM.blk 16 rfl, hM.blk 15 rfl⟩, ?_⟩
  refine wa_take 14 (some 20) (.bool false) rfl rfl (by kernel_rfl) (by kernel_rfl) (by kernel_rfl) (fun _ _ _ h => h) (by kernel_rfl) (fun w hS => by kernel_rfl) ⟨hM.below, hM.blk 16 rfl, hM.blk 15 rfl⟩ ?_
  go_frame
  refine wa_doneJ (by kernel_rfl) ?_
  replace hM := hM.pull 0 rfl
  replace hM := hM.pull 1 rfl
  exact ⟨g8, g9, ma'35, mb'36, ka'37, kb'38, pa'39, pb'40, v'45, y'45, j'45, i'45, rfl, hM, ⟨qa'41, qb'42, qc'43, qd'44⟩, ⟨s'45_1, s'45_2⟩⟩
  refine wo_alloc (some 18) rfl rfl (by kernel_rfl) hM 33 rfl [.slice none 0 0, .slice none 0 0] Z_impl_Shared ?_
  clear hM; intro g8 W32 hM
  refine ⟨⟨hM.below, hM.blk 15 rfl, hM.blk 14 rfl⟩, ?_⟩
  go_frame
  refine wa_two 4 11 (by kernel_rfl) ?_ ?_
  refine wo_call (some 105) rfl rfl (by kernel_rfl) 7 #[.agg (HD.cells h).toArray] (by kernel_rfl) (toHand_any h _) ?_
  rintro e W33 ⟨rfl, hb⟩
  replace hM := hM.call hb
  refine ⟨_, rfl, ⟨hM.below, hM.blk 15 rfl, hM.blk 14 rfl⟩, ?_⟩
  go_frame
  refine wa_two 5 11 (by kernel_rfl) ?_ ?_
  refine wo_call (some 106) rfl rfl (by kernel_rfl) 8 #[.agg #[.slice (some ⟨ma'35, 0, none⟩) l.length ka'37, .slice (some ⟨mb'36, 0, none⟩) c.length kb'38], .int .i64 task, .agg (HD.cells h).toArray] (by kernel_rfl) (hI _ (some ⟨ma'35, 0, none⟩) ka'37 (some ⟨mb'36, 0, none⟩) kb'38 (nsl_blk (hM.blk 1 rfl) qa'41 qb'42) (sli_blk (hM.blk 2 rfl) qc'43 qd'44)) ?_
  rintro e W34 ⟨u', x', rfl, hO1, hO2, hb⟩
  obtain ⟨v'45, j'45, rfl, -, s'45_1⟩ := (show OwnR _ _ _ _ 8 0 [] _ from hO1).slice
  obtain ⟨y'45, i'45, rfl, -, s'45_2⟩ := (show OwnR _ _ _ _ 1 0 [] _ from hO2).slice
  replace hM := hM.call hb
  refine ⟨_, rfl, ⟨hM.below, hM.blk 15 rfl, hM.blk 14 rfl⟩, ?_⟩
  go_frame
  refine wa_take 6 (some 100) (.tuple #[.agg #[.slice v'45 0 j'45, .slice y'45 0 i'45], .agg (HD.cells HD.zero).toArray, .bool false]) rfl rfl (by kernel_rfl) (by kernel_rfl) (by kernel_rfl) (fun _ _ _ h => h) (by kernel_rfl) (fun w hS => by kernel_rfl) ⟨hM.below, hM.blk 15 rfl, hM.blk 14 rfl⟩ ?_
  go_frame
  refine wa_take 7 (some 107) (.agg #[.slice v'45 0 j'45, .slice y'45 0 i'45]) rfl rfl (by kernel_rfl) (by kernel_rfl) (by kernel_rfl) (fun _ _ _ h => h) (by kernel_rfl) (fun w hS => by kernel_rfl) ⟨hM.below, hM.blk 15 rfl, hM.blk 14 rfl⟩ ?_
  go_frame
  refine wa_take 8 (some 108) (.agg (HD.cells HD.zero).toArray) rfl rfl (by kernel_rfl) (by kernel_rfl) (by kernel_rfl) (fun _ _ _ h => h) (by kernel_rfl) (fun w hS => by kernel_rfl) ⟨hM.below, hM.blk 15 rfl, hM.blk 14 rfl⟩ ?_
  go_frame
  refine wa_take 9 (some 109) (.bool false) rfl rfl (by kernel_rfl) (by kernel_rfl) (by kernel_rfl) (fun _ _ _ h => h) (by kernel_rfl) (fun w hS => by kernel_rfl) ⟨hM.below, hM.blk 15 rfl, hM.blk 14 rfl⟩ ?_
  go_frame
  refine wa_one 11 (by kernel_rfl) ?_
  refine wo_alloc (some 19) rfl rfl (by kernel_rfl) hM 36 rfl (HD.cells HD.zero) Z_impl_Hand ?_
  clear hM; intro g9 W35 hM
  refine ⟨⟨hM.below, hM.blk 16 rfl, hM.blk 15 rfl⟩, ?_⟩
  go_frame
  refine wa_one 12 (by kernel_rfl) ?_
  refine wo_store rfl (by kernel_rfl) hM 1 rfl 33 _ _ rfl rfl (by kernel_rfl) [.slice v'45 0 j'45, .slice y'45 0 i'45] (by kernel_rfl) I_impl_Shared rfl rfl ?_
  clear hM; intro W36 hM
  refine ⟨⟨hM.below, hM.blk 16 rfl, hM.blk 15 rfl⟩, ?_⟩
  refine wa_one 13 (by kernel_rfl) ?_
  refine wo_store rfl (by kernel_rfl) hM 0 rfl 36 _ _ rfl rfl (by kernel_rfl) (HD.cells HD.zero) (by kernel_rfl) I_impl_Hand rfl (hd_one' _) ?_
  clear hM; intro W37 hM
  refine ⟨⟨hM.below, hM.blk 16 rfl, hM.blk 15 rfl⟩, ?_⟩
  refine wa_take 14 (some 20) (.bool false) rfl rfl (by kernel_rfl) (by kernel_rfl) (by kernel_rfl) (fun _ _ _ h => h) (by kernel_rfl) (fun w hS => by kernel_rfl) ⟨hM.below, hM.blk 16 rfl, hM.blk 15 rfl⟩ ?_
  go_frame
  refine wa_doneJ (by kernel_rfl) ?_
  exact ⟨g9, g8, ma'35, mb'36, ka'37, kb'38, pa'39, pb'40, v'45, y'45, j'45, i'45, rfl, hM, ⟨qa'41, qb'42, qc'43, qd'44⟩, ⟨s'45_1, s'45_2⟩⟩
  refine wo_alloc (some 19) rfl rfl (by kernel_rfl) hM 36 rfl (HD.cells HD.zero) Z_impl_Hand ?_
  clear hM; intro g9 W34 hM
  refine ⟨⟨hM.below, hM.blk 16 rfl, hM.blk 15 rfl⟩, ?_⟩
  go_frame
  refine wa_one 5 (by kernel_rfl) ?_
  refine wo_call (some 106) rfl rfl (by kernel_rfl) 8 #[.agg #[.slice (some ⟨ma'35, 0, none⟩) l.length ka'37, .slice (some ⟨mb'36, 0, none⟩) c.length kb'38], .int .i64 task, .agg (HD.cells h).toArray] (by kernel_rfl) (hI _ (some ⟨ma'35, 0, none⟩) ka'37 (some ⟨mb'36, 0, none⟩) kb'38 (nsl_blk (hM.blk 2 rfl) qa'41 qb'42) (sli_blk (hM.blk 3 rfl) qc'43 qd'44)) ?_
  rintro e W35 ⟨u', x', rfl, hO1, hO2, hb⟩
  obtain ⟨v'45, j'45, rfl, -, s'45_1⟩ := (show OwnR _ _ _ _ 8 0 [] _ from hO1).slice
  obtain ⟨y'45, i'45, rfl, -, s'45_2⟩ := (show OwnR _ _ _ _ 1 0 [] _ from hO2).slice
  replace hM := hM.call hb
  refine ⟨_, rfl, ⟨hM.below, hM.blk 16 rfl, hM.blk 15 rfl⟩, ?_⟩
  go_frame
  refine wa_take 6 (some 100) (.tuple #[.agg #[.slice v'45 0 j'45, .slice y'45 0 i'45], .agg (HD.cells HD.zero).toArray, .bool false]) rfl rfl (by kernel_rfl) (by kernel_rfl) (by kernel_rfl) (fun _ _ _ h => h) (by kernel_rfl) (fun w hS => by kernel_rfl) ⟨hM.below, hM.blk 16 rfl, hM.blk 15 rfl⟩ ?_
  go_frame
  refine wa_take 7 (some 107) (.agg #[.slice v'45 0 j'45, .slice y'45 0 i'45]) rfl rfl (by kernel_rfl) (by kernel_rfl) (by kernel_rfl) (fun _ _ _ h => h) (by kernel_rfl) (fun w hS => by kernel_rfl) ⟨hM.below, hM.blk 16 rfl, hM.blk 15 rfl⟩ ?_
  go_frame
  refine wa_take 8 (some 108) (.agg (HD.cells HD.zero).toArray) rfl rfl (by kernel_rfl) (by kernel_rfl) (by kernel_rfl) (fun _ _ _ h => h) (by kernel_rfl) (fun w hS => by kernel_rfl) ⟨hM.below, hM.blk 16 rfl, hM.blk 15 rfl⟩ ?_
  go_frame
  refine wa_take 9 (some 109) (.bool false) rfl rfl (by kernel_rfl) (by kernel_rfl) (by kernel_rfl) (fun _ _ _ h => h) (by kernel_rfl) (fun w hS => by kernel_rfl) ⟨hM.below, hM.blk 16 rfl, hM.blk 15 rfl⟩ ?_
  go_frame
  refine wa_one 12 (by kernel_rfl) ?_
  refine wo_store rfl (by kernel_rfl) hM 1 rfl 33 _ _ rfl rfl (by kernel_rfl) [.slice v'45 0 j'45, .slice y'45 0 i'45] (by kernel_rfl) I_impl_Shared rfl rfl ?_
  clear hM; intro W36 hM
  refine ⟨⟨hM.below, hM.blk 16 rfl, hM.blk 15 rfl⟩, ?_⟩
  refine wa_one 13 (by kernel_rfl) ?_
  refine wo_store rfl (by kernel_rfl) hM 0 rfl 36 _ _ rfl rfl (by kernel_rfl) (HD.cells HD.zero) (by kernel_rfl) I_impl_Hand rfl (hd_one' _) ?_
  clear hM; intro W37 hM
  refine ⟨⟨hM.below, hM.blk 16 rfl, hM.blk 15 rfl⟩, ?_⟩
  refine wa_take 14 (some 20) (.bool false) rfl rfl (by kernel_rfl) (by kernel_rfl) (by kernel_rfl) (fun _ _ _ h => h) (by kernel_rfl) (fun w hS => by kernel_rfl) ⟨hM.below, hM.blk 16 rfl, hM.blk 15 rfl⟩ ?_
  go_frame
  refine wa_doneJ (by kernel_rfl) ?_
  exact ⟨g9, g8, ma'35, mb'36, ka'37, kb'38, pa'39, pb'40, v'45, y'45, j'45, i'45, rfl, hM, ⟨qa'41, qb'42, qc'43, qd'44⟩, ⟨s'45_1, s'45_2⟩⟩
  refine wo_alloc (some 19) rfl rfl (by kernel_rfl) hM 36 rfl (HD.cells HD.zero) Z_impl_Hand ?_
  clear hM; intro g9 W33 hM
  refine ⟨⟨hM.below, hM.blk 16 rfl, hM.blk 15 rfl⟩, ?_⟩
  go_frame
  refine wa_one 4 (by kernel_rfl) ?_
  refine wo_call (some 105) rfl rfl (by kernel_rfl) 7 #[.agg (HD.cells h).toArray] (by kernel_rfl) (toHand_any h _) ?_
  rintro e W34 ⟨rfl, hb⟩
  replace hM := hM.call hb
  refine ⟨_, rfl, ⟨hM.below, hM.blk 16 rfl, hM.blk 15 rfl⟩, ?_⟩
  go_frame
  refine wa_one 5 (by kernel_rfl) ?_
  refine wo_call (some 106) rfl rfl (by kernel_rfl) 8 #[.agg #[.slice (some ⟨ma'35, 0, none⟩) l.length ka'37, .slice (some ⟨mb'36, 0, none⟩) c.length kb'38], .int .i64 task, .agg (HD.cells h).toArray] (by kernel_rfl) (hI _ (some ⟨ma'35, 0, none⟩) ka'37 (some ⟨mb'36, 0, none⟩) kb'38 (nsl_blk (hM.blk 2 rfl) qa'41 qb'42) (sli_blk (hM.blk 3 rfl) qc'43 qd'44)) ?_
  rintro e W35 ⟨u', x', rfl, hO1, hO2, hb⟩
  obtain ⟨v'45, j'45, rfl, -, s'45_1⟩ := (show OwnR _ _ _ _ 8 0 [] _ from hO1).slice
  obtain ⟨y'45, i'45, rfl, -, s'45_2⟩ := (show OwnR _ _ _ _ 1 0 [] _ from hO2).slice
  replace hM := hM.call hb
  refine ⟨_, rfl, ⟨hM.below, hM.blk 16 rfl, hM.blk 15 rfl⟩, ?_⟩
  go_frame
  refine wa_take 6 (some 100) (.tuple #[.agg #[.slice v'45 0 j'45, .slice y'45 0 i'45], .agg (HD.cells HD.zero).toArray, .bool false]) rfl rfl (by kernel_rfl) (by kernel_rfl) (by kernel_rfl) (fun _ _ _ h => h) (by kernel_rfl) (fun w hS => by kernel_rfl) ⟨hM.below, hM.blk 16 rfl, hM.blk 15 rfl⟩ ?_
  go_frame
  refine wa_take 7 (some 107) (.agg #[.slice v'45 0 j'45, .slice y'45 0 i'45]) rfl rfl (by kernel_rfl) (by kernel_rfl) (by kernel_rfl) (fun _ _ _ h => h) (by kernel_rfl) (fun w hS => by kernel_rfl) ⟨hM.below, hM.blk 16 rfl, hM.blk 15 rfl⟩ ?_
  go_frame
  refine wa_take 8 (some 108) (.agg (HD.cells HD.zero).toArray) rfl rfl (by kernel_rfl) (by kernel_rfl) (by kernel_rfl) (fun _ _ _ h => h) (by kernel_rfl) (fun w hS => by kernel_rfl) ⟨hM.below, hM.blk 16 rfl, hM.blk 15 rfl⟩ ?_
  go_frame
  refine wa_take 9 (some 109) (.bool false) rfl rfl (by kernel_rfl) (by kernel_rfl) (by kernel_rfl) (fun _ _ _ h => h) (by kernel_rfl) (fun w hS => by kernel_rfl) ⟨hM.below, hM.blk 16 rfl, hM.blk 15 rfl⟩ ?_
  go_frame
  refine wa_one 12 (by kernel_rfl) ?_
  refine wo_store rfl (by kernel_rfl) hM 1 rfl 33 _ _ rfl rfl (by kernel_rfl) [.slice v'45 0 j'45, .slice y'45 0 i'45] (by kernel_rfl) I_impl_Shared rfl rfl ?_
  clear hM; intro W36 hM
  refine ⟨⟨hM.below, hM.blk 16 rfl, hM.blk 15 rfl⟩, ?_⟩
  refine wa_one 13 (by kernel_rfl) ?_
  refine wo_store rfl (by kernel_rfl) hM 0 rfl 36 _ _ rfl rfl (by kernel_rfl) (HD.cells HD.zero) (by kernel_rfl) I_impl_Hand rfl (hd_one' _) ?_
  clear hM; intro W37 hM
  refine ⟨⟨hM.below, hM.blk 16 rfl, hM.blk 15 rfl⟩, ?_⟩
  refine wa_take 14 (some 20) (.bool false) rfl rfl (by kernel_rfl) (by kernel_rfl) (by kernel_rfl) (fun _ _ _ h => h) (by kernel_rfl) (fun w hS => by kernel_rfl) ⟨hM.below, hM.blk 16 rfl, hM.blk 15 rfl⟩ ?_
  go_frame
  refine wa_doneJ (by kernel_rfl) ?_
  exact ⟨g9, g8, ma'35, mb'36, ka'37, kb'38, pa'39, pb'40, v'45, y'45, j'45, i'45, rfl, hM, ⟨qa'41, qb'42, qc'43, qd'44⟩, ⟨s'45_1, s'45_2⟩⟩
  refine wo_alloc (some 19) rfl rfl (by kernel_rfl) hM 36 rfl (HD.cells HD.zero) Z_impl_Hand ?_
  clear hM; intro g8 W32 hM
  refine ⟨⟨hM.below, hM.blk 15 rfl, hM.blk 14 rfl⟩, ?_⟩
  go_frame
  refine wa_two 4 10 (by kernel_rfl) ?_ ?_
  refine wo_call (some 105) rfl rfl (by kernel_rfl) 7 #[.agg (HD.cells h).toArray] (by kernel_rfl) (toHand_any h _) ?_
  rintro e W33 ⟨rfl, hb⟩
  replace hM := hM.call hb
  refine ⟨_, rfl, ⟨hM.below, hM.blk 15 rfl, hM.blk 14 rfl⟩, ?_⟩
  go_frame
  refine wa_two 5 10 (by kernel_rfl) ?_ ?_
  refine wo_call (some 106) rfl rfl (by kernel_rfl) 8 #[.agg #[.slice (some ⟨ma'35, 0, none⟩) l.length ka'37, .slice (some ⟨mb'36, 0, none⟩) c.length kb'38], .int .i64 task, .agg (HD.cells h).toArray] (by kernel_rfl) (hI _ (some ⟨ma'35, 0, none⟩) ka'37 (some ⟨mb'36, 0, none⟩) kb'38 (nsl_blk (hM.blk 1 rfl) qa'41 qb'42) (sli_blk (hM.blk 2 rfl) qc'43 qd'44)) ?_
  rintro e W34 ⟨u', x', rfl, hO1, hO2, hb⟩
  obtain ⟨v'45, j'45, rfl, -, s'45_1⟩ := (show OwnR _ _ _ _ 8 0 [] _ from hO1).slice
  obtain ⟨y'45, i'45, rfl, -, s'45_2⟩ := (show OwnR _ _ _ _ 1 0 [] _ from hO2).slice
  replace hM := hM.call hb
  refine ⟨_, rfl, ⟨hM.below, hM.blk 15 rfl, hM.blk 14 rfl⟩, ?_⟩
  go_frame
  refine wa_take 6 (some 100) (.tuple #[.agg #[.slice v'45 0 j'45, .slice y'45 0 i'45], .agg (HD.cells HD.zero).toArray, .bool false]) rfl rfl (by kernel_rfl) (by kernel_rfl) (by kernel_rfl) (fun _ _ _ h => h) (by kernel_rfl) (fun w hS => by kernel_rfl) ⟨hM.below, hM.blk 15 rfl, hM.blk 14 rfl⟩ ?_
  go_frame
  refine wa_take 7 (some 107) (.agg #[.slice v'45 0 j'45, .slice y'45 0 i'45]) rfl rfl (by kernel_rfl) (by kernel_rfl) (by kernel_rfl) (fun _ _ _ h => h) (by kernel_rfl) (fun w hS => by kernel_rfl) ⟨hM.below, hM.blk 15 rfl, hM.blk 14 rfl⟩ ?_
  go_frame
  refine wa_take 8 (some 108) (.agg (HD.cells HD.zero).toArray) rfl rfl (by kernel_rfl) (by kernel_rfl) (by kernel_rfl) (fun _ _ _ h => h) (by kernel_rfl) (fun w hS => by kernel_rfl) ⟨hM.below, hM.blk 15 rfl, hM.blk 14 rfl⟩ ?_
  go_frame
  refine wa_take 9 (some 109) (.bool false) rfl rfl (by kernel_rfl) (by kernel_rfl) (by kernel_rfl) (fun _ _ _ h => h) (by kernel_rfl) (fun w hS => by kernel_rfl) ⟨hM.below, hM.blk 15 rfl, hM.blk 14 rfl⟩ ?_
  go_frame
  refine wa_one 10 (by kernel_rfl) ?_
  refine wo_alloc (some 18) rfl rfl (by kernel_rfl) hM 33 rfl [.slice none 0 0, .slice none 0 0] Z_impl_Shared ?_
  clear hM; intro g9 W35 hM
  refine ⟨⟨hM.below, hM.blk 16 rfl, hM.blk 15 rfl⟩, ?_⟩
  go_frame
  refine wa_one 12 (by kernel_rfl) ?_
  refine wo_store rfl (by kernel_rfl) hM 0 rfl 33 _ _ rfl rfl (by kernel_rfl) [.slice v'45 0 j'45, .slice y'45 0 i'45] (by kernel_rfl) I_impl_Shared rfl rfl ?_
  clear hM; intro W36 hM
  refine ⟨⟨hM.below, hM.blk 16 rfl, hM.blk 15 rfl⟩, ?_⟩
  refine wa_one 13 (by kernel_rfl) ?_
  refine wo_store rfl (by kernel_rfl) hM 1 rfl 36 _ _ rfl rfl (by kernel_rfl) (HD.cells HD.zero) (by kernel_rfl) I_impl_Hand rfl (hd_one' _) ?_
  clear hM; intro W37 hM
  refine ⟨⟨hM.below, hM.blk 16 rfl, hM.blk 15 rfl⟩, ?_⟩
  refine wa_take 14 (some 20) (.bool false) rfl rfl (by kernel_rfl) (by kernel_rfl) (by kernel_rfl) (fun _ _ _ h => h) (by kernel_rfl) (fun w hS => by kernel_rfl) ⟨hM.below, hM.blk 16 rfl, hM.blk 15 rfl⟩ ?_
  go_frame
  refine wa_doneJ (by kernel_rfl) ?_
  replace hM := hM.pull 0 rfl
  replace hM := hM.pull 1 rfl
  exact ⟨g8, g9, ma'35, mb'36, ka'37, kb'38, pa'39, pb'40, v'45, y'45, j'45, i'45, rfl, hM, ⟨qa'41, qb'42, qc'43, qd'44⟩, ⟨s'45_1, s'45_2⟩⟩
  refine wo_alloc (some 18) rfl rfl (by kernel_rfl) hM 33 rfl [.slice none 0 0, .slice none 0 0] Z_impl_Shared ?_
  clear hM; intro g9 W34 hM
  refine ⟨⟨hM.below, hM.blk 16 rfl, hM.blk 15 rfl⟩, ?_⟩
  go_frame
  refine wa_one 5 (by kernel_rfl) ?_
  refine wo_call (some 106) rfl rfl (by kernel_rfl) 8 #[.agg #[.slice (some ⟨ma'35, 0, none⟩) l.length ka'37, .slice (some ⟨mb'36, 0, none⟩) c.length kb'38], .int .i64 task, .agg (HD.cells h).toArray] (by kernel_rfl) (hI _ (some ⟨ma'35, 0, none⟩) ka'37 (some ⟨mb'36, 0, none⟩) kb'38 (nsl_blk (hM.blk 2 rfl) qa'41 qb'42) (sli_blk (hM.blk 3 rfl) qc'43 qd'44)) ?_
  rintro e W35 ⟨u', x', rfl, hO1, hO2, hb⟩
  obtain ⟨v'45, j'45, rfl, -, s'45_1⟩ := (show OwnR _ _ _ _ 8 0 [] _ from hO1).slice
  obtain ⟨y'45, i'45, rfl, -, s'45_2⟩ := (show OwnR _ _ _ _ 1 0 [] _ from hO2).slice
  replace hM := hM.call hb
  refine ⟨_, rfl, ⟨hM.below, hM.blk 16 rfl, hM.blk 15 rfl⟩, ?_⟩
  go_frame
  refine wa_take 6 (some 100) (.tuple #[.agg #[.slice v'45 0 j'45, .slice y'45 0 i'45], .agg (HD.cells HD.zero).toArray, .bool false]) rfl rfl (by kernel_rfl) (by kernel_rfl) (by kernel_rfl) (fun _ _ _ h => h) (by kernel_rfl) (fun w hS => by kernel_rfl) ⟨hM.below, hM.blk 16 rfl, hM.blk 15 rfl⟩ ?_
  go_frame
  refine wa_take 7 (some 107) (.agg #[.slice v'45 0 j'45, .slice y'45 0 i'45]) rfl rfl (by kernel_rfl) (by kernel_rfl) (by kernel_rfl) (fun _ _ _ h => h) (by kernel_rfl) (fun w hS => by kernel_rfl) ⟨hM.below, hM.blk 16 rfl, hM.blk 15 rfl⟩ ?_
  go_frame
  refine wa_take 8 (some 108) (.agg (HD.cells HD.zero).toArray) rfl rfl (by kernel_rfl) (by kernel_rfl) (by kernel_rfl) (fun _ _ _ h => h) (by kernel_rfl) (fun w hS => by kernel_rfl) ⟨hM.below, hM.blk 16 rfl, hM.blk 15 rfl⟩ ?_
  go_frame
  refine wa_take 9 (some 109) (.bool false) rfl rfl (by kernel_rfl) (by kernel_rfl) (by kernel_rfl) (fun _ _ _ h => h) (by kernel_rfl) (fun w hS => by kernel_rfl) ⟨hM.below, hM.blk 16 rfl, hM.blk 15 rfl⟩ ?_
  go_frame
  refine wa_one 12 (by kernel_rfl) ?_
  refine wo_store rfl (by kernel_rfl) hM 0 rfl 33 _ _ rfl rfl (by kernel_rfl) [.slice v'45 0 j'45, .slice y'45 0 i'45] (by kernel_rfl) I_impl_Shared rfl rfl ?_
  clear hM; intro W36 hM
  refine ⟨⟨hM.below, hM.blk 16 rfl, hM.blk 15 rfl⟩, ?_⟩
  refine wa_one 13 (by kernel_rfl) ?_
  refine wo_store rfl (by kernel_rfl) hM 1 rfl 36 _ _ rfl rfl (by kernel_rfl) (HD.cells HD.zero) (by kernel_rfl) I_impl_Hand rfl (hd_one' _) ?_
  clear hM; intro W37 hM
  refine ⟨⟨hM.below, hM.blk 16 rfl, hM.blk 15 rfl⟩, ?_⟩
  refine wa_take 14 (some 20) (.bool false) rfl rfl (by kernel_rfl) (by kernel_rfl) (by kernel_rfl) (fun _ _ _ h => h) (by kernel_rfl) (fun w hS => by kernel_rfl) ⟨hM.below, hM.blk 16 rfl, hM.blk 15 rfl⟩ ?_
  go_frame
  refine wa_doneJ (by kernel_rfl) ?_
  replace hM := hM.pull 0 rfl
  replace hM := hM.pull 1 rfl
  exact ⟨g8, g9, ma'35, mb'36, ka'37, kb'38, pa'39, pb'40, v'45, y'45, j'45, i'45, rfl, hM, ⟨qa'41, qb'42, qc'43, qd'44⟩, ⟨s'45_1, s'45_2⟩⟩
  refine wo_alloc (some 18) rfl rfl (by kernel_rfl) hM 33 rfl [.slice none 0 0, .slice none 0 0] Z_impl_Shared ?_
  clear hM; intro g9 W33 hM
  refine ⟨⟨hM.below, hM.blk 16 rfl, hM.blk 15 rfl⟩, ?_⟩
  go_frame
  refine wa_one 4 (by kernel_rfl) ?_
  refine wo_call (some 105) rfl rfl (by kernel_rfl) 7 #[.agg (HD.cells h).toArray] (by kernel_rfl) (toHand_any h _) ?_
  rintro e W34 ⟨rfl, hb⟩
  replace hM := hM.call hb
  refine ⟨_, rfl, ⟨hM.below, hM.blk 16 rfl, hM.blk 15 rfl⟩, ?_⟩
  go_frame
  refine wa_one 5 (by kernel_rfl) ?_
  refine wo_call (some 106) rfl rfl (by kernel_rfl) 8 #[.agg #[.slice (some ⟨ma'35, 0, none⟩) l.length ka'37, .slice (some ⟨mb'36, 0, none⟩) c.length kb'38], .int .i64 task, .agg (HD.cells h).toArray] (by kernel_rfl) (hI _ (some ⟨ma'35, 0, none⟩) ka'37 (some ⟨mb'36, 0, none⟩) kb'38 (nsl_blk (hM.blk 2 rfl) qa'41 qb'42) (sli_blk (hM.blk 3 rfl) qc'43 qd'44)) ?_
  rintro e W35 ⟨u', x', rfl, hO1, hO2, hb⟩
  obtain ⟨v'45, j'45, rfl, -, s'45_1⟩ := (show OwnR _ _ _ _ 8 0 [] _ from hO1).slice
  obtain ⟨y'45, i'45, rfl, -, s'45_2⟩ := (show OwnR _ _ _ _ 1 0 [] _ from hO2).slice
  replace hM := hM.call hb
  refine ⟨_, rfl, ⟨hM.below, hM.blk 16 rfl, hM.blk 15 rfl⟩, ?_⟩
  go_frame
  refine wa_take 6 (some 100) (.tuple #[.agg #[.slice v'45 0 j'45, .slice y'45 0 i'45], .agg (HD.cells HD.zero).toArray, .bool false]) rfl rfl (by kernel_rfl) (by kernel_rfl) (by kernel_rfl) (fun _ _ _ h => h) (by kernel_rfl) (fun w hS => by kernel_rfl) ⟨hM.below, hM.blk 16 rfl, hM.blk 15 rfl⟩ ?_
  go_frame
  refine wa_take 7 (some 107) (.agg #[.slice v'45 0 j'45, .slice y'45 0 i'45]) rfl rfl (by kernel_rfl) (by kernel_rfl) (by kernel_rfl) (fun _ _ _ h => h) (by kernel_rfl) (fun w hS => by kernel_rfl) ⟨hM.below, hM.blk 16 rfl, hM.blk 15 rfl⟩ ?_
  go_frame
  refine wa_take 8 (some 108) (.agg (HD.cells HD.zero).toArray) rfl rfl (by kernel_rfl) (by kernel_rfl) (by kernel_rfl) (fun _ _ _ h => h) (by kernel_rfl) (fun w hS => by kernel_rfl) ⟨hM.below, hM.blk 16 rfl, hM.blk 15 rfl⟩ ?_
  go_frame
  refine wa_take 9 (some 109) (.bool false) rfl rfl (by kernel_rfl) (by kernel_rfl) (by kernel_rfl) (fun _ _ _ h => h) (by kernel_rfl) (fun w hS => by kernel_rfl) ⟨hM.below, hM.blk 16 rfl, hM.blk 15 rfl⟩ ?_
  go_frame
  refine wa_one 12 (by kernel_rfl) ?_
  refine wo_store rfl (by kernel_rfl) hM 0 rfl 33 _ _ rfl rfl (by kernel_rfl) [.slice v'45 0 j'45, .slice y'45 0 i'45] (by kernel_rfl) I_impl_Shared rfl rfl ?_
  clear hM; intro W36 hM
  refine ⟨⟨hM.below, hM.blk 16 rfl, hM.blk 15 rfl⟩, ?_⟩
  refine wa_one 13 (by kernel_rfl) ?_
  refine wo_store rfl (by kernel_rfl) hM 1 rfl 36 _ _ rfl rfl (by kernel_rfl) (HD.cells HD.zero) (by kernel_rfl) I_impl_Hand rfl (hd_one' _) ?_
  clear hM; intro W37 hM
  refine ⟨⟨hM.below, hM.blk 16 rfl, hM.blk 15 rfl⟩, ?_⟩
  refine wa_take 14 (some 20) (.bool false) rfl rfl (by kernel_rfl) (by kernel_rfl) (by kernel_rfl) (fun _ _ _ h => h) (by kernel_rfl) (fun w hS => by kernel_rfl) ⟨hM.below, hM.blk 16 rfl, hM.blk 15 rfl⟩ ?_
  go_frame
  refine wa_doneJ (by kernel_rfl) ?_
  replace hM := hM.pull 0 rfl
  replace hM := hM.pull 1 rfl
  exact ⟨g8, g9, ma'35, mb'36, ka'37, kb'38, pa'39, pb'40, v'45, y'45, j'45, i'45, rfl, hM, ⟨qa'41, qb'42, qc'43, qd'44⟩, ⟨s'45_1, s'45_2⟩⟩
  refine wo_alloc (some 18) rfl rfl (by kernel_rfl) hM 33 rfl [.slice none 0 0, .slice none 0 0] Z_impl_Shared ?_
  clear hM; intro g8 W31 hM
  refine ⟨⟨hM.below, hM.blk 13 rfl, hM.blk 12 rfl⟩, ?_⟩
  go_frame
  refine wa_two 1 11 (by kernel_rfl) ?_ ?_
  refine wo_call (some 102) rfl rfl (by kernel_rfl) 6 #[.agg #[.slice ua l.length uc, .slice xa c.length xc]] (by kernel_rfl) (toShared_any (.slice ua l.length uc) (.slice xa c.length xc) l c _ (h1.below hM.below) (h2.below hM.below) hl hc) ?_
  rintro e W32 ⟨ma'35, mb'36, ka'37, kb'38, pa'39, pb'40, rfl, ⟨qa'41, qb'42, qc'43, qd'44, -, -⟩, hMc⟩
  replace hM := hM.join hMc
  refine ⟨_, rfl, ⟨hM.below, hM.blk 15 rfl, hM.blk 14 rfl⟩, ?_⟩
  go_frame
  refine wa_two 4 11 (by kernel_rfl) ?_ ?_
  refine wo_call (some 105) rfl rfl (by kernel_rfl) 7 #[.agg (HD.cells h).toArray] (by kernel_rfl) (toHand_any h _) ?_
  rintro e W33 ⟨rfl, hb⟩
  replace hM := hM.call hb
  refine ⟨_, rfl, ⟨hM.below, hM.blk 15 rfl, hM.blk 14 rfl⟩, ?_⟩
  go_frame
  refine wa_two 5 11 (by kernel_rfl) ?_ ?_
  refine wo_call (some 106) rfl rfl (by kernel_rfl) 8 #[.agg #[.slice (some ⟨ma'35, 0, none⟩) l.length ka'37, .slice (some ⟨mb'36, 0, none⟩) c.length kb'38], .int .i64 task, .agg (HD.cells h).toArray] (by kernel_rfl) (hI _ (some ⟨ma'35, 0, none⟩) ka'37 (some ⟨mb'36, 0, none⟩) kb'38 (nsl_blk (hM.blk 0 rfl) qa'41 qb'42) (sli_blk (hM.blk 1 rfl) qc'43 qd'44)) ?_
  rintro e W34 ⟨u', x', rfl, hO1, hO2, hb⟩
  obtain ⟨v'45, j'45, rfl, -, s'45_1⟩ := (show OwnR _ _ _ _ 8 0 [] _ from hO1).slice
  obtain ⟨y'45, i'45, rfl, -, s'45_2⟩ := (show OwnR _ _ _ _ 1 0 [] _ from hO2).slice
  replace hM := hM.call hb
  refine ⟨_, rfl, ⟨hM.below, hM.blk 15 rfl, hM.blk 14 rfl⟩, ?_⟩
  go_frame
  refine wa_take 6 (some 100) (.tuple #[.agg #[.slice v'45 0 j'45, .slice y'45 0 i'45], .agg (HD.cells HD.zero).toArray, .bool false]) rfl rfl (by kernel_rfl) (by kernel_rfl) (by kernel_rfl) (fun _ _ _ h => h) (by kernel_rfl) (fun w hS => by kernel_rfl) ⟨hM.below, hM.blk 15 rfl, hM.blk 14 rfl⟩ ?_
  go_frame
  refine wa_take 7 (some 107) (.agg #[.slice v'45 0 j'45, .slice y'45 0 i'45]) rfl rfl (by kernel_rfl) (by kernel_rfl) (by kernel_rfl) (fun _ _ _ h => h) (by kernel_rfl) (fun w hS => by kernel_rfl) ⟨hM.below, hM.blk 15 rfl, hM.blk 14 rfl⟩ ?_
  go_frame
  refine wa_take 8 (some 108) (.agg (HD.cells HD.zero).toArray) rfl rfl (by kernel_rfl) (by kernel_rfl) (by kernel_rfl) (fun _ _ _ h => h) (by kernel_rfl) (fun w hS => by kernel_rfl) ⟨hM.below, hM.blk 15 rfl, hM.blk 14 rfl⟩ ?_
  go_frame
  refine wa_take 9 (some 109) (.bool false) rfl rfl (by kernel_rfl) (by kernel_rfl) (by kernel_rfl) (fun _ _ _ h => h) (by kernel_rfl) (fun w hS => by kernel_rfl) ⟨hM.below, hM.blk 15 rfl, hM.blk 14 rfl⟩ ?_
  go_frame
  refine wa_one 11 (by kernel_rfl) ?_
  refine wo_alloc (some 19) rfl rfl (by kernel_rfl) hM 36 rfl (HD.cells HD.zero) Z_impl_Hand ?_
  clear hM; intro g9 W35 hM
  refine ⟨⟨hM.below, hM.blk 16 rfl, hM.blk 15 rfl⟩, ?_⟩
  go_frame
  refine wa_one 12 (by kernel_rfl) ?_
  refine wo_store rfl (by kernel_rfl) hM 3 rfl 33 _ _ rfl rfl (by kernel_rfl) [.slice v'45 0 j'45, .slice y'45 0 i'45] (by kernel_rfl) I_impl_Shared rfl rfl ?_
  clear hM; intro W36 hM
  refine ⟨⟨hM.below, hM.blk 16 rfl, hM.blk 15 rfl⟩, ?_⟩
  refine wa_one 13 (by kernel_rfl) ?_
  refine wo_store rfl (by kernel_rfl) hM 0 rfl 36 _ _ rfl rfl (by kernel_rfl) (HD.cells HD.zero) (by kernel_rfl) I_impl_Hand rfl (hd_one' _) ?_
  clear hM; intro W37 hM
  refine ⟨⟨hM.below, hM.blk 16 rfl, hM.blk 15 rfl⟩, ?_⟩
  refine wa_take 14 (some 20) (.bool false) rfl rfl (by kernel_rfl) (by kernel_rfl) (by kernel_rfl) (fun _ _ _ h => h) (by kernel_rfl) (fun w hS => by kernel_rfl) ⟨hM.below, hM.blk 16 rfl, hM.blk 15 rfl⟩ ?_
  go_frame
  refine wa_doneJ (by kernel_rfl) ?_
  replace hM := hM.pull 2 rfl
  replace hM := hM.pull 2 rfl
  replace hM := hM.pull 3 rfl
  replace hM := hM.pull 3 rfl
  exact ⟨g9, g8, ma'35, mb'36, ka'37, kb'38, pa'39, pb'40, v'45, y'45, j'45, i'45, rfl, hM, ⟨qa'41, qb'42, qc'43, qd'44⟩, ⟨s'45_1, s'45_2⟩⟩
  refine wo_alloc (some 19) rfl rfl (by kernel_rfl) hM 36 rfl (HD.cells HD.zero) Z_impl_Hand ?_
  clear hM; intro g9 W34 hM
  refine ⟨⟨hM.below, hM.blk 16 rfl, hM.blk 15 rfl⟩, ?_⟩
  go_frame
  refine wa_one 5 (by kernel_rfl) ?_
  refine wo_call (some 106) rfl rfl (by kernel_rfl) 8 #[.agg #[.slice (some ⟨ma'35, 0, none⟩) l.length ka'37, .slice (some ⟨mb'36, 0, none⟩) c.length kb'38], .int .i64 task, .agg (HD.cells h).toArray] (by kernel_rfl) (hI _ (some ⟨ma'35, 0, none⟩) ka'37 (some ⟨mb'36, 0, none⟩) kb'38 (nsl_blk (hM.blk 1 rfl) qa'41 qb'42) (sli_blk (hM.blk 2 rfl) qc'43 qd'44)) ?_
  rintro e W35 ⟨u', x', rfl, hO1, hO2, hb⟩
  obtain ⟨v'45, j'45, rfl, -, s'45_1⟩ := (show OwnR _ _ _ _ 8 0 [] _ from hO1).slice
  obtain ⟨y'45, i'45, rfl, -, s'45_2⟩ := (show OwnR _ _ _ _ 1 0 [] _ from hO2).slice
  replace hM := hM.call hb
  refine ⟨_, rfl, ⟨hM.below, hM.blk 16 rfl, hM.blk 15 rfl⟩, ?_⟩
  go_frame
  refine wa_take 6 (some 100) (.tuple #[.agg #[.slice v'45 0 j'45, .slice y'45 0 i'45], .agg (HD.cells HD.zero).toArray, .bool false]) rfl rfl (by kernel_rfl) (by kernel_rfl) (by kernel_rfl) (fun _ _ _ h => h) (by kernel_rfl) (fun w hS => by kernel_rfl) ⟨hM.below, hM.blk 16 rfl, hM.blk 15 rfl⟩ ?_
  go_frame
  refine wa_take 7 (some 107) (.agg #[.slice v'45 0 j'45, .slice y'45 0 i'45]) rfl rfl (by kernel_rfl) (by kernel_rfl) (by kernel_rfl) (fun _ _ _ h => h) (by kernel_rfl) (fun w hS => by kernel_rfl) ⟨hM.below, hM.blk 16 rfl, hM.blk 15 rfl⟩ ?_
  go_frame
  refine wa_take 8 (some 108) (.agg (HD.cells HD.zero).toArray) rfl rfl (by kernel_rfl) (by kernel_rfl) (by kernel_rfl) (fun _ _ _ h => h) (by kernel_rfl) (fun w hS => by kernel_rfl) ⟨hM.below, hM.blk 16 rfl, hM.blk 15 rfl⟩ ?_
  go_frame
  refine wa_take 9 (some 109) (.bool false) rfl rfl (by kernel_rfl) (by kernel_rfl) (by kernel_rfl) (fun _ _ _ h => h) (by kernel_rfl) (fun w hS => by kernel_rfl) ⟨hM.below, hM.blk 16 rfl, hM.blk 15 rfl⟩ ?_
  go_frame
  refine wa_one 12 (by kernel_rfl) ?_
  refine wo_store rfl (by kernel_rfl) hM 3 rfl 33 _ _ rfl rfl (by kernel_rfl) [.slice v'45 0 j'45, .slice y'45 0 i'45] (by kernel_rfl) I_impl_Shared rfl rfl ?_
  clear hM; intro W36 hM
  refine ⟨⟨hM.below, hM.blk 16 rfl, hM.blk 15 rfl⟩, ?_⟩
  refine wa_one 13 (by kernel_rfl) ?_
  refine wo_store rfl (by kernel_rfl) hM 0 rfl 36 _ _ rfl rfl (by kernel_rfl) (HD.cells HD.zero) (by kernel_rfl) I_impl_Hand rfl (hd_one' _) ?_
  clear hM; intro W37 hM
  refine ⟨⟨hM.below, hM.blk 16 rfl, hM.blk 15 rfl⟩, ?_⟩
  refine wa_take 14 (some 20) (.bool false) rfl rfl (by kernel_rfl) (by kernel_rfl) (by kernel_rfl) (fun _ _ _ h => h) (by kernel_rfl) (fun w hS => by kernel_rfl) ⟨hM.below, hM.blk 16 rfl, hM.blk 15 rfl⟩ ?_
  go_frame
  refine wa_doneJ (by kernel_rfl) ?_
  replace hM := hM.pull 2 rfl
  replace hM := hM.pull 2 rfl
  replace hM := hM.pull 3 rfl
  replace hM := hM.pull 3 rfl
  exact ⟨g9, g8, ma'35, mb'36, ka'37, kb'38, pa'39, pb'40, v'45, y'45, j'45, i'45, rfl, hM, ⟨qa'41, qb'42, qc'43, qd'44⟩, ⟨s'45_1, s'45_2⟩⟩
  refine wo_alloc (some 19) rfl rfl (by kernel_rfl) hM 36 rfl (HD.cells HD.zero) Z_impl_Hand ?_
  clear hM; intro g9 W33 hM
  refine ⟨⟨hM.below, hM.blk 16 rfl, hM.blk 15 rfl⟩, ?_⟩
  go_frame
  refine wa_one 4 (by kernel_rfl) ?_
  refine wo_call (some 105) rfl rfl (by kernel_rfl) 7 #[.agg (HD.cells h).toArray] (by kernel_rfl) (toHand_any h _) ?_
  rintro e W34 ⟨rfl, hb⟩
  replace hM := hM.call hb
  refine ⟨_, rfl, ⟨hM.below, hM.blk 16 rfl, hM.blk 15 rfl⟩, ?_⟩
  go_frame
  refine wa_one 5 (by kernel_rfl) ?_
  refine wo_call (some 106) rfl rfl (by kernel_rfl) 8 #[.agg #[.slice (some ⟨ma'35, 0, none⟩) l.length ka'37, .slice (some ⟨mb'36, 0, none⟩) c.length kb'38], .int .i64 task, .agg (HD.cells h).toArray] (by kernel_rfl) (hI _ (some ⟨ma'35, 0, none⟩) ka'37 (some ⟨mb'36, 0, none⟩) kb'38 (nsl_blk (hM.blk 1 rfl) qa'41 qb'42) (sli_blk (hM.blk 2 rfl) qc'43 qd'44)) ?_
  rintro e W35 ⟨u', x', rfl, hO1, hO2, hb⟩
  obtain ⟨v'45, j'45, rfl, -, s'45_1⟩ := (show OwnR _ _ _ _ 8 0 [] _ from hO1).slice
  obtain ⟨y'45, i'45, rfl, -, s'45_2⟩ := (show OwnR _ _ _ _ 1 0 [] _ from hO2).slice
  replace hM := hM.call hb
  refine ⟨_, rfl, ⟨hM.below, hM.blk 16 rfl, hM.blk 15 rfl⟩, ?_⟩
  go_frame
  refine wa_take 6 (some 100) (.tuple #[.agg #[.slice v'45 0 j'45, .slice y'45 0 i'45], .agg (HD.cells HD.zero).toArray, .bool false]) rfl rfl (by kernel_rfl) (by kernel_rfl) (by kernel_rfl) (fun _ _ _ h => h) (by kernel_rfl) (fun w hS => by kernel_rfl) ⟨hM.below, hM.blk 16 rfl, hM.blk 15 rfl⟩ ?_
  go_frame
  refine wa_take 7 (some 107) (.agg #[.slice v'45 0 j'45, .slice y'45 0 i'45]) rfl rfl (by kernel_rfl) (by kernel_rfl) (by kernel_rfl) (fun _ _ _ h => h) (by kernel_rfl) (fun w hS => by kernel_rfl) ⟨hM.below, hM.blk 16 rfl, hM.blk 15 rfl⟩ ?_
  go_frame
  refine wa_take 8 (some 108) (.agg (HD.cells HD.zero).toArray) rfl rfl (by kernel_rfl) (by kernel_rfl) (by kernel_rfl) (fun _ _ _ h => h) (by kernel_rfl) (fun w hS => by kernel_rfl) ⟨hM.below, hM.blk 16 rfl, hM.blk 15 rfl⟩ ?_
  go_frame
  refine wa_take 9 (some 109) (.bool false) rfl rfl (by kernel_rfl) (by kernel_rfl) (by kernel_rfl) (fun _ _ _ h => h) (by kernel_rfl) (fun w hS => by kernel_rfl) ⟨hM.below, hM.blk 16 rfl, hM.blk 15 rfl⟩ ?_
  go_frame
  refine wa_one 12 (by kernel_rfl) ?_
  refine wo_store rfl (by kernel_rfl) hM 3 rfl 33 _ _ rfl rfl (by kernel_rfl) [.slice v'45 0 j'45, .slice y'45 0 i'45] (by kernel_rfl) I_impl_Shared rfl rfl ?_
  clear hM; intro W36 hM
  refine ⟨⟨hM.below, hM.blk 16 rfl, hM.blk 15 rfl⟩, ?_⟩
  refine wa_one 13 (by kernel_rfl) ?_
  refine wo_store rfl (by kernel_rfl) hM 0 rfl 36 _ _ rfl rfl (by kernel_rfl) (HD.cells HD.zero) (by kernel_rfl) I_impl_Hand rfl (hd_one' _) ?_
  clear hM; intro W37 hM
  refine ⟨⟨hM.below, hM.blk 16 rfl, hM.blk 15 rfl⟩, ?_⟩
  refine wa_take 14 (some 20) (.bool false) rfl rfl (by kernel_rfl) (by kernel_rfl) (by kernel_rfl) (fun _ _ _ h => h) (by kernel_rfl) (fun w hS => by kernel_rfl) ⟨hM.below, hM.blk 16 rfl, hM.blk 15 rfl⟩ ?_
  go_frame
  refine wa_doneJ (by kernel_rfl) ?_
  replace hM := hM.pull 2 rfl
  replace hM := hM.pull 2 rfl
  replace hM := hM.pull 3 rfl
  replace hM := hM.pull 3 rfl
  exact ⟨g9, g8, ma'35, mb'36, ka'37, kb'38, pa'39, pb'40, v'45, y'45, j'45, i'45, rfl, hM, ⟨qa'41, qb'42, qc'43, qd'44⟩, ⟨s'45_1, s'45_2⟩⟩
  refine wo_alloc (some 19) rfl rfl (by kernel_rfl) hM 36 rfl (HD.cells HD.zero) Z_impl_Hand ?_
  clear hM; intro g9 W32 hM
  refine ⟨⟨hM.below, hM.blk 14 rfl, hM.blk 13 rfl⟩, ?_⟩
  go_frame
  refine wa_one 1 (by kernel_rfl) ?_
  refine wo_call (some 102) rfl rfl (by kernel_rfl) 6 #[.agg #[.slice ua l.length uc, .slice xa c.length xc]] (by kernel_rfl) (toShared_any (.slice ua l.length uc) (.slice xa c.length xc) l c _ (h1.below hM.below) (h2.below hM.below) hl hc) ?_
  rintro e W33 ⟨ma'35, mb'36, ka'37, kb'38, pa'39, pb'40, rfl, ⟨qa'41, qb'42, qc'43, qd'44, -, -⟩, hMc⟩
  replace hM := hM.join hMc
  refine ⟨_, rfl, ⟨hM.below, hM.blk 16 rfl, hM.blk 15 rfl⟩, ?_⟩
  go_frame
  refine wa_one 4 (by kernel_rfl) ?_
  refine wo_call (some 105) rfl rfl (by kernel_rfl) 7 #[.agg (HD.cells h).toArray] (by kernel_rfl) (toHand_any h _) ?_
  rintro e W34 ⟨rfl, hb⟩
  replace hM := hM.call hb
  refine ⟨_, rfl, ⟨hM.below, hM.blk 16 rfl, hM.blk 15 rfl⟩, ?_⟩
  go_frame
  refine wa_one 5 (by kernel_rfl) ?_
  refine wo_call (some 106) rfl rfl (by kernel_rfl) 8 #[.agg #[.slice (some ⟨ma'35, 0, none⟩) l.length ka'37, .slice (some ⟨mb'36, 0, none⟩) c.length kb'38], .int .i64 task, .agg (HD.cells h).toArray] (by kernel_rfl) (hI _ (some ⟨ma'35, 0, none⟩) ka'37 (some ⟨mb'36, 0, none⟩) kb'38 (nsl_blk (hM.blk 0 rfl) qa'41 qb'42) (sli_blk (hM.blk 1 rfl) qc'43 qd'44)) ?_
  rintro e W35 ⟨u', x', rfl, hO1, hO2, hb⟩
  obtain ⟨v'45, j'45, rfl, -, s'45_1⟩ := (show OwnR _ _ _ _ 8 0 [] _ from hO1).slice
  obtain ⟨y'45, i'45, rfl, -, s'45_2⟩ := (show OwnR _ _ _ _ 1 0 [] _ from hO2).slice
  replace hM := hM.call hb
  refine ⟨_, rfl, ⟨hM.below, hM.blk 16 rfl, hM.blk 15 rfl⟩, ?_⟩
  go_frame
  refine wa_take 6 (some 100) (.tuple #[.agg #[.slice v'45 0 j'45, .slice y'45 0 i'45], .agg (HD.cells HD.zero).toArray, .bool false]) rfl rfl (by kernel_rfl) (by kernel_rfl) (by kernel_rfl) (fun _ _ _ h => h) (by kernel_rfl) (fun w hS => by kernel_rfl) ⟨hM.below, hM.blk 16 rfl, hM.blk 15 rfl⟩ ?_
  go_frame
  refine wa_take 7 (some 107) (.agg #[.slice v'45 0 j'45, .slice y'45 0 i'45]) rfl rfl (by kernel_rfl) (by kernel_rfl) (by kernel_rfl) (fun _ _ _ h => h) (by kernel_rfl) (fun w hS => by kernel_rfl) ⟨hM.below, hM.blk 16 rfl, hM.blk 15 rfl⟩ ?_
  go_frame
  refine wa_take 8 (some 108) (.agg (HD.cells HD.zero).toArray) rfl rfl (by kernel_rfl) (by kernel_rfl) (by kernel_rfl) (fun _ _ _ h => h) (by kernel_rfl) (fun w hS => by kernel_rfl) ⟨hM.below, hM.blk 16 rfl, hM.blk 15 rfl⟩ ?_
  go_frame
  refine wa_take 9 (some 109) (.bool false) rfl rfl (by kernel_rfl) (by kernel_rfl) (by kernel_rfl) (fun _ _ _ h => h) (by kernel_rfl) (fun w hS => by kernel_rfl) ⟨hM.below, hM.blk 16 rfl, hM.blk 15 rfl⟩ ?_
  go_frame
  refine wa_one 12 (by kernel_rfl) ?_
  refine wo_store rfl (by kernel_rfl) hM 3 rfl 33 _ _ rfl rfl (by kernel_rfl) [.slice v'45 0 j'45, .slice y'45 0 i'45] (by kernel_rfl) I_impl_Shared rfl rfl ?_
  clear hM; intro W36 hM
  refine ⟨⟨hM.below, hM.blk 16 rfl, hM.blk 15 rfl⟩, ?_⟩
  refine wa_one 13 (by kernel_rfl) ?_
  refine wo_store rfl (by kernel_rfl) hM 2 rfl 36 _ _ rfl rfl (by kernel_rfl) (HD.cells HD.zero) (by kernel_rfl) I_impl_Hand rfl (hd_one' _) ?_
  clear hM; intro W37 hM
  refine ⟨⟨hM.below, hM.blk 16 rfl, hM.blk 15 rfl⟩, ?_⟩
  refine wa_take 14 (some 20) (.bool false) rfl rfl (by kernel_rfl) (by kernel_rfl) (by kernel_rfl) (fun _ _ _ h => h) (by kernel_rfl) (fun w hS => by kernel_rfl) ⟨hM.below, hM.blk 16 rfl, hM.blk 15 rfl⟩ ?_
  go_frame
  refine wa_doneJ (by kernel_rfl) ?_
  replace hM := hM.pull 1 rfl
  replace hM := hM.pull 1 rfl
  replace hM := hM.pull 3 rfl
  replace hM := hM.pull 3 rfl
  exact ⟨g9, g8, ma'35, mb'36, ka'37, kb'38, pa'39, pb'40, v'45, y'45, j'45, i'45, rfl, hM, ⟨qa'41, qb'42, qc'43, qd'44⟩, ⟨s'45_1, s'45_2⟩⟩
  refine wo_alloc (some 19) rfl rfl (by kernel_rfl) hM 36 rfl (HD.cells HD.zero) Z_impl_Hand ?_
  clear hM; intro g8 W31 hM
  refine ⟨⟨hM.below, hM.blk 13 rfl, hM.blk 12 rfl⟩, ?_⟩
  go_frame
  refine wa_two 1 10 (by kernel_rfl) ?_ ?_
  refine wo_call (some 102) rfl rfl (by kernel_rfl) 6 #[.agg #[.slice ua l.length uc, .slice xa c.length xc]] (by kernel_rfl) (toShared_any (.slice ua l.length uc) (.slice xa c.length xc) l c _ (h1.below hM.below) (h2.below hM.below) hl hc) ?_
  rintro e W32 ⟨ma'35, mb'36, ka'37, kb'38, pa'39, pb'40, rfl, ⟨qa'41, qb'42, qc'43, qd'44, -, -⟩, hMc⟩
  replace hM := hM.join hMc
  refine ⟨_, rfl, ⟨hM.below, hM.blk 15 rfl, hM.blk 14 rfl⟩, ?_⟩
  go_frame
  refine wa_two 4 10 (by kernel_rfl) ?_ ?_
  refine wo_call (some 105) rfl rfl (by kernel_rfl) 7 #[.agg (HD.cells h).toArray] (by kernel_rfl) (toHand_any h _) ?_
  rintro e W33 ⟨rfl, hb⟩
  replace hM := hM.call hb
  refine ⟨_, rfl, ⟨hM.below, hM.blk 15 rfl, hM.blk 14 rfl⟩, ?_⟩
  go_frame
  refine wa_two 5 10 (by kernel_rfl) ?_ ?_
  refine wo_call (some 106) rfl rfl (by kernel_rfl) 8 #[.agg #[.slice (some ⟨ma'35, 0, none⟩) l.length ka'37, .slice (some ⟨mb'36, 0, none⟩) c.length kb'38], .int .i64 task, .agg (HD.cells h).toArray] (by kernel_rfl) (hI _ (some ⟨ma'35, 0, none⟩) ka'37 (some ⟨mb'36, 0, none⟩) kb'38 (nsl_blk (hM.blk 0 rfl) qa'41 qb'42) (sli_blk (hM.blk 1 rfl) qc'43 qd'44)) ?_
  rintro e W34 ⟨u', x', rfl, hO1, hO2, hb⟩
  obtain ⟨v'45, j'45, rfl, -, s'45_1⟩ := (show OwnR _ _ _ _ 8 0 [] _ from hO1).slice
  obtain ⟨y'45, i'45, rfl, -, s'45_2⟩ := (show OwnR _ _ _ _ 1 0 [] _ from hO2).slice
  replace hM := hM.call hb
  refine ⟨_, rfl, ⟨hM.below, hM.blk 15 rfl, hM.blk 14 rfl⟩, ?_⟩
  go_frame
  refine wa_take 6 (some 100) (.tuple #[.agg #[.slice v'45 0 j'45, .slice y'45 0 i'45], .agg (HD.cells HD.zero).toArray, .bool false]) rfl rfl (by kernel_rfl) (by kernel_rfl) (by kernel_rfl) (fun _ _ _ h => h) (by kernel_rfl) (fun w hS => by kernel_rfl) ⟨hM.below, hM.blk 15 rfl, hM.blk 14 rfl⟩ ?_
  go_frame
  refine wa_take 7 (some 107) (.agg #[.slice v'45 0 j'45, .slice y'45 0 i'45]) rfl rfl (by kernel_rfl) (by kernel_rfl) (by kernel_rfl) (fun _ _ _ h => h) (by kernel_rfl) (fun w hS => by kernel_rfl) ⟨hM.below, hM.blk 15 rfl, hM.blk 14 rfl⟩ ?_
  go_frame
  refine wa_take 8 (some 108) (.agg (HD.cells HD.zero).toArray) rfl rfl (by kernel_rfl) (by kernel_rfl) (by kernel_rfl) (fun _ _ _ h => h) (by kernel_rfl) (fun w hS => by kernel_rfl) ⟨hM.below, hM.blk 15 rfl, hM.blk 14 rfl⟩ ?_
  go_frame
  refine wa_take 9 (some 109) (.bool false) rfl rfl (by kernel_rfl) (by kernel_rfl) (by kernel_rfl) (fun _ _ _ h => h) (by kernel_rfl) (fun w hS => by kernel_rfl) ⟨hM.below, hM.blk 15 rfl, hM.blk 14 rfl⟩ ?_
  go_frame
  refine wa_one 10 (by kernel_rfl) ?_
  refine wo_alloc (some 18) rfl rfl (by kernel_rfl) hM 33 rfl [.slice none 0 0, .slice none 0 0] Z_impl_Shared ?_
  clear hM; intro g9 W35 hM
  refine ⟨⟨hM.below, hM.blk 16 rfl, hM.blk 15 rfl⟩, ?_⟩
  go_frame
  refine wa_one 12 (by kernel_rfl) ?_
  refine wo_store rfl (by kernel_rfl) hM 0 rfl 33 _ _ rfl rfl (by kernel_rfl) [.slice v'45 0 j'45, .slice y'45 0 i'45] (by kernel_rfl) I_impl_Shared rfl rfl ?_
  clear hM; intro W36 hM
  refine ⟨⟨hM.below, hM.blk 16 rfl, hM.blk 15 rfl⟩, ?_⟩
  refine wa_one 13 (by kernel_rfl) ?_
  refine wo_store rfl (by kernel_rfl) hM 3 rfl 36 _ _ rfl rfl (by kernel_rfl) (HD.cells HD.zero) (by kernel_rfl) I_impl_Hand rfl (hd_one' _) ?_
  clear hM; intro W37 hM
  refine ⟨⟨hM.below, hM.blk 16 rfl, hM.blk 15 rfl⟩, ?_⟩
  refine wa_take 14 (some 20) (.bool false) rfl rfl (by kernel_rfl) (by kernel_rfl) (by kernel_rfl) (fun _ _ _ h => h) (by kernel_rfl) (fun w hS => by kernel_rfl) ⟨hM.below, hM.blk 16 rfl, hM.blk 15 rfl⟩ ?_
  go_frame
  refine wa_doneJ (by kernel_rfl) ?_
  replace hM := hM.pull 2 rfl
  replace hM := hM.pull 2 rfl
  replace hM := hM.pull 2 rfl
  replace hM := hM.pull 3 rfl
  exact ⟨g8, g9, ma'35, mb'36, ka'37, kb'38, pa'39, pb'40, v'45, y'45, j'45, i'45, rfl, hM, ⟨qa'41, qb'42, qc'43, qd'44⟩, ⟨s'45_1, s'45_2⟩⟩
  refine wo_alloc (some 18) rfl rfl (by kernel_rfl) hM 33 rfl [.slice none 0 0, .slice none 0 0] Z_impl_Shared ?_
  clear hM; intro g9 W34 hM
  refine ⟨⟨hM.below, hM.blk 16 rfl, hM.blk 15 rfl⟩, ?_⟩
  go_frame
  refine wa_one 5 (by kernel_rfl) ?_
  refine wo_call (some 106) rfl rfl (by kernel_rfl) 8 #[.agg #[.slice (some ⟨ma'35, 0, none⟩) l.length ka'37, .slice (some ⟨mb'36, 0, none⟩) c.length kb'38], .int .i64 task, .agg (HD.cells h).toArray] (by kernel_rfl) (hI _ (some ⟨ma'35, 0, none⟩) ka'37 (some ⟨mb'36, 0, none⟩) kb'38 (nsl_blk (hM.blk 1 rfl) qa'41 qb'42) (sli_blk (hM.blk 2 rfl) qc'43 qd'44)) ?_
  rintro e W35 ⟨u', x', rfl, hO1, hO2, hb⟩
  obtain ⟨v'45, j'45, rfl, -, s'45_1⟩ := (show OwnR _ _ _ _ 8 0 [] _ from hO1).slice
  obtain ⟨y'45, i'45, rfl, -, s'45_2⟩ := (show OwnR _ _ _ _ 1 0 [] _ from hO2).slice
  replace hM := hM.call hb
  refine ⟨_, rfl, ⟨hM.below, hM.blk 16 rfl, hM.blk 15 rfl⟩, ?_⟩
  go_frame
  refine wa_take 6 (some 100) (.tuple #[.agg #[.slice v'45 0 j'45, .slice y'45 0 i'45], .agg (HD.cells HD.zero).toArray, .bool false]) rfl rfl (by kernel_rfl) (by kernel_rfl) (by kernel_rfl) (fun _ _ _ h => h) (by kernel_rfl) (fun w hS => by kernel_rfl) ⟨hM.below, hM.blk 16 rfl, hM.blk 15 rfl⟩ ?_
  go_frame
  refine wa_take 7 (some 107) (.agg #[.slice v'45 0 j'45, .slice y'45 0 i'45]) rfl rfl (by kernel_rfl) (by kernel_rfl) (by kernel_rfl) (fun _ _ _ h => h) (by kernel_rfl) (fun w hS => by kernel_rfl) ⟨hM.below, hM.blk 16 rfl, hM.blk 15 rfl⟩ ?_
  go_frame
  refine wa_take 8 (some 108) (.agg (HD.cells HD.zero).toArray) rfl rfl (by kernel_rfl) (by kernel_rfl) (by kernel_rfl) (fun _ _ _ h => h) (by kernel_rfl) (fun w hS => by kernel_rfl) ⟨hM.below, hM.blk 16 rfl, hM.blk 15 rfl⟩ ?_
  go_frame
  refine wa_take 9 (some 109) (.bool false) rfl rfl (by kernel_rfl) (by kernel_rfl) (by kernel_rfl) (fun _ _ _ h => h) (by kernel_rfl) (fun w hS => by kernel_rfl) ⟨hM.below, hM.blk 16 rfl, hM.blk 15 rfl⟩ ?_
  go_frame
  refine wa_one 12 (by kernel_rfl) ?_
  refine wo_store rfl (by kernel_rfl) hM 0 rfl 33 _ _ rfl rfl (by kernel_rfl) [.slice v'45 0 j'45, .slice y'45 0 i'45] (by kernel_rfl) I_impl_Shared rfl rfl ?_
  clear hM; intro W36 hM
  refine ⟨⟨hM.below, hM.blk 16 rfl, hM.blk 15 rfl⟩, ?_⟩
  refine wa_one 13 (by kernel_rfl) ?_
  refine wo_store rfl (by kernel_rfl) hM 3 rfl 36 _ _ rfl rfl (by kernel_rfl) (HD.cells HD.zero) (by kernel_rfl) I_impl_Hand rfl (hd_one' _) ?_
  clear hM; intro W37 hM
  refine ⟨⟨hM.below, hM.blk 16 rfl, hM.blk 15 rfl⟩, ?_⟩
  refine wa_take 14 (some 20) (.bool false) rfl rfl (by kernel_rfl) (by kernel_rfl) (by kernel_rfl) (fun _ _ _ h => h) (by kernel_rfl) (fun w hS => by kernel_rfl) ⟨hM.below, hM.blk 16 rfl, hM.blk 15 rfl⟩ ?_
  go_frame
  refine wa_doneJ (by kernel_rfl) ?_
  replace hM := hM.pull 2 rfl
  replace hM := hM.pull 2 rfl
  replace hM := hM.pull 2 rfl
  replace hM := hM.pull 3 rfl
  exact ⟨g8, g9, ma'35, mb'36, ka'37, kb'38, pa'39, pb'40, v'45, y'45, j'45, i'45, rfl, hM, ⟨qa'41, qb'42, qc'43, qd'44⟩, ⟨s'45_1, s'45_2⟩⟩
  refine wo_alloc (some 18) rfl rfl (by kernel_rfl) hM 33 rfl [.slice none 0 0, .slice none 0 0] Z_impl_Shared ?_
  clear hM; intro g9 W33 hM
  refine ⟨⟨hM.below, hM.blk 16 rfl, hM.blk 15 rfl⟩, ?_⟩
  go_frame
  refine wa_one 4 (by kernel_rfl) ?_
  refine wo_call (some 105) rfl rfl (by kernel_rfl) 7 #[.agg (HD.cells h).toArray] (by kernel_rfl) (toHand_any h _) ?_
  rintro e W34 ⟨rfl, hb⟩
  replace hM := hM.call hb
  refine ⟨_, rfl, ⟨hM.below, hM.blk 16 rfl, hM.blk 15 rfl⟩, ?_⟩
  go_frame
  refine wa_one 5 (by kernel_rfl) ?_
  refine wo_call (some 106) rfl rfl (by kernel_rfl) 8 #[.agg #[.slice (some ⟨ma'35, 0, none⟩) l.length ka'37, .slice (some ⟨mb'36, 0, none⟩) c.length kb'38], .int .i64 task, .agg (HD.cells h).toArray] (by kernel_rfl) (hI _ (some ⟨ma'35, 0, none⟩) ka'37 (some ⟨mb'36, 0, none⟩) kb'38 (nsl_blk (hM.blk 1 rfl) qa'41 qb'42) (sli_blk (hM.blk 2 rfl) qc'43 qd'44)) ?_
  rintro e W35 ⟨u', x', rfl, hO1, hO2, hb⟩
  obtain ⟨v'45, j'45, rfl, -, s'45_1⟩ := (show OwnR _ _ _ _ 8 0 [] _ from hO1).slice
  obtain ⟨y'45, i'45, rfl, -, s'45_2⟩ := (show OwnR _ _ _ _ 1 0 [] _ from hO2).slice
  replace hM := hM.call hb
  refine ⟨_, rfl, ⟨hM.below, hM.blk 16 rfl, hM.blk 15 rfl⟩, ?_⟩
  go_frame
  refine wa_take 6 (some 100) (.tuple #[.agg #[.slice v'45 0 j'45, .slice y'45 0 i'45], .agg (HD.cells HD.zero).toArray, .bool false]) rfl rfl (by kernel_rfl) (by kernel_rfl) (by kernel_rfl) (fun _ _ _ h => h) (by kernel_rfl) (fun w hS => by kernel_rfl) ⟨hM.below, hM.blk 16 rfl, hM.blk 15 rfl⟩ ?_
  go_frame
  refine wa_take 7 (some 107) (.agg #[.slice v'45 0 j'45, .slice y'45 0 i'45]) rfl rfl (by kernel_rfl) (by kernel_rfl) (by kernel_rfl) (fun _ _ _ h => h) (by kernel_rfl) (fun w hS => by kernel_rfl) ⟨hM.below, hM.blk 16 rfl, hM.blk 15 rfl⟩ ?_
  go_frame
  refine wa_take 8 (some 108) (.agg (HD.cells HD.zero).toArray) rfl rfl (by kernel_rfl) (by kernel_rfl) (by kernel_rfl) (fun _ _ _ h => h) (by kernel_rfl) (fun w hS => by kernel_rfl) ⟨hM.below, hM.blk 16 rfl, hM.blk 15 rfl⟩ ?_
  go_frame
  refine wa_take 9 (some 109) (.bool false) rfl rfl (by kernel_rfl) (by kernel_rfl) (by kernel_rfl) (fun _ _ _ h => h) (by kernel_rfl) (fun w hS => by kernel_rfl) ⟨hM.below, hM.blk 16 rfl, hM.blk 15 rfl⟩ ?_
  go_frame
  refine wa_one 12 (by kernel_rfl) ?_
  refine wo_store rfl (by kernel_rfl) hM 0 rfl 33 _ _ rfl rfl (by kernel_rfl) [.slice v'45 0 j'45, .slice y'45 0 i'45] (by kernel_rfl) I_impl_Shared rfl rfl ?_
  clear hM; intro W36 hM
  refine ⟨⟨hM.below, hM.blk 16 rfl, hM.blk 15 rfl⟩, ?_⟩
  refine wa_one 13 (by kernel_rfl) ?_
  refine wo_store rfl (by kernel_rfl) hM 3 rfl 36 _ _ rfl rfl (by kernel_rfl) (HD.cells HD.zero) (by kernel_rfl) I_impl_Hand rfl (hd_one' _) ?_
  clear hM; intro W37 hM
  refine ⟨⟨hM.below, hM.blk 16 rfl, hM.blk 15 rfl⟩, ?_⟩
  refine wa_take 14 (some 20) (.bool false) rfl rfl (by kernel_rfl) (by kernel_rfl) (by kernel_rfl) (fun _ _ _ h => h) (by kernel_rfl) (fun w hS => by kernel_rfl) ⟨hM.below, hM.blk 16 rfl, hM.blk 15 rfl⟩ ?_
  go_frame
  refine wa_doneJ (by kernel_rfl) ?_
  replace hM := hM.pull 2 rfl
  replace hM := hM.pull 2 rfl
  replace hM := hM.pull 2 rfl
  replace hM := hM.pull 3 rfl
  exact ⟨g8, g9, ma'35, mb'36, ka'37, kb'38, pa'39, pb'40, v'45, y'45, j'45, i'45, rfl, hM, ⟨qa'41, qb'42, qc'43, qd'44⟩, ⟨s'45_1, s'45_2⟩⟩
  refine wo_alloc (some 18) rfl rfl (by kernel_rfl) hM 33 rfl [.slice none 0 0, .slice none 0 0] Z_impl_Shared ?_
  clear hM; intro g9 W32 hM
  refine ⟨⟨hM.below, hM.blk 14 rfl, hM.blk 13 rfl⟩, ?_⟩
  go_frame
  refine wa_one 1 (by kernel_rfl) ?_
  refine wo_call (some 102) rfl rfl (by kernel_rfl) 6 #[.agg #[.slice ua l.length uc, .slice xa c.length xc]] (by kernel_rfl) (toShared_any (.slice ua l.length uc) (.slice xa c.length xc) l c _ (h1.below hM.below) (h2.below hM.below) hl hc) ?_
  rintro e W33 ⟨ma'35, mb'36, ka'37, kb'38, pa'39, pb'40, rfl, ⟨qa'41, qb'42, qc'43, qd'44, -, -⟩, hMc⟩
  replace hM := hM.join hMc
  refine ⟨_, rfl, ⟨hM.below, hM.blk 16 rfl, hM.blk 15 rfl⟩, ?_⟩
  go_frame
  refine wa_one 4 (by kernel_rfl) ?_
  refine wo_call (some 105) rfl rfl (by kernel_rfl) 7 #[.agg (HD.cells h).toArray] (by kernel_rfl) (toHand_any h _) ?_
  rintro e W34 ⟨rfl, hb⟩
  replace hM := hM.call hb
  refine ⟨_, rfl, ⟨hM.below, hM.blk 16 rfl, hM.blk 15 rfl⟩, ?_⟩
  go_frame
  refine wa_one 5 (by kernel_rfl) ?_
  refine wo_call (some 106) rfl rfl (by kernel_rfl) 8 #[.agg #[.slice (some ⟨ma'35, 0, none⟩) l.length ka'37, .slice (some ⟨mb'36, 0, none⟩) c.length kb'38], .int .i64 task, .agg (HD.cells h).toArray] (by kernel_rfl) (hI _ (some ⟨ma'35, 0, none⟩) ka'37 (some ⟨mb'36, 0, none⟩) kb'38 (nsl_blk (hM.blk 0 rfl) qa'41 qb'42) (sli_blk (hM.blk 1 rfl) qc'43 qd'44)) ?_
  rintro e W35 ⟨u', x', rfl, hO1, hO2, hb⟩
  obtain ⟨v'45, j'45, rfl, -, s'45_1⟩ := (show OwnR _ _ _ _ 8 0 [] _ from hO1).slice
  obtain ⟨y'45, i'45, rfl, -, s'45_2⟩ := (show OwnR _ _ _ _ 1 0 [] _ from hO2).slice
  replace hM := hM.call hb
  refine ⟨_, rfl, ⟨hM.below, hM.blk 16 rfl, hM.blk 15 rfl⟩, ?_⟩
  go_frame
  refine wa_take 6 (some 100) (.tuple #[.agg #[.slice v'45 0 j'45, .slice y'45 0 i'45], .agg (HD.cells HD.zero).toArray, .bool false]) rfl rfl (by kernel_rfl) (by kernel_rfl) (by kernel_rfl) (fun _ _ _ h => h) (by kernel_rfl) (fun w hS => by kernel_rfl) ⟨hM.below, hM.blk 16 rfl, hM.blk 15 rfl⟩ ?_
  go_frame
  refine wa_take 7 (some 107) (.agg #[.slice v'45 0 j'45, .slice y'45 0 i'45]) rfl rfl (by kernel_rfl) (by kernel_rfl) (by kernel_rfl) (fun _ _ _ h => h) (by kernel_rfl) (fun w hS => by kernel_rfl) ⟨hM.below, hM.blk 16 rfl, hM.blk 15 rfl⟩ ?_
  go_frame
  refine wa_take 8 (some 108) (.agg (HD.cells HD.zero).toArray) rfl rfl (by kernel_rfl) (by kernel_rfl) (by kernel_rfl) (fun _ _ _ h => h) (by kernel_rfl) (fun w hS => by kernel_rfl) ⟨hM.below, hM.blk 16 rfl, hM.blk 15 rfl⟩ ?_
  go_frame
  refine wa_take 9 (some 109) (.bool false) rfl rfl (by kernel_rfl) (by kernel_rfl) (by kernel_rfl) (fun _ _ _ h => h) (by kernel_rfl) (fun w hS => by kernel_rfl) ⟨hM.below, hM.blk 16 rfl, hM.blk 15 rfl⟩ ?_
  go_frame
  refine wa_one 12 (by kernel_rfl) ?_
  refine wo_store rfl (by kernel_rfl) hM 2 rfl 33 _ _ rfl rfl (by kernel_rfl) [.slice v'45 0 j'45, .slice y'45 0 i'45] (by kernel_rfl) I_impl_Shared rfl rfl ?_
  clear hM; intro W36 hM
  refine ⟨⟨hM.below, hM.blk 16 rfl, hM.blk 15 rfl⟩, ?_⟩
  refine wa_one 13 (by kernel_rfl) ?_
  refine wo_store rfl (by kernel_rfl) hM 3 rfl 36 _ _ rfl rfl (by kernel_rfl) (HD.cells HD.zero) (by kernel_rfl) I_impl_Hand rfl (hd_one' _) ?_
  clear hM; intro W37 hM
  refine ⟨⟨hM.below, hM.blk 16 rfl, hM.blk 15 rfl⟩, ?_⟩
  refine wa_take 14 (some 20) (.bool false) rfl rfl (by kernel_rfl) (by kernel_rfl) (by kernel_rfl) (fun _ _ _ h => h) (by kernel_rfl) (fun w hS => by kernel_rfl) ⟨hM.below, hM.blk 16 rfl, hM.blk 15 rfl⟩ ?_
  go_frame
  refine wa_doneJ (by kernel_rfl) ?_
  replace hM := hM.pull 1 rfl
  replace hM := hM.pull 1 rfl
  replace hM := hM.pull 2 rfl
  replace hM := hM.pull 3 rfl
  exact ⟨g8, g9, ma'35, mb'36, ka'37, kb'38, pa'39, pb'40, v'45, y'45, j'45, i'45, rfl, hM, ⟨qa'41, qb'42, qc'43, qd'44⟩, ⟨s'45_1, s'45_2⟩⟩
  refine wa_start (fun w => Below w0.heap.size w0 w ∧ Blk w g5 33 [.slice (some ⟨ma'12, 0, none⟩) l.length ka'14, .slice (some ⟨mb'13, 0, none⟩) c.length kb'15] ∧ Blk w g2 29 (HD.cells h)) 14 rfl (by kernel_rfl) ?_
  replace hM := hM.drew
  refine wa_take 0 (some 39) (.agg #[.slice (some ⟨ma'12, 0, none⟩) l.length ka'14, .slice (some ⟨mb'13, 0, none⟩) c.length kb'15]) rfl rfl (by kernel_rfl) (by kernel_rfl) (by kernel_rfl) (fun _ _ _ h => h) (by kernel_rfl) (fun w hS => r_load hS.2.1 33 _ rfl rfl Try.underlying33 I_impl_Shared) ⟨hM.below, hM.blk 0 rfl, hM.blk 7 rfl⟩ ?_
  go_frame
  refine wa_take 1 (some 40) (.int .i64 task) rfl rfl (by kernel_rfl) (by kernel_rfl) (by kernel_rfl) (fun _ _ _ h => h) (by kernel_rfl) (fun w hS => by kernel_rfl) ⟨hM.below, hM.blk 0 rfl, hM.blk 7 rfl⟩ ?_
  go_frame
  refine wa_take 2 (some 41) (.agg (HD.cells h).toArray) rfl rfl (by kernel_rfl) (by kernel_rfl) (by kernel_rfl) (fun _ _ _ h => h) (by kernel_rfl) (fun w hS => r_load hS.2.2 29 _ rfl rfl Try.underlying29 I_laws_Hand) ⟨hM.below, hM.blk 0 rfl, hM.blk 7 rfl⟩ ?_
  go_frame
  refine wa_three 3 9 10 (by kernel_rfl) ?_ ?_ ?_
  refine wo_call (some 42) rfl rfl (by kernel_rfl) 7 #[.agg (HD.cells h).toArray] (by kernel_rfl) (toHand_any h _) ?_
  rintro e W15 ⟨rfl, hb⟩
  replace hM := hM.call hb
  refine ⟨_, rfl, ⟨hM.below, hM.blk 0 rfl, hM.blk 7 rfl⟩, ?_⟩
  go_frame
  refine wa_three 4 9 10 (by kernel_rfl) ?_ ?_ ?_
  refine wo_call (some 43) rfl rfl (by kernel_rfl) 8 #[.agg #[.slice (some ⟨ma'12, 0, none⟩) l.length ka'14, .slice (some ⟨mb'13, 0, none⟩) c.length kb'15], .int .i64 task, .agg (HD.cells h).toArray] (by kernel_rfl) (hI _ (some ⟨ma'12, 0, none⟩) ka'14 (some ⟨mb'13, 0, none⟩) kb'15 (nsl_blk (hM.blk 1 rfl) qa'18 qb'19) (sli_blk (hM.blk 2 rfl) qc'20 qd'21)) ?_
  rintro e W16 ⟨u', x', rfl, hO1, hO2, hb⟩
  obtain ⟨v'22, j'22, rfl, -, s'22_1⟩ := (show OwnR _ _ _ _ 8 0 [] _ from hO1).slice
  obtain ⟨y'22, i'22, rfl, -, s'22_2⟩ := (show OwnR _ _ _ _ 1 0 [] _ from hO2).slice
  replace hM := hM.call hb
  refine ⟨_, rfl, ⟨hM.below, hM.blk 0 rfl, hM.blk 7 rfl⟩, ?_⟩
  go_frame
  refine wa_take 5 (some 38) (.tuple #[.agg #[.slice v'22 0 j'22, .slice y'22 0 i'22], .agg (HD.cells HD.zero).toArray, .bool false]) rfl rfl (by kernel_rfl) (by kernel_rfl) (by kernel_rfl) (fun _ _ _ h => h) (by kernel_rfl) (fun w hS => by kernel_rfl) ⟨hM.below, hM.blk 0 rfl, hM.blk 7 rfl⟩ ?_
  go_frame
  refine wa_take 6 (some 44) (.agg #[.slice v'22 0 j'22, .slice y'22 0 i'22]) rfl rfl (by kernel_rfl) (by kernel_rfl) (by kernel_rfl) (fun _ _ _ h => h) (by kernel_rfl) (fun w hS => by kernel_rfl) ⟨hM.below, hM.blk 0 rfl, hM.blk 7 rfl⟩ ?_
  go_frame
  refine wa_take 7 (some 45) (.agg (HD.cells HD.zero).toArray) rfl rfl (by kernel_rfl) (by kernel_rfl) (by kernel_rfl) (fun _ _ _ h => h) (by kernel_rfl) (fun w hS => by kernel_rfl) ⟨hM.below, hM.blk 0 rfl, hM.blk 7 rfl⟩ ?_
  go_frame
  refine wa_take 8 (some 46) (.bool false) rfl rfl (by kernel_rfl) (by kernel_rfl) (by kernel_rfl) (fun _ _ _ h => h) (by kernel_rfl) (fun w hS => by kernel_rfl) ⟨hM.below, hM.blk 0 rfl, hM.blk 7 rfl⟩ ?_
  go_frame
  refine wa_two 9 10 (by kernel_rfl) ?_ ?_
  refine wo_alloc (some 12) rfl rfl (by kernel_rfl) hM 33 rfl [.slice none 0 0, .slice none 0 0] Z_impl_Shared ?_
  clear hM; intro g6 W17 hM
  refine ⟨⟨hM.below, hM.blk 1 rfl, hM.blk 8 rfl⟩, ?_⟩
  go_frame
  refine wa_one 10 (by kernel_rfl) ?_
  refine wo_alloc (some 13) rfl rfl (by kernel_rfl) hM 36 rfl (HD.cells HD.zero) Z_impl_Hand ?_
  clear hM; intro g7 W18 hM
  refine ⟨⟨hM.below, hM.blk 2 rfl, hM.blk 9 rfl⟩, ?_⟩
  go_frame
  refine wa_one 11 (by kernel_rfl) ?_
  refine wo_store rfl (by kernel_rfl) hM 1 rfl 33 _ _ rfl rfl (by kernel_rfl) [.slice v'22 0 j'22, .slice y'22 0 i'22] (by kernel_rfl) I_impl_Shared rfl rfl ?_
  clear hM; intro W19 hM
  refine ⟨⟨hM.below, hM.blk 2 rfl, hM.blk 9 rfl⟩, ?_⟩
  refine wa_one 12 (by kernel_rfl) ?_
  refine wo_store rfl (by kernel_rfl) hM 0 rfl 36 _ _ rfl rfl (by kernel_rfl) (HD.cells HD.zero) (by kernel_rfl) I_impl_Hand rfl (hd_one' _) ?_
  clear hM; intro W20 hM
  refine ⟨⟨hM.below, hM.blk 2 rfl, hM.blk 9 rfl⟩, ?_⟩
  refine wa_take 13 (some 14) (.bool false) rfl rfl (by kernel_rfl) (by kernel_rfl) (by kernel_rfl) (fun _ _ _ h => h) (by kernel_rfl) (fun w hS => by kernel_rfl) ⟨hM.below, hM.blk 2 rfl, hM.blk 9 rfl⟩ ?_
  go_frame
  refine wa_doneJ (by kernel_rfl) ?_
  exact ⟨g7, g6, v'22, y'22, j'22, i'22, rfl, hM, ⟨s'22_1, s'22_2⟩⟩
  refine wo_alloc (some 13) rfl rfl (by kernel_rfl) hM 36 rfl (HD.cells HD.zero) Z_impl_Hand ?_
  clear hM; intro g6 W17 hM
  refine ⟨⟨hM.below, hM.blk 1 rfl, hM.blk 8 rfl⟩, ?_⟩
  go_frame
  refine wa_one 9 (by kernel_rfl) ?_
  refine wo_alloc (some 12) rfl rfl (by kernel_rfl) hM 33 rfl [.slice none 0 0, .slice none 0 0] Z_impl_Shared ?_
  clear hM; intro g7 W18 hM
  refine ⟨⟨hM.below, hM.blk 2 rfl, hM.blk 9 rfl⟩, ?_⟩
  go_frame
  refine wa_one 11 (by kernel_rfl) ?_
  refine wo_store rfl (by kernel_rfl) hM 0 rfl 33 _ _ rfl rfl (by kernel_rfl) [.slice v'22 0 j'22, .slice y'22 0 i'22] (by kernel_rfl) I_impl_Shared rfl rfl ?_
  clear hM; intro W19 hM
  refine ⟨⟨hM.below, hM.blk 2 rfl, hM.blk 9 rfl⟩, ?_⟩
  refine wa_one 12 (by kernel_rfl) ?_
  refine wo_store rfl (by kernel_rfl) hM 1 rfl 36 _ _ rfl rfl (by kernel_rfl) (HD.cells HD.zero) (by kernel_rfl) I_impl_Hand rfl (hd_one' _) ?_
  clear hM; intro W20 hM
  refine ⟨⟨hM.below, hM.blk 2 rfl, hM.blk 9 rfl⟩, ?_⟩
  refine wa_take 13 (some 14) (.bool false) rfl rfl (by kernel_rfl) (by kernel_rfl) (by kernel_rfl) (fun _ _ _ h => h) (by kernel_rfl) (fun w hS => by kernel_rfl) ⟨hM.below, hM.blk 2 rfl, hM.blk 9 rfl⟩ ?_
  go_frame
  refine wa_doneJ (by kernel_rfl) ?_
  replace hM := hM.pull 0 rfl
  replace hM := hM.pull 1 rfl
  exact ⟨g6, g7, v'22, y'22, j'22, i'22, rfl, hM, ⟨s'22_1, s'22_2⟩⟩
  refine wo_alloc (some 12) rfl rfl (by kernel_rfl) hM 33 rfl [.slice none 0 0, .slice none 0 0] Z_impl_Shared ?_
  clear hM; intro g6 W16 hM
  refine ⟨⟨hM.below, hM.blk 1 rfl, hM.blk 8 rfl⟩, ?_⟩
  go_frame
  refine wa_two 4 10 (by kernel_rfl) ?_ ?_
  refine wo_call (some 43) rfl rfl (by kernel_rfl) 8 #[.agg #[.slice (some ⟨ma'12, 0, none⟩) l.length ka'14, .slice (some ⟨mb'13, 0, none⟩) c.length kb'15], .int .i64 task, .agg (HD.cells h).toArray] (by kernel_rfl) (hI _ (some ⟨ma'12, 0, none⟩) ka'14 (some ⟨mb'13, 0, none⟩) kb'15 (nsl_blk (hM.blk 2 rfl) qa'18 qb'19) (sli_blk (hM.blk 3 rfl) qc'20 qd'21)) ?_
  rintro e W17 ⟨u', x', rfl, hO1, hO2, hb⟩
  obtain ⟨v'22, j'22, rfl, -, s'22_1⟩ := (show OwnR _ _ _ _ 8 0 [] _ from hO1).slice
  obtain ⟨y'22, i'22, rfl, -, s'22_2⟩ := (show OwnR _ _ _ _ 1 0 [] _ from hO2).slice
  replace hM := hM.call hb
  refine ⟨_, rfl, ⟨hM.below, hM.blk 1 rfl, hM.blk 8 rfl⟩, ?_⟩
  go_frame
  refine wa_take 5 (some 38) (.tuple #[.agg #[.slice v'22 0 j'22, .slice y'22 0 i'22], .agg (HD.cells HD.zero).toArray, .bool false]) rfl rfl (by kernel_rfl) (by kernel_rfl) (by kernel_rfl) (fun _ _ _ h => h) (by kernel_rfl) (fun w hS => by kernel_rfl) ⟨hM.below, hM.blk 1 rfl, hM.blk 8 rfl⟩ ?_
  go_frame
  refine wa_take 6 (some 44) (.agg #[.slice v'22 0 j'22, .slice y'22 0 i'22]) rfl rfl (by kernel_rfl) (by kernel_rfl) (by kernel_rfl) (fun _ _ _ h => h) (by kernel_rfl) (fun w hS => by kernel_rfl) ⟨hM.below, hM.blk 1 rfl, hM.blk 8 rfl⟩ ?_
  go_frame
  refine wa_take 7 (some 45) (.agg (HD.cells HD.zero).toArray) rfl rfl (by kernel_rfl) (by kernel_rfl) (by kernel_rfl) (fun _ _ _ h => h) (by kernel_rfl) (fun w hS => by kernel_rfl) ⟨hM.below, hM.blk 1 rfl, hM.blk 8 rfl⟩ ?_
  go_frame
  refine wa_take 8 (some 46) (.bool false) rfl rfl (by kernel_rfl) (by kernel_rfl) (by kernel_rfl) (fun _ _ _ h => h) (by kernel_rfl) (fun w hS => by kernel_rfl) ⟨hM.below, hM.blk 1 rfl, hM.blk 8 rfl⟩ ?_
  go_frame
  refine wa_one 10 (by kernel_rfl) ?_
  refine wo_alloc (some 13) rfl rfl (by kernel_rfl) hM 36 rfl (HD.cells HD.zero) Z_impl_Hand ?_
  clear hM; intro g7 W18 hM
  refine ⟨⟨hM.below, hM.blk 2 rfl, hM.blk 9 rfl⟩, ?_⟩
  go_frame
  refine wa_one 11 (by kernel_rfl) ?_
  refine wo_store rfl (by kernel_rfl) hM 1 rfl 33 _ _ rfl rfl (by kernel_rfl) [.slice v'22 0 j'22, .slice y'22 0 i'22] (by kernel_rfl) I_impl_Shared rfl rfl ?_
  clear hM; intro W19 hM
  refine ⟨⟨hM.below, hM.blk 2 rfl, hM.blk 9 rfl⟩, ?_⟩
  refine wa_one 12 (by kernel_rfl) ?_
  refine wo_store rfl (by kernel_rfl) hM 0 rfl 36 _ _ rfl rfl (by kernel_rfl) (HD.cells HD.zero) (by kernel_rfl) I_impl_Hand rfl (hd_one' _) ?_
  clear hM; intro W20 hM
  refine ⟨⟨hM.below, hM.blk 2 rfl, hM.blk 9 rfl⟩, ?_⟩
  refine wa_take 13 (some 14) (.bool false) rfl rfl (by kernel_rfl) (by kernel_rfl) (by kernel_rfl) (fun _ _ _ h => h) (by kernel_rfl) (fun w hS => by kernel_rfl) ⟨hM.below, hM.blk 2 rfl, hM.blk 9 rfl⟩ ?_
  go_frame
  refine wa_doneJ (by kernel_rfl) ?_
  exact ⟨g7, g6, v'22, y'22, j'22, i'22, rfl, hM, ⟨s'22_1, s'22_2⟩⟩
  refine wo_alloc (some 13) rfl rfl (by kernel_rfl) hM 36 rfl (HD.cells HD.zero) Z_impl_Hand ?_
  clear hM; intro g7 W17 hM
  refine ⟨⟨hM.below, hM.blk 2 rfl, hM.blk 9 rfl⟩, ?_⟩
  go_frame
  refine wa_one 4 (by kernel_rfl) ?_
  refine wo_call (some 43) rfl rfl (by kernel_rfl) 8 #[.agg #[.slice (some ⟨ma'12, 0, none⟩) l.length ka'14, .slice (some ⟨mb'13, 0, none⟩) c.length kb'15], .int .i64 task, .agg (HD.cells h).toArray] (by kernel_rfl) (hI _ (some ⟨ma'12, 0, none⟩) ka'14 (some ⟨mb'13, 0, none⟩) kb'15 (nsl_blk (hM.blk 3 rfl) qa'18 qb'19) (sli_blk (hM.blk 4 rfl) qc'20 qd'21)) ?_
  rintro e W18 ⟨u', x', rfl, hO1, hO2, hb⟩
  obtain ⟨v'22, j'22, rfl, -, s'22_1⟩ := (show OwnR _ _ _ _ 8 0 [] _ from hO1).slice
  obtain ⟨y'22, i'22, rfl, -, s'22_2⟩ := (show OwnR _ _ _ _ 1 0 [] _ from hO2).slice
  replace hM := hM.call hb
  refine ⟨_, rfl, ⟨hM.below, hM.blk 2 rfl, hM.blk 9 rfl⟩, ?_⟩
  go_frame
  refine wa_take 5 (some 38) (.tuple #[.agg #[.slice v'22 0 j'22, .slice y'22 0 i'22], .agg (HD.cells HD.zero).toArray, .bool false]) rfl rfl (by kernel_rfl) (by kernel_rfl) (by kernel_rfl) (fun _ _ _ h => h) (by kernel_rfl) (fun w hS => by kernel_rfl) ⟨hM.below, hM.blk 2 rfl, hM.blk 9 rfl⟩ ?_
  go_frame
  refine wa_take 6 (some 44) (.agg #[.slice v'22 0 j'22, .slice y'22 0 i'22]) rfl rfl (by kernel_rfl) (by kernel_rfl) (by kernel_rfl) (fun _ _ _ h => h) (by kernel_rfl) (fun w hS => by kernel_rfl) ⟨hM.below, hM.blk 2 rfl, hM.blk 9 rfl⟩ ?_
  go_frame
  refine wa_take 7 (some 45) (.agg (HD.cells HD.zero).toArray) rfl rfl (by kernel_rfl) (by kernel_rfl) (by kernel_rfl) (fun _ _ _ h => h) (by kernel_rfl) (fun w hS => by kernel_rfl) ⟨hM.below, hM.blk 2 rfl, hM.blk 9 rfl⟩ ?_
  go_frame
  refine wa_take 8 (some 46) (.bool false) rfl rfl (by kernel_rfl) (by kernel_rfl) (by kernel_rfl) (fun _ _ _ h => h) (by kernel_rfl) (fun w hS => by kernel_rfl) ⟨hM.below, hM.blk 2 rfl, hM.blk 9 rfl⟩ ?_
  go_frame
  refine wa_one 11 (by kernel_rfl) ?_
  refine wo_store rfl (by kernel_rfl) hM 1 rfl 33 _ _ rfl rfl (by kernel_rfl) [.slice v'22 0 j'22, .slice y'22 0 i'22] (by kernel_rfl) I_impl_Shared rfl rfl ?_
  clear hM; intro W19 hM
  refine ⟨⟨hM.below, hM.blk 2 rfl, hM.blk 9 rfl⟩, ?_⟩
  refine wa_one 12 (by kernel_rfl) ?_
  refine wo_store rfl (by kernel_rfl) hM 0 rfl 36 _ _ rfl rfl (by kernel_rfl) (HD.cells HD.zero) (by kernel_rfl) I_impl_Hand rfl (hd_one' _) ?_
  clear hM; intro W20 hM
  refine ⟨⟨hM.below, hM.blk 2 rfl, hM.blk 9 rfl⟩, ?_⟩
  refine wa_take 13 (some 14) (.bool false) rfl rfl (by kernel_rfl) (by kernel_rfl) (by kernel_rfl) (fun _ _ _ h => h) (by kernel_rfl) (fun w hS => by kernel_rfl) ⟨hM.below, hM.blk 2 rfl, hM.blk 9 rfl⟩ ?_
  go_frame
  refine wa_doneJ (by kernel_rfl) ?_
  exact ⟨g7, g6, v'22, y'22, j'22, i'22, rfl, hM, ⟨s'22_1, s'22_2⟩⟩
  refine wo_alloc (some 13) rfl rfl (by kernel_rfl) hM 36 rfl (HD.cells HD.zero) Z_impl_Hand ?_
  clear hM; intro g6 W16 hM
  refine ⟨⟨hM.below, hM.blk 1 rfl, hM.blk 8 rfl⟩, ?_⟩
  go_frame
  refine wa_two 4 9 (by kernel_rfl) ?_ ?_
  refine wo_call (some 43) rfl rfl (by kernel_rfl) 8 #[.agg #[.slice (some ⟨ma'12, 0, none⟩) l.length ka'14, .slice (some ⟨mb'13, 0, none⟩) c.length kb'15], .int .i64 task, .agg (HD.cells h).toArray] (by kernel_rfl) (hI _ (some ⟨ma'12, 0, none⟩) ka'14 (some ⟨mb'13, 0, none⟩) kb'15 (nsl_blk (hM.blk 2 rfl) qa'18 qb'19) (sli_blk (hM.blk 3 rfl) qc'20 qd'21)) ?_
  rintro e W17 ⟨u', x', rfl, hO1, hO2, hb⟩
  obtain ⟨v'22, j'22, rfl, -, s'22_1⟩ := (show OwnR _ _ _ _ 8 0 [] _ from hO1).slice
  obtain ⟨y'22, i'22, rfl, -, s'22_2⟩ := (show OwnR _ _ _ _ 1 0 [] _ from hO2).slice
  replace hM := hM.call hb
  refine ⟨_, rfl, ⟨hM.below, hM.blk 1 rfl, hM.blk 8 rfl⟩, ?_⟩
  go_frame
  refine wa_take 5 (some 38) (.tuple #[.agg #[.slice v'22 0 j'22, .slice y'22 0 i'22], .agg (HD.cells HD.zero).toArray, .bool false]) rfl rfl (by kernel_rfl) (by kernel_rfl) (by kernel_rfl) (fun _ _ _ h => h) (by kernel_rfl) (fun w hS => by kernel_rfl) ⟨hM.below, hM.blk 1 rfl, hM.blk 8 rfl⟩ ?_
  go_frame
  refine wa_take 6 (some 44) (.agg #[.slice v'22 0 j'22, .slice y'22 0 i'22]) rfl rfl (by kernel_rfl) (by kernel_rfl) (by kernel_rfl) (fun _ _ _ h => h) (by kernel_rfl) (fun w hS => by kernel_rfl) ⟨hM.below, hM.blk 1 rfl, hM.blk 8 rfl⟩ ?_
  go_frame
  refine wa_take 7 (some 45) (.agg (HD.cells HD.zero).toArray) rfl rfl (by kernel_rfl) (by kernel_rfl) (by kernel_rfl) (fun _ _ _ h => h) (by kernel_rfl) (fun w hS => by kernel_rfl) ⟨hM.below, hM.blk 1 rfl, hM.blk 8 rfl⟩ ?_
  go_frame
  refine wa_take 8 (some 46) (.bool false) rfl rfl (by kernel_rfl) (by kernel_rfl) (by kernel_rfl) (fun _ _ _ h => h) (by kernel_rfl) (fun w hS => by kernel_rfl) ⟨hM.below, hM.blk 1 rfl, hM.blk 8 rfl⟩ ?_
  go_frame
  refine wa_one 9 (by kernel_rfl) ?_
  refine wo_alloc (some 12) rfl rfl (by kernel_rfl) hM 33 rfl [.slice none 0 0, .slice none 0 0] Z_impl_Shared ?_
  clear hM; intro g7 W18 hM
  refine ⟨⟨hM.below, hM.blk 2 rfl, hM.blk 9 rfl⟩, ?_⟩
  go_frame
  refine wa_one 11 (by kernel_rfl) ?_
  refine wo_store rfl (by kernel_rfl) hM 0 rfl 33 _ _ rfl rfl (by kernel_rfl) [.slice v'22 0 j'22, .slice y'22 0 i'22] (by kernel_rfl) I_impl_Shared rfl rfl ?_
  clear hM; intro W19 hM
  refine ⟨⟨hM.below, hM.blk 2 rfl, hM.blk 9 rfl⟩, ?_⟩
  refine wa_one 12 (by kernel_rfl) ?_
  refine wo_store rfl (by kernel_rfl) hM 1 rfl 36 _ _ rfl rfl (by kernel_rfl) (HD.cells HD.zero) (by kernel_rfl) I_impl_Hand rfl (hd_one' _) ?_
  clear hM; intro W20 hM
  refine ⟨⟨hM.below, hM.blk 2 rfl, hM.blk 9 rfl⟩, ?_⟩
  refine wa_take 13 (some 14) (.bool false) rfl rfl (by kernel_rfl) (by kernel_rfl) (by kernel_rfl) (fun _ _ _ h => h) (by kernel_rfl) (fun w hS => by kernel_rfl) ⟨hM.below, hM.blk 2 rfl, hM.blk 9 rfl⟩ ?_
  go_frame
  refine wa_doneJ (by kernel_rfl) ?_
  replace hM := hM.pull 0 rfl
  replace hM := hM.pull 1 rfl
  exact ⟨g6, g7, v'22, y'22, j'22, i'22, rfl, hM, ⟨s'22_1, s'22_2⟩⟩
  refine wo_alloc (some 12) rfl rfl (by kernel_rfl) hM 33 rfl [.slice none 0 0, .slice none 0 0] Z_impl_Shared ?_
  clear hM; intro g7 W17 hM
  refine ⟨⟨hM.below, hM.blk 2 rfl, hM.blk 9 rfl⟩, ?_⟩
  go_frame
  refine wa_one 4 (by kernel_rfl) ?_
  refine wo_call (some 43) rfl rfl (by kernel_rfl) 8 #[.agg #[.slice (some ⟨ma'12, 0, none⟩) l.length ka'14, .slice (some ⟨mb'13, 0, none⟩) c.length kb'15], .int .i64 task, .agg (HD.cells h).toArray] (by kernel_rfl) (hI _ (some ⟨ma'12, 0, none⟩) ka'14 (some ⟨mb'13, 0, none⟩) kb'15 (nsl_blk (hM.blk 3 rfl) qa'18 qb'19) (sli_blk (hM.blk 4 rfl) qc'20 qd'21)) ?_
  rintro e W18 ⟨u', x', rfl, hO1, hO2, hb⟩
  obtain ⟨v'22, j'22, rfl, -, s'22_1⟩ := (show OwnR _ _ _ _ 8 0 [] _ from hO1).slice
  obtain ⟨y'22, i'22, rfl, -, s'22_2⟩ := (show OwnR _ _ _ _ 1 0 [] _ from hO2).slice
  replace hM := hM.call hb
  refine ⟨_, rfl, ⟨hM.below, hM.blk 2 rfl, hM.blk 9 rfl⟩, ?_⟩
  go_frame
  refine wa_take 5 (some 38) (.tuple #[.agg #[.slice v'22 0 j'22, .slice y'22 0 i'22], .agg (HD.cells HD.zero).toArray, .bool false]) rfl rfl (by kernel_rfl) (by kernel_rfl) (by kernel_rfl) (fun _ _ _ h => h) (by kernel_rfl) (fun w hS => by kernel_rfl) ⟨hM.below, hM.blk 2 rfl, hM.blk 9 rfl⟩ ?_
  go_frame
  refine wa_take 6 (some 44) (.agg #[.slice v'22 0 j'22, .slice y'22 0 i'22]) rfl rfl (by kernel_rfl) (by kernel_rfl) (by kernel_rfl) (fun _ _ _ h => h) (by kernel_rfl) (fun w hS => by kernel_rfl) ⟨hM.below, hM.blk 2 rfl, hM.blk 9 rfl⟩ ?_
  go_frame
  refine wa_take 7 (some 45) (.agg (HD.cells HD.zero).toArray) rfl rfl (by kernel_rfl) (by kernel_rfl) (by kernel_rfl) (fun _ _ _ h => h) (by kernel_rfl) (fun w hS => by kernel_rfl) ⟨hM.below, hM.blk 2 rfl, hM.blk 9 rfl⟩ ?_
  go_frame
  refine wa_take 8 (some 46) (.bool false) rfl rfl (by kernel_rfl) (by kernel_rfl) (by kernel_rfl) (fun _ _ _ h => h) (by kernel_rfl) (fun w hS => by kernel_rfl) ⟨hM.below, hM.blk 2 rfl, hM.blk 9 rfl⟩ ?_
  go_frame
  refine wa_one 11 (by kernel_rfl) ?_
  refine wo_store rfl (by kernel_rfl) hM 0 rfl 33 _ _ rfl rfl (by kernel_rfl) [.slice v'22 0 j'22, .slice y'22 0 i'22] (by kernel_rfl) I_impl_Shared rfl rfl ?_
  clear hM; intro W19 hM
  refine ⟨⟨hM.below, hM.blk 2 rfl, hM.blk 9 rfl⟩, ?_⟩
  refine wa_one 12 (by kernel_rfl) ?_
  refine wo_store rfl (by kernel_rfl) hM 1 rfl 36 _ _ rfl rfl (by kernel_rfl) (HD.cells HD.zero) (by kernel_rfl) I_impl_Hand rfl (hd_one' _) ?_
  clear hM; intro W20 hM
  refine ⟨⟨hM.below, hM.blk 2 rfl, hM.blk 9 rfl⟩, ?_⟩
  refine wa_take 13 (some 14) (.bool false) rfl rfl (by kernel_rfl) (by kernel_rfl) (by kernel_rfl) (fun _ _ _ h => h) (by kernel_rfl) (fun w hS => by kernel_rfl) ⟨hM.below, hM.blk 2 rfl, hM.blk 9 rfl⟩ ?_
  go_frame
  refine wa_doneJ (by kernel_rfl) ?_
  replace hM := hM.pull 0 rfl
  replace hM := hM.pull 1 rfl
  exact ⟨g6, g7, v'22, y'22, j'22, i'22, rfl, hM, ⟨s'22_1, s'22_2⟩⟩
  refine wo_alloc (some 12) rfl rfl (by kernel_rfl) hM 33 rfl [.slice none 0 0, .slice none 0 0] Z_impl_Shared ?_
  clear hM; intro g6 W15 hM
  refine ⟨⟨hM.below, hM.blk 1 rfl, hM.blk 8 rfl⟩, ?_⟩
  go_frame
  refine wa_two 3 10 (by kernel_rfl) ?_ ?_
  refine wo_call (some 42) rfl rfl (by kernel_rfl) 7 #[.agg (HD.cells h).toArray] (by kernel_rfl) (toHand_any h _) ?_
  rintro e W16 ⟨rfl, hb⟩
  replace hM := hM.call hb
  refine ⟨_, rfl, ⟨hM.below, hM.blk 1 rfl, hM.blk 8 rfl⟩, ?_⟩
  go_frame
  refine wa_two 4 10 (by kernel_rfl) ?_ ?_
  refine wo_call (some 43) rfl rfl (by kernel_rfl) 8 #[.agg #[.slice (some ⟨ma'12, 0, none⟩) l.length ka'14, .slice (some ⟨mb'13, 0, none⟩) c.length kb'15], .int .i64 task, .agg (HD.cells h).toArray] (by kernel_rfl) (hI _ (some ⟨ma'12, 0, none⟩) ka'14 (some ⟨mb'13, 0, none⟩) kb'15 (nsl_blk (hM.blk 2 rfl) qa'18 qb'19) (sli_blk (hM.blk 3 rfl) qc'20 qd'21)) ?_
  rintro e W17 ⟨u', x', rfl, hO1, hO2, hb⟩
  obtain ⟨v'22, j'22, rfl, -, s'22_1⟩ := (show OwnR _ _ _ _ 8 0 [] _ from hO1).slice
  obtain ⟨y'22, i'22, rfl, -, s'22_2⟩ := (show OwnR _ _ _ _ 1 0 [] _ from hO2).slice
  replace hM := hM.call hb
  refine ⟨_, rfl, ⟨hM.below, hM.blk 1 rfl, hM.blk 8 rfl⟩, ?_⟩
  go_frame
  refine wa_take 5 (some 38) (.tuple #[.agg #[.slice v'22 0 j'22, .slice y'22 0 i'22], .agg (HD.cells HD.zero).toArray, .bool false]) rfl rfl (by kernel_rfl) (by kernel_rfl) (by kernel_rfl) (fun _ _ _ h => h) (by kernel_rfl) (fun w hS => by kernel_rfl) ⟨hM.below, hM.blk 1 rfl, hM.blk 8 rfl⟩ ?_
  go_frame
  refine wa_take 6 (some 44) (.agg #[.slice v'22 0 j'22, .slice y'22 0 i'22]) rfl rfl (by kernel_rfl) (by kernel_rfl) (by kernel_rfl) (fun _ _ _ h => h) (by kernel_rfl) (fun w hS => by kernel_rfl) ⟨hM.below, hM.blk 1 rfl, hM.blk 8 rfl⟩ ?_
  go_frame
  refine wa_take 7 (some 45) (.agg (HD.cells HD.zero).toArray) rfl rfl (by kernel_rfl) (by kernel_rfl) (by kernel_rfl) (fun _ _ _ h => h) (by kernel_rfl) (fun w hS => by kernel_rfl) ⟨hM.below, hM.blk 1 rfl, hM.blk 8 rfl⟩ ?_
  go_frame
  refine wa_take 8 (some 46) (.bool false) rfl rfl (by kernel_rfl) (by kernel_rfl) (by kernel_rfl) (fun _ _ _ h => h) (by kernel_rfl) (fun w hS => by kernel_rfl) ⟨hM.below, hM.blk 1 rfl, hM.blk 8 rfl⟩ ?_
  go_frame
  refine wa_one 10 (by kernel_rfl) ?_
  refine wo_alloc (some 13) rfl rfl (by kernel_rfl) hM 36 rfl (HD.cells HD.zero) Z_impl_Hand ?_
  clear hM; intro g7 W18 hM
  refine ⟨⟨hM.below, hM.blk 2 rfl, hM.blk 9 rfl⟩, ?_⟩
  go_frame
  refine wa_one 11 (by kernel_rfl) ?_
  refine wo_store rfl (by kernel_rfl) hM 1 rfl 33 _ _ rfl rfl (by kernel_rfl) [.slice v'22 0 j'22, .slice y'22 0 i'22] (by kernel_rfl) I_impl_Shared rfl rfl ?_
  clear hM; intro W19 hM
  refine ⟨⟨hM.below, hM.blk 2 rfl, hM.blk 9 rfl⟩, ?_⟩
  refine wa_one 12 (by kernel_rfl) ?_
  refine wo_store rfl (by kernel_rfl) hM 0 rfl 36 _ _ rfl rfl (by kernel_rfl) (HD.cells HD.zero) (by kernel_rfl) I_impl_Hand rfl (hd_one' _) ?_
  clear hM; intro W20 hM
  refine ⟨⟨hM.below, hM.blk 2 rfl, hM.blk 9 rfl⟩, ?_⟩
  refine wa_take 13 (some 14) (.bool false) rfl rfl (by kernel_rfl) (by kernel_rfl) (by kernel_rfl) (fun _ _ _ h => h) (by kernel_rfl) (fun w hS => by kernel_rfl) ⟨hM.below, hM.blk 2 rfl, hM.blk 9 rfl⟩ ?_
  go_frame
  refine wa_doneJ (by kernel_rfl) ?_
  exact ⟨g7, g6, v'22, y'22, j'22, i'22, rfl, hM, ⟨s'22_1, s'22_2⟩⟩
  refine wo_alloc (some 13) rfl rfl (by kernel_rfl) hM 36 rfl (HD.cells HD.zero) Z_impl_Hand ?_
  clear hM; intro g7 W17 hM
  refine ⟨⟨hM.below, hM.blk 2 rfl, hM.blk 9 rfl⟩, ?_⟩
  go_frame
  refine wa_one 4 (by kernel_rfl) ?_
  refine wo_call (some 43) rfl rfl (by kernel_rfl) 8 #[.agg #[.slice (some ⟨ma'12, 0, none⟩) l.length ka'14, .slice (some ⟨mb'13, 0, none⟩) c.length kb'15], .int .i64 task, .agg (HD.cells h).toArray] (by kernel_rfl) (hI _ (some ⟨ma'12, 0, none⟩) ka'14 (some ⟨mb'13, 0, none⟩) kb'15 (nsl_blk (hM.blk 3 rfl) qa'18 qb'19) (sli_blk (hM.blk 4 rfl) qc'20 qd'21)) ?_
  rintro e W18 ⟨u', x', rfl, hO1, hO2, hb⟩
  obtain ⟨v'22, j'22, rfl, -, s'22_1⟩ := (show OwnR _ _ _ _ 8 0 [] _ from hO1).slice
  obtain ⟨y'22, i'22, rfl, -, s'22_2⟩ := (show OwnR _ _ _ _ 1 0 [] _ from hO2).slice
  replace hM := hM.call hb
  refine ⟨_, rfl, ⟨hM.below, hM.blk 2 rfl, hM.blk 9 rfl⟩, ?_⟩
  go_frame
  refine wa_take 5 (some 38) (.tuple #[.agg #[.slice v'22 0 j'22, .slice y'22 0 i'22], .agg (HD.cells HD.zero).toArray, .bool false]) rfl rfl (by kernel_rfl) (by kernel_rfl) (by kernel_rfl) (fun _ _ _ h => h) (by kernel_rfl) (fun w hS => by kernel_rfl) ⟨hM.below, hM.blk 2 rfl, hM.blk 9 rfl⟩ ?_
  go_frame
  refine wa_take 6 (some 44) (.agg #[.slice v'22 0 j'22, .slice y'22 0 i'22]) rfl rfl (by kernel_rfl) (by kernel_rfl) (by kernel_rfl) (fun _ _ _ h => h) (by kernel_rfl) (fun w hS => by kernel_rfl) ⟨hM.below, hM.blk 2 rfl, hM.blk 9 rfl⟩ ?_
  go_frame
  refine wa_take 7 (some 45) (.agg (HD.cells HD.zero).toArray) rfl rfl (by kernel_rfl) (by kernel_rfl) (by kernel_rfl) (fun _ _ _ h => h) (by kernel_rfl) (fun w hS => by kernel_rfl) ⟨hM.below, hM.blk 2 rfl, hM.blk 9 rfl⟩ ?_
  go_frame
  refine wa_take 8 (some 46) (.bool false) rfl rfl (by kernel_rfl) (by kernel_rfl) (by kernel_rfl) (fun _ _ _ h => h) (by kernel_rfl) (fun w hS => by kernel_rfl) ⟨hM.below, hM.blk 2 rfl, hM.blk 9 rfl⟩ ?_
  go_frame
  refine wa_one 11 (by kernel_rfl) ?_
  refine wo_store rfl (by kernel_rfl) hM 1 rfl 33 _ _ rfl rfl (by kernel_rfl) [.slice v'22 0 j'22, .slice y'22 0 i'22] (by kernel_rfl) I_impl_Shared rfl rfl ?_
  clear hM; intro W19 hM
  refine ⟨⟨hM.below, hM.blk 2 rfl, hM.blk 9 rfl⟩, ?_⟩
  refine wa_one 12 (by kernel_rfl) ?_
  refine wo_store rfl (by kernel_rfl) hM 0 rfl 36 _ _ rfl rfl (by kernel_rfl) (HD.cells HD.zero) (by kernel_rfl) I_impl_Hand rfl (hd_one' _) ?_
  clear hM; intro W20 hM
  refine ⟨⟨hM.below, hM.blk 2 rfl, hM.blk 9 rfl⟩, ?_⟩
  refine wa_take 13 (some 14) (.bool false) rfl rfl (by kernel_rfl) (by kernel_rfl) (by kernel_rfl) (fun _ _ _ h => h) (by kernel_rfl) (fun w hS => by kernel_rfl) ⟨hM.below, hM.blk 2 rfl, hM.blk 9 rfl⟩ ?_
  go_frame
  refine wa_doneJ (by kernel_rfl) ?_
  exact ⟨g7, g6, v'22, y'22, j'22, i'22, rfl, hM, ⟨s'22_1, s'22_2⟩⟩
  refine wo_alloc (some 13) rfl rfl (by kernel_rfl) hM 36 rfl (HD.cells HD.zero) Z_impl_Hand ?_
  clear hM; intro g7 W16 hM
  refine ⟨⟨hM.below, hM.blk 2 rfl, hM.blk 9 rfl⟩, ?_⟩
  go_frame
  refine wa_one 3 (by kernel_rfl) ?_
  refine wo_call (some 42) rfl rfl (by kernel_rfl) 7 #[.agg (HD.cells h).toArray] (by kernel_rfl) (toHand_any h _) ?_
  rintro e W17 ⟨rfl, hb⟩
  replace hM := hM.call hb
  refine ⟨_, rfl, ⟨hM.below, hM.blk 2 rfl, hM.blk 9 rfl⟩, ?_⟩
  go_frame
  refine wa_one 4 (by kernel_rfl) ?_
  refine wo_call (some 43) rfl rfl (by kernel_rfl) 8 #[.agg #[.slice (some ⟨ma'12, 0, none⟩) l.length ka'14, .slice (some ⟨mb'13, 0, none⟩) c.length kb'15], .int .i64 task, .agg (HD.cells h).toArray] (by kernel_rfl) (hI _ (some ⟨ma'12, 0, none⟩) ka'14 (some ⟨mb'13, 0, none⟩) kb'15 (nsl_blk (hM.blk 3 rfl) qa'18 qb'19) (sli_blk (hM.blk 4 rfl) qc'20 qd'21)) ?_
  rintro e W18 ⟨u', x', rfl, hO1, hO2, hb⟩
  obtain ⟨v'22, j'22, rfl, -, s'22_1⟩ := (show OwnR _ _ _ _ 8 0 [] _ from hO1).slice
  obtain ⟨y'22, i'22, rfl, -, s'22_2⟩ := (show OwnR _ _ _ _ 1 0 [] _ from hO2).slice
  replace hM := hM.call hb
  refine ⟨_, rfl, ⟨hM.below, hM.blk 2 rfl, hM.blk 9 rfl⟩, ?_⟩
  go_frame
  refine wa_take 5 (some 38) (.tuple #[.agg #[.slice v'22 0 j'22, .slice y'22 0 i'22], .agg (HD.cells HD.zero).toArray, .bool false]) rfl rfl (by kernel_rfl) (by kernel_rfl) (by kernel_rfl) (fun _ _ _ h => h) (by kernel_rfl) (fun w hS => by kernel_rfl) ⟨hM.below, hM.blk 2 rfl, hM.blk 9 rfl⟩ ?_
  go_frame
  refine wa_take 6 (some 44) (.agg #[.slice v'22 0 j'22, .slice y'22 0 i'22]) rfl rfl (by kernel_rfl) (by kernel_rfl) (by kernel_rfl) (fun _ _ _ h => h) (by kernel_rfl) (fun w hS => by kernel_rfl) ⟨hM.below, hM.blk 2 rfl, hM.blk 9 rfl⟩ ?_
  go_frame
  refine wa_take 7 (some 45) (.agg (HD.cells HD.zero).toArray) rfl rfl (by kernel_rfl) (by kernel_rfl) (by kernel_rfl) (fun _ _ _ h => h) (by kernel_rfl) (fun w hS => by kernel_rfl) ⟨hM.below, hM.blk 2 rfl, hM.blk 9 rfl⟩ ?_
  go_frame
  refine wa_take 8 (some 46) (.bool false) rfl rfl (by kernel_rfl) (by kernel_rfl) (by kernel_rfl) (fun _ _ _ h => h) (by kernel_rfl) (fun w hS => by kernel_rfl) ⟨hM.below, hM.blk 2 rfl, hM.blk 9 rfl⟩ ?_
  go_frame
  refine wa_one 11 (by kernel_rfl) ?_
  refine wo_store rfl (by kernel_rfl) hM 1 rfl 33 _ _ rfl rfl (by kernel_rfl) [.slice v'22 0 j'22, .slice y'22 0 i'22] (by kernel_rfl) I_impl_Shared rfl rfl ?_
  clear hM; intro W19 hM
  refine ⟨⟨hM.below, hM.blk 2 rfl, hM.blk 9 rfl⟩, ?_⟩
  refine wa_one 12 (by kernel_rfl) ?_
  refine wo_store rfl (by kernel_rfl) hM 0 rfl 36 _ _ rfl rfl (by kernel_rfl) (HD.cells HD.zero) (by kernel_rfl) I_impl_Hand rfl (hd_one' _) ?_
  clear hM; intro W20 hM
  refine ⟨⟨hM.below, hM.blk 2 rfl, hM.blk 9 rfl⟩, ?_⟩
  refine wa_take 13 (some 14) (.bool false) rfl rfl (by kernel_rfl) (by kernel_rfl) (by kernel_rfl) (fun _ _ _ h => h) (by kernel_rfl) (fun w hS => by kernel_rfl) ⟨hM.below, hM.blk 2 rfl, hM.blk 9 rfl⟩ ?_
  go_frame
  refine wa_doneJ (by kernel_rfl) ?_
  exact ⟨g7, g6, v'22, y'22, j'22, i'22, rfl, hM, ⟨s'22_1, s'22_2⟩⟩
  refine wo_alloc (some 13) rfl rfl (by kernel_rfl) hM 36 rfl (HD.cells HD.zero) Z_impl_Hand ?_
  clear hM; intro g6 W15 hM
  refine ⟨⟨hM.below, hM.blk 1 rfl, hM.blk 8 rfl⟩, ?_⟩
  go_frame
  refine wa_two 3 9 (by kernel_rfl) ?_ ?_
  refine wo_call (some 42) rfl rfl (by kernel_rfl) 7 #[.agg (HD.cells h).toArray] (by kernel_rfl) (toHand_any h _) ?_
  rintro e W16 ⟨rfl, hb⟩
  replace hM := hM.call hb
  refine ⟨_, rfl, ⟨hM.below, hM.blk 1 rfl, hM.blk 8 rfl⟩, ?_⟩
  go_frame
  refine wa_two 4 9 (by kernel_rfl) ?_ ?_
  refine wo_call (some 43) rfl rfl (by kernel_rfl) 8 #[.agg #[.slice (some ⟨ma'12, 0, none⟩) l.length ka'14, .slice (some ⟨mb'13, 0, none⟩) c.length kb'15], .int .i64 task, .agg (HD.cells h).toArray] (by kernel_rfl) (hI _ (some ⟨ma'12, 0, none⟩) ka'14 (some ⟨mb'13, 0, none⟩) kb'15 (nsl_blk (hM.blk 2 rfl) qa'18 qb'19) (sli_blk (hM.blk 3 rfl) qc'20 qd'21)) ?_
  rintro e W17 ⟨u', x', rfl, hO1, hO2, hb⟩
  obtain ⟨v'22, j'22, rfl, -, s'22_1⟩ := (show OwnR _ _ _ _ 8 0 [] _ from hO1).slice
  obtain ⟨y'22, i'22, rfl, -, s'22_2⟩ := (show OwnR _ _ _ _ 1 0 [] _ from hO2).slice
  replace hM := hM.call hb
  refine ⟨_, rfl, ⟨hM.below, hM.blk 1 rfl, hM.blk 8 rfl⟩, ?_⟩
  go_frame
  refine wa_take 5 (some 38) (.tuple #[.agg #[.slice v'22 0 j'22, .slice y'22 0 i'22], .agg (HD.cells HD.zero).toArray, .bool false]) rfl rfl (by kernel_rfl) (by kernel_rfl) (by kernel_rfl) (fun _ _ _ h => h) (by kernel_rfl) (fun w hS => by kernel_rfl) ⟨hM.below, hM.blk 1 rfl, hM.blk 8 rfl⟩ ?_
  go_frame
  refine wa_take 6 (some 44) (.agg #[.slice v'22 0 j'22, .slice y'22 0 i'22]) rfl rfl (by kernel_rfl) (by kernel_rfl) (by kernel_rfl) (fun _ _ _ h => h) (by kernel_rfl) (fun w hS => by kernel_rfl) ⟨hM.below, hM.blk 1 rfl, hM.blk 8 rfl⟩ ?_
  go_frame
  refine wa_take 7 (some 45) (.agg (HD.cells HD.zero).toArray) rfl rfl (by kernel_rfl) (by kernel_rfl) (by kernel_rfl) (fun _ _ _ h => h) (by kernel_rfl) (fun w hS => by kernel_rfl) ⟨hM.below, hM.blk 1 rfl, hM.blk 8 rfl⟩ ?_
  go_frame
  refine wa_take 8 (some 46) (.bool false) rfl rfl (by kernel_rfl) (by kernel_rfl) (by kernel_rfl) (fun _ _ _ h => h) (by kernel_rfl) (fun w hS => by kernel_rfl) ⟨hM.below, hM.blk 1 rfl, hM.blk 8 rfl⟩ ?_
  go_frame
  refine wa_one 9 (by kernel_rfl) ?_
  refine wo_alloc (some 12) rfl rfl (by kernel_rfl) hM 33 rfl [.slice none 0 0, .slice none 0 0] Z_impl_Shared ?_
  clear hM; intro g7 W18 hM
  refine ⟨⟨hM.below, hM.blk 2 rfl, hM.blk 9 rfl⟩, ?_⟩
  go_frame
  refine wa_one 11 (by kernel_rfl) ?_
  refine wo_store rfl (by kernel_rfl) hM 0 rfl 33 _ _ rfl rfl (by kernel_rfl) [.slice v'22 0 j'22, .slice y'22 0 i'22] (by kernel_rfl) I_impl_Shared rfl rfl ?_
  clear hM; intro W19 hM
  refine ⟨⟨hM.below, hM.blk 2 rfl, hM.blk 9 rfl⟩, ?_⟩
  refine wa_one 12 (by kernel_rfl) ?_
  refine wo_store rfl (by kernel_rfl) hM 1 rfl 36 _ _ rfl rfl (by kernel_rfl) (HD.cells HD.zero) (by kernel_rfl) I_impl_Hand rfl (hd_one' _) ?_
  clear hM; intro W20 hM
  refine ⟨⟨hM.below, hM.blk 2 rfl, hM.blk 9 rfl⟩, ?_⟩
  refine wa_take 13 (some 14) (.bool false) rfl rfl (by kernel_rfl) (by kernel_rfl) (by kernel_rfl) (fun _ _ _ h => h) (by kernel_rfl) (fun w hS => by kernel_rfl) ⟨hM.below, hM.blk 2 rfl, hM.blk 9 rfl⟩ ?_
  go_frame
  refine wa_doneJ (by kernel_rfl) ?_
  replace hM := hM.pull 0 rfl
  replace hM := hM.pull 1 rfl
  exact ⟨g6, g7, v'22, y'22, j'22, i'22, rfl, hM, ⟨s'22_1, s'22_2⟩⟩
  refine wo_alloc (some 12) rfl rfl (by kernel_rfl) hM 33 rfl [.slice none 0 0, .slice none 0 0] Z_impl_Shared ?_
  clear hM; intro g7 W17 hM
  refine ⟨⟨hM.below, hM.blk 2 rfl, hM.blk 9 rfl⟩, ?_⟩
  go_frame
  refine wa_one 4 (by kernel_rfl) ?_
  refine wo_call (some 43) rfl rfl (by kernel_rfl) 8 #[.agg #[.slice (some ⟨ma'12, 0, none⟩) l.length ka'14, .slice (some ⟨mb'13, 0, none⟩) c.length kb'15], .int .i64 task, .agg (HD.cells h).toArray] (by kernel_rfl) (hI _ (some ⟨ma'12, 0, none⟩) ka'14 (some ⟨mb'13, 0, none⟩) kb'15 (nsl_blk (hM.blk 3 rfl) qa'18 qb'19) (sli_blk (hM.blk 4 rfl) qc'20 qd'21)) ?_
  rintro e W18 ⟨u', x', rfl, hO1, hO2, hb⟩
  obtain ⟨v'22, j'22, rfl, -, s'22_1⟩ := (show OwnR _ _ _ _ 8 0 [] _ from hO1).slice
  obtain ⟨y'22, i'22, rfl, -, s'22_2⟩ := (show OwnR _ _ _ _ 1 0 [] _ from hO2).slice
  replace hM := hM.call hb
  refine ⟨_, rfl, ⟨hM.below, hM.blk 2 rfl, hM.blk 9 rfl⟩, ?_⟩
  go_frame
  refine wa_take 5 (some 38) (.tuple #[.agg #[.slice v'22 0 j'22, .slice y'22 0 i'22], .agg (HD.cells HD.zero).toArray, .bool false]) rfl rfl (by kernel_rfl) (by kernel_rfl) (by kernel_rfl) (fun _ _ _ h => h) (by kernel_rfl) (fun w hS => by kernel_rfl) ⟨hM.below, hM.blk 2 rfl, hM.blk 9 rfl⟩ ?_
  go_frame
  refine wa_take 6 (some 44) (.agg #[.slice v'22 0 j'22, .slice y'22 0 i'22]) rfl rfl (by kernel_rfl) (by kernel_rfl) (by kernel_rfl) (fun _ _ _ h => h) (by kernel_rfl) (fun w hS => by kernel_rfl) ⟨hM.below, hM.blk 2 rfl, hM.blk 9 rfl⟩ ?_
  go_frame
  refine wa_take 7 (some 45) (.agg (HD.cells HD.zero).toArray) rfl rfl (by kernel_rfl) (by kernel_rfl) (by kernel_rfl) (fun _ _ _ h => h) (by kernel_rfl) (fun w hS => by kernel_rfl) ⟨hM.below, hM.blk 2 rfl, hM.blk 9 rfl⟩ ?_
  go_frame
  refine wa_take 8 (some 46) (.bool false) rfl rfl (by kernel_rfl) (by kernel_rfl) (by kernel_rfl) (fun _ _ _ h => h) (by kernel_rfl) (fun w hS => by kernel_rfl) ⟨hM.below, hM.blk 2 rfl, hM.blk 9 rfl⟩ ?_
  go_frame
  refine wa_one 11 (by kernel_rfl) ?_
  refine wo_store rfl (by kernel_rfl) hM 0 rfl 33 _ _ rfl rfl (by kernel_rfl) [.slice v'22 0 j'22, .slice y'22 0 i'22] (by kernel_rfl) I_impl_Shared rfl rfl ?_
  clear hM; intro W19 hM
  refine ⟨⟨hM.below, hM.blk 2 rfl, hM.blk 9 rfl⟩, ?_⟩
  refine wa_one 12 (by kernel_rfl) ?_
  refine wo_store rfl (by kernel_rfl) hM 1 rfl 36 _ _ rfl rfl (by kernel_rfl) (HD.cells HD.zero) (by kernel_rfl) I_impl_Hand rfl (hd_one' _) ?_
  clear hM; intro W20 hM
  refine ⟨⟨hM.below, hM.blk 2 rfl, hM.blk 9 rfl⟩, ?_⟩
  refine wa_take 13 (some 14) (.bool false) rfl rfl (by kernel_rfl) (by kernel_rfl) (by kernel_rfl) (fun _ _ _ h => h) (by kernel_rfl) (fun w hS => by kernel_rfl) ⟨hM.below, hM.blk 2 rfl, hM.blk 9 rfl⟩ ?_
  go_frame
  refine wa_doneJ (by kernel_rfl) ?_
  replace hM := hM.pull 0 rfl
  replace hM := hM.pull 1 rfl
  exact ⟨g6, g7, v'22, y'22, j'22, i'22, rfl, hM, ⟨s'22_1, s'22_2⟩⟩
  refine wo_alloc (some 12) rfl rfl (by kernel_rfl) hM 33 rfl [.slice none 0 0, .slice none 0 0] Z_impl_Shared ?_
  clear hM; intro g7 W16 hM
  refine ⟨⟨hM.below, hM.blk 2 rfl, hM.blk 9 rfl⟩, ?_⟩
  go_frame
  refine wa_one 3 (by kernel_rfl) ?_
  refine wo_call (some 42) rfl rfl (by kernel_rfl) 7 #[.agg (HD.cells h).toArray] (by kernel_rfl) (toHand_any h _) ?_
  rintro e W17 ⟨rfl, hb⟩
  replace hM := hM.call hb
  refine ⟨_, rfl, ⟨hM.below, hM.blk 2 rfl, hM.blk 9 rfl⟩, ?_⟩
  go_frame
  refine wa_one 4 (by kernel_rfl) ?_
  refine wo_call (some 43) rfl rfl (by kernel_rfl) 8 #[.agg #[.slice (some ⟨ma'12, 0, none⟩) l.length ka'14, .slice (some ⟨mb'13, 0, none⟩) c.length kb'15], .int .i64 task, .agg (HD.cells h).toArray] (by kernel_rfl) (hI _ (some ⟨ma'12, 0, none⟩) ka'14 (some ⟨mb'13, 0, none⟩) kb'15 (nsl_blk (hM.blk 3 rfl) qa'18 qb'19) (sli_blk (hM.blk 4 rfl) qc'20 qd'21)) ?_
  rintro e W18 ⟨u', x', rfl, hO1, hO2, hb⟩
  obtain ⟨v'22, j'22, rfl, -, s'22_1⟩ := (show OwnR _ _ _ _ 8 0 [] _ from hO1).slice
  obtain ⟨y'22, i'22, rfl, -, s'22_2⟩ := (show OwnR _ _ _ _ 1 0 [] _ from hO2).slice
  replace hM := hM.call hb
  refine ⟨_, rfl, ⟨hM.below, hM.blk 2 rfl, hM.blk 9 rfl⟩, ?_⟩
  go_frame
  refine wa_take 5 (some 38) (.tuple #[.agg #[.slice v'22 0 j'22, .slice y'22 0 i'22], .agg (HD.cells HD.zero).toArray, .bool false]) rfl rfl (by kernel_rfl) (by kernel_rfl) (by kernel_rfl) (fun _ _ _ h => h) (by kernel_rfl) (fun w hS => by kernel_rfl) ⟨hM.below, hM.blk 2 rfl, hM.blk 9 rfl⟩ ?_
  go_frame
  refine wa_take 6 (some 44) (.agg #[.slice v'22 0 j'22, .slice y'22 0 i'22]) rfl rfl (by kernel_rfl) (by kernel_rfl) (by kernel_rfl) (fun _ _ _ h => h) (by kernel_rfl) (fun w hS => by kernel_rfl) ⟨hM.below, hM.blk 2 rfl, hM.blk 9 rfl⟩ ?_
  go_frame
  refine wa_take 7 (some 45) (.agg (HD.cells HD.zero).toArray) rfl rfl (by kernel_rfl) (by kernel_rfl) (by kernel_rfl) (fun _ _ _ h => h) (by kernel_rfl) (fun w hS => by kernel_rfl) ⟨hM.below, hM.blk 2 rfl, hM.blk 9 rfl⟩ ?_
  go_frame
  refine wa_take 8 (some 46) (.bool false) rfl rfl (by kernel_rfl) (by kernel_rfl) (by kernel_rfl) (fun _ _ _ h => h) (by kernel_rfl) (fun w hS => by kernel_rfl) ⟨hM.below, hM.blk 2 rfl, hM.blk 9 rfl⟩ ?_
  go_frame
  refine wa_one 11 (by kernel_rfl) ?_
  refine wo_store rfl (by kernel_rfl) hM 0 rfl 33 _ _ rfl rfl (by kernel_rfl) [.slice v'22 0 j'22, .slice y'22 0 i'22] (by kernel_rfl) I_impl_Shared rfl rfl ?_
  clear hM; intro W19 hM
  refine ⟨⟨hM.below, hM.blk 2 rfl, hM.blk 9 rfl⟩, ?_⟩
  refine wa_one 12 (by kernel_rfl) ?_
  refine wo_store rfl (by kernel_rfl) hM 1 rfl 36 _ _ rfl rfl (by kernel_rfl) (HD.cells HD.zero) (by kernel_rfl) I_impl_Hand rfl (hd_one' _) ?_
  clear hM; intro W20 hM
  refine ⟨⟨hM.below, hM.blk 2 rfl, hM.blk 9 rfl⟩, ?_⟩
  refine wa_take 13 (some 14) (.bool false) rfl rfl (by kernel_rfl) (by kernel_rfl) (by kernel_rfl) (fun _ _ _ h => h) (by kernel_rfl) (fun w hS => by kernel_rfl) ⟨hM.below, hM.blk 2 rfl, hM.blk 9 rfl⟩ ?_
  go_frame
  refine wa_doneJ (by kernel_rfl) ?_
  replace hM := hM.pull 0 rfl
  replace hM := hM.pull 1 rfl
  exact ⟨g6, g7, v'22, y'22, j'22, i'22, rfl, hM, ⟨s'22_1, s'22_2⟩⟩
  refine wa_start (fun w => Below w0.heap.size w0 w ∧ Blk w g1 25 [.slice ua l.length uc, .slice xa c.length xc] ∧ Blk w g2 29 (HD.cells h)) 15 rfl (by kernel_rfl) ?_
  replace hM := hM.drew
  refine wa_take 0 (some 27) (.agg #[.slice ua l.length uc, .slice xa c.length xc]) rfl rfl (by kernel_rfl) (by kernel_rfl) (by kernel_rfl) (fun _ _ _ h => h) (by kernel_rfl) (fun w hS => r_load hS.2.1 25 _ rfl rfl Try.underlying25 I_laws_Shared) ⟨hM.below, hM.blk 1 rfl, hM.blk 0 rfl⟩ ?_
  go_frame
  refine wa_take 2 (some 29) (.int .i64 task) rfl rfl (by kernel_rfl) (by kernel_rfl) (by kernel_rfl) (fun _ _ _ h => h) (by kernel_rfl) (fun w hS => by kernel_rfl) ⟨hM.below, hM.blk 1 rfl, hM.blk 0 rfl⟩ ?_
  go_frame
  refine wa_take 3 (some 30) (.agg (HD.cells h).toArray) rfl rfl (by kernel_rfl) (by kernel_rfl) (by kernel_rfl) (fun _ _ _ h => h) (by kernel_rfl) (fun w hS => r_load hS.2.2 29 _ rfl rfl Try.underlying29 I_laws_Hand) ⟨hM.below, hM.blk 1 rfl, hM.blk 0 rfl⟩ ?_
  go_frame
  refine wa_three 1 10 11 (by kernel_rfl) ?_ ?_ ?_
  refine wo_call (some 28) rfl rfl (by kernel_rfl) 6 #[.agg #[.slice ua l.length uc, .slice xa c.length xc]] (by kernel_rfl) (toShared_any (.slice ua l.length uc) (.slice xa c.length xc) l c _ (h1.below hM.below) (h2.below hM.below) hl hc) ?_
  rintro e W4 ⟨ma'1, mb'2, ka'3, kb'4, pa'5, pb'6, rfl, ⟨qa'7, qb'8, qc'9, qd'10, -, -⟩, hMc⟩
  replace hM := hM.join hMc
  refine ⟨_, rfl, ⟨hM.below, hM.blk 3 rfl, hM.blk 2 rfl⟩, ?_⟩
  go_frame
  refine wa_three 4 10 11 (by kernel_rfl) ?_ ?_ ?_
  refine wo_call (some 31) rfl rfl (by kernel_rfl) 7 #[.agg (HD.cells h).toArray] (by kernel_rfl) (toHand_any h _) ?_
  rintro e W5 ⟨rfl, hb⟩
  replace hM := hM.call hb
  refine ⟨_, rfl, ⟨hM.below, hM.blk 3 rfl, hM.blk 2 rfl⟩, ?_⟩
  go_frame
  refine wa_three 5 10 11 (by kernel_rfl) ?_ ?_ ?_
  refine wo_call (some 32) rfl rfl (by kernel_rfl) 5 #[.agg #[.slice (some ⟨ma'1, 0, none⟩) l.length ka'3, .slice (some ⟨mb'2, 0, none⟩) c.length kb'4], .int .i64 task, .agg (HD.cells h).toArray] (by kernel_rfl) (hS _ (.slice (some ⟨ma'1, 0, none⟩) l.length ka'3) (.slice (some ⟨mb'2, 0, none⟩) c.length kb'4) (nsl_blk (hM.blk 0 rfl) qa'7 qb'8) (sli_blk (hM.blk 1 rfl) qc'9 qd'10)) ?_
  rintro e W6 ⟨u', x', rfl, hO1, hO2, hb⟩
  obtain ⟨v'11, j'11, rfl, -, s'11_1⟩ := (show OwnR _ _ _ _ 8 0 [] _ from hO1).slice
  obtain ⟨y'11, i'11, rfl, -, s'11_2⟩ := (show OwnR _ _ _ _ 1 0 [] _ from hO2).slice
  replace hM := hM.call hb
  refine ⟨_, rfl, ⟨hM.below, hM.blk 3 rfl, hM.blk 2 rfl⟩, ?_⟩
  go_frame
  refine wa_take 6 (some 26) (.tuple #[.agg #[.slice v'11 0 j'11, .slice y'11 0 i'11], .agg (HD.cells HD.zero).toArray, .bool false]) rfl rfl (by kernel_rfl) (by kernel_rfl) (by kernel_rfl) (fun _ _ _ h => h) (by kernel_rfl) (fun w hS => by kernel_rfl) ⟨hM.below, hM.blk 3 rfl, hM.blk 2 rfl⟩ ?_
  go_frame
  refine wa_take 7 (some 33) (.agg #[.slice v'11 0 j'11, .slice y'11 0 i'11]) rfl rfl (by kernel_rfl) (by kernel_rfl) (by kernel_rfl) (fun _ _ _ h => h) (by kernel_rfl) (fun w hS => by kernel_rfl) ⟨hM.below, hM.blk 3 rfl, hM.blk 2 rfl⟩ ?_
  go_frame
  refine wa_take 8 (some 34) (.agg (HD.cells HD.zero).toArray) rfl rfl (by kernel_rfl) (by kernel_rfl) (by kernel_rfl) (fun _ _ _ h => h) (by kernel_rfl) (fun w hS => by kernel_rfl) ⟨hM.below, hM.blk 3 rfl, hM.blk 2 rfl⟩ ?_
  go_frame
  refine wa_take 9 (some 35) (.bool false) rfl rfl (by kernel_rfl) (by kernel_rfl) (by kernel_rfl) (fun _ _ _ h => h) (by kernel_rfl) (fun w hS => by kernel_rfl) ⟨hM.below, hM.blk 3 rfl, hM.blk 2 rfl⟩ ?_
  go_frame
  refine wa_two 10 11 (by kernel_rfl) ?_ ?_
  refine wo_alloc (some 8) rfl rfl (by kernel_rfl) hM 33 rfl [.slice none 0 0, .slice none 0 0] Z_impl_Shared ?_
  clear hM; intro g3 W7 hM
  refine ⟨⟨hM.below, hM.blk 4 rfl, hM.blk 3 rfl⟩, ?_⟩
  go_frame
  refine wa_one 11 (by kernel_rfl) ?_
  refine wo_alloc (some 9) rfl rfl (by kernel_rfl) hM 36 rfl (HD.cells HD.zero) Z_impl_Hand ?_
  clear hM; intro g4 W8 hM
  refine ⟨⟨hM.below, hM.blk 5 rfl, hM.blk 4 rfl⟩, ?_⟩
  go_frame
  refine wa_one 12 (by kernel_rfl) ?_
  refine wo_store rfl (by kernel_rfl) hM 1 rfl 33 _ _ rfl rfl (by kernel_rfl) [.slice v'11 0 j'11, .slice y'11 0 i'11] (by kernel_rfl) I_impl_Shared rfl rfl ?_
  clear hM; intro W9 hM
  refine ⟨⟨hM.below, hM.blk 5 rfl, hM.blk 4 rfl⟩, ?_⟩
  refine wa_one 13 (by kernel_rfl) ?_
  refine wo_store rfl (by kernel_rfl) hM 0 rfl 36 _ _ rfl rfl (by kernel_rfl) (HD.cells HD.zero) (by kernel_rfl) I_impl_Hand rfl (hd_one' _) ?_
  clear hM; intro W10 hM
  refine ⟨⟨hM.below, hM.blk 5 rfl, hM.blk 4 rfl⟩, ?_⟩
  refine wa_take 14 (some 10) (.bool false) rfl rfl (by kernel_rfl) (by kernel_rfl) (by kernel_rfl) (fun _ _ _ h => h) (by kernel_rfl) (fun w hS => by kernel_rfl) ⟨hM.below, hM.blk 5 rfl, hM.blk 4 rfl⟩ ?_
  go_frame
  refine wa_doneJ (by kernel_rfl) ?_
  exact ⟨g4, g3, ma'1, mb'2, ka'3, kb'4, pa'5, pb'6, v'11, y'11, j'11, i'11, rfl, hM, ⟨qa'7, qb'8, qc'9, qd'10⟩, ⟨s'11_1, s'11_2⟩⟩
  refine wo_alloc (some 9) rfl rfl (by kernel_rfl) hM 36 rfl (HD.cells HD.zero) Z_impl_Hand ?_
  clear hM; intro g3 W7 hM
  refine ⟨⟨hM.below, hM.blk 4 rfl, hM.blk 3 rfl⟩, ?_⟩
  go_frame
  refine wa_one 10 (by kernel_rfl) ?_
  refine wo_alloc (some 8) rfl rfl (by kernel_rfl) hM 33 rfl [.slice none 0 0, .slice none 0 0] Z_impl_Shared ?_
  clear hM; intro g4 W8 hM
  refine ⟨⟨hM.below, hM.blk 5 rfl, hM.blk 4 rfl⟩, ?_⟩
  go_frame
  refine wa_one 12 (by kernel_rfl) ?_
  refine wo_store rfl (by kernel_rfl) hM 0 rfl 33 _ _ rfl rfl (by kernel_rfl) [.slice v'11 0 j'11, .slice y'11 0 i'11] (by kernel_rfl) I_impl_Shared rfl rfl ?_
  clear hM; intro W9 hM
  refine ⟨⟨hM.below, hM.blk 5 rfl, hM.blk 4 rfl⟩, ?_⟩
  refine wa_one 13 (by kernel_rfl) ?_
  refine wo_store rfl (by kernel_rfl) hM 1 rfl 36 _ _ rfl rfl (by kernel_rfl) (HD.cells HD.zero) (by kernel_rfl) I_impl_Hand rfl (hd_one' _) ?_
  clear hM; intro W10 hM
  refine ⟨⟨hM.below, hM.blk 5 rfl, hM.blk 4 rfl⟩, ?_⟩
  refine wa_take 14 (some 10) (.bool false) rfl rfl (by kernel_rfl) (by kernel_rfl) (by kernel_rfl) (fun _ _ _ h => h) (by kernel_rfl) (fun w hS => by kernel_rfl) ⟨hM.below, hM.blk 5 rfl, hM.blk 4 rfl⟩ ?_
  go_frame
  refine wa_doneJ (by kernel_rfl) ?_
  replace hM := hM.pull 0 rfl
  replace hM := hM.pull 1 rfl
  exact ⟨g3, g4, ma'1, mb'2, ka'3, kb'4, pa'5, pb'6, v'11, y'11, j'11, i'11, rfl, hM, ⟨qa'7, qb'8, qc'9, qd'10⟩, ⟨s'11_1, s'11_2⟩⟩
  refine wo_alloc (some 8) rfl rfl (by kernel_rfl) hM 33 rfl [.slice none 0 0, .slice none 0 0] Z_impl_Shared ?_
  clear hM; intro g3 W6 hM
  refine ⟨⟨hM.below, hM.blk 4 rfl, hM.blk 3 rfl⟩, ?_⟩
  go_frame
  refine wa_two 5 11 (by kernel_rfl) ?_ ?_
  refine wo_call (some 32) rfl rfl (by kernel_rfl) 5 #[.agg #[.slice (some ⟨ma'1, 0, none⟩) l.length ka'3, .slice (some ⟨mb'2, 0, none⟩) c.length kb'4], .int .i64 task, .agg (HD.cells h).toArray] (by kernel_rfl) (hS _ (.slice (some ⟨ma'1, 0, none⟩) l.length ka'3) (.slice (some ⟨mb'2, 0, none⟩) c.length kb'4) (nsl_blk (hM.blk 1 rfl) qa'7 qb'8) (sli_blk (hM.blk 2 rfl) qc'9 qd'10)) ?_
  rintro e W7 ⟨u', x', rfl, hO1, hO2, hb⟩
  obtain ⟨v'11, j'11, rfl, -, s'11_1⟩ := (show OwnR _ _ _ _ 8 0 [] _ from hO1).slice
  obtain ⟨y'11, i'11, rfl, -, s'11_2⟩ := (show OwnR _ _ _ _ 1 0 [] _ from hO2).slice
  replace hM := hM.call hb
  refine ⟨_, rfl, ⟨hM.below, hM.blk 4 rfl, hM.blk 3 rfl⟩, ?_⟩
  go_frame
  refine wa_take 6 (some 26) (.tuple #[.agg #[.slice v'11 0 j'11, .slice y'11 0 i'11], .agg (HD.cells HD.zero).toArray, .bool false]) rfl rfl (by kernel_rfl) (by kernel_rfl) (by kernel_rfl) (fun _ _ _ h => h) (by kernel_rfl) (fun w hS => by kernel_rfl) ⟨hM.below, hM.blk 4 rfl, hM.blk 3 rfl⟩ ?_
  go_frame
  refine wa_take 7 (some 33) (.agg #[.slice v'11 0 j'11, .slice y'11 0 i'11]) rfl rfl (by kernel_rfl) (by kernel_rfl) (by kernel_rfl) (fun _ _ _ h => h) (by kernel_rfl) (fun w hS => by kernel_rfl) ⟨hM.below, hM.blk 4 rfl, hM.blk 3 rfl⟩ ?_
  go_frame
  refine wa_take 8 (some 34) (.agg (HD.cells HD.zero).toArray) rfl rfl (by kernel_rfl) (by kernel_rfl) (by kernel_rfl) (fun _ _ _ h => h) (by kernel_rfl) (fun w hS => by kernel_rfl) ⟨hM.below, hM.blk 4 rfl, hM.blk 3 rfl⟩ ?_
  go_frame
  refine wa_take 9 (some 35) (.bool false) rfl rfl (by kernel_rfl) (by kernel_rfl) (by kernel_rfl) (fun _ _ _ h => h) (by kernel_rfl) (fun w hS => by kernel_rfl) ⟨hM.below, hM.blk 4 rfl, hM.blk 3 rfl⟩ ?_
  go_frame
  refine wa_one 11 (by kernel_rfl) ?_
  refine wo_alloc (some 9) rfl rfl (by kernel_rfl) hM 36 rfl (HD.cells HD.zero) Z_impl_Hand ?_
  clear hM; intro g4 W8 hM
  refine ⟨⟨hM.below, hM.blk 5 rfl, hM.blk 4 rfl⟩, ?_⟩
  go_frame
  refine wa_one 12 (by kernel_rfl) ?_
  refine wo_store rfl (by kernel_rfl) hM 1 rfl 33 _ _ rfl rfl (by kernel_rfl) [.slice v'11 0 j'11, .slice y'11 0 i'11] (by kernel_rfl) I_impl_Shared rfl rfl ?_
  clear hM; intro W9 hM
  refine ⟨⟨hM.below, hM.blk 5 rfl, hM.blk 4 rfl⟩, ?_⟩
  refine wa_one 13 (by kernel_rfl) ?_
  refine wo_store rfl (by kernel_rfl) hM 0 rfl 36 _ _ rfl rfl (by kernel_rfl) (HD.cells HD.zero) (by kernel_rfl) I_impl_Hand rfl (hd_one' _) ?_
  clear hM; intro W10 hM
  refine ⟨⟨hM.below, hM.blk 5 rfl, hM.blk 4 rfl⟩, ?_⟩
  refine wa_take 14 (some 10) (.bool false) rfl rfl (by kernel_rfl) (by kernel_rfl) (by kernel_rfl) (fun _ _ _ h => h) (by kernel_rfl) (fun w hS => by kernel_rfl) ⟨hM.below, hM.blk 5 rfl, hM.blk 4 rfl⟩ ?_
  go_frame
  refine wa_doneJ (by kernel_rfl) ?_
  exact ⟨g4, g3, ma'1, mb'2, ka'3, kb'4, pa'5, pb'6, v'11, y'11, j'11, i'11, rfl, hM, ⟨qa'7, qb'8, qc'9, qd'10⟩, ⟨s'11_1, s'11_2⟩⟩
  refine wo_alloc (some 9) rfl rfl (by kernel_rfl) hM 36 rfl (HD.cells HD.zero) Z_impl_Hand ?_
  clear hM; intro g4 W7 hM
  refine ⟨⟨hM.below, hM.blk 5 rfl, hM.blk 4 rfl⟩, ?_⟩
  go_frame
  refine wa_one 5 (by kernel_rfl) ?_
  refine wo_call (some 32) rfl rfl (by kernel_rfl) 5 #[.agg #[.slice (some ⟨ma'1, 0, none⟩) l.length ka'3, .slice (some ⟨mb'2, 0, none⟩) c.length kb'4], .int .i64 task, .agg (HD.cells h).toArray] (by kernel_rfl) (hS _ (.slice (some ⟨ma'1, 0, none⟩) l.length ka'3) (.slice (some ⟨mb'2, 0, none⟩) c.length kb'4) (nsl_blk (hM.blk 2 rfl) qa'7 qb'8) (sli_blk (hM.blk 3 rfl) qc'9 qd'10)) ?_
  rintro e W8 ⟨u', x', rfl, hO1, hO2, hb⟩
  obtain ⟨v'11, j'11, rfl, -, s'11_1⟩ := (show OwnR _ _ _ _ 8 0 [] _ from hO1).slice
  obtain ⟨y'11, i'11, rfl, -, s'11_2⟩ := (show OwnR _ _ _ _ 1 0 [] _ from hO2).slice
  replace hM := hM.call hb
  refine ⟨_, rfl, ⟨hM.below, hM.blk 5 rfl, hM.blk 4 rfl⟩, ?_⟩
  go_frame
  refine wa_take 6 (some 26) (.tuple #[.agg #[.slice v'11 0 j'11, .slice y'11 0 i'11], .agg (HD.cells HD.zero).toArray, .bool false]) rfl rfl (by kernel_rfl) (by kernel_rfl) (by kernel_rfl) (fun _ _ _ h => h) (by kernel_rfl) (fun w hS => by kernel_rfl) ⟨hM.below, hM.blk 5 rfl, hM.blk 4 rfl⟩ ?_
  go_frame
  refine wa_take 7 (some 33) (.agg #[.slice v'11 0 j'11, .slice y'11 0 i'11]) rfl rfl (by kernel_rfl) (by kernel_rfl) (by kernel_rfl) (fun _ _ _ h => h) (by kernel_rfl) (fun w hS => by kernel_rfl) ⟨hM.below, hM.blk 5 rfl, hM.blk 4 rfl⟩ ?_
  go_frame
  refine wa_take 8 (some 34) (.agg (HD.cells HD.zero).toArray) rfl rfl (by kernel_rfl) (by kernel_rfl) (by kernel_rfl) (fun _ _ _ h => h) (by kernel_rfl) (fun w hS => by kernel_rfl) ⟨hM.below, hM.blk 5 rfl, hM.blk 4 rfl⟩ ?_
  go_frame
  refine wa_take 9 (some 35) (.bool false) rfl rfl (by kernel_rfl) (by kernel_rfl) (by kernel_rfl) (fun _ _ _ h => h) (by kernel_rfl) (fun w hS => by kernel_rfl) ⟨hM.below, hM.blk 5 rfl, hM.blk 4 rfl⟩ ?_
  go_frame
  refine wa_one 12 (by kernel_rfl) ?_
  refine wo_store rfl (by kernel_rfl) hM 1 rfl 33 _ _ rfl rfl (by kernel_rfl) [.slice v'11 0 j'11, .slice y'11 0 i'11] (by kernel_rfl) I_impl_Shared rfl rfl ?_
  clear hM; intro W9 hM
  refine ⟨⟨hM.below, hM.blk 5 rfl, hM.blk 4 rfl⟩, ?_⟩
  refine wa_one 13 (by kernel_rfl) ?_
  refine wo_store rfl (by kernel_rfl) hM 0 rfl 36 _ _ rfl rfl (by kernel_rfl) (HD.cells HD.zero) (by kernel_rfl) I_impl_Hand rfl (hd_one' _) ?_
  clear hM; intro W10 hM
  refine ⟨⟨hM.below, hM.blk 5 rfl, hM.blk 4 rfl⟩, ?_⟩
  refine wa_take 14 (some 10) (.bool false) rfl rfl (by kernel_rfl) (by kernel_rfl) (by kernel_rfl) (fun _ _ _ h => h) (by kernel_rfl) (fun w hS => by kernel_rfl) ⟨hM.below, hM.blk 5 rfl, hM.blk 4 rfl⟩ ?_
  go_frame
  refine wa_doneJ (by kernel_rfl) ?_
  exact ⟨g4, g3, ma'1, mb'2, ka'3, kb'4, pa'5, pb'6, v'11, y'11, j'11, i'11, rfl, hM, ⟨qa'7, qb'8, qc'9, qd'10⟩, ⟨s'11_1, s'11_2⟩⟩
  refine wo_alloc (some 9) rfl rfl (by kernel_rfl) hM 36 rfl (HD.cells HD.zero) Z_impl_Hand ?_
  clear hM; intro g3 W6 hM
  refine ⟨⟨hM.below, hM.blk 4 rfl, hM.blk 3 rfl⟩, ?_⟩
  go_frame
  refine wa_two 5 10 (by kernel_rfl) ?_ ?_
  refine wo_call (some 32) rfl rfl (by kernel_rfl) 5 #[.agg #[.slice (some ⟨ma'1, 0, none⟩) l.length ka'3, .slice (some ⟨mb'2, 0, none⟩) c.length kb'4], .int .i64 task, .agg (HD.cells h).toArray] (by kernel_rfl) (hS _ (.slice (some ⟨ma'1, 0, none⟩) l.length ka'3) (.slice (some ⟨mb'2, 0, none⟩) c.length kb'4) (nsl_blk (hM.blk 1 rfl) qa'7 qb'8) (sli_blk (hM.blk 2 rfl) qc'9 qd'10)) ?_
  rintro e W7 ⟨u', x', rfl, hO1, hO2, hb⟩
  obtain ⟨v'11, j'11, rfl, -, s'11_1⟩ := (show OwnR _ _ _ _ 8 0 [] _ from hO1).slice
  obtain ⟨y'11, i'11, rfl, -, s'11_2⟩ := (show OwnR _ _ _ _ 1 0 [] _ from hO2).slice
  replace hM := hM.call hb
  refine ⟨_, rfl, ⟨hM.below, hM.blk 4 rfl, hM.blk 3 rfl⟩, ?_⟩
  go_frame
  refine wa_take 6 (some 26) (.tuple #[.agg #[.slice v'11 0 j'11, .slice y'11 0 i'11], .agg (HD.cells HD.zero).toArray, .bool false]) rfl rfl (by kernel_rfl) (by kernel_rfl) (by kernel_rfl) (fun _ _ _ h => h) (by kernel_rfl) (fun w hS => by kernel_rfl) ⟨hM.below, hM.blk 4 rfl, hM.blk 3 rfl⟩ ?_
  go_frame
  refine wa_take 7 (some 33) (.agg #[.slice v'11 0 j'11, .slice y'11 0 i'11]) rfl rfl (by kernel_rfl) (by kernel_rfl) (by kernel_rfl) (fun _ _ _ h => h) (by kernel_rfl) (fun w hS => by kernel_rfl) ⟨hM.below, hM.blk 4 rfl, hM.blk 3 rfl⟩ ?_
  go_frame
  refine wa_take 8 (some 34) (.agg (HD.cells HD.zero).toArray) rfl rfl (by kernel_rfl) (by kernel_rfl) (by kernel_rfl) (fun _ _ _ h => h) (by kernel_rfl) (fun w hS => by kernel_rfl) ⟨hM.below, hM.blk 4 rfl, hM.blk 3 rfl⟩ ?_
  go_frame
  refine wa_take 9 (some 35) (.bool false) rfl rfl (by kernel_rfl) (by kernel_rfl) (by kernel_rfl) (fun _ _ _ h => h) (by kernel_rfl) (fun w hS => by kernel_rfl) ⟨hM.below, hM.blk 4 rfl, hM.blk 3 rfl⟩ ?_
  go_frame
  refine wa_one 10 (by kernel_rfl) ?_
  refine wo_alloc (some 8) rfl rfl (by kernel_rfl) hM 33 rfl [.slice none 0 0, .slice none 0 0] Z_impl_Shared ?_
  clear hM; intro g4 W8 hM
  refine ⟨⟨hM.below, hM.blk 5 rfl, hM.blk 4 rfl⟩, ?_⟩
  go_frame
  refine wa_one 12 (by kernel_rfl) ?_
  refine wo_store rfl (by kernel_rfl) hM 0 rfl 33 _ _ rfl rfl (by kernel_rfl) [.slice v'11 0 j'11, .slice y'11 0 i'11] (by kernel_rfl) I_impl_Shared rfl rfl ?_
  clear hM; intro W9 hM
  refine ⟨⟨hM.below, hM.blk 5 rfl, hM.blk 4 rfl⟩, ?_⟩
  refine wa_one 13 (by kernel_rfl) ?_
  refine wo_store rfl (by kernel_rfl) hM 1 rfl 36 _ _ rfl rfl (by kernel_rfl) (HD.cells HD.zero) (by kernel_rfl) I_impl_Hand rfl (hd_one' _) ?_
  clear hM; intro W10 hM
  refine ⟨⟨hM.below, hM.blk 5 rfl, hM.blk 4 rfl⟩, ?_⟩
  refine wa_take 14 (some 10) (.bool false) rfl rfl (by kernel_rfl) (by kernel_rfl) (by kernel_rfl) (fun _ _ _ h => h) (by kernel_rfl) (fun w hS => by kernel_rfl) ⟨hM.below, hM.blk 5 rfl, hM.blk 4 rfl⟩ ?_
  go_frame
  refine wa_doneJ (by kernel_rfl) ?_
  replace hM := hM.pull 0 rfl
  replace hM := hM.pull 1 rfl
  exact ⟨g3, g4, ma'1, mb'2, ka'3, kb'4, pa'5, pb'6, v'11, y'11, j'11, i'11, rfl, hM, ⟨qa'7, qb'8, qc'9, qd'10⟩, ⟨s'11_1, s'11_2⟩⟩
  refine wo_alloc (some 8) rfl rfl (by kernel_rfl) hM 33 rfl [.slice none 0 0, .slice none 0 0] Z_impl_Shared ?_
  clear hM; intro g4 W7 hM
  refine ⟨⟨hM.below, hM.blk 5 rfl, hM.blk 4 rfl⟩, ?_⟩
  go_frame
  refine wa_one 5 (by kernel_rfl) ?_
  refine wo_call (some 32) rfl rfl (by kernel_rfl) 5 #[.agg #[.slice (some ⟨ma'1, 0, none⟩) l.length ka'3, .slice (some ⟨mb'2, 0, none⟩) c.length kb'4], .int .i64 task, .agg (HD.cells h).toArray] (by kernel_rfl) (hS _ (.slice (some ⟨ma'1, 0, none⟩) l.length ka'3) (.slice (some ⟨mb'2, 0, none⟩) c.length kb'4) (nsl_blk (hM.blk 2 rfl) qa'7 qb'8) (sli_blk (hM.blk 3 rfl) qc'9 qd'10)) ?_
  rintro e W8 ⟨u', x', rfl, hO1, hO2, hb⟩
  obtain ⟨v'11, j'11, rfl, -, s'11_1⟩ := (show OwnR _ _ _ _ 8 0 [] _ from hO1).slice
  obtain ⟨y'11, i'11, rfl, -, s'11_2⟩ := (show OwnR _ _ _ _ 1 0 [] _ from hO2).slice
  replace hM := hM.call hb
  refine ⟨_, rfl, ⟨hM.below, hM.blk 5 rfl, hM.blk 4 rfl⟩, ?_⟩
  go_frame
  refine wa_take 6 (some 26) (.tuple #[.agg #[.slice v'11 0 j'11, .slice y'11 0 i'11], .agg (HD.cells HD.zero).toArray, .bool false]) rfl rfl (by kernel_rfl) (by kernel_rfl) (by kernel_rfl) (fun _ _ _ h => h) (by kernel_rfl) (fun w hS => by kernel_rfl) ⟨hM.below, hM.blk 5 rfl, hM.blk 4 rfl⟩ ?_
  go_frame
  refine wa_take 7 (some 33) (.agg #[.slice v'11 0 j'11, .slice y'11 0 i'11]) rfl rfl (by kernel_rfl) (by kernel_rfl) (by kernel_rfl) (fun _ _ _ h => h) (by kernel_rfl) (fun w hS => by kernel_rfl) ⟨hM.below, hM.blk 5 rfl, hM.blk 4 rfl⟩ ?_
  go_frame
  refine wa_take 8 (some 34) (.agg (HD.cells HD.zero).toArray) rfl rfl (by kernel_rfl) (by kernel_rfl) (by kernel_rfl) (fun _ _ _ h => h) (by kernel_rfl) (fun w hS => by kernel_rfl) ⟨hM.below, hM.blk 5 rfl, hM.blk 4 rfl⟩ ?_
  go_frame
  refine wa_take 9 (some 35) (.bool false) rfl rfl (by kernel_rfl) (by kernel_rfl) (by kernel_rfl) (fun _ _ _ h => h) (by kernel_rfl) (fun w hS => by kernel_rfl) ⟨hM.below, hM.blk 5 rfl, hM.blk 4 rfl⟩ ?_
  go_frame
  refine wa_one 12 (by kernel_rfl) ?_
  refine wo_store rfl (by kernel_rfl) hM 0 rfl 33 _ _ rfl rfl (by kernel_rfl) [.slice v'11 0 j'11, .slice y'11 0 i'11] (by kernel_rfl) I_impl_Shared rfl rfl ?_
  clear hM; intro W9 hM
  refine ⟨⟨hM.below, hM.blk 5 rfl, hM.blk 4 rfl⟩, ?_⟩
  refine wa_one 13 (by kernel_rfl) ?_
  refine wo_store rfl (by kernel_rfl) hM 1 rfl 36 _ _ rfl rfl (by kernel_rfl) (HD.cells HD.zero) (by kernel_rfl) I_impl_Hand rfl (hd_one' _) ?_
  clear hM; intro W10 hM
  refine ⟨⟨hM.below, hM.blk 5 rfl, hM.blk 4 rfl⟩, ?_⟩
  refine wa_take 14 (some 10) (.bool false) rfl rfl (by kernel_rfl) (by kernel_rfl) (by kernel_rfl) (fun _ _ _ h => h) (by kernel_rfl) (fun w hS => by kernel_rfl) ⟨hM.below, hM.blk 5 rfl, hM.blk 4 rfl⟩ ?_
  go_frame
  refine wa_doneJ (by kernel_rfl) ?_
  replace hM := hM.pull 0 rfl
  replace hM := hM.pull 1 rfl
  exact ⟨g3, g4, ma'1, mb'2, ka'3, kb'4, pa'5, pb'6, v'11, y'11, j'11, i'11, rfl, hM, ⟨qa'7, qb'8, qc'9, qd'10⟩, ⟨s'11_1, s'11_2⟩⟩
  refine wo_alloc (some 8) rfl rfl (by kernel_rfl) hM 33 rfl [.slice none 0 0, .slice none 0 0] Z_impl_Shared ?_
  clear hM; intro g3 W5 hM
  refine ⟨⟨hM.below, hM.blk 4 rfl, hM.blk 3 rfl⟩, ?_⟩
  go_frame
  refine wa_two 4 11 (by kernel_rfl) ?_ ?_
  refine wo_call (some 31) rfl rfl (by kernel_rfl) 7 #[.agg (HD.cells h).toArray] (by kernel_rfl) (toHand_any h _) ?_
  rintro e W6 ⟨rfl, hb⟩
  replace hM := hM.call hb
  refine ⟨_, rfl, ⟨hM.below, hM.blk 4 rfl, hM.blk 3 rfl⟩, ?_⟩
  go_frame
  refine wa_two 5 11 (by kernel_rfl) ?_ ?_
  refine wo_call (some 32) rfl rfl (by kernel_rfl) 5 #[.agg #[.slice (some ⟨ma'1, 0, none⟩) l.length ka'3, .slice (some ⟨mb'2, 0, none⟩) c.length kb'4], .int .i64 task, .agg (HD.cells h).toArray] (by kernel_rfl) (hS _ (.slice (some ⟨ma'1, 0, none⟩) l.length ka'3) (.slice (some ⟨mb'2, 0, none⟩) c.length kb'4) (nsl_blk (hM.blk 1 rfl) qa'7 qb'8) (sli_blk (hM.blk 2 rfl) qc'9 qd'10)) ?_
  rintro e W7 ⟨u', x', rfl, hO1, hO2, hb⟩
  obtain ⟨v'11, j'11, rfl, -, s'11_1⟩ := (show OwnR _ _ _ _ 8 0 [] _ from hO1).slice
  obtain ⟨y'11, i'11, rfl, -, s'11_2⟩ := (show OwnR _ _ _ _ 1 0 [] _ from hO2).slice
  replace hM := hM.call hb
  refine ⟨_, rfl, ⟨hM.below, hM.blk 4 rfl, hM.blk 3 rfl⟩, ?_⟩
  go_frame
  refine wa_take 6 (some 26) (.tuple #[.agg #[.slice v'11 0 j'11, .slice y'11 0 i'11], .agg (HD.cells HD.zero).toArray, .bool false]) rfl rfl (by kernel_rfl) (by kernel_rfl) (by kernel_rfl) (fun _ _ _ h => h) (by kernel_rfl) (fun w hS => by kernel_rfl) ⟨hM.below, hM.blk 4 rfl, hM.blk 3 rfl⟩ ?_
  go_frame
  refine wa_take 7 (some 33) (.agg #[.slice v'11 0 j'11, .slice y'11 0 i'11]) rfl rfl (by kernel_rfl) (by kernel_rfl) (by kernel_rfl) (fun _ _ _ h => h) (by kernel_rfl) (fun w hS => by kernel_rfl) ⟨hM.below, hM.blk 4 rfl, hM.blk 3 rfl⟩ ?_
  go_frame
  refine wa_take 8 (some 34) (.agg (HD.cells HD.zero).toArray) rfl rfl (by kernel_rfl) (by kernel_rfl) (by kernel_rfl) (fun _ _ _ h => h) (by kernel_rfl) (fun w hS => by kernel_rfl) ⟨hM.below, hM.blk 4 rfl, hM.blk 3 rfl⟩ ?_
  go_frame
  refine wa_take 9 (some 35) (.bool false) rfl rfl (by kernel_rfl) (by kernel_rfl) (by kernel_rfl) (fun _ _ _ h => h) (by kernel_rfl) (fun w hS => by kernel_rfl) ⟨hM.below, hM.blk 4 rfl, hM.blk 3 rfl⟩ ?_
  go_frame
  refine wa_one 11 (by kernel_rfl) ?_
  refine wo_alloc (some 9) rfl rfl (by kernel_rfl) hM 36 rfl (HD.cells HD.zero) Z_impl_Hand ?_
  clear hM; intro g4 W8 hM
  refine ⟨⟨hM.below, hM.blk 5 rfl, hM.blk 4 rfl⟩, ?_⟩
  go_frame
  refine wa_one 12 (by kernel_rfl) ?_
  refine wo_store rfl (by kernel_rfl) hM 1 rfl 33 _ _ rfl rfl (by kernel_rfl) [.slice v'11 0 j'11, .slice y'11 0 i'11] (by kernel_rfl) I_impl_Shared rfl rfl ?_
  clear hM; intro W9 hM
  refine ⟨⟨hM.below, hM.blk 5 rfl, hM.blk 4 rfl⟩, ?_⟩
  refine wa_one 13 (by kernel_rfl) ?_
  refine wo_store rfl (by kernel_rfl) hM 0 rfl 36 _ _ rfl rfl (by kernel_rfl) (HD.cells HD.zero) (by kernel_rfl) I_impl_Hand rfl (hd_one' _) ?_
  clear hM; intro W10 hM
  refine ⟨⟨hM.below, hM.blk 5 rfl, hM.blk 4 rfl⟩, ?_⟩
  refine wa_take 14 (some 10) (.bool false) rfl rfl (by kernel_rfl) (by kernel_rfl) (by kernel_rfl) (fun _ _ _ h => h) (by kernel_rfl) (fun w hS => by kernel_rfl) ⟨hM.below, hM.blk 5 rfl, hM.blk 4 rfl⟩ ?_
  go_frame
  refine wa_doneJ (by kernel_rfl) ?_
  exact ⟨g4, g3, ma'1, mb'2, ka'3, kb'4, pa'5, pb'6, v'11, y'11, j'11, i'11, rfl, hM, ⟨qa'7, qb'8, qc'9, qd'10⟩, ⟨s'11_1, s'11_2⟩⟩
  refine wo_alloc (some 9) rfl rfl (by kernel_rfl) hM 36 rfl (HD.cells HD.zero) Z_impl_Hand ?_
  clear hM; intro g4 W7 hM
  refine ⟨⟨hM.below, hM.blk 5 rfl, hM.blk 4 rfl⟩, ?_⟩
  go_frame
  refine wa_one 5 (by kernel_rfl) ?_
  refine wo_call (some 32) rfl rfl (by kernel_rfl) 5 #[.agg #[.slice (some ⟨ma'1, 0, none⟩) l.length ka'3, .slice (some ⟨mb'2, 0, none⟩) c.length kb'4], .int .i64 task, .agg (HD.cells h).toArray] (by kernel_rfl) (hS _ (.slice (some ⟨ma'1, 0, none⟩) l.length ka'3) (.slice (some ⟨mb'2, 0, none⟩) c.length kb'4) (nsl_blk (hM.blk 2 rfl) qa'7 qb'8) (sli_blk (hM.blk 3 rfl) qc'9 qd'10)) ?_
  rintro e W8 ⟨u', x', rfl, hO1, hO2, hb⟩
  obtain ⟨v'11, j'11, rfl, -, s'11_1⟩ := (show OwnR _ _ _ _ 8 0 [] _ from hO1).slice
  obtain ⟨y'11, i'11, rfl, -, s'11_2⟩ := (show OwnR _ _ _ _ 1 0 [] _ from hO2).slice
  replace hM := hM.call hb
  refine ⟨_, rfl, ⟨hM.below, hM.blk 5 rfl, hM.blk 4 rfl⟩, ?_⟩
  go_frame
  refine wa_take 6 (some 26) (.tuple #[.agg #[.slice v'11 0 j'11, .slice y'11 0 i'11], .agg (HD.cells HD.zero).toArray, .bool false]) rfl rfl (by kernel_rfl) (by kernel_rfl) (by kernel_rfl) (fun _ _ _ h => h) (by kernel_rfl) (fun w hS => by kernel_rfl) ⟨hM.below, hM.blk 5 rfl, hM.blk 4 rfl⟩ ?_
  go_frame
  refine wa_take 7 (some 33) (.agg #[.slice v'11 0 j'11, .slice y'11 0 i'11]) rfl rfl (by kernel_rfl) (by kernel_rfl) (by kernel_rfl) (fun _ _ _ h => h) (by kernel_rfl) (fun w hS => by kernel_rfl) ⟨hM.below, hM.blk 5 rfl, hM.blk 4 rfl⟩ ?_
  go_frame
  refine wa_take 8 (some 34) (.agg (HD.cells HD.zero).toArray) rfl rfl (by kernel_rfl) (by kernel_rfl) (by kernel_rfl) (fun _ _ _ h => h) (by kernel_rfl) (fun w hS => by kernel_rfl) ⟨hM.below, hM.blk 5 rfl, hM.blk 4 rfl⟩ ?_
  go_frame
  refine wa_take 9 (some 35) (.bool false) rfl rfl (by kernel_rfl) (by kernel_rfl) (by kernel_rfl) (fun _ _ _ h => h) (by kernel_rfl) (fun w hS => by kernel_rfl) ⟨hM.below, hM.blk 5 rfl, hM.blk 4 rfl⟩ ?_
  go_frame
  refine wa_one 12 (by kernel_rfl) ?_
  refine wo_store rfl (by kernel_rfl) hM 1 rfl 33 _ _ rfl rfl (by kernel_rfl) [.slice v'11 0 j'11, .slice y'11 0 i'11] (by kernel_rfl) I_impl_Shared rfl rfl ?_
  clear hM; intro W9 hM
  refine ⟨⟨hM.below, hM.blk 5 rfl, hM.blk 4 rfl⟩, ?_⟩
  refine wa_one 13 (by kernel_rfl) ?_
  refine wo_store rfl (by kernel_rfl) hM 0 rfl 36 _ _ rfl rfl (by kernel_rfl) (HD.cells HD.zero) (by kernel_rfl) I_impl_Hand rfl (hd_one' _) ?_
  clear hM; intro W10 hM
  refine ⟨⟨hM.below, hM.blk 5 rfl, hM.blk 4 rfl⟩, ?_⟩
  refine wa_take 14 (some 10) (.bool false) rfl rfl (by kernel_rfl) (by kernel_rfl) (by kernel_rfl) (fun _ _ _ h => h) (by kernel_rfl) (fun w hS => by kernel_rfl) ⟨hM.below, hM.blk 5 rfl, hM.blk 4 rfl⟩ ?_
  go_frame
  refine wa_doneJ (by kernel_rfl) ?_
  exact ⟨g4, g3, ma'1, mb'2, ka'3, kb'4, pa'5, pb'6, v'11, y'11, j'11, i'11, rfl, hM, ⟨qa'7, qb'8, qc'9, qd'10⟩, ⟨s'11_1, s'11_2⟩⟩
  refine wo_alloc (some 9) rfl rfl (by kernel_rfl) hM 36 rfl (HD.cells HD.zero) Z_impl_Hand ?_
  clear hM; intro g4 W6 hM
  refine ⟨⟨hM.below, hM.blk 5 rfl, hM.blk 4 rfl⟩, ?_⟩
  go_frame
  refine wa_one 4 (by kernel_rfl) ?_
  refine wo_call (some 31) rfl rfl (by kernel_rfl) 7 #[.agg (HD.cells h).toArray] (by kernel_rfl) (toHand_any h _) ?_
  rintro e W7 ⟨rfl, hb⟩
  replace hM := hM.call hb
  refine ⟨_, rfl, ⟨hM.below, hM.blk 5 rfl, hM.blk 4 rfl⟩, ?_⟩
  go_frame
  refine wa_one 5 (by kernel_rfl) ?_
  refine wo_call (some 32) rfl rfl (by kernel_rfl) 5 #[.agg #[.slice (some ⟨ma'1, 0, none⟩) l.length ka'3, .slice (some ⟨mb'2, 0, none⟩) c.length kb'4], .int .i64 task, .agg (HD.cells h).toArray] (by kernel_rfl) (hS _ (.slice (some ⟨ma'1, 0, none⟩) l.length ka'3) (.slice (some ⟨mb'2, 0, none⟩) c.length kb'4) (nsl_blk (hM.blk 2 rfl) qa'7 qb'8) (sli_blk (hM.blk 3 rfl) qc'9 qd'10)) ?_
  rintro e W8 ⟨u', x', rfl, hO1, hO2, hb⟩
  obtain ⟨v'11, j'11, rfl, -, s'11_1⟩ := (show OwnR _ _ _ _ 8 0 [] _ from hO1).slice
  obtain ⟨y'11, i'11, rfl, -, s'11_2⟩ := (show OwnR _ _ _ _ 1 0 [] _ from hO2).slice
  replace hM := hM.call hb
  refine ⟨_, rfl, ⟨hM.below, hM.blk 5 rfl, hM.blk 4 rfl⟩, ?_⟩
  go_frame
  refine wa_take 6 (some 26) (.tuple #[.agg #[.slice v'11 0 j'11, .slice y'11 0 i'11], .agg (HD.cells HD.zero).toArray, .bool false]) rfl rfl (by kernel_rfl) (by kernel_rfl) (by kernel_rfl) (fun _ _ _ h => h) (by kernel_rfl) (fun w hS => by kernel_rfl) ⟨hM.below, hM.blk 5 rfl, hM.blk 4 rfl⟩ ?_
  go_frame
  refine wa_take 7 (some 33) (.agg #[.slice v'11 0 j'11, .slice y'11 0 i'11]) rfl rfl (by kernel_rfl) (by kernel_rfl) (by kernel_rfl) (fun _ _ _ h => h) (by kernel_rfl) (fun w hS => by kernel_rfl) ⟨hM.below, hM.blk 5 rfl, hM.blk 4 rfl⟩ ?_
  go_frame
  refine wa_take 8 (some 34) (.agg (HD.cells HD.zero).toArray) rfl rfl (by kernel_rfl) (by kernel_rfl) (by kernel_rfl) (fun _ _ _ h => h) (by kernel_rfl) (fun w hS => by kernel_rfl) ⟨hM.below, hM.blk 5 rfl, hM.blk 4 rfl⟩ ?_
  go_frame
  refine wa_take 9 (some 35) (.bool false) rfl rfl (by kernel_rfl) (by kernel_rfl) (by kernel_rfl) (fun _ _ _ h => h) (by kernel_rfl) (fun w hS => by kernel_rfl) ⟨hM.below, hM.blk 5 rfl, hM.blk 4 rfl⟩ ?_
  go_frame
  refine wa_one 12 (by kernel_rfl) ?_
  refine wo_store rfl (by kernel_rfl) hM 1 rfl 33 _ _ rfl rfl (by kernel_rfl) [.slice v'11 0 j'11, .slice y'11 0 i'11] (by kernel_rfl) I_impl_Shared rfl rfl ?_
  clear hM; intro W9 hM
  refine ⟨⟨hM.below, hM.blk 5 rfl, hM.blk 4 rfl⟩, ?_⟩
  refine wa_one 13 (by kernel_rfl) ?_
  refine wo_store rfl (by kernel_rfl) hM 0 rfl 36 _ _ rfl rfl (by kernel_rfl) (HD.cells HD.zero) (by kernel_rfl) I_impl_Hand rfl (hd_one' _) ?_
  clear hM; intro W10 hM
  refine ⟨⟨hM.below, hM.blk 5 rfl, hM.blk 4 rfl⟩, ?_⟩
  refine wa_take 14 (some 10) (.bool false) rfl rfl (by kernel_rfl) (by kernel_rfl) (by kernel_rfl) (fun _ _ _ h => h) (by kernel_rfl) (fun w hS => by kernel_rfl) ⟨hM.below, hM.blk 5 rfl, hM.blk 4 rfl⟩ ?_
  go_frame
  refine wa_doneJ (by kernel_rfl) ?_
  exact ⟨g4, g3, ma'1, mb'2, ka'3, kb'4, pa'5, pb'6, v'11, y'11, j'11, i'11, rfl, hM, ⟨qa'7, qb'8, qc'9, qd'10⟩, ⟨s'11_1, s'11_2⟩⟩
  refine wo_alloc (some 9) rfl rfl (by kernel_rfl) hM 36 rfl (HD.cells HD.zero) Z_impl_Hand ?_
  clear hM; intro g3 W5 hM
  refine ⟨⟨hM.below, hM.blk 4 rfl, hM.blk 3 rfl⟩, ?_⟩
  go_frame
  refine wa_two 4 10 (by kernel_rfl) ?_ ?_
  refine wo_call (some 31) rfl rfl (by kernel_rfl) 7 #[.agg (HD.cells h).toArray] (by kernel_rfl) (toHand_any h _) ?_
  rintro e W6 ⟨rfl, hb⟩
  replace hM := hM.call hb
  refine ⟨_, rfl, ⟨hM.below, hM.blk 4 rfl, hM.blk 3 rfl⟩, ?_⟩
  go_frame
  refine wa_two 5 10 (by kernel_rfl) ?_ ?_
  refine wo_call (some 32) rfl rfl (by kernel_rfl) 5 #[.agg #[.slice (some ⟨ma'1, 0, none⟩) l.length ka'3, .slice (some ⟨mb'2, 0, none⟩) c.length kb'4], .int .i64 task, .agg (HD.cells h).toArray] (by kernel_rfl) (hS _ (.slice (some ⟨ma'1, 0, none⟩) l.length ka'3) (.slice (some ⟨mb'2, 0, none⟩) c.length kb'4) (nsl_blk (hM.blk 1 rfl) qa'7 qb'8) (sli_blk (hM.blk 2 rfl) qc'9 qd'10)) ?_
  rintro e W7 ⟨u', x', rfl, hO1, hO2, hb⟩
  obtain ⟨v'11, j'11, rfl, -, s'11_1⟩ := (show OwnR _ _ _ _ 8 0 [] _ from hO1).slice
  obtain ⟨y'11, i'11, rfl, -, s'11_2⟩ := (show OwnR _ _ _ _ 1 0 [] _ from hO2).slice
  replace hM := hM.call hb
  refine ⟨_, rfl, ⟨hM.below, hM.blk 4 rfl, hM.blk 3 rfl⟩, ?_⟩
  go_frame
  refine wa_take 6 (some 26) (.tuple #[.agg #[.slice v'11 0 j'11, .slice y'11 0 i'11], .agg (HD.cells HD.zero).toArray, .bool false]) rfl rfl (by kernel_rfl) (by kernel_rfl) (by kernel_rfl) (fun _ _ _ h => h) (by kernel_rfl) (fun w hS => by kernel_rfl) ⟨hM.below, hM.blk 4 rfl, hM.blk 3 rfl⟩ ?_
  go_frame
  refine wa_take 7 (some 33) (.agg #[.slice v'11 0 j'11, .slice y'11 0 i'11]) rfl rfl (by kernel_rfl) (by kernel_rfl) (by kernel_rfl) (fun _ _ _ h => h) (by kernel_rfl) (fun w hS => by kernel_rfl) ⟨hM.below, hM.blk 4 rfl, hM.blk 3 rfl⟩ ?_
  go_frame
  refine wa_take 8 (some 34) (.agg (HD.cells HD.zero).toArray) rfl rfl (by kernel_rfl) (by kernel_rfl) (by kernel_rfl) (fun _ _ _ h => h) (by kernel_rfl) (fun w hS => by kernel_rfl) ⟨hM.below, hM.blk 4 rfl, hM.blk 3 rfl⟩ ?_
  go_frame
  refine wa_take 9 (some 35) (.bool false) rfl rfl (by kernel_rfl) (by kernel_rfl) (by kernel_rfl) (fun _ _ _ h => h) (by kernel_rfl) (fun w hS => by kernel_rfl) ⟨hM.below, hM.blk 4 rfl, hM.blk 3 rfl⟩ ?_
  go_frame
  refine wa_one 10 (by kernel_rfl) ?_
  refine wo_alloc (some 8) rfl rfl (by kernel_rfl) hM 33 rfl [.slice none 0 0, .slice none 0 0] Z_impl_Shared ?_
  clear hM; intro g4 W8 hM
  refine ⟨⟨hM.below, hM.blk 5 rfl, hM.blk 4 rfl⟩, ?_⟩
  go_frame
  refine wa_one 12 (by kernel_rfl) ?_
  refine wo_store rfl (by kernel_rfl) hM 0 rfl 33 _ _ rfl rfl (by kernel_rfl) [.slice v'11 0 j'11, .slice y'11 0 i'11] (by kernel_rfl) I_impl_Shared rfl rfl ?_
  clear hM; intro W9 hM
  refine ⟨⟨hM.below, hM.blk 5 rfl, hM.blk 4 rfl⟩, ?_⟩
  refine wa_one 13 (by kernel_rfl) ?_
  refine wo_store rfl (by kernel_rfl) hM 1 rfl 36 _ _ rfl rfl (by kernel_rfl) (HD.cells HD.zero) (by kernel_rfl) I_impl_Hand rfl (hd_one' _) ?_
  clear hM; intro W10 hM
  refine ⟨⟨hM.below, hM.blk 5 rfl, hM.blk 4 rfl⟩, ?_⟩
  refine wa_take 14 (some 10) (.bool false) rfl rfl (by kernel_rfl) (by kernel_rfl) (by kernel_rfl) (fun _ _ _ h => h) (by kernel_rfl) (fun w hS => by kernel_rfl) ⟨hM.below, hM.blk 5 rfl, hM.blk 4 rfl⟩ ?_
  go_frame
  refine wa_doneJ (by kernel_rfl) ?_
  replace hM := hM.pull 0 rfl
  replace hM := hM.pull 1 rfl
  exact ⟨g3, g4, ma'1, mb'2, ka'3, kb'4, pa'5, pb'6, v'11, y'11, j'11, i'11, rfl, hM, ⟨qa'7, qb'8, qc'9, qd'10⟩, ⟨s'11_1, s'11_2⟩⟩
  refine wo_alloc (some 8) rfl rfl (by kernel_rfl) hM 33 rfl [.slice none 0 0, .slice none 0 0] Z_impl_Shared ?_
  clear hM; intro g4 W7 hM
  refine ⟨⟨hM.below, hM.blk 5 rfl, hM.blk 4 rfl⟩, ?_⟩
  go_frame
  refine wa_one 5 (by kernel_rfl) ?_
  refine wo_call (some 32) rfl rfl (by kernel_rfl) 5 #[.agg #[.slice (some ⟨ma'1, 0, none⟩) l.length ka'3, .slice (some ⟨mb'2, 0, none⟩) c.length kb'4], .int .i64 task, .agg (HD.cells h).toArray] (by kernel_rfl) (hS _ (.slice (some ⟨ma'1, 0, none⟩) l.length ka'3) (.slice (some ⟨mb'2, 0, none⟩) c.length kb'4) (nsl_blk (hM.blk 2 rfl) qa'7 qb'8) (sli_blk (hM.blk 3 rfl) qc'9 qd'10)) ?_
  rintro e W8 ⟨u', x', rfl, hO1, hO2, hb⟩
  obtain ⟨v'11, j'11, rfl, -, s'11_1⟩ := (show OwnR _ _ _ _ 8 0 [] _ from hO1).slice
  obtain ⟨y'11, i'11, rfl, -, s'11_2⟩ := (show OwnR _ _ _ _ 1 0 [] _ from hO2).slice
  replace hM := hM.call hb
  refine ⟨_, rfl, ⟨hM.below, hM.blk 5 rfl, hM.blk 4 rfl⟩, ?_⟩
  go_frame
  refine wa_take 6 (some 26) (.tuple #[.agg #[.slice v'11 0 j'11, .slice y'11 0 i'11], .agg (HD.cells HD.zero).toArray, .bool false]) rfl rfl (by kernel_rfl) (by kernel_rfl) (by kernel_rfl) (fun _ _ _ h => h) (by kernel_rfl) (fun w hS => by kernel_rfl) ⟨hM.below, hM.blk 5 rfl, hM.blk 4 rfl⟩ ?_
  go_frame
  refine wa_take 7 (some 33) (.agg #[.slice v'11 0 j'11, .slice y'11 0 i'11]) rfl rfl (by kernel_rfl) (by kernel_rfl) (by kernel_rfl) (fun _ _ _ h => h) (by kernel_rfl) (fun w hS => by kernel_rfl) ⟨hM.below, hM.blk 5 rfl, hM.blk 4 rfl⟩ ?_
  go_frame
  refine wa_take 8 (some 34) (.agg (HD.cells HD.zero).toArray) rfl rfl (by kernel_rfl) (by kernel_rfl) (by kernel_rfl) (fun _ _ _ h => h) (by kernel_rfl) (fun w hS => by kernel_rfl) ⟨hM.below, hM.blk 5 rfl, hM.blk 4 rfl⟩ ?_
  go_frame
  refine wa_take 9 (some 35) (.bool false) rfl rfl (by kernel_rfl) (by kernel_rfl) (by kernel_rfl) (fun _ _ _ h => h) (by kernel_rfl) (fun w hS => by kernel_rfl) ⟨hM.below, hM.blk 5 rfl, hM.blk 4 rfl⟩ ?_
  go_frame
  refine wa_one 12 (by kernel_rfl) ?_
  refine wo_store rfl (by kernel_rfl) hM 0 rfl 33 _ _ rfl rfl (by kernel_rfl) [.slice v'11 0 j'11, .slice y'11 0 i'11] (by kernel_rfl) I_impl_Shared rfl rfl ?_
  clear hM; intro W9 hM
  refine ⟨⟨hM.below, hM.blk 5 rfl, hM.blk 4 rfl⟩, ?_⟩
  refine wa_one 13 (by kernel_rfl) ?_
  refine wo_store rfl (by kernel_rfl) hM 1 rfl 36 _ _ rfl rfl (by kernel_rfl) (HD.cells HD.zero) (by kernel_rfl) I_impl_Hand rfl (hd_one' _) ?_
  clear hM; intro W10 hM
  refine ⟨⟨hM.below, hM.blk 5 rfl, hM.blk 4 rfl⟩, ?_⟩
  refine wa_take 14 (some 10) (.bool false) rfl rfl (by kernel_rfl) (by kernel_rfl) (by kernel_rfl) (fun _ _ _ h => h) (by kernel_rfl) (fun w hS => by kernel_rfl) ⟨hM.below, hM.blk 5 rfl, hM.blk 4 rfl⟩ ?_
  go_frame
  refine wa_doneJ (by kernel_rfl) ?_
  replace hM := hM.pull 0 rfl
  replace hM := hM.pull 1 rfl
  exact ⟨g3, g4, ma'1, mb'2, ka'3, kb'4, pa'5, pb'6, v'11, y'11, j'11, i'11, rfl, hM, ⟨qa'7, qb'8, qc'9, qd'10⟩, ⟨s'11_1, s'11_2⟩⟩
  refine wo_alloc (some 8) rfl rfl (by kernel_rfl) hM 33 rfl [.slice none 0 0, .slice none 0 0] Z_impl_Shared ?_
  clear hM; intro g4 W6 hM
  refine ⟨⟨hM.below, hM.blk 5 rfl, hM.blk 4 rfl⟩, ?_⟩
  go_frame
  refine wa_one 4 (by kernel_rfl) ?_
  refine wo_call (some 31) rfl rfl (by kernel_rfl) 7 #[.agg (HD.cells h).toArray] (by kernel_rfl) (toHand_any h _) ?_
  rintro e W7 ⟨rfl, hb⟩
  replace hM := hM.call hb
  refine ⟨_, rfl, ⟨hM.below, hM.blk 5 rfl, hM.blk 4 rfl⟩, ?_⟩
  go_frame
  refine wa_one 5 (by kernel_rfl) ?_
  refine wo_call (some 32) rfl rfl (by kernel_rfl) 5 #[.agg #[.slice (some ⟨ma'1, 0, none⟩) l.length ka'3, .slice (some ⟨mb'2, 0, none⟩) c.length kb'4], .int .i64 task, .agg (HD.cells h).toArray] (by kernel_rfl) (hS _ (.slice (some ⟨ma'1, 0, none⟩) l.length ka'3) (.slice (some ⟨mb'2, 0, none⟩) c.length kb'4) (nsl_blk (hM.blk 2 rfl) qa'7 qb'8) (sli_blk (hM.blk 3 rfl) qc'9 qd'10)) ?_
  rintro e W8 ⟨u', x', rfl, hO1, hO2, hb⟩
  obtain ⟨v'11, j'11, rfl, -, s'11_1⟩ := (show OwnR _ _ _ _ 8 0 [] _ from hO1).slice
  obtain ⟨y'11, i'11, rfl, -, s'11_2⟩ := (show OwnR _ _ _ _ 1 0 [] _ from hO2).slice
  replace hM := hM.call hb
  refine ⟨_, rfl, ⟨hM.below, hM.blk 5 rfl, hM.blk 4 rfl⟩, ?_⟩
  go_frame
  refine wa_take 6 (some 26) (.tuple #[.agg #[.slice v'11 0 j'11, .slice y'11 0 i'11], .agg (HD.cells HD.zero).toArray, .bool false]) rfl rfl (by kernel_rfl) (by kernel_rfl) (by kernel_rfl) (fun _ _ _ h => h) (by kernel_rfl) (fun w hS => by kernel_rfl) ⟨hM.below, hM.blk 5 rfl, hM.blk 4 rfl⟩ ?_
  go_frame
  refine wa_take 7 (some 33) (.agg #[.slice v'11 0 j'11, .slice y'11 0 i'11]) rfl rfl (by kernel_rfl) (by kernel_rfl) (by kernel_rfl) (fun _ _ _ h => h) (by kernel_rfl) (fun w hS => by kernel_rfl) ⟨hM.below, hM.blk 5 rfl, hM.blk 4 rfl⟩ ?_
  go_frame
  refine wa_take 8 (some 34) (.agg (HD.cells HD.zero).toArray) rfl rfl (by kernel_rfl) (by kernel_rfl) (by kernel_rfl) (fun _ _ _ h => h) (by kernel_rfl) (fun w hS => by kernel_rfl) ⟨hM.below, hM.blk 5 rfl, hM.blk 4 rfl⟩ ?_
  go_frame
  refine wa_take 9 (some 35) (.bool false) rfl rfl (by kernel_rfl) (by kernel_rfl) (by kernel_rfl) (fun _ _ _ h => h) (by kernel_rfl) (fun w hS => by kernel_rfl) ⟨hM.below, hM.blk 5 rfl, hM.blk 4 rfl⟩ ?_
  go_frame
  refine wa_one 12 (by kernel_rfl) ?_
  refine wo_store rfl (by kernel_rfl) hM 0 rfl 33 _ _ rfl rfl (by kernel_rfl) [.slice v'11 0 j'11, .slice y'11 0 i'11] (by kernel_rfl) I_impl_Shared rfl rfl ?_
  clear hM; intro W9 hM
  refine ⟨⟨hM.below, hM.blk 5 rfl, hM.blk 4 rfl⟩, ?_⟩
  refine wa_one 13 (by kernel_rfl) ?_
  refine wo_store rfl (by kernel_rfl) hM 1 rfl 36 _ _ rfl rfl (by kernel_rfl) (HD.cells HD.zero) (by kernel_rfl) I_impl_Hand rfl (hd_one' _) ?_
  clear hM; intro W10 hM
  refine ⟨⟨hM.below, hM.blk 5 rfl, hM.blk 4 rfl⟩, ?_⟩
  refine wa_take 14 (some 10) (.bool false) rfl rfl (by kernel_rfl) (by kernel_rfl) (by kernel_rfl) (fun _ _ _ h => h) (by kernel_rfl) (fun w hS => by kernel_rfl) ⟨hM.below, hM.blk 5 rfl, hM.blk 4 rfl⟩ ?_
  go_frame
  refine wa_doneJ (by kernel_rfl) ?_
  replace hM := hM.pull 0 rfl
  replace hM := hM.pull 1 rfl
  exact ⟨g3, g4, ma'1, mb'2, ka'3, kb'4, pa'5, pb'6, v'11, y'11, j'11, i'11, rfl, hM, ⟨qa'7, qb'8, qc'9, qd'10⟩, ⟨s'11_1, s'11_2⟩⟩
  refine wo_alloc (some 8) rfl rfl (by kernel_rfl) hM 33 rfl [.slice none 0 0, .slice none 0 0] Z_impl_Shared ?_
  clear hM; intro g3 W4 hM
  refine ⟨⟨hM.below, hM.blk 2 rfl, hM.blk 1 rfl⟩, ?_⟩
  go_frame
  refine wa_two 1 11 (by kernel_rfl) ?_ ?_
  refine wo_call (some 28) rfl rfl (by kernel_rfl) 6 #[.agg #[.slice ua l.length uc, .slice xa c.length xc]] (by kernel_rfl) (toShared_any (.slice ua l.length uc) (.slice xa c.length xc) l c _ (h1.below hM.below) (h2.below hM.below) hl hc) ?_
  rintro e W5 ⟨ma'1, mb'2, ka'3, kb'4, pa'5, pb'6, rfl, ⟨qa'7, qb'8, qc'9, qd'10, -, -⟩, hMc⟩
  replace hM := hM.join hMc
  refine ⟨_, rfl, ⟨hM.below, hM.blk 4 rfl, hM.blk 3 rfl⟩, ?_⟩
  go_frame
  refine wa_two 4 11 (by kernel_rfl) ?_ ?_
  refine wo_call (some 31) rfl rfl (by kernel_rfl) 7 #[.agg (HD.cells h).toArray] (by kernel_rfl) (toHand_any h _) ?_
  rintro e W6 ⟨rfl, hb⟩
  replace hM := hM.call hb
  refine ⟨_, rfl, ⟨hM.below, hM.blk 4 rfl, hM.blk 3 rfl⟩, ?_⟩
  go_frame
  refine wa_two 5 11 (by kernel_rfl) ?_ ?_
  refine wo_call (some 32) rfl rfl (by kernel_rfl) 5 #[.agg #[.slice (some ⟨ma'1, 0, none⟩) l.length ka'3, .slice (some ⟨mb'2, 0, none⟩) c.length kb'4], .int .i64 task, .agg (HD.cells h).toArray] (by kernel_rfl) (hS _ (.slice (some ⟨ma'1, 0, none⟩) l.length ka'3) (.slice (some ⟨mb'2, 0, none⟩) c.length kb'4) (nsl_blk (hM.blk 0 rfl) qa'7 qb'8) (sli_blk (hM.blk 1 rfl) qc'9 qd'10)) ?_
  rintro e W7 ⟨u', x', rfl, hO1, hO2, hb⟩
  obtain ⟨v'11, j'11, rfl, -, s'11_1⟩ := (show OwnR _ _ _ _ 8 0 [] _ from hO1).slice
  obtain ⟨y'11, i'11, rfl, -, s'11_2⟩ := (show OwnR _ _ _ _ 1 0 [] _ from hO2).slice
  replace hM := hM.call hb
  refine ⟨_, rfl, ⟨hM.below, hM.blk 4 rfl, hM.blk 3 rfl⟩, ?_⟩
  go_frame
  refine wa_take 6 (some 26) (.tuple #[.agg #[.slice v'11 0 j'11, .slice y'11 0 i'11], .agg (HD.cells HD.zero).toArray, .bool false]) rfl rfl (by kernel_rfl) (by kernel_rfl) (by kernel_rfl) (fun _ _ _ h => h) (by kernel_rfl) (fun w hS => by kernel_rfl) ⟨hM.below, hM.blk 4 rfl, hM.blk 3 rfl⟩ ?_
  go_frame
  refine wa_take 7 (some 33) (.agg #[.slice v'11 0 j'11, .slice y'11 0 i'11]) rfl rfl (by kernel_rfl) (by kernel_rfl) (by kernel_rfl) (fun _ _ _ h => h) (by kernel_rfl) (fun w hS => by kernel_rfl) ⟨hM.below, hM.blk 4 rfl, hM.blk 3 rfl⟩ ?_
  go_frame
  refine wa_take 8 (some 34) (.agg (HD.cells HD.zero).toArray) rfl rfl (by kernel_rfl) (by kernel_rfl) (by kernel_rfl) (fun _ _ _ h => h) (by kernel_rfl) (fun w hS => by kernel_rfl) ⟨hM.below, hM.blk 4 rfl, hM.blk 3 rfl⟩ ?_
  go_frame
  refine wa_take 9 (some 35) (.bool false) rfl rfl (by kernel_rfl) (by kernel_rfl) (by kernel_rfl) (fun _ _ _ h => h) (by kernel_rfl) (fun w hS => by kernel_rfl) ⟨hM.below, hM.blk 4 rfl, hM.blk 3 rfl⟩ ?_
  go_frame
  refine wa_one 11 (by kernel_rfl) ?_
  refine wo_alloc (some 9) rfl rfl (by kernel_rfl) hM 36 rfl (HD.cells HD.zero) Z_impl_Hand ?_
  clear hM; intro g4 W8 hM
  refine ⟨⟨hM.below, hM.blk 5 rfl, hM.blk 4 rfl⟩, ?_⟩
  go_frame
  refine wa_one 12 (by kernel_rfl) ?_
  refine wo_store rfl (by kernel_rfl) hM 3 rfl 33 _ _ rfl rfl (by kernel_rfl) [.slice v'11 0 j'11, .slice y'11 0 i'11] (by kernel_rfl) I_impl_Shared rfl rfl ?_
  clear hM; intro W9 hM
  refine ⟨⟨hM.below, hM.blk 5 rfl, hM.blk 4 rfl⟩, ?_⟩
  refine wa_one 13 (by kernel_rfl) ?_
  refine wo_store rfl (by kernel_rfl) hM 0 rfl 36 _ _ rfl rfl (by kernel_rfl) (HD.cells HD.zero) (by kernel_rfl) I_impl_Hand rfl (hd_one' _) ?_
  clear hM; intro W10 hM
  refine ⟨⟨hM.below, hM.blk 5 rfl, hM.blk 4 rfl⟩, ?_⟩
  refine wa_take 14 (some 10) (.bool false) rfl rfl (by kernel_rfl) (by kernel_rfl) (by kernel_rfl) (fun _ _ _ h => h) (by kernel_rfl) (fun w hS => by kernel_rfl) ⟨hM.below, hM.blk 5 rfl, hM.blk 4 rfl⟩ ?_
  go_frame
  refine wa_doneJ (by kernel_rfl) ?_
  replace hM := hM.pull 2 rfl
  replace hM := hM.pull 2 rfl
  replace hM := hM.pull 3 rfl
  replace hM := hM.pull 3 rfl
  exact ⟨g4, g3, ma'1, mb'2, ka'3, kb'4, pa'5, pb'6, v'11, y'11, j'11, i'11, rfl, hM, ⟨qa'7, qb'8, qc'9, qd'10⟩, ⟨s'11_1, s'11_2⟩⟩
  refine wo_alloc (some 9) rfl rfl (by kernel_rfl) hM 36 rfl (HD.cells HD.zero) Z_impl_Hand ?_
  clear hM; intro g4 W7 hM
  refine ⟨⟨hM.below, hM.blk 5 rfl, hM.blk 4 rfl⟩, ?_⟩
  go_frame
  refine wa_one 5 (by kernel_rfl) ?_
  refine wo_call (some 32) rfl rfl (by kernel_rfl) 5 #[.agg #[.slice (some ⟨ma'1, 0, none⟩) l.length ka'3, .slice (some ⟨mb'2, 0, none⟩) c.length kb'4], .int .i64 task, .agg (HD.cells h).toArray] (by kernel_rfl) (hS _ (.slice (some ⟨ma'1, 0, none⟩) l.length ka'3) (.slice (some ⟨mb'2, 0, none⟩) c.length kb'4) (nsl_blk (hM.blk 1 rfl) qa'7 qb'8) (sli_blk (hM.blk 2 rfl) qc'9 qd'10)) ?_
  rintro e W8 ⟨u', x', rfl, hO1, hO2, hb⟩
  obtain ⟨v'11, j'11, rfl, -, s'11_1⟩ := (show OwnR _ _ _ _ 8 0 [] _ from hO1).slice
  obtain ⟨y'11, i'11, rfl, -, s'11_2⟩ := (show OwnR _ _ _ _ 1 0 [] _ from hO2).slice
  replace hM := hM.call hb
  refine ⟨_, rfl, ⟨hM.below, hM.blk 5 rfl, hM.blk 4 rfl⟩, ?_⟩
  go_frame
  refine wa_take 6 (some 26) (.tuple #[.agg #[.slice v'11 0 j'11, .slice y'11 0 i'11], .agg (HD.cells HD.zero).toArray, .bool false]) rfl rfl (by kernel_rfl) (by kernel_rfl) (by kernel_rfl) (fun _ _ _ h => h) (by kernel_rfl) (fun w hS => by kernel_rfl) ⟨hM.below, hM.blk 5 rfl, hM.blk 4 rfl⟩ ?_
  go_frame
  refine wa_take 7 (some 33) (.agg #[.slice v'11 0 j'11, .slice y'11 0 i'11]) rfl rfl (by kernel_rfl) (by kernel_rfl) (by kernel_rfl) (fun _ _ _ h => h) (by kernel_rfl) (fun w hS => by kernel_rfl) ⟨hM.below, hM.blk 5 rfl, hM.blk 4 rfl⟩ ?_
  go_frame
  refine wa_take 8 (some 34) (.agg (HD.cells HD.zero).toArray) rfl rfl (by kernel_rfl) (by kernel_rfl) (by kernel_rfl) (fun _ _ _ h => h) (by kernel_rfl) (fun w hS => by kernel_rfl) ⟨hM.below, hM.blk 5 rfl, hM.blk 4 rfl⟩ ?_
  go_frame
  refine wa_take 9 (some 35) (.bool false) rfl rfl (by kernel_rfl) (by kernel_rfl) (by kernel_rfl) (fun _ _ _ h => h) (by kernel_rfl) (fun w hS => by kernel_rfl) ⟨hM.below, hM.blk 5 rfl, hM.blk 4 rfl⟩ ?_
  go_frame
  refine wa_one 12 (by kernel_rfl) ?_
  refine wo_store rfl (by kernel_rfl) hM 3 rfl 33 _ _ rfl rfl (by kernel_rfl) [.slice v'11 0 j'11, .slice y'11 0 i'11] (by kernel_rfl) I_impl_Shared rfl rfl ?_
  clear hM; intro W9 hM
  refine ⟨⟨hM.below, hM.blk 5 rfl, hM.blk 4 rfl⟩, ?_⟩
  refine wa_one 13 (by kernel_rfl) ?_
  refine wo_store rfl (by kernel_rfl) hM 0 rfl 36 _ _ rfl rfl (by kernel_rfl) (HD.cells HD.zero) (by kernel_rfl) I_impl_Hand rfl (hd_one' _) ?_
  clear hM; intro W10 hM
  refine ⟨⟨hM.below, hM.blk 5 rfl, hM.blk 4 rfl⟩, ?_⟩
  refine wa_take 14 (some 10) (.bool false) rfl rfl (by kernel_rfl) (by kernel_rfl) (by kernel_rfl) (fun _ _ _ h => h) (by kernel_rfl) (fun w hS => by kernel_rfl) ⟨hM.below, hM.blk 5 rfl, hM.blk 4 rfl⟩ ?_
  go_frame
  refine wa_doneJ (by kernel_rfl) ?_
  replace hM := hM.pull 2 rfl
  replace hM := hM.pull 2 rfl
  replace hM := hM.pull 3 rfl
  replace hM := hM.pull 3 rfl
  exact ⟨g4, g3, ma'1, mb'2, ka'3, kb'4, pa'5, pb'6, v'11, y'11, j'11, i'11, rfl, hM, ⟨qa'7, qb'8, qc'9, qd'10⟩, ⟨s'11_1, s'11_2⟩⟩
  refine wo_alloc (some 9) rfl rfl (by kernel_rfl) hM 36 rfl (HD.cells HD.zero) Z_impl_Hand ?_
  clear hM; intro g4 W6 hM
  refine ⟨⟨hM.below, hM.blk 5 rfl, hM.blk 4 rfl⟩, ?_⟩
  go_frame
  refine wa_one 4 (by kernel_rfl) ?_
  refine wo_call (some 31) rfl rfl (by kernel_rfl) 7 #[.agg (HD.cells h).toArray] (by kernel_rfl) (toHand_any h _) ?_
  rintro e W7 ⟨rfl, hb⟩
  replace hM := hM.call hb
  refine ⟨_, rfl, ⟨hM.below, hM.blk 5 rfl, hM.blk 4 rfl⟩, ?_⟩
  go_frame
  refine wa_one 5 (by kernel_rfl) ?_
  refine wo_call (some 32) rfl rfl (by kernel_rfl) 5 #[.agg #[.slice (some ⟨ma'1, 0, none⟩) l.length ka'3, .slice (some ⟨mb'2, 0, none⟩) c.length kb'4], .int .i64 task, .agg (HD.cells h).toArray] (by kernel_rfl) (hS _ (.slice (some ⟨ma'1, 0, none⟩) l.length ka'3) (.slice (some ⟨mb'2, 0, none⟩) c.length kb'4) (nsl_blk (hM.blk 1 rfl) qa'7 qb'8) (sli_blk (hM.blk 2 rfl) qc'9 qd'10)) ?_
  rintro e W8 ⟨u', x', rfl, hO1, hO2, hb⟩
  obtain ⟨v'11, j'11, rfl, -, s'11_1⟩ := (show OwnR _ _ _ _ 8 0 [] _ from hO1).slice
  obtain ⟨y'11, i'11, rfl, -, s'11_2⟩ := (show OwnR _ _ _ _ 1 0 [] _ from hO2).slice
  replace hM := hM.call hb
  refine ⟨_, rfl, ⟨hM.below, hM.blk 5 rfl, hM.blk 4 rfl⟩, ?_⟩
  go_frame
  refine wa_take 6 (some 26) (.tuple #[.agg #[.slice v'11 0 j'11, .slice y'11 0 i'11], .agg (HD.cells HD.zero).toArray, .bool false]) rfl rfl (by kernel_rfl) (by kernel_rfl) (by kernel_rfl) (fun _ _ _ h => h) (by kernel_rfl) (fun w hS => by kernel_rfl) ⟨hM.below, hM.blk 5 rfl, hM.blk 4 rfl⟩ ?_
  go_frame
  refine wa_take 7 (some 33) (.agg #[.slice v'11 0 j'11, .slice y'11 0 i'11]) rfl rfl (by kernel_rfl) (by kernel_rfl) (by kernel_rfl) (fun _ _ _ h => h) (by kernel_rfl) (fun w hS => by kernel_rfl) ⟨hM.below, hM.blk 5 rfl, hM.blk 4 rfl⟩ ?_
  go_frame
  refine wa_take 8 (some 34) (.agg (HD.cells HD.zero).toArray) rfl rfl (by kernel_rfl) (by kernel_rfl) (by kernel_rfl) (fun _ _ _ h => h) (by kernel_rfl) (fun w hS => by kernel_rfl) ⟨hM.below, hM.blk 5 rfl, hM.blk 4 rfl⟩ ?_
  go_frame
  refine wa_take 9 (some 35) (.bool false) rfl rfl (by kernel_rfl) (by kernel_rfl) (by kernel_rfl) (fun _ _ _ h => h) (by kernel_rfl) (fun w hS => by kernel_rfl) ⟨hM.below, hM.blk 5 rfl, hM.blk 4 rfl⟩ ?_
  go_frame
  refine wa_one 12 (by kernel_rfl) ?_
  refine wo_store rfl (by kernel_rfl) hM 3 rfl 33 _ _ rfl rfl (by kernel_rfl) [.slice v'11 0 j'11, .slice y'11 0 i'11] (by kernel_rfl) I_impl_Shared rfl rfl ?_
  clear hM; intro W9 hM
  refine ⟨⟨hM.below, hM.blk 5 rfl, hM.blk 4 rfl⟩, ?_⟩
  refine wa_one 13 (by kernel_rfl) ?_
  refine wo_store rfl (by kernel_rfl) hM 0 rfl 36 _ _ rfl rfl (by kernel_rfl) (HD.cells HD.zero) (by kernel_rfl) I_impl_Hand rfl (hd_one' _) ?_
  clear hM; intro W10 hM
  refine ⟨⟨hM.below, hM.blk 5 rfl, hM.blk 4 rfl⟩, ?_⟩
  refine wa_take 14 (some 10) (.bool false) rfl rfl (by kernel_rfl) (by kernel_rfl) (by kernel_rfl) (fun _ _ _ h => h) (by kernel_rfl) (fun w hS => by kernel_rfl) ⟨hM.below, hM.blk 5 rfl, hM.blk 4 rfl⟩ ?_
  go_frame
  refine wa_doneJ (by kernel_rfl) ?_
  replace hM := hM.pull 2 rfl
  replace hM := hM.pull 2 rfl
  replace hM := hM.pull 3 rfl
  replace hM := hM.pull 3 rfl
  exact ⟨g4, g3, ma'1, mb'2, ka'3, kb'4, pa'5, pb'6, v'11, y'11, j'11, i'11, rfl, hM, ⟨qa'7, qb'8, qc'9, qd'10⟩, ⟨s'11_1, s'11_2⟩⟩
  refine wo_alloc (some 9) rfl rfl (by kernel_rfl) hM 36 rfl (HD.cells HD.zero) Z_impl_Hand ?_
  clear hM; intro g4 W5 hM
  refine ⟨⟨hM.below, hM.blk 3 rfl, hM.blk 2 rfl⟩, ?_⟩
  go_frame
  refine wa_one 1 (by kernel_rfl) ?_
  refine wo_call (some 28) rfl rfl (by kernel_rfl) 6 #[.agg #[.slice ua l.length uc, .slice xa c.length xc]] (by kernel_rfl) (toShared_any (.slice ua l.length uc) (.slice xa c.length xc) l c _ (h1.below hM.below) (h2.below hM.below) hl hc) ?_
  rintro e W6 ⟨ma'1, mb'2, ka'3, kb'4, pa'5, pb'6, rfl, ⟨qa'7, qb'8, qc'9, qd'10, -, -⟩, hMc⟩
  replace hM := hM.join hMc
  refine ⟨_, rfl, ⟨hM.below, hM.blk 5 rfl, hM.blk 4 rfl⟩, ?_⟩
  go_frame
  refine wa_one 4 (by kernel_rfl) ?_
  refine wo_call (some 31) rfl rfl (by kernel_rfl) 7 #[.agg (HD.cells h).toArray] (by kernel_rfl) (toHand_any h _) ?_
  rintro e W7 ⟨rfl, hb⟩
  replace hM := hM.call hb
  refine ⟨_, rfl, ⟨hM.below, hM.blk 5 rfl, hM.blk 4 rfl⟩, ?_⟩
  go_frame
  refine wa_one 5 (by kernel_rfl) ?_
  refine wo_call (some 32) rfl rfl (by kernel_rfl) 5 #[.agg #[.slice (some ⟨ma'1, 0, none⟩) l.length ka'3, .slice (some ⟨mb'2, 0, none⟩) c.length kb'4], .int .i64 task, .agg (HD.cells h).toArray] (by kernel_rfl) (hS _ (.slice (some ⟨ma'1, 0, none⟩) l.length ka'3) (.slice (some ⟨mb'2, 0, none⟩) c.length kb'4) (nsl_blk (hM.blk 0 rfl) qa'7 qb'8) (sli_blk (hM.blk 1 rfl) qc'9 qd'10)) ?_
  rintro e W8 ⟨u', x', rfl, hO1, hO2, hb⟩
  obtain ⟨v'11, j'11, rfl, -, s'11_1⟩ := (show OwnR _ _ _ _ 8 0 [] _ from hO1).slice
  obtain ⟨y'11, i'11, rfl, -, s'11_2⟩ := (show OwnR _ _ _ _ 1 0 [] _ from hO2).slice
  replace hM := hM.call hb
  refine ⟨_, rfl, ⟨hM.below, hM.blk 5 rfl, hM.blk 4 rfl⟩, ?_⟩
  go_frame
  refine wa_take 6 (some 26) (.tuple #[.agg #[.slice v'11 0 j'11, .slice y'11 0 i'11], .agg (HD.cells HD.zero).toArray, .bool false]) rfl rfl (by kernel_rfl) (by kernel_rfl) (by kernel_rfl) (fun _ _ _ h => h) (by kernel_rfl) (fun w hS => by kernel_rfl) ⟨hM.below, hM.blk 5 rfl, hM.blk 4 rfl⟩ ?_
  go_frame
  refine wa_take 7 (some 33) (.agg #[.slice v'11 0 j'11, .slice y'11 0 i'11]) rfl rfl (by kernel_rfl) (by kernel_rfl) (by kernel_rfl) (fun _ _ _ h => h) (by kernel_rfl) (fun w hS => by kernel_rfl) ⟨hM.below, hM.blk 5 rfl, hM.blk 4 rfl⟩ ?_
  go_frame
  refine wa_take 8 (some 34) (.agg (HD.cells HD.zero).toArray) rfl rfl (by kernel_rfl) (by kernel_rfl) (by kernel_rfl) (fun _ _ _ h => h) (by kernel_rfl) (fun w hS => by kernel_rfl) ⟨hM.below, hM.blk 5 rfl, hM.blk 4 rfl⟩ ?_
  go_frame
  refine wa_take 9 (some 35) (.bool false) rfl rfl (by kernel_rfl) (by kernel_rfl) (by kernel_rfl) (fun _ _ _ h => h) (by kernel_rfl) (fun w hS => by kernel_rfl) ⟨hM.below, hM.blk 5 rfl, hM.blk 4 rfl⟩ ?_
  go_frame
  refine wa_one 12 (by kernel_rfl) ?_
  refine wo_store rfl (by kernel_rfl) hM 3 rfl 33 _ _ rfl rfl (by kernel_rfl) [.slice v'11 0 j'11, .slice y'11 0 i'11] (by kernel_rfl) I_impl_Shared rfl rfl ?_
  clear hM; intro W9 hM
  refine ⟨⟨hM.below, hM.blk 5 rfl, hM.blk 4 rfl⟩, ?_⟩
  refine wa_one 13 (by kernel_rfl) ?_
  refine wo_store rfl (by kernel_rfl) hM 2 rfl 36 _ _ rfl rfl (by kernel_rfl) (HD.cells HD.zero) (by kernel_rfl) I_impl_Hand rfl (hd_one' _) ?_
  clear hM; intro W10 hM
  refine ⟨⟨hM.below, hM.blk 5 rfl, hM.blk 4 rfl⟩, ?_⟩
  refine wa_take 14 (some 10) (.bool false) rfl rfl (by kernel_rfl) (by kernel_rfl) (by kernel_rfl) (fun _ _ _ h => h) (by kernel_rfl) (fun w hS => by kernel_rfl) ⟨hM.below, hM.blk 5 rfl, hM.blk 4 rfl⟩ ?_
  go_frame
  refine wa_doneJ (by kernel_rfl) ?_
  replace hM := hM.pull 1 rfl
  replace hM := hM.pull 1 rfl
  replace hM := hM.pull 3 rfl
  replace hM := hM.pull 3 rfl
  exact ⟨g4, g3, ma'1, mb'2, ka'3, kb'4, pa'5, pb'6, v'11, y'11, j'11, i'11, rfl, hM, ⟨qa'7, qb'8, qc'9, qd'10⟩, ⟨s'11_1, s'11_2⟩⟩
  refine wo_alloc (some 9) rfl rfl (by kernel_rfl) hM 36 rfl (HD.cells HD.zero) Z_impl_Hand ?_
  clear hM; intro g3 W4 hM
  refine ⟨⟨hM.below, hM.blk 2 rfl, hM.blk 1 rfl⟩, ?_⟩
  go_frame
  refine wa_two 1 10 (by kernel_rfl) ?_ ?_
  refine wo_call (some 28) rfl rfl (by kernel_rfl) 6 #[.agg #[.slice ua l.length uc, .slice xa c.length xc]] (by kernel_rfl) (toShared_any (.slice ua l.length uc) (.slice xa c.length xc) l c _ (h1.below hM.below) (h2.below hM.below) hl hc) ?_
  rintro e W5 ⟨ma'1, mb'2, ka'3, kb'4, pa'5, pb'6, rfl, ⟨qa'7, qb'8, qc'9, qd'10, -, -⟩, hMc⟩
  replace hM := hM.join hMc
  refine ⟨_, rfl, ⟨hM.below, hM.blk 4 rfl, hM.blk 3 rfl⟩, ?_⟩
  go_frame
  refine wa_two 4 10 (by kernel_rfl) ?_ ?_
  refine wo_call (some 31) rfl rfl (by kernel_rfl) 7 #[.agg (HD.cells h).toArray] (by kernel_rfl) (toHand_any h _) ?_
  rintro e W6 ⟨rfl, hb⟩
  replace hM := hM.call hb
  refine ⟨_, rfl, ⟨hM.below, hM.blk 4 rfl, hM.blk 3 rfl⟩, ?_⟩
  go_frame
  refine wa_two 5 10 (by kernel_rfl) ?_ ?_
  refine wo_call (some 32) rfl rfl (by kernel_rfl) 5 #[.agg #[.slice (some ⟨ma'1, 0, none⟩) l.length ka'3, .slice (some ⟨mb'2, 0, none⟩) c.length kb'4], .int .i64 task, .agg (HD.cells h).toArray] (by kernel_rfl) (hS _ (.slice (some ⟨ma'1, 0, none⟩) l.length ka'3) (.slice (some ⟨mb'2, 0, none⟩) c.length kb'4) (nsl_blk (hM.blk 0 rfl) qa'7 qb'8) (sli_blk (hM.blk 1 rfl) qc'9 qd'10)) ?_
  rintro e W7 ⟨u', x', rfl, hO1, hO2, hb⟩
  obtain ⟨v'11, j'11, rfl, -, s'11_1⟩ := (show OwnR _ _ _ _ 8 0 [] _ from hO1).slice
  obtain ⟨y'11, i'11, rfl, -, s'11_2⟩ := (show OwnR _ _ _ _ 1 0 [] _ from hO2).slice
  replace hM := hM.call hb
  refine ⟨_, rfl, ⟨hM.below, hM.blk 4 rfl, hM.blk 3 rfl⟩, ?_⟩
  go_frame
  refine wa_take 6 (some 26) (.tuple #[.agg #[.slice v'11 0 j'11, .slice y'11 0 i'11], .agg (HD.cells HD.zero).toArray, .bool false]) rfl rfl (by kernel_rfl) (by kernel_rfl) (by kernel_rfl) (fun _ _ _ h => h) (by kernel_rfl) (fun w hS => by kernel_rfl) ⟨hM.below, hM.blk 4 rfl, hM.blk 3 rfl⟩ ?_
  go_frame
  refine wa_take 7 (some 33) (.agg #[.slice v'11 0 j'11, .slice y'11 0 i'11]) rfl rfl (by kernel_rfl) (by kernel_rfl) (by kernel_rfl) (fun _ _ _ h => h) (by kernel_rfl) (fun w hS => by kernel_rfl) ⟨hM.below, hM.blk 4 rfl, hM.blk 3 rfl⟩ ?_
  go_frame
  refine wa_take 8 (some 34) (.agg (HD.cells HD.zero).toArray) rfl rfl (by kernel_rfl) (by kernel_rfl) (by kernel_rfl) (fun _ _ _ h => h) (by kernel_rfl) (fun w hS => by kernel_rfl) ⟨hM.below, hM.blk 4 rfl, hM.blk 3 rfl⟩ ?_
  go_frame
  refine wa_take 9 (some 35) (.bool false) rfl rfl (by kernel_rfl) (by kernel_rfl) (by kernel_rfl) (fun _ _ _ h => h) (by kernel_rfl) (fun w hS => by kernel_rfl) ⟨hM.below, hM.blk 4 rfl, hM.blk 3 rfl⟩ ?_
  go_frame
  refine wa_one 10 (by kernel_rfl) ?_
  refine wo_alloc (some 8) rfl rfl (by kernel_rfl) hM 33 rfl [.slice none 0 0, .slice none 0 0] Z_impl_Shared ?_
  clear hM; intro g4 W8 hM
  refine ⟨⟨hM.below, hM.blk 5 rfl, hM.blk 4 rfl⟩, ?_⟩
  go_frame
  refine wa_one 12 (by kernel_rfl) ?_
  refine wo_store rfl (by kernel_rfl) hM 0 rfl 33 _ _ rfl rfl (by kernel_rfl) [.slice v'11 0 j'11, .slice y'11 0 i'11] (by kernel_rfl) I_impl_Shared rfl rfl ?_
  clear hM; intro W9 hM
  refine ⟨⟨hM.below, hM.blk 5 rfl, hM.blk 4 rfl⟩, ?_⟩
  refine wa_one 13 (by kernel_rfl) ?_
  refine wo_store rfl (by kernel_rfl) hM 3 rfl 36 _ _ rfl rfl (by kernel_rfl) (HD.cells HD.zero) (by kernel_rfl) I_impl_Hand rfl (hd_one' _) ?_
  clear hM; intro W10 hM
  refine ⟨⟨hM.below, hM.blk 5 rfl, hM.blk 4 rfl⟩, ?_⟩
  refine wa_take 14 (some 10) (.bool false) rfl rfl (by kernel_rfl) (by kernel_rfl) (by kernel_rfl) (fun _ _ _ h => h) (by kernel_rfl) (fun w hS => by kernel_rfl) ⟨hM.below, hM.blk 5 rfl, hM.blk 4 rfl⟩ ?_
  go_frame
  refine wa_doneJ (by kernel_rfl) ?_
  replace hM := hM.pull 2 rfl
  replace hM := hM.pull 2 rfl
  replace hM := hM.pull 2 rfl
  replace hM := hM.pull 3 rfl
  exact ⟨g3, g4, ma'1, mb'2, ka'3, kb'4, pa'5, pb'6, v'11, y'11, j'11, i'11, rfl, hM, ⟨qa'7, qb'8, qc'9, qd'10⟩, ⟨s'11_1, s'11_2⟩⟩
  refine wo_alloc (some 8) rfl rfl (by kernel_rfl) hM 33 rfl [.slice none 0 0, .slice none 0 0] Z_impl_Shared ?_
  clear hM; intro g4 W7 hM
  refine ⟨⟨hM.below, hM.blk 5 rfl, hM.blk 4 rfl⟩, ?_⟩
  go_frame
  refine wa_one 5 (by kernel_rfl) ?_
  refine wo_call (some 32) rfl rfl (by kernel_rfl) 5 #[.agg #[.slice (some ⟨ma'1, 0, none⟩) l.length ka'3, .slice (some ⟨mb'2, 0, none⟩) c.length kb'4], .int .i64 task, .agg (HD.cells h).toArray] (by kernel_rfl) (hS _ (.slice (some ⟨ma'1, 0, none⟩) l.length ka'3) (.slice (some ⟨mb'2, 0, none⟩) c.length kb'4) (nsl_blk (hM.blk 1 rfl) qa'7 qb'8) (sli_blk (hM.blk 2 rfl) qc'9 qd'10)) ?_
  rintro e W8 ⟨u', x', rfl, hO1, hO2, hb⟩
  obtain ⟨v'11, j'11, rfl, -, s'11_1⟩ := (show OwnR _ _ _ _ 8 0 [] _ from hO1).slice
  obtain ⟨y'11, i'11, rfl, -, s'11_2⟩ := (show OwnR _ _ _ _ 1 0 [] _ from hO2).slice
  replace hM := hM.call hb
  refine ⟨_, rfl, ⟨hM.below, hM.blk 5 rfl, hM.blk 4 rfl⟩, ?_⟩
  go_frame
  refine wa_take 6 (some 26) (.tuple #[.agg #[.slice v'11 0 j'11, .slice y'11 0 i'11], .agg (HD.cells HD.zero).toArray, .bool false]) rfl rfl (by kernel_rfl) (by kernel_rfl) (by kernel_rfl) (fun _ _ _ h => h) (by kernel_rfl) (fun w hS => by kernel_rfl) ⟨hM.below, hM.blk 5 rfl, hM.blk 4 rfl⟩ ?_
  go_frame
  refine wa_take 7 (some 33) (.agg #[.slice v'11 0 j'11, .slice y'11 0 i'11]) rfl rfl (by kernel_rfl) (by kernel_rfl) (by kernel_rfl) (fun _ _ _ h => h) (by kernel_rfl) (fun w hS => by kernel_rfl) ⟨hM.below, hM.blk 5 rfl, hM.blk 4 rfl⟩ ?_
  go_frame
  refine wa_take 8 (some 34) (.agg (HD.cells HD.zero).toArray) rfl rfl (by kernel_rfl) (by kernel_rfl) (by kernel_rfl) (fun _ _ _ h => h) (by kernel_rfl) (fun w hS => by kernel_rfl) ⟨hM.below, hM.blk 5 rfl, hM.blk 4 rfl⟩ ?_
  go_frame
  refine wa_take 9 (some 35) (.bool false) rfl rfl (by kernel_rfl) (by kernel_rfl) (by kernel_rfl) (fun _ _ _ h => h) (by kernel_rfl) (fun w hS => by kernel_rfl) ⟨hM.below, hM.blk 5 rfl, hM.blk 4 rfl⟩ ?_
  go_frame
  refine wa_one 12 (by kernel_rfl) ?_
  refine wo_store rfl (by kernel_rfl) hM 0 rfl 33 _ _ rfl rfl (by kernel_rfl) [.slice v'11 0 j'11, .slice y'11 0 i'11] (by kernel_rfl) I_impl_Shared rfl rfl ?_
  clear hM; intro W9 hM
  refine ⟨⟨hM.below, hM.blk 5 rfl, hM.blk 4 rfl⟩, ?_⟩
  refine wa_one 13 (by kernel_rfl) ?_
  refine wo_store rfl (by kernel_rfl) hM 3 rfl 36 _ _ rfl rfl (by kernel_rfl) (HD.cells HD.zero) (by kernel_rfl) I_impl_Hand rfl (hd_one' _) ?_
  clear hM; intro W10 hM
  refine ⟨⟨hM.below, hM.blk 5 rfl, hM.blk 4 rfl⟩, ?_⟩
  refine wa_take 14 (some 10) (.bool false) rfl rfl (by kernel_rfl) (by kernel_rfl) (by kernel_rfl) (fun _ _ _ h => h) (by kernel_rfl) (fun w hS => by kernel_rfl) ⟨hM.below, hM.blk 5 rfl, hM.blk 4 rfl⟩ ?_
  go_frame
  refine wa_doneJ (by kernel_rfl) ?_
  replace hM := hM.pull 2 rfl
  replace hM := hM.pull 2 rfl
  replace hM := hM.pull 2 rfl
  replace hM := hM.pull 3 rfl
  exact ⟨g3, g4, ma'1, mb'2, ka'3, kb'4, pa'5, pb'6, v'11, y'11, j'11, i'11, rfl, hM, ⟨qa'7, qb'8, qc'9, qd'10⟩, ⟨s'11_1, s'11_2⟩⟩
  refine wo_alloc (some 8) rfl rfl (by kernel_rfl) hM 33 rfl [.slice none 0 0, .slice none 0 0] Z_impl_Shared ?_
  clear hM; intro g4 W6 hM
  refine ⟨⟨hM.below, hM.blk 5 rfl, hM.blk 4 rfl⟩, ?_⟩
  go_frame
  refine wa_one 4 (by kernel_rfl) ?_
  refine wo_call (some 31) rfl rfl (by kernel_rfl) 7 #[.agg (HD.cells h).toArray] (by kernel_rfl) (toHand_any h _) ?_
  rintro e W7 ⟨rfl, hb⟩
  replace hM := hM.call hb
  refine ⟨_, rfl, ⟨hM.below, hM.blk 5 rfl, hM.blk 4 rfl⟩, ?_⟩
  go_frame
  refine wa_one 5 (by kernel_rfl) ?_
  refine wo_call (some 32) rfl rfl (by kernel_rfl) 5 #[.agg #[.slice (some ⟨ma'1, 0, none⟩) l.length ka'3, .slice (some ⟨mb'2, 0, none⟩) c.length kb'4], .int .i64 task, .agg (HD.cells h).toArray] (by kernel_rfl) (hS _ (.slice (some ⟨ma'1, 0, none⟩) l.length ka'3) (.slice (some ⟨mb'2, 0, none⟩) c.length kb'4) (nsl_blk (hM.blk 1 rfl) qa'7 qb'8) (sli_blk (hM.blk 2 rfl) qc'9 qd'10)) ?_
  rintro e W8 ⟨u', x', rfl, hO1, hO2, hb⟩
  obtain ⟨v'11, j'11, rfl, -, s'11_1⟩ := (show OwnR _ _ _ _ 8 0 [] _ from hO1).slice
  obtain ⟨y'11, i'11, rfl, -, s'11_2⟩ := (show OwnR _ _ _ _ 1 0 [] _ from hO2).slice
  replace hM := hM.call hb
  refine ⟨_, rfl, ⟨hM.below, hM.blk 5 rfl, hM.blk 4 rfl⟩, ?_⟩
  go_frame
  refine wa_take 6 (some 26) (.tuple #[.agg #[.slice v'11 0 j'11, .slice y'11 0 i'11], .agg (HD.cells HD.zero).toArray, .bool false]) rfl rfl (by kernel_rfl) (by kernel_rfl) (by kernel_rfl) (fun _ _ _ h => h) (by kernel_rfl) (fun w hS => by kernel_rfl) ⟨hM.below, hM.blk 5 rfl, hM.blk 4 rfl⟩ ?_
  go_frame
  refine wa_take 7 (some 33) (.agg #[.slice v'11 0 j'11, .slice y'11 0 i'11]) rfl rfl (by kernel_rfl) (by kernel_rfl) (by kernel_rfl) (fun _ _ _ h => h) (by kernel_rfl) (fun w hS => by kernel_rfl) ⟨hM.below, hM.blk 5 rfl, hM.blk 4 rfl⟩ ?_
  go_frame
  refine wa_take 8 (some 34) (.agg (HD.cells HD.zero).toArray) rfl rfl (by kernel_rfl) (by kernel_rfl) (by kernel_rfl) (fun _ _ _ h => h) (by kernel_rfl) (fun w hS => by kernel_rfl) ⟨hM.below, hM.blk 5 rfl, hM.blk 4 rfl⟩ ?_
  go_frame
  refine wa_take 9 (some 35) (.bool false) rfl rfl (by kernel_rfl) (by kernel_rfl) (by kernel_rfl) (fun _ _ _ h => h) (by kernel_rfl) (fun w hS => by kernel_rfl) ⟨hM.below, hM.blk 5 rfl, hM.blk 4 rfl⟩ ?_
  go_frame
  refine wa_one 12 (by kernel_rfl) ?_
  refine wo_store rfl (by kernel_rfl) hM 0 rfl 33 _ _ rfl rfl (by kernel_rfl) [.slice v'11 0 j'11, .slice y'11 0 i'11] (by kernel_rfl) I_impl_Shared rfl rfl ?_
  clear hM; intro W9 hM
  refine ⟨⟨hM.below, hM.blk 5 rfl, hM.blk 4 rfl⟩, ?_⟩
  refine wa_one 13 (by kernel_rfl) ?_
  refine wo_store rfl (by kernel_rfl) hM 3 rfl 36 _ _ rfl rfl (by kernel_rfl) (HD.cells HD.zero) (by kernel_rfl) I_impl_Hand rfl (hd_one' _) ?_
  clear hM; intro W10 hM
  refine ⟨⟨hM.below, hM.blk 5 rfl, hM.blk 4 rfl⟩, ?_⟩
  refine wa_take 14 (some 10) (.bool false) rfl rfl (by kernel_rfl) (by kernel_rfl) (by kernel_rfl) (fun _ _ _ h => h) (by kernel_rfl) (fun w hS => by kernel_rfl) ⟨hM.below, hM.blk 5 rfl, hM.blk 4 rfl⟩ ?_
  go_frame
  refine wa_doneJ (by kernel_rfl) ?_
  replace hM := hM.pull 2 rfl
  replace hM := hM.pull 2 rfl
  replace hM := hM.pull 2 rfl
  replace hM := hM.pull 3 rfl
  exact ⟨g3, g4, ma'1, mb'2, ka'3, kb'4, pa'5, pb'6, v'11, y'11, j'11, i'11, rfl, hM, ⟨qa'7, qb'8, qc'9, qd'10⟩, ⟨s'11_1, s'11_2⟩⟩
  refine wo_alloc (some 8) rfl rfl (by kernel_rfl) hM 33 rfl [.slice none 0 0, .slice none 0 0] Z_impl_Shared ?_
  clear hM; intro g4 W5 hM
  refine ⟨⟨hM.below, hM.blk 3 rfl, hM.blk 2 rfl⟩, ?_⟩
  go_frame
  refine wa_one 1 (by kernel_rfl) ?_
  refine wo_call (some 28) rfl rfl (by kernel_rfl) 6 #[.agg #[.slice ua l.length uc, .slice xa c.length xc]] (by kernel_rfl) (toShared_any (.slice ua l.length uc) (.slice xa c.length xc) l c _ (h1.below hM.below) (h2.below hM.below) hl hc) ?_
  rintro e W6 ⟨ma'1, mb'2, ka'3, kb'4, pa'5, pb'6, rfl, ⟨qa'7, qb'8, qc'9, qd'10, -, -⟩, hMc⟩
  replace hM := hM.join hMc
  refine ⟨_, rfl, ⟨hM.below, hM.blk 5 rfl, hM.blk 4 rfl⟩, ?_⟩
  go_frame
  refine wa_one 4 (by kernel_rfl) ?_
  refine wo_call (some 31) rfl rfl (by kernel_rfl) 7 #[.agg (HD.cells h).toArray] (by kernel_rfl) (toHand_any h _) ?_
  rintro e W7 ⟨rfl, hb⟩
  replace hM := hM.call hb
  refine ⟨_, rfl, ⟨hM.below, hM.blk 5 rfl, hM.blk 4 rfl⟩, ?_⟩
  go_frame
  refine wa_one 5 (by kernel_rfl) ?_
  refine wo_call (some 32) rfl rfl (by kernel_rfl) 5 #[.agg #[.slice (some ⟨ma'1, 0, none⟩) l.length ka'3, .slice (some ⟨mb'2, 0, none⟩) c.length kb'4], .int .i64 task, .agg (HD.cells h).toArray] (by kernel_rfl) (hS _ (.slice (some ⟨ma'1, 0, none⟩) l.length ka'3) (.slice (some ⟨mb'2, 0, none⟩) c.length kb'4) (nsl_blk (hM.blk 0 rfl) qa'7 qb'8) (sli_blk (hM.blk 1 rfl) qc'9 qd'10)) ?_
  rintro e W8 ⟨u', x', rfl, hO1, hO2, hb⟩
  obtain ⟨v'11, j'11, rfl, -, s'11_1⟩ := (show OwnR _ _ _ _ 8 0 [] _ from hO1).slice
  obtain ⟨y'11, i'11, rfl, -, s'11_2⟩ := (show OwnR _ _ _ _ 1 0 [] _ from hO2).slice
  replace hM := hM.call hb
  refine ⟨_, rfl, ⟨hM.below, hM.blk 5 rfl, hM.blk 4 rfl⟩, ?_⟩
  go_frame
  refine wa_take 6 (some 26) (.tuple #[.agg #[.slice v'11 0 j'11, .slice y'11 0 i'11], .agg (HD.cells HD.zero).toArray, .bool false]) rfl rfl (by kernel_rfl) (by kernel_rfl) (by kernel_rfl) (fun _ _ _ h => h) (by kernel_rfl) (fun w hS => by kernel_rfl) ⟨hM.below, hM.blk 5 rfl, hM.blk 4 rfl⟩ ?_
  go_frame
  refine wa_take 7 (some 33) (.agg #[.slice v'11 0 j'11, .slice y'11 0 i'11]) rfl rfl (by kernel_rfl) (by kernel_rfl) (by kernel_rfl) (fun _ _ _ h => h) (by kernel_rfl) (fun w hS => by kernel_rfl) ⟨hM.below, hM.blk 5 rfl, hM.blk 4 rfl⟩ ?_
  go_frame
  refine wa_take 8 (some 34) (.agg (HD.cells HD.zero).toArray) rfl rfl (by kernel_rfl) (by kernel_rfl) (by kernel_rfl) (fun _ _ _ h => h) (by kernel_rfl) (fun w hS => by kernel_rfl) ⟨hM.below, hM.blk 5 rfl, hM.blk 4 rfl⟩ ?_
  go_frame
  refine wa_take 9 (some 35) (.bool false) rfl rfl (by kernel_rfl) (by kernel_rfl) (by kernel_rfl) (fun _ _ _ h => h) (by kernel_rfl) (fun w hS => by kernel_rfl) ⟨hM.below, hM.blk 5 rfl, hM.blk 4 rfl⟩ ?_
  go_frame
  refine wa_one 12 (by kernel_rfl) ?_
  refine wo_store rfl (by kernel_rfl) hM 2 rfl 33 _ _ rfl rfl (by kernel_rfl) [.slice v'11 0 j'11, .slice y'11 0 i'11] (by kernel_rfl) I_impl_Shared rfl rfl ?_
  clear hM; intro W9 hM
  refine ⟨⟨hM.below, hM.blk 5 rfl, hM.blk 4 rfl⟩, ?_⟩
  refine wa_one 13 (by kernel_rfl) ?_
  refine wo_store rfl (by kernel_rfl) hM 3 rfl 36 _ _ rfl rfl (by kernel_rfl) (HD.cells HD.zero) (by kernel_rfl) I_impl_Hand rfl (hd_one' _) ?_
  clear hM; intro W10 hM
  refine ⟨⟨hM.below, hM.blk 5 rfl, hM.blk 4 rfl⟩, ?_⟩
  refine wa_take 14 (some 10) (.bool false) rfl rfl (by kernel_rfl) (by kernel_rfl) (by kernel_rfl) (fun _ _ _ h => h) (by kernel_rfl) (fun w hS => by kernel_rfl) ⟨hM.below, hM.blk 5 rfl, hM.blk 4 rfl⟩ ?_
  go_frame
  refine wa_doneJ (by kernel_rfl) ?_
  replace hM := hM.pull 1 rfl
  replace hM := hM.pull 1 rfl
  replace hM := hM.pull 2 rfl
  replace hM := hM.pull 3 rfl
  exact ⟨g3, g4, ma'1, mb'2, ka'3, kb'4, pa'5, pb'6, v'11, y'11, j'11, i'11, rfl, hM, ⟨qa'7, qb'8, qc'9, qd'10⟩, ⟨s'11_1, s'11_2⟩⟩
end Go.Proofs.Ythllpgjggmdmmaa
