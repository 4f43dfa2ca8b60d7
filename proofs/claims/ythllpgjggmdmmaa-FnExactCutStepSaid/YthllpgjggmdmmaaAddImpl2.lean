/- Adding: the program's touched, where a touch may give up. -/
import Derived.Test.YthllpgjggmdmmaaAddImpl
namespace Go.Proofs.Ythllpgjggmdmmaa
open Go.ChangeShapes Go.WideShapes Go.ChangeAt Go.RowKit
set_option linter.unusedVariables false
set_option linter.unusedSimpArgs false


set_option maxRecDepth 100000 in
set_option maxHeartbeats 4000000 in
theorem touchedG_done (ua : Option Addr) (uc : Nat) (xa : Option Addr) (xc : Nat) (l : List ND) (c : List Int) (task : Int) (h : HD) (bT : Nat) (es : Array MapEntry) (nT : Nat) (w0 : World) (h1 : NSl w0 (.slice ua l.length uc) l) (h2 : SlI w0 (.slice xa c.length xc) c) (hl : l.length ≤ 1048576) (hc : c.length ≤ 1048576) (hTb : Tbl w0 bT es nT) (jt : Nat) (ft : FuncId) (hft : Instr.findNow (.int .i64) (.int .i64 h.at_) es.toList 0 = some (some (jt, .func (.func ft) #[] #[]))) (hE : ∀ (vs : Array Value) (w : World), (callFunc ft vs).run Try.prog w = .ok (.enter ft vs) w) (hok : canB l c task h = true) (lo : List ND) (ho : HD) (hlo : lo.length ≤ 1048576) (hTF : TouchG ft l c task h (.done lo ho)) :
    Calls Try.prog 50 #[.map (some bT), .agg #[.slice ua l.length uc, .slice xa c.length xc], .int .i64 task, h.val] w0 (Says3 (doneR lo c ho) w0) := by
  unfold TouchG at hTF
  unfold HD.val at *
  have hM := Mem.start w0
  obtain ⟨hl0, hc0, hl1, hc1, -⟩ := ok_facts (can_ok hok)
  go_enter Try.func50, Try.ntmps50
  refine wp_seq_k fun Kn1 cn1 => ?_
  refine wl_region ?_
  refine wl_box (by kernel_rfl) hM 33 _ rfl [.slice ua l.length uc, .slice xa c.length xc] rfl ?_
  clear hM; intro g1 W1 hM
  go_frame
  refine wl_box (by kernel_rfl) hM 36 _ rfl (HD.cells h) rfl ?_
  clear hM; intro g2 W2 hM
  go_frame
  refine wl_alloc (by kernel_rfl) hM 33 rfl [.slice none 0 0, .slice none 0 0] Z_impl_Shared ?_
  clear hM; intro g3 W3 hM
  go_frame
  refine wl_alloc (by kernel_rfl) hM 36 rfl (HD.cells HD.zero) Z_impl_Hand ?_
  clear hM; intro g4 W4 hM
  go_frame
  refine wl_pure (by kernel_rfl) (.bool false) (by kernel_rfl) ?_
  go_frame
  refine wl_nil ?_
  refine cn1 _ _ ?_
  clear cn1
  refine wp_seq_k fun Kn2 cn2 => ?_
  refine wl_region ?_
  refine wl_pure (by kernel_rfl) (.map (some bT)) (by kernel_rfl) ?_
  go_frame
  refine wl_pure (by kernel_rfl) (.pointer (some ⟨g2, 0, none⟩)) (by kernel_rfl) ?_
  go_frame
  refine wl_loadc (by kernel_rfl) hM 2 rfl 2 _ rfl 0 rfl Try.underlying2 rfl rfl ?_
  go_frame
  refine wl_look (by kernel_rfl) (hTb.below hM.below hTb.lt) 63 2 90 _ _ rfl Try.underlying63 Try.underlying2 rfl h.at_ rfl jt (.func (.func ft) #[] #[]) hft ?_
  go_frame
  refine wl_pure (by kernel_rfl) (.tuple #[.func (.func ft) #[] #[], .bool true]) (by kernel_rfl) ?_
  go_frame
  refine wl_pure (by kernel_rfl) (.func (.func ft) #[] #[]) (by kernel_rfl) ?_
  go_frame
  refine wl_pure (by kernel_rfl) (.bool true) (by kernel_rfl) ?_
  go_frame
  refine wl_pure (by kernel_rfl) (.func (.func ft) #[] #[]) (by kernel_rfl) ?_
  go_frame
  refine wl_pure (by kernel_rfl) (.bool true) (by kernel_rfl) ?_
  go_frame
  refine wl_nil ?_
  refine cn2 _ _ ?_
  clear cn2
  refine wp_seq_k fun Kn3 cn3 => ?_
  refine wp_seq_k fun Kn4 cn4 => ?_
  refine wl_region ?_
  refine wl_pure (by kernel_rfl) (.bool true) (by kernel_rfl) ?_
  go_frame
  refine wl_pure (by kernel_rfl) (.bool false) (by kernel_rfl) ?_
  go_frame
  refine wl_pure (by kernel_rfl) (.bool false) (by kernel_rfl) ?_
  go_frame
  refine wl_load (by kernel_rfl) hM 3 rfl 33 _ rfl rfl Try.underlying33 I_impl_Shared ?_
  go_frame
  refine wl_pure (by kernel_rfl) (.int .i64 task) (by kernel_rfl) ?_
  go_frame
  refine wl_load (by kernel_rfl) hM 2 rfl 36 _ rfl rfl Try.underlying36 I_impl_Hand ?_
  go_frame
  refine wl_call (by kernel_rfl) 65 #[.agg #[.slice ua l.length uc, .slice xa c.length xc], .int .i64 task, .agg (HD.cells h).toArray] (by kernel_rfl) (impl_canTouch ua uc xa xc l c task h _ (h1.below hM.below) (h2.below hM.below) hl hc) ?_
  rintro e W5 ⟨rfl, hb⟩
  refine ⟨.bool true, congrArg (fun b => Ending.returned (.bool b)) hok, ?_⟩
  replace hM := hM.call hb
  go_frame
  refine wl_pure (by kernel_rfl) (.bool false) (by kernel_rfl) ?_
  go_frame
  refine wl_pure (by kernel_rfl) (.bool false) (by kernel_rfl) ?_
  go_frame
  refine wl_nil ?_
  refine cn4 _ _ ?_
  clear cn4
  refine wp_cond_false rfl ?_
  refine wp_skip ?_
  refine cn3 _ _ ?_
  clear cn3
  refine wp_seq_k fun Kn5 cn5 => ?_
  -- region 4, drawn: one after the other
  refine wa_join (fun act W => ∃ (g6 g5 ma1 m2 : Nat) (m1 : Nat) (k1 : Nat) (k2 : Nat) (p1 : List Value) (p2 : List Value) (ka1 : Nat) (pa1 : List Value), act = ⟨#[.map (some bT), .agg #[.slice ua l.length uc, .slice xa c.length xc], .int .i64 task, .agg (HD.cells h).toArray, undef, .pointer (some ⟨g1, 0, none⟩), undef, .pointer (some ⟨g2, 0, none⟩), .pointer (some ⟨g3, 0, none⟩), .pointer (some ⟨g4, 0, none⟩), .bool false, .func (.func ft) #[] #[], .bool true, .pointer (some ⟨g5, 0, none⟩), .pointer (some ⟨g6, 0, none⟩), .tuple #[.func (.func ft) #[] #[], .bool true], .map (some bT), .pointer (some ⟨g2, 0, none⟩), .int .i64 h.at_, .tuple #[.func (.func ft) #[] #[], .bool true], .func (.func ft) #[] #[], .bool true, .bool true, .bool false, .bool false, .agg #[.slice ua l.length uc, .slice xa c.length xc], .int .i64 task, .agg (HD.cells h).toArray, .bool true, .bool false, .bool false, undef, undef, .tuple #[.agg #[.slice (some ⟨ma1, 0, none⟩) lo.length ka1, .slice (some ⟨m2, 0, none⟩) c.length k2], .agg (HD.cells ho).toArray], .func (.func ft) #[] #[], .agg #[.slice ua l.length uc, .slice xa c.length xc], .agg #[.slice (some ⟨m1, 0, none⟩) l.length k1, .slice (some ⟨m2, 0, none⟩) c.length k2], .int .i64 task, .agg (HD.cells h).toArray, .tuple #[.agg #[.slice (some ⟨ma1, 0, none⟩) lo.length ka1, .slice (some ⟨m2, 0, none⟩) c.length k2], .agg (HD.cells ho).toArray], .agg #[.slice (some ⟨ma1, 0, none⟩) lo.length ka1, .slice (some ⟨m2, 0, none⟩) c.length k2], .agg (HD.cells ho).toArray, undef, undef, undef, undef, undef, undef, undef, undef, undef, undef, undef, undef], []⟩ ∧ Mem w0 W [(g6, 36, (HD.cells ho)), (g5, 33, [.slice (some ⟨ma1, 0, none⟩) lo.length ka1, .slice (some ⟨m2, 0, none⟩) c.length k2]), (ma1, 52, (cellsOf lo ++ pa1)), (m2, 2, (cellsI c ++ p2)), (g4, 36, (HD.cells HD.zero)), (g3, 33, [.slice none 0 0, .slice none 0 0]), (g2, 36, (HD.cells h)), (g1, 33, [.slice ua l.length uc, .slice xa c.length xc])] ∧ (l.length ≤ k1 ∧ k1 ≤ maxLen ∧ c.length ≤ k2 ∧ k2 ≤ maxLen ∧ (cellsOf l ++ p1).length = k1 * 8 ∧ (cellsI c ++ p2).length = k2 * 1) ∧ (lo.length ≤ ka1 ∧ ka1 ≤ maxLen ∧ (cellsOf lo ++ pa1).length = ka1 * 8)) ?_ ?_
  clear hM
  rintro act W12 ⟨g6, g5, ma1, m2, m1, k1, k2, p1, p2, ka1, pa1, rfl, hM, ⟨q1, q2, q3, q4, q5, q6⟩, ⟨qa1, qb1, qe1⟩⟩
  refine cn5 _ _ ?_
  clear cn5
  refine wp_seq_k fun Kn6 cn6 => ?_
  refine wp_seq_k fun Kn7 cn7 => ?_
  refine wl_region ?_
  refine wl_load (by kernel_rfl) hM 1 rfl 33 _ rfl rfl Try.underlying33 I_impl_Shared ?_
  go_frame
  refine wl_call (by kernel_rfl) 66 #[.agg #[.slice (some ⟨ma1, 0, none⟩) lo.length ka1, .slice (some ⟨m2, 0, none⟩) c.length k2]] (by kernel_rfl) (impl_SharedOk (.slice (some ⟨ma1, 0, none⟩) lo.length ka1) (.slice (some ⟨m2, 0, none⟩) c.length k2) lo c _ (nsl_blk (hM.blk 2 rfl) qa1 qb1) (sli_blk (hM.blk 3 rfl) q3 q4) hlo hc) ?_
  rintro e W13 ⟨rfl, hb⟩
  refine ⟨_, rfl, ?_⟩
  replace hM := hM.call hb
  go_frame
  rcases Bool.eq_false_or_eq_true ((sharedB lo c)) with hx23 | hx23
  rw [hx23]
  have hlp : 0 < lo.length := by have h5 := hx23; simp only [sharedB, Bool.and_eq_true] at h5; have := (nodes_some h5.1).1; omega
  refine wl_pure (by kernel_rfl) (.bool false) (by kernel_rfl) ?_
  go_frame
  refine wl_pure (by kernel_rfl) (.bool false) (by kernel_rfl) ?_
  go_frame
  refine wl_load (by kernel_rfl) hM 0 rfl 36 _ rfl rfl Try.underlying36 I_impl_Hand ?_
  go_frame
  refine wl_call (by kernel_rfl) 67 #[.agg (HD.cells ho).toArray] (by kernel_rfl) (impl_HandOk ho _) ?_
  rintro e W14 ⟨rfl, hb⟩
  refine ⟨_, rfl, ?_⟩
  replace hM := hM.call hb
  go_frame
  rcases Bool.eq_false_or_eq_true ((handB ho)) with hx24 | hx24
  rw [hx24]
  refine wl_pure (by kernel_rfl) (.bool false) (by kernel_rfl) ?_
  go_frame
  refine wl_pure (by kernel_rfl) (.bool false) (by kernel_rfl) ?_
  go_frame
  refine wl_nil ?_
  refine cn7 _ _ ?_
  clear cn7
  refine wp_cond_false rfl ?_
  refine wp_skip ?_
  refine cn6 _ _ ?_
  clear cn6
  refine wp_seq_k fun Kn8 cn8 => ?_
  -- region 7, drawn: one after the other
  refine wa_start (fun w => Below w0.heap.size w0 w ∧ Blk w g5 33 [.slice (some ⟨ma1, 0, none⟩) lo.length ka1, .slice (some ⟨m2, 0, none⟩) c.length k2] ∧ Blk w g6 36 (HD.cells ho)) 5 rfl (by kernel_rfl) ?_
  replace hM := hM.drew
  refine wa_take 0 (some 52) (.agg #[.slice (some ⟨ma1, 0, none⟩) lo.length ka1, .slice (some ⟨m2, 0, none⟩) c.length k2]) rfl rfl (by kernel_rfl) (by kernel_rfl) (by kernel_rfl) (fun _ _ _ h => h) (by kernel_rfl) (fun w hS => r_load hS.2.1 33 _ rfl rfl Try.underlying33 I_impl_Shared) ⟨hM.below, hM.blk 1 rfl, hM.blk 0 rfl⟩ ?_
  go_frame
  refine wa_take 1 (some 53) (.agg (HD.cells ho).toArray) rfl rfl (by kernel_rfl) (by kernel_rfl) (by kernel_rfl) (fun _ _ _ h => h) (by kernel_rfl) (fun w hS => r_load hS.2.2 36 _ rfl rfl Try.underlying36 I_impl_Hand) ⟨hM.below, hM.blk 1 rfl, hM.blk 0 rfl⟩ ?_
  go_frame
  refine wa_one 2 (by kernel_rfl) ?_
  refine wo_store rfl (by kernel_rfl) hM 5 rfl 33 _ _ rfl rfl (by kernel_rfl) [.slice (some ⟨ma1, 0, none⟩) lo.length ka1, .slice (some ⟨m2, 0, none⟩) c.length k2] (by kernel_rfl) I_impl_Shared rfl rfl ?_
  clear hM; intro W15 hM
  refine ⟨⟨hM.below, hM.blk 1 rfl, hM.blk 0 rfl⟩, ?_⟩
  refine wa_one 3 (by kernel_rfl) ?_
  refine wo_store rfl (by kernel_rfl) hM 4 rfl 36 _ _ rfl rfl (by kernel_rfl) (HD.cells ho) (by kernel_rfl) I_impl_Hand rfl (hd_one' _) ?_
  clear hM; intro W16 hM
  refine ⟨⟨hM.below, hM.blk 1 rfl, hM.blk 0 rfl⟩, ?_⟩
  refine wa_take 4 (some 10) (.bool true) rfl rfl (by kernel_rfl) (by kernel_rfl) (by kernel_rfl) (fun _ _ _ h => h) (by kernel_rfl) (fun w hS => by kernel_rfl) ⟨hM.below, hM.blk 1 rfl, hM.blk 0 rfl⟩ ?_
  go_frame
  refine wa_done (by kernel_rfl) ?_
  refine cn8 _ _ ?_
  clear cn8
  refine wp_ret ?_
  have hR : doneR lo c ho = (lo, c, ho, true) := by simp [doneR, noR, hok, hx23, hx24]
  rw [hR]
  exact bodyPost_ret (ret_three (p := 8) (q := 9) (u := 10) (v := .bool true) rfl hM 5 4 rfl rfl rfl rfl rfl Try.underlying33 Try.underlying36 I_impl_Shared I_impl_Hand) rfl ⟨_, _, rfl, own_nblk (hM.blk 2 rfl) qa1 qb1 (hM.base 2 rfl) hlp qe1, own_iblk (hM.blk 3 rfl) q3 q4 (hM.base 3 rfl) hc1 q6, hM.below⟩
  rw [hx24]
  refine wl_pure (by kernel_rfl) (.bool true) (by kernel_rfl) ?_
  go_frame
  refine wl_pure (by kernel_rfl) (.bool true) (by kernel_rfl) ?_
  go_frame
  refine wl_nil ?_
  refine cn7 _ _ ?_
  clear cn7
  refine wp_cond_true rfl ?_
  refine wp_seq_k fun Kn8 cn8 => ?_
  refine wl_region ?_
  refine wl_pure (by kernel_rfl) (.agg #[.slice none 0 0, .slice none 0 0]) (by kernel_rfl) ?_
  go_frame
  refine wl_pure (by kernel_rfl) (.agg (HD.cells HD.zero).toArray) (by kernel_rfl) ?_
  go_frame
  refine wl_store (by kernel_rfl) hM 5 rfl 33 _ _ rfl rfl rfl [.slice none 0 0, .slice none 0 0] rfl I_impl_Shared rfl rfl ?_
  clear hM; intro W15 hM
  refine wl_store (by kernel_rfl) hM 4 rfl 36 _ _ rfl rfl rfl (HD.cells HD.zero) rfl I_impl_Hand rfl (hd_one' _) ?_
  clear hM; intro W16 hM
  refine wl_pure (by kernel_rfl) (.bool false) (by kernel_rfl) ?_
  go_frame
  refine wl_nil ?_
  refine cn8 _ _ ?_
  clear cn8
  refine wp_ret ?_
  simp only [Exit.then, Exit.inBlock]
  have hR : doneR lo c ho = ([], [], HD.zero, false) := by simp [doneR, noR, hok, hx23, hx24]
  rw [hR]
  exact bodyPost_ret (ret_three (p := 8) (q := 9) (u := 10) (v := .bool false) rfl hM 5 4 rfl rfl rfl rfl rfl Try.underlying33 Try.underlying36 I_impl_Shared I_impl_Hand) rfl ⟨_, _, rfl, OwnR.nil _ _ _ _ _ _ _ (by simp [maxLen]), OwnR.nil _ _ _ _ _ _ _ (by simp [maxLen]), hM.below⟩
  rw [hx23]
  refine wl_pure (by kernel_rfl) (.bool true) (by kernel_rfl) ?_
  go_frame
  refine wl_pure (by kernel_rfl) (.bool true) (by kernel_rfl) ?_
  go_frame
  refine wl_skip (by kernel_rfl) ?_
  go_frame
  refine wl_skip (by kernel_rfl) ?_
  go_frame
  refine wl_skip (by kernel_rfl) ?_
  go_frame
  refine wl_pure (by kernel_rfl) (.bool true) (by kernel_rfl) ?_
  go_frame
  refine wl_nil ?_
  refine cn7 _ _ ?_
  clear cn7
  refine wp_cond_true rfl ?_
  refine wp_seq_k fun Kn8 cn8 => ?_
  refine wl_region ?_
  refine wl_pure (by kernel_rfl) (.agg #[.slice none 0 0, .slice none 0 0]) (by kernel_rfl) ?_
  go_frame
  refine wl_pure (by kernel_rfl) (.agg (HD.cells HD.zero).toArray) (by kernel_rfl) ?_
  go_frame
  refine wl_store (by kernel_rfl) hM 5 rfl 33 _ _ rfl rfl rfl [.slice none 0 0, .slice none 0 0] rfl I_impl_Shared rfl rfl ?_
  clear hM; intro W14 hM
  refine wl_store (by kernel_rfl) hM 4 rfl 36 _ _ rfl rfl rfl (HD.cells HD.zero) rfl I_impl_Hand rfl (hd_one' _) ?_
  clear hM; intro W15 hM
  refine wl_pure (by kernel_rfl) (.bool false) (by kernel_rfl) ?_
  go_frame
  refine wl_nil ?_
  refine cn8 _ _ ?_
  clear cn8
  refine wp_ret ?_
  simp only [Exit.then, Exit.inBlock]
  have hR : doneR lo c ho = ([], [], HD.zero, false) := by simp [doneR, noR, hok, hx23]
  rw [hR]
  exact bodyPost_ret (ret_three (p := 8) (q := 9) (u := 10) (v := .bool false) rfl hM 5 4 rfl rfl rfl rfl rfl Try.underlying33 Try.underlying36 I_impl_Shared I_impl_Hand) rfl ⟨_, _, rfl, OwnR.nil _ _ _ _ _ _ _ (by simp [maxLen]), OwnR.nil _ _ _ _ _ _ _ (by simp [maxLen]), hM.below⟩
  refine wa_start (fun w => Below w0.heap.size w0 w ∧ Blk w g1 33 [.slice ua l.length uc, .slice xa c.length xc] ∧ Blk w g2 36 (HD.cells h)) 13 rfl (by kernel_rfl) ?_
  replace hM := hM.drew
  refine wa_take 0 (some 34) (.func (.func ft) #[] #[]) rfl rfl (by kernel_rfl) (by kernel_rfl) (by kernel_rfl) (fun _ _ _ h => h) (by kernel_rfl) (fun w hS => by kernel_rfl) ⟨hM.below, hM.blk 3 rfl, hM.blk 2 rfl⟩ ?_
  go_frame
  refine wa_take 1 (some 35) (.agg #[.slice ua l.length uc, .slice xa c.length xc]) rfl rfl (by kernel_rfl) (by kernel_rfl) (by kernel_rfl) (fun _ _ _ h => h) (by kernel_rfl) (fun w hS => r_load hS.2.1 33 _ rfl rfl Try.underlying33 I_impl_Shared) ⟨hM.below, hM.blk 3 rfl, hM.blk 2 rfl⟩ ?_
  go_frame
  refine wa_take 3 (some 37) (.int .i64 task) rfl rfl (by kernel_rfl) (by kernel_rfl) (by kernel_rfl) (fun _ _ _ h => h) (by kernel_rfl) (fun w hS => by kernel_rfl) ⟨hM.below, hM.blk 3 rfl, hM.blk 2 rfl⟩ ?_
  go_frame
  refine wa_take 4 (some 38) (.agg (HD.cells h).toArray) rfl rfl (by kernel_rfl) (by kernel_rfl) (by kernel_rfl) (fun _ _ _ h => h) (by kernel_rfl) (fun w hS => r_load hS.2.2 36 _ rfl rfl Try.underlying36 I_impl_Hand) ⟨hM.below, hM.blk 3 rfl, hM.blk 2 rfl⟩ ?_
  go_frame
  refine wa_three 2 9 10 (by kernel_rfl) ?_ ?_ ?_
  refine wo_call (some 36) rfl rfl (by kernel_rfl) 49 #[.agg #[.slice ua l.length uc, .slice xa c.length xc]] (by kernel_rfl) (impl_copyOf (.slice ua l.length uc) (.slice xa c.length xc) l c _ (h1.below hM.below) (h2.below hM.below) hl0 hc0 hl hc) ?_
  rintro e W6 ⟨m1, m2, k1, k2, p1, p2, rfl, ⟨q1, q2, q3, q4, q5, q6⟩, hMc⟩
  replace hM := hM.join hMc
  refine ⟨_, rfl, ⟨hM.below, hM.blk 5 rfl, hM.blk 4 rfl⟩, ?_⟩
  go_frame
  refine wa_three 5 9 10 (by kernel_rfl) ?_ ?_ ?_
  replace hM := hM.pull 1 rfl
  replace hM := hM.pull 1 rfl
  replace hM : Mem w0 W6 [(m1, 52, (cellsOf l ++ p1)), (m2, 2, (cellsI c ++ p2)), (g4, 36, (HD.cells HD.zero)), (g3, 33, [.slice none 0 0, .slice none 0 0]), (g2, 36, (HD.cells h)), (g1, 33, [.slice ua l.length uc, .slice xa c.length xc])] := hM
  refine wo_call (some 39) rfl rfl (by kernel_rfl) ft #[.agg #[.slice (some ⟨m1, 0, none⟩) l.length k1, .slice (some ⟨m2, 0, none⟩) c.length k2], .int .i64 task, .agg (HD.cells h).toArray] (r_callfn rfl _ rfl (by kernel_rfl) _ (by kernel_rfl) hE) (hTF _ _ _ _ _ _ _ _ _ hM q1 q2 q3 q4 q5 q6) ?_
  rintro e W7 ⟨ma1, ka1, pa1, rfl, ⟨qa1, qb1, qe1⟩, hM2⟩
  clear hM; have hM := hM2; clear hM2
  refine ⟨_, rfl, ⟨hM.below, hM.blk 5 rfl, hM.blk 4 rfl⟩, ?_⟩
  go_frame
  refine wa_take 6 (some 33) (.tuple #[.agg #[.slice (some ⟨ma1, 0, none⟩) lo.length ka1, .slice (some ⟨m2, 0, none⟩) c.length k2], .agg (HD.cells ho).toArray]) rfl rfl (by kernel_rfl) (by kernel_rfl) (by kernel_rfl) (fun _ _ _ h => h) (by kernel_rfl) (fun w hS => by kernel_rfl) ⟨hM.below, hM.blk 5 rfl, hM.blk 4 rfl⟩ ?_
  go_frame
  refine wa_take 7 (some 40) (.agg #[.slice (some ⟨ma1, 0, none⟩) lo.length ka1, .slice (some ⟨m2, 0, none⟩) c.length k2]) rfl rfl (by kernel_rfl) (by kernel_rfl) (by kernel_rfl) (fun _ _ _ h => h) (by kernel_rfl) (fun w hS => by kernel_rfl) ⟨hM.below, hM.blk 5 rfl, hM.blk 4 rfl⟩ ?_
  go_frame
  refine wa_take 8 (some 41) (.agg (HD.cells ho).toArray) rfl rfl (by kernel_rfl) (by kernel_rfl) (by kernel_rfl) (fun _ _ _ h => h) (by kernel_rfl) (fun w hS => by kernel_rfl) ⟨hM.below, hM.blk 5 rfl, hM.blk 4 rfl⟩ ?_
  go_frame
  refine wa_two 9 10 (by kernel_rfl) ?_ ?_
  refine wo_alloc (some 13) rfl rfl (by kernel_rfl) hM 33 rfl [.slice none 0 0, .slice none 0 0] Z_impl_Shared ?_
  clear hM; intro g5 W8 hM
  refine ⟨⟨hM.below, hM.blk 6 rfl, hM.blk 5 rfl⟩, ?_⟩
  go_frame
  refine wa_one 10 (by kernel_rfl) ?_
  refine wo_alloc (some 14) rfl rfl (by kernel_rfl) hM 36 rfl (HD.cells HD.zero) Z_impl_Hand ?_
  clear hM; intro g6 W9 hM
  refine ⟨⟨hM.below, hM.blk 7 rfl, hM.blk 6 rfl⟩, ?_⟩
  go_frame
  refine wa_one 11 (by kernel_rfl) ?_
  refine wo_store rfl (by kernel_rfl) hM 1 rfl 33 _ _ rfl rfl (by kernel_rfl) [.slice (some ⟨ma1, 0, none⟩) lo.length ka1, .slice (some ⟨m2, 0, none⟩) c.length k2] (by kernel_rfl) I_impl_Shared rfl rfl ?_
  clear hM; intro W10 hM
  refine ⟨⟨hM.below, hM.blk 7 rfl, hM.blk 6 rfl⟩, ?_⟩
  refine wa_one 12 (by kernel_rfl) ?_
  refine wo_store rfl (by kernel_rfl) hM 0 rfl 36 _ _ rfl rfl (by kernel_rfl) (HD.cells ho) (by kernel_rfl) I_impl_Hand rfl (hd_one' _) ?_
  clear hM; intro W11 hM
  refine ⟨⟨hM.below, hM.blk 7 rfl, hM.blk 6 rfl⟩, ?_⟩
  refine wa_doneJ (by kernel_rfl) ?_
  exact ⟨g6, g5, ma1, m2, m1, k1, k2, p1, p2, ka1, pa1, rfl, hM, ⟨q1, q2, q3, q4, q5, q6⟩, ⟨qa1, qb1, qe1⟩⟩
  refine wo_alloc (some 14) rfl rfl (by kernel_rfl) hM 36 rfl (HD.cells HD.zero) Z_impl_Hand ?_
  clear hM; intro g5 W8 hM
  refine ⟨⟨hM.below, hM.blk 6 rfl, hM.blk 5 rfl⟩, ?_⟩
  go_frame
  refine wa_one 9 (by kernel_rfl) ?_
  refine wo_alloc (some 13) rfl rfl (by kernel_rfl) hM 33 rfl [.slice none 0 0, .slice none 0 0] Z_impl_Shared ?_
  clear hM; intro g6 W9 hM
  refine ⟨⟨hM.below, hM.blk 7 rfl, hM.blk 6 rfl⟩, ?_⟩
  go_frame
  refine wa_one 11 (by kernel_rfl) ?_
  refine wo_store rfl (by kernel_rfl) hM 0 rfl 33 _ _ rfl rfl (by kernel_rfl) [.slice (some ⟨ma1, 0, none⟩) lo.length ka1, .slice (some ⟨m2, 0, none⟩) c.length k2] (by kernel_rfl) I_impl_Shared rfl rfl ?_
  clear hM; intro W10 hM
  refine ⟨⟨hM.below, hM.blk 7 rfl, hM.blk 6 rfl⟩, ?_⟩
  refine wa_one 12 (by kernel_rfl) ?_
  refine wo_store rfl (by kernel_rfl) hM 1 rfl 36 _ _ rfl rfl (by kernel_rfl) (HD.cells ho) (by kernel_rfl) I_impl_Hand rfl (hd_one' _) ?_
  clear hM; intro W11 hM
  refine ⟨⟨hM.below, hM.blk 7 rfl, hM.blk 6 rfl⟩, ?_⟩
  refine wa_doneJ (by kernel_rfl) ?_
  replace hM := hM.pull 0 rfl
  replace hM := hM.pull 1 rfl
  exact ⟨g5, g6, ma1, m2, m1, k1, k2, p1, p2, ka1, pa1, rfl, hM, ⟨q1, q2, q3, q4, q5, q6⟩, ⟨qa1, qb1, qe1⟩⟩
  refine wo_alloc (some 13) rfl rfl (by kernel_rfl) hM 33 rfl [.slice none 0 0, .slice none 0 0] Z_impl_Shared ?_
  clear hM; intro g5 W7 hM
  refine ⟨⟨hM.below, hM.blk 6 rfl, hM.blk 5 rfl⟩, ?_⟩
  go_frame
  refine wa_two 5 10 (by kernel_rfl) ?_ ?_
  replace hM := hM.pull 2 rfl
  replace hM := hM.pull 2 rfl
  replace hM : Mem w0 W7 [(m1, 52, (cellsOf l ++ p1)), (m2, 2, (cellsI c ++ p2)), (g5, 33, [.slice none 0 0, .slice none 0 0]), (g4, 36, (HD.cells HD.zero)), (g3, 33, [.slice none 0 0, .slice none 0 0]), (g2, 36, (HD.cells h)), (g1, 33, [.slice ua l.length uc, .slice xa c.length xc])] := hM
  refine wo_call (some 39) rfl rfl (by kernel_rfl) ft #[.agg #[.slice (some ⟨m1, 0, none⟩) l.length k1, .slice (some ⟨m2, 0, none⟩) c.length k2], .int .i64 task, .agg (HD.cells h).toArray] (r_callfn rfl _ rfl (by kernel_rfl) _ (by kernel_rfl) hE) (hTF _ _ _ _ _ _ _ _ _ hM q1 q2 q3 q4 q5 q6) ?_
  rintro e W8 ⟨ma1, ka1, pa1, rfl, ⟨qa1, qb1, qe1⟩, hM2⟩
  clear hM; have hM := hM2; clear hM2
  refine ⟨_, rfl, ⟨hM.below, hM.blk 6 rfl, hM.blk 5 rfl⟩, ?_⟩
  go_frame
  refine wa_take 6 (some 33) (.tuple #[.agg #[.slice (some ⟨ma1, 0, none⟩) lo.length ka1, .slice (some ⟨m2, 0, none⟩) c.length k2], .agg (HD.cells ho).toArray]) rfl rfl (by kernel_rfl) (by kernel_rfl) (by kernel_rfl) (fun _ _ _ h => h) (by kernel_rfl) (fun w hS => by kernel_rfl) ⟨hM.below, hM.blk 6 rfl, hM.blk 5 rfl⟩ ?_
  go_frame
  refine wa_take 7 (some 40) (.agg #[.slice (some ⟨ma1, 0, none⟩) lo.length ka1, .slice (some ⟨m2, 0, none⟩) c.length k2]) rfl rfl (by kernel_rfl) (by kernel_rfl) (by kernel_rfl) (fun _ _ _ h => h) (by kernel_rfl) (fun w hS => by kernel_rfl) ⟨hM.below, hM.blk 6 rfl, hM.blk 5 rfl⟩ ?_
  go_frame
  refine wa_take 8 (some 41) (.agg (HD.cells ho).toArray) rfl rfl (by kernel_rfl) (by kernel_rfl) (by kernel_rfl) (fun _ _ _ h => h) (by kernel_rfl) (fun w hS => by kernel_rfl) ⟨hM.below, hM.blk 6 rfl, hM.blk 5 rfl⟩ ?_
  go_frame
  refine wa_one 10 (by kernel_rfl) ?_
  refine wo_alloc (some 14) rfl rfl (by kernel_rfl) hM 36 rfl (HD.cells HD.zero) Z_impl_Hand ?_
  clear hM; intro g6 W9 hM
  refine ⟨⟨hM.below, hM.blk 7 rfl, hM.blk 6 rfl⟩, ?_⟩
  go_frame
  refine wa_one 11 (by kernel_rfl) ?_
  refine wo_store rfl (by kernel_rfl) hM 3 rfl 33 _ _ rfl rfl (by kernel_rfl) [.slice (some ⟨ma1, 0, none⟩) lo.length ka1, .slice (some ⟨m2, 0, none⟩) c.length k2] (by kernel_rfl) I_impl_Shared rfl rfl ?_
  clear hM; intro W10 hM
  refine ⟨⟨hM.below, hM.blk 7 rfl, hM.blk 6 rfl⟩, ?_⟩
  refine wa_one 12 (by kernel_rfl) ?_
  refine wo_store rfl (by kernel_rfl) hM 0 rfl 36 _ _ rfl rfl (by kernel_rfl) (HD.cells ho) (by kernel_rfl) I_impl_Hand rfl (hd_one' _) ?_
  clear hM; intro W11 hM
  refine ⟨⟨hM.below, hM.blk 7 rfl, hM.blk 6 rfl⟩, ?_⟩
  refine wa_doneJ (by kernel_rfl) ?_
  replace hM := hM.pull 2 rfl
  replace hM := hM.pull 2 rfl
  replace hM := hM.pull 3 rfl
  replace hM := hM.pull 3 rfl
  exact ⟨g6, g5, ma1, m2, m1, k1, k2, p1, p2, ka1, pa1, rfl, hM, ⟨q1, q2, q3, q4, q5, q6⟩, ⟨qa1, qb1, qe1⟩⟩
  refine wo_alloc (some 14) rfl rfl (by kernel_rfl) hM 36 rfl (HD.cells HD.zero) Z_impl_Hand ?_
  clear hM; intro g6 W8 hM
  refine ⟨⟨hM.below, hM.blk 7 rfl, hM.blk 6 rfl⟩, ?_⟩
  go_frame
  refine wa_one 5 (by kernel_rfl) ?_
  replace hM := hM.pull 3 rfl
  replace hM := hM.pull 3 rfl
  replace hM : Mem w0 W8 [(m1, 52, (cellsOf l ++ p1)), (m2, 2, (cellsI c ++ p2)), (g6, 36, (HD.cells HD.zero)), (g5, 33, [.slice none 0 0, .slice none 0 0]), (g4, 36, (HD.cells HD.zero)), (g3, 33, [.slice none 0 0, .slice none 0 0]), (g2, 36, (HD.cells h)), (g1, 33, [.slice ua l.length uc, .slice xa c.length xc])] := hM
  refine wo_call (some 39) rfl rfl (by kernel_rfl) ft #[.agg #[.slice (some ⟨m1, 0, none⟩) l.length k1, .slice (some ⟨m2, 0, none⟩) c.length k2], .int .i64 task, .agg (HD.cells h).toArray] (r_callfn rfl _ rfl (by kernel_rfl) _ (by kernel_rfl) hE) (hTF _ _ _ _ _ _ _ _ _ hM q1 q2 q3 q4 q5 q6) ?_
  rintro e W9 ⟨ma1, ka1, pa1, rfl, ⟨qa1, qb1, qe1⟩, hM2⟩
  clear hM; have hM := hM2; clear hM2
  refine ⟨_, rfl, ⟨hM.below, hM.blk 7 rfl, hM.blk 6 rfl⟩, ?_⟩
  go_frame
  refine wa_take 6 (some 33) (.tuple #[.agg #[.slice (some ⟨ma1, 0, none⟩) lo.length ka1, .slice (some ⟨m2, 0, none⟩) c.length k2], .agg (HD.cells ho).toArray]) rfl rfl (by kernel_rfl) (by kernel_rfl) (by kernel_rfl) (fun _ _ _ h => h) (by kernel_rfl) (fun w hS => by kernel_rfl) ⟨hM.below, hM.blk 7 rfl, hM.blk 6 rfl⟩ ?_
  go_frame
  refine wa_take 7 (some 40) (.agg #[.slice (some ⟨ma1, 0, none⟩) lo.length ka1, .slice (some ⟨m2, 0, none⟩) c.length k2]) rfl rfl (by kernel_rfl) (by kernel_rfl) (by kernel_rfl) (fun _ _ _ h => h) (by kernel_rfl) (fun w hS => by kernel_rfl) ⟨hM.below, hM.blk 7 rfl, hM.blk 6 rfl⟩ ?_
  go_frame
  refine wa_take 8 (some 41) (.agg (HD.cells ho).toArray) rfl rfl (by kernel_rfl) (by kernel_rfl) (by kernel_rfl) (fun _ _ _ h => h) (by kernel_rfl) (fun w hS => by kernel_rfl) ⟨hM.below, hM.blk 7 rfl, hM.blk 6 rfl⟩ ?_
  go_frame
  refine wa_one 11 (by kernel_rfl) ?_
  refine wo_store rfl (by kernel_rfl) hM 3 rfl 33 _ _ rfl rfl (by kernel_rfl) [.slice (some ⟨ma1, 0, none⟩) lo.length ka1, .slice (some ⟨m2, 0, none⟩) c.length k2] (by kernel_rfl) I_impl_Shared rfl rfl ?_
  clear hM; intro W10 hM
  refine ⟨⟨hM.below, hM.blk 7 rfl, hM.blk 6 rfl⟩, ?_⟩
  refine wa_one 12 (by kernel_rfl) ?_
  refine wo_store rfl (by kernel_rfl) hM 2 rfl 36 _ _ rfl rfl (by kernel_rfl) (HD.cells ho) (by kernel_rfl) I_impl_Hand rfl (hd_one' _) ?_
  clear hM; intro W11 hM
  refine ⟨⟨hM.below, hM.blk 7 rfl, hM.blk 6 rfl⟩, ?_⟩
  refine wa_doneJ (by kernel_rfl) ?_
  replace hM := hM.pull 1 rfl
  replace hM := hM.pull 1 rfl
  replace hM := hM.pull 3 rfl
  replace hM := hM.pull 3 rfl
  exact ⟨g6, g5, ma1, m2, m1, k1, k2, p1, p2, ka1, pa1, rfl, hM, ⟨q1, q2, q3, q4, q5, q6⟩, ⟨qa1, qb1, qe1⟩⟩
  refine wo_alloc (some 14) rfl rfl (by kernel_rfl) hM 36 rfl (HD.cells HD.zero) Z_impl_Hand ?_
  clear hM; intro g5 W7 hM
  refine ⟨⟨hM.below, hM.blk 6 rfl, hM.blk 5 rfl⟩, ?_⟩
  go_frame
  refine wa_two 5 9 (by kernel_rfl) ?_ ?_
  replace hM := hM.pull 2 rfl
  replace hM := hM.pull 2 rfl
  replace hM : Mem w0 W7 [(m1, 52, (cellsOf l ++ p1)), (m2, 2, (cellsI c ++ p2)), (g5, 36, (HD.cells HD.zero)), (g4, 36, (HD.cells HD.zero)), (g3, 33, [.slice none 0 0, .slice none 0 0]), (g2, 36, (HD.cells h)), (g1, 33, [.slice ua l.length uc, .slice xa c.length xc])] := hM
  refine wo_call (some 39) rfl rfl (by kernel_rfl) ft #[.agg #[.slice (some ⟨m1, 0, none⟩) l.length k1, .slice (some ⟨m2, 0, none⟩) c.length k2], .int .i64 task, .agg (HD.cells h).toArray] (r_callfn rfl _ rfl (by kernel_rfl) _ (by kernel_rfl) hE) (hTF _ _ _ _ _ _ _ _ _ hM q1 q2 q3 q4 q5 q6) ?_
  rintro e W8 ⟨ma1, ka1, pa1, rfl, ⟨qa1, qb1, qe1⟩, hM2⟩
  clear hM; have hM := hM2; clear hM2
  refine ⟨_, rfl, ⟨hM.below, hM.blk 6 rfl, hM.blk 5 rfl⟩, ?_⟩
  go_frame
  refine wa_take 6 (some 33) (.tuple #[.agg #[.slice (some ⟨ma1, 0, none⟩) lo.length ka1, .slice (some ⟨m2, 0, none⟩) c.length k2], .agg (HD.cells ho).toArray]) rfl rfl (by kernel_rfl) (by kernel_rfl) (by kernel_rfl) (fun _ _ _ h => h) (by kernel_rfl) (fun w hS => by kernel_rfl) ⟨hM.below, hM.blk 6 rfl, hM.blk 5 rfl⟩ ?_
  go_frame
  refine wa_take 7 (some 40) (.agg #[.slice (some ⟨ma1, 0, none⟩) lo.length ka1, .slice (some ⟨m2, 0, none⟩) c.length k2]) rfl rfl (by kernel_rfl) (by kernel_rfl) (by kernel_rfl) (fun _ _ _ h => h) (by kernel_rfl) (fun w hS => by kernel_rfl) ⟨hM.below, hM.blk 6 rfl, hM.blk 5 rfl⟩ ?_
  go_frame
  refine wa_take 8 (some 41) (.agg (HD.cells ho).toArray) rfl rfl (by kernel_rfl) (by kernel_rfl) (by kernel_rfl) (fun _ _ _ h => h) (by kernel_rfl) (fun w hS => by kernel_rfl) ⟨hM.below, hM.blk 6 rfl, hM.blk 5 rfl⟩ ?_
  go_frame
  refine wa_one 9 (by kernel_rfl) ?_
  refine wo_alloc (some 13) rfl rfl (by kernel_rfl) hM 33 rfl [.slice none 0 0, .slice none 0 0] Z_impl_Shared ?_
  clear hM; intro g6 W9 hM
  refine ⟨⟨hM.below, hM.blk 7 rfl, hM.blk 6 rfl⟩, ?_⟩
  go_frame
  refine wa_one 11 (by kernel_rfl) ?_
  refine wo_store rfl (by kernel_rfl) hM 0 rfl 33 _ _ rfl rfl (by kernel_rfl) [.slice (some ⟨ma1, 0, none⟩) lo.length ka1, .slice (some ⟨m2, 0, none⟩) c.length k2] (by kernel_rfl) I_impl_Shared rfl rfl ?_
  clear hM; intro W10 hM
  refine ⟨⟨hM.below, hM.blk 7 rfl, hM.blk 6 rfl⟩, ?_⟩
  refine wa_one 12 (by kernel_rfl) ?_
  refine wo_store rfl (by kernel_rfl) hM 3 rfl 36 _ _ rfl rfl (by kernel_rfl) (HD.cells ho) (by kernel_rfl) I_impl_Hand rfl (hd_one' _) ?_
  clear hM; intro W11 hM
  refine ⟨⟨hM.below, hM.blk 7 rfl, hM.blk 6 rfl⟩, ?_⟩
  refine wa_doneJ (by kernel_rfl) ?_
  replace hM := hM.pull 2 rfl
  replace hM := hM.pull 2 rfl
  replace hM := hM.pull 2 rfl
  replace hM := hM.pull 3 rfl
  exact ⟨g5, g6, ma1, m2, m1, k1, k2, p1, p2, ka1, pa1, rfl, hM, ⟨q1, q2, q3, q4, q5, q6⟩, ⟨qa1, qb1, qe1⟩⟩
  refine wo_alloc (some 13) rfl rfl (by kernel_rfl) hM 33 rfl [.slice none 0 0, .slice none 0 0] Z_impl_Shared ?_
  clear hM; intro g6 W8 hM
  refine ⟨⟨hM.below, hM.blk 7 rfl, hM.blk 6 rfl⟩, ?_⟩
  go_frame
  refine wa_one 5 (by kernel_rfl) ?_
  replace hM := hM.pull 3 rfl
  replace hM := hM.pull 3 rfl
  replace hM : Mem w0 W8 [(m1, 52, (cellsOf l ++ p1)), (m2, 2, (cellsI c ++ p2)), (g6, 33, [.slice none 0 0, .slice none 0 0]), (g5, 36, (HD.cells HD.zero)), (g4, 36, (HD.cells HD.zero)), (g3, 33, [.slice none 0 0, .slice none 0 0]), (g2, 36, (HD.cells h)), (g1, 33, [.slice ua l.length uc, .slice xa c.length xc])] := hM
  refine wo_call (some 39) rfl rfl (by kernel_rfl) ft #[.agg #[.slice (some ⟨m1, 0, none⟩) l.length k1, .slice (some ⟨m2, 0, none⟩) c.length k2], .int .i64 task, .agg (HD.cells h).toArray] (r_callfn rfl _ rfl (by kernel_rfl) _ (by kernel_rfl) hE) (hTF _ _ _ _ _ _ _ _ _ hM q1 q2 q3 q4 q5 q6) ?_
  rintro e W9 ⟨ma1, ka1, pa1, rfl, ⟨qa1, qb1, qe1⟩, hM2⟩
  clear hM; have hM := hM2; clear hM2
  refine ⟨_, rfl, ⟨hM.below, hM.blk 7 rfl, hM.blk 6 rfl⟩, ?_⟩
  go_frame
  refine wa_take 6 (some 33) (.tuple #[.agg #[.slice (some ⟨ma1, 0, none⟩) lo.length ka1, .slice (some ⟨m2, 0, none⟩) c.length k2], .agg (HD.cells ho).toArray]) rfl rfl (by kernel_rfl) (by kernel_rfl) (by kernel_rfl) (fun _ _ _ h => h) (by kernel_rfl) (fun w hS => by kernel_rfl) ⟨hM.below, hM.blk 7 rfl, hM.blk 6 rfl⟩ ?_
  go_frame
  refine wa_take 7 (some 40) (.agg #[.slice (some ⟨ma1, 0, none⟩) lo.length ka1, .slice (some ⟨m2, 0, none⟩) c.length k2]) rfl rfl (by kernel_rfl) (by kernel_rfl) (by kernel_rfl) (fun _ _ _ h => h) (by kernel_rfl) (fun w hS => by kernel_rfl) ⟨hM.below, hM.blk 7 rfl, hM.blk 6 rfl⟩ ?_
  go_frame
  refine wa_take 8 (some 41) (.agg (HD.cells ho).toArray) rfl rfl (by kernel_rfl) (by kernel_rfl) (by kernel_rfl) (fun _ _ _ h => h) (by kernel_rfl) (fun w hS => by kernel_rfl) ⟨hM.below, hM.blk 7 rfl, hM.blk 6 rfl⟩ ?_
  go_frame
  refine wa_one 11 (by kernel_rfl) ?_
  refine wo_store rfl (by kernel_rfl) hM 2 rfl 33 _ _ rfl rfl (by kernel_rfl) [.slice (some ⟨ma1, 0, none⟩) lo.length ka1, .slice (some ⟨m2, 0, none⟩) c.length k2] (by kernel_rfl) I_impl_Shared rfl rfl ?_
  clear hM; intro W10 hM
  refine ⟨⟨hM.below, hM.blk 7 rfl, hM.blk 6 rfl⟩, ?_⟩
  refine wa_one 12 (by kernel_rfl) ?_
  refine wo_store rfl (by kernel_rfl) hM 3 rfl 36 _ _ rfl rfl (by kernel_rfl) (HD.cells ho) (by kernel_rfl) I_impl_Hand rfl (hd_one' _) ?_
  clear hM; intro W11 hM
  refine ⟨⟨hM.below, hM.blk 7 rfl, hM.blk 6 rfl⟩, ?_⟩
  refine wa_doneJ (by kernel_rfl) ?_
  replace hM := hM.pull 1 rfl
  replace hM := hM.pull 1 rfl
  replace hM := hM.pull 2 rfl
  replace hM := hM.pull 3 rfl
  exact ⟨g5, g6, ma1, m2, m1, k1, k2, p1, p2, ka1, pa1, rfl, hM, ⟨q1, q2, q3, q4, q5, q6⟩, ⟨qa1, qb1, qe1⟩⟩
  refine wo_alloc (some 13) rfl rfl (by kernel_rfl) hM 33 rfl [.slice none 0 0, .slice none 0 0] Z_impl_Shared ?_
  clear hM; intro g5 W6 hM
  refine ⟨⟨hM.below, hM.blk 4 rfl, hM.blk 3 rfl⟩, ?_⟩
  go_frame
  refine wa_two 2 10 (by kernel_rfl) ?_ ?_
  refine wo_call (some 36) rfl rfl (by kernel_rfl) 49 #[.agg #[.slice ua l.length uc, .slice xa c.length xc]] (by kernel_rfl) (impl_copyOf (.slice ua l.length uc) (.slice xa c.length xc) l c _ (h1.below hM.below) (h2.below hM.below) hl0 hc0 hl hc) ?_
  rintro e W7 ⟨m1, m2, k1, k2, p1, p2, rfl, ⟨q1, q2, q3, q4, q5, q6⟩, hMc⟩
  replace hM := hM.join hMc
  refine ⟨_, rfl, ⟨hM.below, hM.blk 6 rfl, hM.blk 5 rfl⟩, ?_⟩
  go_frame
  refine wa_two 5 10 (by kernel_rfl) ?_ ?_
  replace hM := hM.pull 1 rfl
  replace hM := hM.pull 1 rfl
  replace hM : Mem w0 W7 [(m1, 52, (cellsOf l ++ p1)), (m2, 2, (cellsI c ++ p2)), (g5, 33, [.slice none 0 0, .slice none 0 0]), (g4, 36, (HD.cells HD.zero)), (g3, 33, [.slice none 0 0, .slice none 0 0]), (g2, 36, (HD.cells h)), (g1, 33, [.slice ua l.length uc, .slice xa c.length xc])] := hM
  refine wo_call (some 39) rfl rfl (by kernel_rfl) ft #[.agg #[.slice (some ⟨m1, 0, none⟩) l.length k1, .slice (some ⟨m2, 0, none⟩) c.length k2], .int .i64 task, .agg (HD.cells h).toArray] (r_callfn rfl _ rfl (by kernel_rfl) _ (by kernel_rfl) hE) (hTF _ _ _ _ _ _ _ _ _ hM q1 q2 q3 q4 q5 q6) ?_
  rintro e W8 ⟨ma1, ka1, pa1, rfl, ⟨qa1, qb1, qe1⟩, hM2⟩
  clear hM; have hM := hM2; clear hM2
  refine ⟨_, rfl, ⟨hM.below, hM.blk 6 rfl, hM.blk 5 rfl⟩, ?_⟩
  go_frame
  refine wa_take 6 (some 33) (.tuple #[.agg #[.slice (some ⟨ma1, 0, none⟩) lo.length ka1, .slice (some ⟨m2, 0, none⟩) c.length k2], .agg (HD.cells ho).toArray]) rfl rfl (by kernel_rfl) (by kernel_rfl) (by kernel_rfl) (fun _ _ _ h => h) (by kernel_rfl) (fun w hS => by kernel_rfl) ⟨hM.below, hM.blk 6 rfl, hM.blk 5 rfl⟩ ?_
  go_frame
  refine wa_take 7 (some 40) (.agg #[.slice (some ⟨ma1, 0, none⟩) lo.length ka1, .slice (some ⟨m2, 0, none⟩) c.length k2]) rfl rfl (by kernel_rfl) (by kernel_rfl) (by kernel_rfl) (fun _ _ _ h => h) (by kernel_rfl) (fun w hS => by kernel_rfl) ⟨hM.below, hM.blk 6 rfl, hM.blk 5 rfl⟩ ?_
  go_frame
  refine wa_take 8 (some 41) (.agg (HD.cells ho).toArray) rfl rfl (by kernel_rfl) (by kernel_rfl) (by kernel_rfl) (fun _ _ _ h => h) (by kernel_rfl) (fun w hS => by kernel_rfl) ⟨hM.below, hM.blk 6 rfl, hM.blk 5 rfl⟩ ?_
  go_frame
  refine wa_one 10 (by kernel_rfl) ?_
  refine wo_alloc (some 14) rfl rfl (by kernel_rfl) hM 36 rfl (HD.cells HD.zero) Z_impl_Hand ?_
  clear hM; intro g6 W9 hM
  refine ⟨⟨hM.below, hM.blk 7 rfl, hM.blk 6 rfl⟩, ?_⟩
  go_frame
  refine wa_one 11 (by kernel_rfl) ?_
  refine wo_store rfl (by kernel_rfl) hM 3 rfl 33 _ _ rfl rfl (by kernel_rfl) [.slice (some ⟨ma1, 0, none⟩) lo.length ka1, .slice (some ⟨m2, 0, none⟩) c.length k2] (by kernel_rfl) I_impl_Shared rfl rfl ?_
  clear hM; intro W10 hM
  refine ⟨⟨hM.below, hM.blk 7 rfl, hM.blk 6 rfl⟩, ?_⟩
  refine wa_one 12 (by kernel_rfl) ?_
  refine wo_store rfl (by kernel_rfl) hM 0 rfl 36 _ _ rfl rfl (by kernel_rfl) (HD.cells ho) (by kernel_rfl) I_impl_Hand rfl (hd_one' _) ?_
  clear hM; intro W11 hM
  refine ⟨⟨hM.below, hM.blk 7 rfl, hM.blk 6 rfl⟩, ?_⟩
  refine wa_doneJ (by kernel_rfl) ?_
  replace hM := hM.pull 2 rfl
  replace hM := hM.pull 2 rfl
  replace hM := hM.pull 3 rfl
  replace hM := hM.pull 3 rfl
  exact ⟨g6, g5, ma1, m2, m1, k1, k2, p1, p2, ka1, pa1, rfl, hM, ⟨q1, q2, q3, q4, q5, q6⟩, ⟨qa1, qb1, qe1⟩⟩
  refine wo_alloc (some 14) rfl rfl (by kernel_rfl) hM 36 rfl (HD.cells HD.zero) Z_impl_Hand ?_
  clear hM; intro g6 W8 hM
  refine ⟨⟨hM.below, hM.blk 7 rfl, hM.blk 6 rfl⟩, ?_⟩
  go_frame
  refine wa_one 5 (by kernel_rfl) ?_
  replace hM := hM.pull 2 rfl
  replace hM := hM.pull 2 rfl
  replace hM : Mem w0 W8 [(m1, 52, (cellsOf l ++ p1)), (m2, 2, (cellsI c ++ p2)), (g6, 36, (HD.cells HD.zero)), (g5, 33, [.slice none 0 0, .slice none 0 0]), (g4, 36, (HD.cells HD.zero)), (g3, 33, [.slice none 0 0, .slice none 0 0]), (g2, 36, (HD.cells h)), (g1, 33, [.slice ua l.length uc, .slice xa c.length xc])] := hM
  refine wo_call (some 39) rfl rfl (by kernel_rfl) ft #[.agg #[.slice (some ⟨m1, 0, none⟩) l.length k1, .slice (some ⟨m2, 0, none⟩) c.length k2], .int .i64 task, .agg (HD.cells h).toArray] (r_callfn rfl _ rfl (by kernel_rfl) _ (by kernel_rfl) hE) (hTF _ _ _ _ _ _ _ _ _ hM q1 q2 q3 q4 q5 q6) ?_
  rintro e W9 ⟨ma1, ka1, pa1, rfl, ⟨qa1, qb1, qe1⟩, hM2⟩
  clear hM; have hM := hM2; clear hM2
  refine ⟨_, rfl, ⟨hM.below, hM.blk 7 rfl, hM.blk 6 rfl⟩, ?_⟩
  go_frame
  refine wa_take 6 (some 33) (.tuple #[.agg #[.slice (some ⟨ma1, 0, none⟩) lo.length ka1, .slice (some ⟨m2, 0, none⟩) c.length k2], .agg (HD.cells ho).toArray]) rfl rfl (by kernel_rfl) (by kernel_rfl) (by kernel_rfl) (fun _ _ _ h => h) (by kernel_rfl) (fun w hS => by kernel_rfl) ⟨hM.below, hM.blk 7 rfl, hM.blk 6 rfl⟩ ?_
  go_frame
  refine wa_take 7 (some 40) (.agg #[.slice (some ⟨ma1, 0, none⟩) lo.length ka1, .slice (some ⟨m2, 0, none⟩) c.length k2]) rfl rfl (by kernel_rfl) (by kernel_rfl) (by kernel_rfl) (fun _ _ _ h => h) (by kernel_rfl) (fun w hS => by kernel_rfl) ⟨hM.below, hM.blk 7 rfl, hM.blk 6 rfl⟩ ?_
  go_frame
  refine wa_take 8 (some 41) (.agg (HD.cells ho).toArray) rfl rfl (by kernel_rfl) (by kernel_rfl) (by kernel_rfl) (fun _ _ _ h => h) (by kernel_rfl) (fun w hS => by kernel_rfl) ⟨hM.below, hM.blk 7 rfl, hM.blk 6 rfl⟩ ?_
  go_frame
  refine wa_one 11 (by kernel_rfl) ?_
  refine wo_store rfl (by kernel_rfl) hM 3 rfl 33 _ _ rfl rfl (by kernel_rfl) [.slice (some ⟨ma1, 0, none⟩) lo.length ka1, .slice (some ⟨m2, 0, none⟩) c.length k2] (by kernel_rfl) I_impl_Shared rfl rfl ?_
  clear hM; intro W10 hM
  refine ⟨⟨hM.below, hM.blk 7 rfl, hM.blk 6 rfl⟩, ?_⟩
  refine wa_one 12 (by kernel_rfl) ?_
  refine wo_store rfl (by kernel_rfl) hM 2 rfl 36 _ _ rfl rfl (by kernel_rfl) (HD.cells ho) (by kernel_rfl) I_impl_Hand rfl (hd_one' _) ?_
  clear hM; intro W11 hM
  refine ⟨⟨hM.below, hM.blk 7 rfl, hM.blk 6 rfl⟩, ?_⟩
  refine wa_doneJ (by kernel_rfl) ?_
  replace hM := hM.pull 1 rfl
  replace hM := hM.pull 1 rfl
  replace hM := hM.pull 3 rfl
  replace hM := hM.pull 3 rfl
  exact ⟨g6, g5, ma1, m2, m1, k1, k2, p1, p2, ka1, pa1, rfl, hM, ⟨q1, q2, q3, q4, q5, q6⟩, ⟨qa1, qb1, qe1⟩⟩
  refine wo_alloc (some 14) rfl rfl (by kernel_rfl) hM 36 rfl (HD.cells HD.zero) Z_impl_Hand ?_
  clear hM; intro g6 W7 hM
  refine ⟨⟨hM.below, hM.blk 5 rfl, hM.blk 4 rfl⟩, ?_⟩
  go_frame
  refine wa_one 2 (by kernel_rfl) ?_
  refine wo_call (some 36) rfl rfl (by kernel_rfl) 49 #[.agg #[.slice ua l.length uc, .slice xa c.length xc]] (by kernel_rfl) (impl_copyOf (.slice ua l.length uc) (.slice xa c.length xc) l c _ (h1.below hM.below) (h2.below hM.below) hl0 hc0 hl hc) ?_
  rintro e W8 ⟨m1, m2, k1, k2, p1, p2, rfl, ⟨q1, q2, q3, q4, q5, q6⟩, hMc⟩
  replace hM := hM.join hMc
  refine ⟨_, rfl, ⟨hM.below, hM.blk 7 rfl, hM.blk 6 rfl⟩, ?_⟩
  go_frame
  refine wa_one 5 (by kernel_rfl) ?_
  replace hM := hM.pull 1 rfl
  replace hM := hM.pull 1 rfl
  replace hM : Mem w0 W8 [(m1, 52, (cellsOf l ++ p1)), (m2, 2, (cellsI c ++ p2)), (g6, 36, (HD.cells HD.zero)), (g5, 33, [.slice none 0 0, .slice none 0 0]), (g4, 36, (HD.cells HD.zero)), (g3, 33, [.slice none 0 0, .slice none 0 0]), (g2, 36, (HD.cells h)), (g1, 33, [.slice ua l.length uc, .slice xa c.length xc])] := hM
  refine wo_call (some 39) rfl rfl (by kernel_rfl) ft #[.agg #[.slice (some ⟨m1, 0, none⟩) l.length k1, .slice (some ⟨m2, 0, none⟩) c.length k2], .int .i64 task, .agg (HD.cells h).toArray] (r_callfn rfl _ rfl (by kernel_rfl) _ (by kernel_rfl) hE) (hTF _ _ _ _ _ _ _ _ _ hM q1 q2 q3 q4 q5 q6) ?_
  rintro e W9 ⟨ma1, ka1, pa1, rfl, ⟨qa1, qb1, qe1⟩, hM2⟩
  clear hM; have hM := hM2; clear hM2
  refine ⟨_, rfl, ⟨hM.below, hM.blk 7 rfl, hM.blk 6 rfl⟩, ?_⟩
  go_frame
  refine wa_take 6 (some 33) (.tuple #[.agg #[.slice (some ⟨ma1, 0, none⟩) lo.length ka1, .slice (some ⟨m2, 0, none⟩) c.length k2], .agg (HD.cells ho).toArray]) rfl rfl (by kernel_rfl) (by kernel_rfl) (by kernel_rfl) (fun _ _ _ h => h) (by kernel_rfl) (fun w hS => by kernel_rfl) ⟨hM.below, hM.blk 7 rfl, hM.blk 6 rfl⟩ ?_
  go_frame
  refine wa_take 7 (some 40) (.agg #[.slice (some ⟨ma1, 0, none⟩) lo.length ka1, .slice (some ⟨m2, 0, none⟩) c.length k2]) rfl rfl (by kernel_rfl) (by kernel_rfl) (by kernel_rfl) (fun _ _ _ h => h) (by kernel_rfl) (fun w hS => by kernel_rfl) ⟨hM.below, hM.blk 7 rfl, hM.blk 6 rfl⟩ ?_
  go_frame
  refine wa_take 8 (some 41) (.agg (HD.cells ho).toArray) rfl rfl (by kernel_rfl) (by kernel_rfl) (by kernel_rfl) (fun _ _ _ h => h) (by kernel_rfl) (fun w hS => by kernel_rfl) ⟨hM.below, hM.blk 7 rfl, hM.blk 6 rfl⟩ ?_
  go_frame
  refine wa_one 11 (by kernel_rfl) ?_
  refine wo_store rfl (by kernel_rfl) hM 3 rfl 33 _ _ rfl rfl (by kernel_rfl) [.slice (some ⟨ma1, 0, none⟩) lo.length ka1, .slice (some ⟨m2, 0, none⟩) c.length k2] (by kernel_rfl) I_impl_Shared rfl rfl ?_
  clear hM; intro W10 hM
  refine ⟨⟨hM.below, hM.blk 7 rfl, hM.blk 6 rfl⟩, ?_⟩
  refine wa_one 12 (by kernel_rfl) ?_
  refine wo_store rfl (by kernel_rfl) hM 2 rfl 36 _ _ rfl rfl (by kernel_rfl) (HD.cells ho) (by kernel_rfl) I_impl_Hand rfl (hd_one' _) ?_
  clear hM; intro W11 hM
  refine ⟨⟨hM.below, hM.blk 7 rfl, hM.blk 6 rfl⟩, ?_⟩
  refine wa_doneJ (by kernel_rfl) ?_
  replace hM := hM.pull 1 rfl
  replace hM := hM.pull 1 rfl
  replace hM := hM.pull 3 rfl
  replace hM := hM.pull 3 rfl
  exact ⟨g6, g5, ma1, m2, m1, k1, k2, p1, p2, ka1, pa1, rfl, hM, ⟨q1, q2, q3, q4, q5, q6⟩, ⟨qa1, qb1, qe1⟩⟩
  refine wo_alloc (some 14) rfl rfl (by kernel_rfl) hM 36 rfl (HD.cells HD.zero) Z_impl_Hand ?_
  clear hM; intro g5 W6 hM
  refine ⟨⟨hM.below, hM.blk 4 rfl, hM.blk 3 rfl⟩, ?_⟩
  go_frame
  refine wa_two 2 9 (by kernel_rfl) ?_ ?_
  refine wo_call (some 36) rfl rfl (by kernel_rfl) 49 #[.agg #[.slice ua l.length uc, .slice xa c.length xc]] (by kernel_rfl) (impl_copyOf (.slice ua l.length uc) (.slice xa c.length xc) l c _ (h1.below hM.below) (h2.below hM.below) hl0 hc0 hl hc) ?_
  rintro e W7 ⟨m1, m2, k1, k2, p1, p2, rfl, ⟨q1, q2, q3, q4, q5, q6⟩, hMc⟩
  replace hM := hM.join hMc
  refine ⟨_, rfl, ⟨hM.below, hM.blk 6 rfl, hM.blk 5 rfl⟩, ?_⟩
  go_frame
  refine wa_two 5 9 (by kernel_rfl) ?_ ?_
  replace hM := hM.pull 1 rfl
  replace hM := hM.pull 1 rfl
  replace hM : Mem w0 W7 [(m1, 52, (cellsOf l ++ p1)), (m2, 2, (cellsI c ++ p2)), (g5, 36, (HD.cells HD.zero)), (g4, 36, (HD.cells HD.zero)), (g3, 33, [.slice none 0 0, .slice none 0 0]), (g2, 36, (HD.cells h)), (g1, 33, [.slice ua l.length uc, .slice xa c.length xc])] := hM
  refine wo_call (some 39) rfl rfl (by kernel_rfl) ft #[.agg #[.slice (some ⟨m1, 0, none⟩) l.length k1, .slice (some ⟨m2, 0, none⟩) c.length k2], .int .i64 task, .agg (HD.cells h).toArray] (r_callfn rfl _ rfl (by kernel_rfl) _ (by kernel_rfl) hE) (hTF _ _ _ _ _ _ _ _ _ hM q1 q2 q3 q4 q5 q6) ?_
  rintro e W8 ⟨ma1, ka1, pa1, rfl, ⟨qa1, qb1, qe1⟩, hM2⟩
  clear hM; have hM := hM2; clear hM2
  refine ⟨_, rfl, ⟨hM.below, hM.blk 6 rfl, hM.blk 5 rfl⟩, ?_⟩
  go_frame
  refine wa_take 6 (some 33) (.tuple #[.agg #[.slice (some ⟨ma1, 0, none⟩) lo.length ka1, .slice (some ⟨m2, 0, none⟩) c.length k2], .agg (HD.cells ho).toArray]) rfl rfl (by kernel_rfl) (by kernel_rfl) (by kernel_rfl) (fun _ _ _ h => h) (by kernel_rfl) (fun w hS => by kernel_rfl) ⟨hM.below, hM.blk 6 rfl, hM.blk 5 rfl⟩ ?_
  go_frame
  refine wa_take 7 (some 40) (.agg #[.slice (some ⟨ma1, 0, none⟩) lo.length ka1, .slice (some ⟨m2, 0, none⟩) c.length k2]) rfl rfl (by kernel_rfl) (by kernel_rfl) (by kernel_rfl) (fun _ _ _ h => h) (by kernel_rfl) (fun w hS => by kernel_rfl) ⟨hM.below, hM.blk 6 rfl, hM.blk 5 rfl⟩ ?_
  go_frame
  refine wa_take 8 (some 41) (.agg (HD.cells ho).toArray) rfl rfl (by kernel_rfl) (by kernel_rfl) (by kernel_rfl) (fun _ _ _ h => h) (by kernel_rfl) (fun w hS => by kernel_rfl) ⟨hM.below, hM.blk 6 rfl, hM.blk 5 rfl⟩ ?_
  go_frame
  refine wa_one 9 (by kernel_rfl) ?_
  refine wo_alloc (some 13) rfl rfl (by kernel_rfl) hM 33 rfl [.slice none 0 0, .slice none 0 0] Z_impl_Shared ?_
  clear hM; intro g6 W9 hM
  refine ⟨⟨hM.below, hM.blk 7 rfl, hM.blk 6 rfl⟩, ?_⟩
  go_frame
  refine wa_one 11 (by kernel_rfl) ?_
  refine wo_store rfl (by kernel_rfl) hM 0 rfl 33 _ _ rfl rfl (by kernel_rfl) [.slice (some ⟨ma1, 0, none⟩) lo.length ka1, .slice (some ⟨m2, 0, none⟩) c.length k2] (by kernel_rfl) I_impl_Shared rfl rfl ?_
  clear hM; intro W10 hM
  refine ⟨⟨hM.below, hM.blk 7 rfl, hM.blk 6 rfl⟩, ?_⟩
  refine wa_one 12 (by kernel_rfl) ?_
  refine wo_store rfl (by kernel_rfl) hM 3 rfl 36 _ _ rfl rfl (by kernel_rfl) (HD.cells ho) (by kernel_rfl) I_impl_Hand rfl (hd_one' _) ?_
  clear hM; intro W11 hM
  refine ⟨⟨hM.below, hM.blk 7 rfl, hM.blk 6 rfl⟩, ?_⟩
  refine wa_doneJ (by kernel_rfl) ?_
  replace hM := hM.pull 2 rfl
  replace hM := hM.pull 2 rfl
  replace hM := hM.pull 2 rfl
  replace hM := hM.pull 3 rfl
  exact ⟨g5, g6, ma1, m2, m1, k1, k2, p1, p2, ka1, pa1, rfl, hM, ⟨q1, q2, q3, q4, q5, q6⟩, ⟨qa1, qb1, qe1⟩⟩
  refine wo_alloc (some 13) rfl rfl (by kernel_rfl) hM 33 rfl [.slice none 0 0, .slice none 0 0] Z_impl_Shared ?_
  clear hM; intro g6 W8 hM
  refine ⟨⟨hM.below, hM.blk 7 rfl, hM.blk 6 rfl⟩, ?_⟩
  go_frame
  refine wa_one 5 (by kernel_rfl) ?_
  replace hM := hM.pull 2 rfl
  replace hM := hM.pull 2 rfl
  replace hM : Mem w0 W8 [(m1, 52, (cellsOf l ++ p1)), (m2, 2, (cellsI c ++ p2)), (g6, 33, [.slice none 0 0, .slice none 0 0]), (g5, 36, (HD.cells HD.zero)), (g4, 36, (HD.cells HD.zero)), (g3, 33, [.slice none 0 0, .slice none 0 0]), (g2, 36, (HD.cells h)), (g1, 33, [.slice ua l.length uc, .slice xa c.length xc])] := hM
  refine wo_call (some 39) rfl rfl (by kernel_rfl) ft #[.agg #[.slice (some ⟨m1, 0, none⟩) l.length k1, .slice (some ⟨m2, 0, none⟩) c.length k2], .int .i64 task, .agg (HD.cells h).toArray] (r_callfn rfl _ rfl (by kernel_rfl) _ (by kernel_rfl) hE) (hTF _ _ _ _ _ _ _ _ _ hM q1 q2 q3 q4 q5 q6) ?_
  rintro e W9 ⟨ma1, ka1, pa1, rfl, ⟨qa1, qb1, qe1⟩, hM2⟩
  clear hM; have hM := hM2; clear hM2
  refine ⟨_, rfl, ⟨hM.below, hM.blk 7 rfl, hM.blk 6 rfl⟩, ?_⟩
  go_frame
  refine wa_take 6 (some 33) (.tuple #[.agg #[.slice (some ⟨ma1, 0, none⟩) lo.length ka1, .slice (some ⟨m2, 0, none⟩) c.length k2], .agg (HD.cells ho).toArray]) rfl rfl (by kernel_rfl) (by kernel_rfl) (by kernel_rfl) (fun _ _ _ h => h) (by kernel_rfl) (fun w hS => by kernel_rfl) ⟨hM.below, hM.blk 7 rfl, hM.blk 6 rfl⟩ ?_
  go_frame
  refine wa_take 7 (some 40) (.agg #[.slice (some ⟨ma1, 0, none⟩) lo.length ka1, .slice (some ⟨m2, 0, none⟩) c.length k2]) rfl rfl (by kernel_rfl) (by kernel_rfl) (by kernel_rfl) (fun _ _ _ h => h) (by kernel_rfl) (fun w hS => by kernel_rfl) ⟨hM.below, hM.blk 7 rfl, hM.blk 6 rfl⟩ ?_
  go_frame
  refine wa_take 8 (some 41) (.agg (HD.cells ho).toArray) rfl rfl (by kernel_rfl) (by kernel_rfl) (by kernel_rfl) (fun _ _ _ h => h) (by kernel_rfl) (fun w hS => by kernel_rfl) ⟨hM.below, hM.blk 7 rfl, hM.blk 6 rfl⟩ ?_
  go_frame
  refine wa_one 11 (by kernel_rfl) ?_
  refine wo_store rfl (by kernel_rfl) hM 2 rfl 33 _ _ rfl rfl (by kernel_rfl) [.slice (some ⟨ma1, 0, none⟩) lo.length ka1, .slice (some ⟨m2, 0, none⟩) c.length k2] (by kernel_rfl) I_impl_Shared rfl rfl ?_
  clear hM; intro W10 hM
  refine ⟨⟨hM.below, hM.blk 7 rfl, hM.blk 6 rfl⟩, ?_⟩
  refine wa_one 12 (by kernel_rfl) ?_
  refine wo_store rfl (by kernel_rfl) hM 3 rfl 36 _ _ rfl rfl (by kernel_rfl) (HD.cells ho) (by kernel_rfl) I_impl_Hand rfl (hd_one' _) ?_
  clear hM; intro W11 hM
  refine ⟨⟨hM.below, hM.blk 7 rfl, hM.blk 6 rfl⟩, ?_⟩
  refine wa_doneJ (by kernel_rfl) ?_
  replace hM := hM.pull 1 rfl
  replace hM := hM.pull 1 rfl
  replace hM := hM.pull 2 rfl
  replace hM := hM.pull 3 rfl
  exact ⟨g5, g6, ma1, m2, m1, k1, k2, p1, p2, ka1, pa1, rfl, hM, ⟨q1, q2, q3, q4, q5, q6⟩, ⟨qa1, qb1, qe1⟩⟩
  refine wo_alloc (some 13) rfl rfl (by kernel_rfl) hM 33 rfl [.slice none 0 0, .slice none 0 0] Z_impl_Shared ?_
  clear hM; intro g6 W7 hM
  refine ⟨⟨hM.below, hM.blk 5 rfl, hM.blk 4 rfl⟩, ?_⟩
  go_frame
  refine wa_one 2 (by kernel_rfl) ?_
  refine wo_call (some 36) rfl rfl (by kernel_rfl) 49 #[.agg #[.slice ua l.length uc, .slice xa c.length xc]] (by kernel_rfl) (impl_copyOf (.slice ua l.length uc) (.slice xa c.length xc) l c _ (h1.below hM.below) (h2.below hM.below) hl0 hc0 hl hc) ?_
  rintro e W8 ⟨m1, m2, k1, k2, p1, p2, rfl, ⟨q1, q2, q3, q4, q5, q6⟩, hMc⟩
  replace hM := hM.join hMc
  refine ⟨_, rfl, ⟨hM.below, hM.blk 7 rfl, hM.blk 6 rfl⟩, ?_⟩
  go_frame
  refine wa_one 5 (by kernel_rfl) ?_
  replace hM := hM.pull 1 rfl
  replace hM := hM.pull 1 rfl
  replace hM : Mem w0 W8 [(m1, 52, (cellsOf l ++ p1)), (m2, 2, (cellsI c ++ p2)), (g6, 33, [.slice none 0 0, .slice none 0 0]), (g5, 36, (HD.cells HD.zero)), (g4, 36, (HD.cells HD.zero)), (g3, 33, [.slice none 0 0, .slice none 0 0]), (g2, 36, (HD.cells h)), (g1, 33, [.slice ua l.length uc, .slice xa c.length xc])] := hM
  refine wo_call (some 39) rfl rfl (by kernel_rfl) ft #[.agg #[.slice (some ⟨m1, 0, none⟩) l.length k1, .slice (some ⟨m2, 0, none⟩) c.length k2], .int .i64 task, .agg (HD.cells h).toArray] (r_callfn rfl _ rfl (by kernel_rfl) _ (by kernel_rfl) hE) (hTF _ _ _ _ _ _ _ _ _ hM q1 q2 q3 q4 q5 q6) ?_
  rintro e W9 ⟨ma1, ka1, pa1, rfl, ⟨qa1, qb1, qe1⟩, hM2⟩
  clear hM; have hM := hM2; clear hM2
  refine ⟨_, rfl, ⟨hM.below, hM.blk 7 rfl, hM.blk 6 rfl⟩, ?_⟩
  go_frame
  refine wa_take 6 (some 33) (.tuple #[.agg #[.slice (some ⟨ma1, 0, none⟩) lo.length ka1, .slice (some ⟨m2, 0, none⟩) c.length k2], .agg (HD.cells ho).toArray]) rfl rfl (by kernel_rfl) (by kernel_rfl) (by kernel_rfl) (fun _ _ _ h => h) (by kernel_rfl) (fun w hS => by kernel_rfl) ⟨hM.below, hM.blk 7 rfl, hM.blk 6 rfl⟩ ?_
  go_frame
  refine wa_take 7 (some 40) (.agg #[.slice (some ⟨ma1, 0, none⟩) lo.length ka1, .slice (some ⟨m2, 0, none⟩) c.length k2]) rfl rfl (by kernel_rfl) (by kernel_rfl) (by kernel_rfl) (fun _ _ _ h => h) (by kernel_rfl) (fun w hS => by kernel_rfl) ⟨hM.below, hM.blk 7 rfl, hM.blk 6 rfl⟩ ?_
  go_frame
  refine wa_take 8 (some 41) (.agg (HD.cells ho).toArray) rfl rfl (by kernel_rfl) (by kernel_rfl) (by kernel_rfl) (fun _ _ _ h => h) (by kernel_rfl) (fun w hS => by kernel_rfl) ⟨hM.below, hM.blk 7 rfl, hM.blk 6 rfl⟩ ?_
  go_frame
  refine wa_one 11 (by kernel_rfl) ?_
  refine wo_store rfl (by kernel_rfl) hM 2 rfl 33 _ _ rfl rfl (by kernel_rfl) [.slice (some ⟨ma1, 0, none⟩) lo.length ka1, .slice (some ⟨m2, 0, none⟩) c.length k2] (by kernel_rfl) I_impl_Shared rfl rfl ?_
  clear hM; intro W10 hM
  refine ⟨⟨hM.below, hM.blk 7 rfl, hM.blk 6 rfl⟩, ?_⟩
  refine wa_one 12 (by kernel_rfl) ?_
  refine wo_store rfl (by kernel_rfl) hM 3 rfl 36 _ _ rfl rfl (by kernel_rfl) (HD.cells ho) (by kernel_rfl) I_impl_Hand rfl (hd_one' _) ?_
  clear hM; intro W11 hM
  refine ⟨⟨hM.below, hM.blk 7 rfl, hM.blk 6 rfl⟩, ?_⟩
  refine wa_doneJ (by kernel_rfl) ?_
  replace hM := hM.pull 1 rfl
  replace hM := hM.pull 1 rfl
  replace hM := hM.pull 2 rfl
  replace hM := hM.pull 3 rfl
  exact ⟨g5, g6, ma1, m2, m1, k1, k2, p1, p2, ka1, pa1, rfl, hM, ⟨q1, q2, q3, q4, q5, q6⟩, ⟨qa1, qb1, qe1⟩⟩

set_option maxRecDepth 100000 in
set_option maxHeartbeats 4000000 in
theorem touchedG_gives (ua : Option Addr) (uc : Nat) (xa : Option Addr) (xc : Nat) (l : List ND) (c : List Int) (task : Int) (h : HD) (bT : Nat) (es : Array MapEntry) (nT : Nat) (w0 : World) (h1 : NSl w0 (.slice ua l.length uc) l) (h2 : SlI w0 (.slice xa c.length xc) c) (hl : l.length ≤ 1048576) (hc : c.length ≤ 1048576) (hTb : Tbl w0 bT es nT) (jt : Nat) (ft : FuncId) (hft : Instr.findNow (.int .i64) (.int .i64 h.at_) es.toList 0 = some (some (jt, .func (.func ft) #[] #[]))) (hE : ∀ (vs : Array Value) (w : World), (callFunc ft vs).run Try.prog w = .ok (.enter ft vs) w) (hok : canB l c task h = true) (k : Int) (hTF : TouchG ft l c task h (.gives k)) :
    Calls Try.prog 50 #[.map (some bT), .agg #[.slice ua l.length uc, .slice xa c.length xc], .int .i64 task, h.val] w0 (SaysP k w0) := by
  unfold TouchG at hTF
  unfold HD.val at *
  have hM := Mem.start w0
  obtain ⟨hl0, hc0, hl1, hc1, -⟩ := ok_facts (can_ok hok)
  go_enter Try.func50, Try.ntmps50
  refine wp_seq_k fun Kn1 cn1 => ?_
  refine wl_region ?_
  refine wl_box (by kernel_rfl) hM 33 _ rfl [.slice ua l.length uc, .slice xa c.length xc] rfl ?_
  clear hM; intro g1 W1 hM
  go_frame
  refine wl_box (by kernel_rfl) hM 36 _ rfl (HD.cells h) rfl ?_
  clear hM; intro g2 W2 hM
  go_frame
  refine wl_alloc (by kernel_rfl) hM 33 rfl [.slice none 0 0, .slice none 0 0] Z_impl_Shared ?_
  clear hM; intro g3 W3 hM
  go_frame
  refine wl_alloc (by kernel_rfl) hM 36 rfl (HD.cells HD.zero) Z_impl_Hand ?_
  clear hM; intro g4 W4 hM
  go_frame
  refine wl_pure (by kernel_rfl) (.bool false) (by kernel_rfl) ?_
  go_frame
  refine wl_nil ?_
  refine cn1 _ _ ?_
  clear cn1
  refine wp_seq_k fun Kn2 cn2 => ?_
  refine wl_region ?_
  refine wl_pure (by kernel_rfl) (.map (some bT)) (by kernel_rfl) ?_
  go_frame
  refine wl_pure (by kernel_rfl) (.pointer (some ⟨g2, 0, none⟩)) (by kernel_rfl) ?_
  go_frame
  refine wl_loadc (by kernel_rfl) hM 2 rfl 2 _ rfl 0 rfl Try.underlying2 rfl rfl ?_
  go_frame
  refine wl_look (by kernel_rfl) (hTb.below hM.below hTb.lt) 63 2 90 _ _ rfl Try.underlying63 Try.underlying2 rfl h.at_ rfl jt (.func (.func ft) #[] #[]) hft ?_
  go_frame
  refine wl_pure (by kernel_rfl) (.tuple #[.func (.func ft) #[] #[], .bool true]) (by kernel_rfl) ?_
  go_frame
  refine wl_pure (by kernel_rfl) (.func (.func ft) #[] #[]) (by kernel_rfl) ?_
  go_frame
  refine wl_pure (by kernel_rfl) (.bool true) (by kernel_rfl) ?_
  go_frame
  refine wl_pure (by kernel_rfl) (.func (.func ft) #[] #[]) (by kernel_rfl) ?_
  go_frame
  refine wl_pure (by kernel_rfl) (.bool true) (by kernel_rfl) ?_
  go_frame
  refine wl_nil ?_
  refine cn2 _ _ ?_
  clear cn2
  refine wp_seq_k fun Kn3 cn3 => ?_
  refine wp_seq_k fun Kn4 cn4 => ?_
  refine wl_region ?_
  refine wl_pure (by kernel_rfl) (.bool true) (by kernel_rfl) ?_
  go_frame
  refine wl_pure (by kernel_rfl) (.bool false) (by kernel_rfl) ?_
  go_frame
  refine wl_pure (by kernel_rfl) (.bool false) (by kernel_rfl) ?_
  go_frame
  refine wl_load (by kernel_rfl) hM 3 rfl 33 _ rfl rfl Try.underlying33 I_impl_Shared ?_
  go_frame
  refine wl_pure (by kernel_rfl) (.int .i64 task) (by kernel_rfl) ?_
  go_frame
  refine wl_load (by kernel_rfl) hM 2 rfl 36 _ rfl rfl Try.underlying36 I_impl_Hand ?_
  go_frame
  refine wl_call (by kernel_rfl) 65 #[.agg #[.slice ua l.length uc, .slice xa c.length xc], .int .i64 task, .agg (HD.cells h).toArray] (by kernel_rfl) (impl_canTouch ua uc xa xc l c task h _ (h1.below hM.below) (h2.below hM.below) hl hc) ?_
  rintro e W5 ⟨rfl, hb⟩
  refine ⟨.bool true, congrArg (fun b => Ending.returned (.bool b)) hok, ?_⟩
  replace hM := hM.call hb
  go_frame
  refine wl_pure (by kernel_rfl) (.bool false) (by kernel_rfl) ?_
  go_frame
  refine wl_pure (by kernel_rfl) (.bool false) (by kernel_rfl) ?_
  go_frame
  refine wl_nil ?_
  refine cn4 _ _ ?_
  clear cn4
  refine wp_cond_false rfl ?_
  refine wp_skip ?_
  refine cn3 _ _ ?_
  clear cn3
  refine wp_seq_k fun Kn5 cn5 => ?_
  -- region 4, drawn: one after the other
  refine wa_start (fun w => Below w0.heap.size w0 w ∧ Blk w g1 33 [.slice ua l.length uc, .slice xa c.length xc] ∧ Blk w g2 36 (HD.cells h)) 13 rfl (by kernel_rfl) ?_
  replace hM := hM.drew
  refine wa_take 0 (some 34) (.func (.func ft) #[] #[]) rfl rfl (by kernel_rfl) (by kernel_rfl) (by kernel_rfl) (fun _ _ _ h => h) (by kernel_rfl) (fun w hS => by kernel_rfl) ⟨hM.below, hM.blk 3 rfl, hM.blk 2 rfl⟩ ?_
  go_frame
  refine wa_take 1 (some 35) (.agg #[.slice ua l.length uc, .slice xa c.length xc]) rfl rfl (by kernel_rfl) (by kernel_rfl) (by kernel_rfl) (fun _ _ _ h => h) (by kernel_rfl) (fun w hS => r_load hS.2.1 33 _ rfl rfl Try.underlying33 I_impl_Shared) ⟨hM.below, hM.blk 3 rfl, hM.blk 2 rfl⟩ ?_
  go_frame
  refine wa_take 3 (some 37) (.int .i64 task) rfl rfl (by kernel_rfl) (by kernel_rfl) (by kernel_rfl) (fun _ _ _ h => h) (by kernel_rfl) (fun w hS => by kernel_rfl) ⟨hM.below, hM.blk 3 rfl, hM.blk 2 rfl⟩ ?_
  go_frame
  refine wa_take 4 (some 38) (.agg (HD.cells h).toArray) rfl rfl (by kernel_rfl) (by kernel_rfl) (by kernel_rfl) (fun _ _ _ h => h) (by kernel_rfl) (fun w hS => r_load hS.2.2 36 _ rfl rfl Try.underlying36 I_impl_Hand) ⟨hM.below, hM.blk 3 rfl, hM.blk 2 rfl⟩ ?_
  go_frame
  refine wa_three 2 9 10 (by kernel_rfl) ?_ ?_ ?_
  refine wo_call (some 36) rfl rfl (by kernel_rfl) 49 #[.agg #[.slice ua l.length uc, .slice xa c.length xc]] (by kernel_rfl) (impl_copyOf (.slice ua l.length uc) (.slice xa c.length xc) l c _ (h1.below hM.below) (h2.below hM.below) hl0 hc0 hl hc) ?_
  rintro e W6 ⟨m1, m2, k1, k2, p1, p2, rfl, ⟨q1, q2, q3, q4, q5, q6⟩, hMc⟩
  replace hM := hM.join hMc
  refine ⟨_, rfl, ⟨hM.below, hM.blk 5 rfl, hM.blk 4 rfl⟩, ?_⟩
  go_frame
  refine wa_three 5 9 10 (by kernel_rfl) ?_ ?_ ?_
  replace hM := hM.pull 1 rfl
  replace hM := hM.pull 1 rfl
  replace hM : Mem w0 W6 [(m1, 52, (cellsOf l ++ p1)), (m2, 2, (cellsI c ++ p2)), (g4, 36, (HD.cells HD.zero)), (g3, 33, [.slice none 0 0, .slice none 0 0]), (g2, 36, (HD.cells h)), (g1, 33, [.slice ua l.length uc, .slice xa c.length xc])] := hM
  refine wo_panics rfl (by kernel_rfl) ft #[.agg #[.slice (some ⟨m1, 0, none⟩) l.length k1, .slice (some ⟨m2, 0, none⟩) c.length k2], .int .i64 task, .agg (HD.cells h).toArray] (r_callfn rfl _ rfl (by kernel_rfl) _ (by kernel_rfl) hE) (hTF _ _ _ _ _ _ _ _ _ hM q1 q2 q3 q4 q5 q6) ?_
  rintro e W7 ⟨rfl, hb⟩
  refine ⟨_, rfl, ?_⟩
  exact ⟨rfl, rfl, hb⟩
  refine wo_alloc (some 13) rfl rfl (by kernel_rfl) hM 33 rfl [.slice none 0 0, .slice none 0 0] Z_impl_Shared ?_
  clear hM; intro g5 W7 hM
  refine ⟨⟨hM.below, hM.blk 6 rfl, hM.blk 5 rfl⟩, ?_⟩
  go_frame
  refine wa_two 5 10 (by kernel_rfl) ?_ ?_
  replace hM := hM.pull 2 rfl
  replace hM := hM.pull 2 rfl
  replace hM : Mem w0 W7 [(m1, 52, (cellsOf l ++ p1)), (m2, 2, (cellsI c ++ p2)), (g5, 33, [.slice none 0 0, .slice none 0 0]), (g4, 36, (HD.cells HD.zero)), (g3, 33, [.slice none 0 0, .slice none 0 0]), (g2, 36, (HD.cells h)), (g1, 33, [.slice ua l.length uc, .slice xa c.length xc])] := hM
  refine wo_panics rfl (by kernel_rfl) ft #[.agg #[.slice (some ⟨m1, 0, none⟩) l.length k1, .slice (some ⟨m2, 0, none⟩) c.length k2], .int .i64 task, .agg (HD.cells h).toArray] (r_callfn rfl _ rfl (by kernel_rfl) _ (by kernel_rfl) hE) (hTF _ _ _ _ _ _ _ _ _ hM q1 q2 q3 q4 q5 q6) ?_
  rintro e W8 ⟨rfl, hb⟩
  refine ⟨_, rfl, ?_⟩
  exact ⟨rfl, rfl, hb⟩
  refine wo_alloc (some 14) rfl rfl (by kernel_rfl) hM 36 rfl (HD.cells HD.zero) Z_impl_Hand ?_
  clear hM; intro g6 W8 hM
  refine ⟨⟨hM.below, hM.blk 7 rfl, hM.blk 6 rfl⟩, ?_⟩
  go_frame
  refine wa_one 5 (by kernel_rfl) ?_
  replace hM := hM.pull 3 rfl
  replace hM := hM.pull 3 rfl
  replace hM : Mem w0 W8 [(m1, 52, (cellsOf l ++ p1)), (m2, 2, (cellsI c ++ p2)), (g6, 36, (HD.cells HD.zero)), (g5, 33, [.slice none 0 0, .slice none 0 0]), (g4, 36, (HD.cells HD.zero)), (g3, 33, [.slice none 0 0, .slice none 0 0]), (g2, 36, (HD.cells h)), (g1, 33, [.slice ua l.length uc, .slice xa c.length xc])] := hM
  refine wo_panics rfl (by kernel_rfl) ft #[.agg #[.slice (some ⟨m1, 0, none⟩) l.length k1, .slice (some ⟨m2, 0, none⟩) c.length k2], .int .i64 task, .agg (HD.cells h).toArray] (r_callfn rfl _ rfl (by kernel_rfl) _ (by kernel_rfl) hE) (hTF _ _ _ _ _ _ _ _ _ hM q1 q2 q3 q4 q5 q6) ?_
  rintro e W9 ⟨rfl, hb⟩
  refine ⟨_, rfl, ?_⟩
  exact ⟨rfl, rfl, hb⟩
  refine wo_alloc (some 14) rfl rfl (by kernel_rfl) hM 36 rfl (HD.cells HD.zero) Z_impl_Hand ?_
  clear hM; intro g5 W7 hM
  refine ⟨⟨hM.below, hM.blk 6 rfl, hM.blk 5 rfl⟩, ?_⟩
  go_frame
  refine wa_two 5 9 (by kernel_rfl) ?_ ?_
  replace hM := hM.pull 2 rfl
  replace hM := hM.pull 2 rfl
  replace hM : Mem w0 W7 [(m1, 52, (cellsOf l ++ p1)), (m2, 2, (cellsI c ++ p2)), (g5, 36, (HD.cells HD.zero)), (g4, 36, (HD.cells HD.zero)), (g3, 33, [.slice none 0 0, .slice none 0 0]), (g2, 36, (HD.cells h)), (g1, 33, [.slice ua l.length uc, .slice xa c.length xc])] := hM
  refine wo_panics rfl (by kernel_rfl) ft #[.agg #[.slice (some ⟨m1, 0, none⟩) l.length k1, .slice (some ⟨m2, 0, none⟩) c.length k2], .int .i64 task, .agg (HD.cells h).toArray] (r_callfn rfl _ rfl (by kernel_rfl) _ (by kernel_rfl) hE) (hTF _ _ _ _ _ _ _ _ _ hM q1 q2 q3 q4 q5 q6) ?_
  rintro e W8 ⟨rfl, hb⟩
  refine ⟨_, rfl, ?_⟩
  exact ⟨rfl, rfl, hb⟩
  refine wo_alloc (some 13) rfl rfl (by kernel_rfl) hM 33 rfl [.slice none 0 0, .slice none 0 0] Z_impl_Shared ?_
  clear hM; intro g6 W8 hM
  refine ⟨⟨hM.below, hM.blk 7 rfl, hM.blk 6 rfl⟩, ?_⟩
  go_frame
  refine wa_one 5 (by kernel_rfl) ?_
  replace hM := hM.pull 3 rfl
  replace hM := hM.pull 3 rfl
  replace hM : Mem w0 W8 [(m1, 52, (cellsOf l ++ p1)), (m2, 2, (cellsI c ++ p2)), (g6, 33, [.slice none 0 0, .slice none 0 0]), (g5, 36, (HD.cells HD.zero)), (g4, 36, (HD.cells HD.zero)), (g3, 33, [.slice none 0 0, .slice none 0 0]), (g2, 36, (HD.cells h)), (g1, 33, [.slice ua l.length uc, .slice xa c.length xc])] := hM
  refine wo_panics rfl (by kernel_rfl) ft #[.agg #[.slice (some ⟨m1, 0, none⟩) l.length k1, .slice (some ⟨m2, 0, none⟩) c.length k2], .int .i64 task, .agg (HD.cells h).toArray] (r_callfn rfl _ rfl (by kernel_rfl) _ (by kernel_rfl) hE) (hTF _ _ _ _ _ _ _ _ _ hM q1 q2 q3 q4 q5 q6) ?_
  rintro e W9 ⟨rfl, hb⟩
  refine ⟨_, rfl, ?_⟩
  exact ⟨rfl, rfl, hb⟩
  refine wo_alloc (some 13) rfl rfl (by kernel_rfl) hM 33 rfl [.slice none 0 0, .slice none 0 0] Z_impl_Shared ?_
  clear hM; intro g5 W6 hM
  refine ⟨⟨hM.below, hM.blk 4 rfl, hM.blk 3 rfl⟩, ?_⟩
  go_frame
  refine wa_two 2 10 (by kernel_rfl) ?_ ?_
  refine wo_call (some 36) rfl rfl (by kernel_rfl) 49 #[.agg #[.slice ua l.length uc, .slice xa c.length xc]] (by kernel_rfl) (impl_copyOf (.slice ua l.length uc) (.slice xa c.length xc) l c _ (h1.below hM.below) (h2.below hM.below) hl0 hc0 hl hc) ?_
  rintro e W7 ⟨m1, m2, k1, k2, p1, p2, rfl, ⟨q1, q2, q3, q4, q5, q6⟩, hMc⟩
  replace hM := hM.join hMc
  refine ⟨_, rfl, ⟨hM.below, hM.blk 6 rfl, hM.blk 5 rfl⟩, ?_⟩
  go_frame
  refine wa_two 5 10 (by kernel_rfl) ?_ ?_
  replace hM := hM.pull 1 rfl
  replace hM := hM.pull 1 rfl
  replace hM : Mem w0 W7 [(m1, 52, (cellsOf l ++ p1)), (m2, 2, (cellsI c ++ p2)), (g5, 33, [.slice none 0 0, .slice none 0 0]), (g4, 36, (HD.cells HD.zero)), (g3, 33, [.slice none 0 0, .slice none 0 0]), (g2, 36, (HD.cells h)), (g1, 33, [.slice ua l.length uc, .slice xa c.length xc])] := hM
  refine wo_panics rfl (by kernel_rfl) ft #[.agg #[.slice (some ⟨m1, 0, none⟩) l.length k1, .slice (some ⟨m2, 0, none⟩) c.length k2], .int .i64 task, .agg (HD.cells h).toArray] (r_callfn rfl _ rfl (by kernel_rfl) _ (by kernel_rfl) hE) (hTF _ _ _ _ _ _ _ _ _ hM q1 q2 q3 q4 q5 q6) ?_
  rintro e W8 ⟨rfl, hb⟩
  refine ⟨_, rfl, ?_⟩
  exact ⟨rfl, rfl, hb⟩
  refine wo_alloc (some 14) rfl rfl (by kernel_rfl) hM 36 rfl (HD.cells HD.zero) Z_impl_Hand ?_
  clear hM; intro g6 W8 hM
  refine ⟨⟨hM.below, hM.blk 7 rfl, hM.blk 6 rfl⟩, ?_⟩
  go_frame
  refine wa_one 5 (by kernel_rfl) ?_
  replace hM := hM.pull 2 rfl
  replace hM := hM.pull 2 rfl
  replace hM : Mem w0 W8 [(m1, 52, (cellsOf l ++ p1)), (m2, 2, (cellsI c ++ p2)), (g6, 36, (HD.cells HD.zero)), (g5, 33, [.slice none 0 0, .slice none 0 0]), (g4, 36, (HD.cells HD.zero)), (g3, 33, [.slice none 0 0, .slice none 0 0]), (g2, 36, (HD.cells h)), (g1, 33, [.slice ua l.length uc, .slice xa c.length xc])] := hM
  refine wo_panics rfl (by kernel_rfl) ft #[.agg #[.slice (some ⟨m1, 0, none⟩) l.length k1, .slice (some ⟨m2, 0, none⟩) c.length k2], .int .i64 task, .agg (HD.cells h).toArray] (r_callfn rfl _ rfl (by kernel_rfl) _ (by kernel_rfl) hE) (hTF _ _ _ _ _ _ _ _ _ hM q1 q2 q3 q4 q5 q6) ?_
  rintro e W9 ⟨rfl, hb⟩
  refine ⟨_, rfl, ?_⟩
  exact ⟨rfl, rfl, hb⟩
  refine wo_alloc (some 14) rfl rfl (by kernel_rfl) hM 36 rfl (HD.cells HD.zero) Z_impl_Hand ?_
  clear hM; intro g6 W7 hM
  refine ⟨⟨hM.below, hM.blk 5 rfl, hM.blk 4 rfl⟩, ?_⟩
  go_frame
  refine wa_one 2 (by kernel_rfl) ?_
  refine wo_call (some 36) rfl rfl (by kernel_rfl) 49 #[.agg #[.slice ua l.length uc, .slice xa c.length xc]] (by kernel_rfl) (impl_copyOf (.slice ua l.length uc) (.slice xa c.length xc) l c _ (h1.below hM.below) (h2.below hM.below) hl0 hc0 hl hc) ?_
  rintro e W8 ⟨m1, m2, k1, k2, p1, p2, rfl, ⟨q1, q2, q3, q4, q5, q6⟩, hMc⟩
  replace hM := hM.join hMc
  refine ⟨_, rfl, ⟨hM.below, hM.blk 7 rfl, hM.blk 6 rfl⟩, ?_⟩
  go_frame
  refine wa_one 5 (by kernel_rfl) ?_
  replace hM := hM.pull 1 rfl
  replace hM := hM.pull 1 rfl
  replace hM : Mem w0 W8 [(m1, 52, (cellsOf l ++ p1)), (m2, 2, (cellsI c ++ p2)), (g6, 36, (HD.cells HD.zero)), (g5, 33, [.slice none 0 0, .slice none 0 0]), (g4, 36, (HD.cells HD.zero)), (g3, 33, [.slice none 0 0, .slice none 0 0]), (g2, 36, (HD.cells h)), (g1, 33, [.slice ua l.length uc, .slice xa c.length xc])] := hM
  refine wo_panics rfl (by kernel_rfl) ft #[.agg #[.slice (some ⟨m1, 0, none⟩) l.length k1, .slice (some ⟨m2, 0, none⟩) c.length k2], .int .i64 task, .agg (HD.cells h).toArray] (r_callfn rfl _ rfl (by kernel_rfl) _ (by kernel_rfl) hE) (hTF _ _ _ _ _ _ _ _ _ hM q1 q2 q3 q4 q5 q6) ?_
  rintro e W9 ⟨rfl, hb⟩
  refine ⟨_, rfl, ?_⟩
  exact ⟨rfl, rfl, hb⟩
  refine wo_alloc (some 14) rfl rfl (by kernel_rfl) hM 36 rfl (HD.cells HD.zero) Z_impl_Hand ?_
  clear hM; intro g5 W6 hM
  refine ⟨⟨hM.below, hM.blk 4 rfl, hM.blk 3 rfl⟩, ?_⟩
  go_frame
  refine wa_two 2 9 (by kernel_rfl) ?_ ?_
  refine wo_call (some 36) rfl rfl (by kernel_rfl) 49 #[.agg #[.slice ua l.length uc, .slice xa c.length xc]] (by kernel_rfl) (impl_copyOf (.slice ua l.length uc) (.slice xa c.length xc) l c _ (h1.below hM.below) (h2.below hM.below) hl0 hc0 hl hc) ?_
  rintro e W7 ⟨m1, m2, k1, k2, p1, p2, rfl, ⟨q1, q2, q3, q4, q5, q6⟩, hMc⟩
  replace hM := hM.join hMc
  refine ⟨_, rfl, ⟨hM.below, hM.blk 6 rfl, hM.blk 5 rfl⟩, ?_⟩
  go_frame
  refine wa_two 5 9 (by kernel_rfl) ?_ ?_
  replace hM := hM.pull 1 rfl
  replace hM := hM.pull 1 rfl
  replace hM : Mem w0 W7 [(m1, 52, (cellsOf l ++ p1)), (m2, 2, (cellsI c ++ p2)), (g5, 36, (HD.cells HD.zero)), (g4, 36, (HD.cells HD.zero)), (g3, 33, [.slice none 0 0, .slice none 0 0]), (g2, 36, (HD.cells h)), (g1, 33, [.slice ua l.length uc, .slice xa c.length xc])] := hM
  refine wo_panics rfl (by kernel_rfl) ft #[.agg #[.slice (some ⟨m1, 0, none⟩) l.length k1, .slice (some ⟨m2, 0, none⟩) c.length k2], .int .i64 task, .agg (HD.cells h).toArray] (r_callfn rfl _ rfl (by kernel_rfl) _ (by kernel_rfl) hE) (hTF _ _ _ _ _ _ _ _ _ hM q1 q2 q3 q4 q5 q6) ?_
  rintro e W8 ⟨rfl, hb⟩
  refine ⟨_, rfl, ?_⟩
  exact ⟨rfl, rfl, hb⟩
  refine wo_alloc (some 13) rfl rfl (by kernel_rfl) hM 33 rfl [.slice none 0 0, .slice none 0 0] Z_impl_Shared ?_
  clear hM; intro g6 W8 hM
  refine ⟨⟨hM.below, hM.blk 7 rfl, hM.blk 6 rfl⟩, ?_⟩
  go_frame
  refine wa_one 5 (by kernel_rfl) ?_
  replace hM := hM.pull 2 rfl
  replace hM := hM.pull 2 rfl
  replace hM : Mem w0 W8 [(m1, 52, (cellsOf l ++ p1)), (m2, 2, (cellsI c ++ p2)), (g6, 33, [.slice none 0 0, .slice none 0 0]), (g5, 36, (HD.cells HD.zero)), (g4, 36, (HD.cells HD.zero)), (g3, 33, [.slice none 0 0, .slice none 0 0]), (g2, 36, (HD.cells h)), (g1, 33, [.slice ua l.length uc, .slice xa c.length xc])] := hM
  refine wo_panics rfl (by kernel_rfl) ft #[.agg #[.slice (some ⟨m1, 0, none⟩) l.length k1, .slice (some ⟨m2, 0, none⟩) c.length k2], .int .i64 task, .agg (HD.cells h).toArray] (r_callfn rfl _ rfl (by kernel_rfl) _ (by kernel_rfl) hE) (hTF _ _ _ _ _ _ _ _ _ hM q1 q2 q3 q4 q5 q6) ?_
  rintro e W9 ⟨rfl, hb⟩
  refine ⟨_, rfl, ?_⟩
  exact ⟨rfl, rfl, hb⟩
  refine wo_alloc (some 13) rfl rfl (by kernel_rfl) hM 33 rfl [.slice none 0 0, .slice none 0 0] Z_impl_Shared ?_
  clear hM; intro g6 W7 hM
  refine ⟨⟨hM.below, hM.blk 5 rfl, hM.blk 4 rfl⟩, ?_⟩
  go_frame
  refine wa_one 2 (by kernel_rfl) ?_
  refine wo_call (some 36) rfl rfl (by kernel_rfl) 49 #[.agg #[.slice ua l.length uc, .slice xa c.length xc]] (by kernel_rfl) (impl_copyOf (.slice ua l.length uc) (.slice xa c.length xc) l c _ (h1.below hM.below) (h2.below hM.below) hl0 hc0 hl hc) ?_
  rintro e W8 ⟨m1, m2, k1, k2, p1, p2, rfl, ⟨q1, q2, q3, q4, q5, q6⟩, hMc⟩
  replace hM := hM.join hMc
  refine ⟨_, rfl, ⟨hM.below, hM.blk 7 rfl, hM.blk 6 rfl⟩, ?_⟩
  go_frame
  refine wa_one 5 (by kernel_rfl) ?_
  replace hM := hM.pull 1 rfl
  replace hM := hM.pull 1 rfl
  replace hM : Mem w0 W8 [(m1, 52, (cellsOf l ++ p1)), (m2, 2, (cellsI c ++ p2)), (g6, 33, [.slice none 0 0, .slice none 0 0]), (g5, 36, (HD.cells HD.zero)), (g4, 36, (HD.cells HD.zero)), (g3, 33, [.slice none 0 0, .slice none 0 0]), (g2, 36, (HD.cells h)), (g1, 33, [.slice ua l.length uc, .slice xa c.length xc])] := hM
  refine wo_panics rfl (by kernel_rfl) ft #[.agg #[.slice (some ⟨m1, 0, none⟩) l.length k1, .slice (some ⟨m2, 0, none⟩) c.length k2], .int .i64 task, .agg (HD.cells h).toArray] (r_callfn rfl _ rfl (by kernel_rfl) _ (by kernel_rfl) hE) (hTF _ _ _ _ _ _ _ _ _ hM q1 q2 q3 q4 q5 q6) ?_
  rintro e W9 ⟨rfl, hb⟩
  refine ⟨_, rfl, ?_⟩
  exact ⟨rfl, rfl, hb⟩

set_option maxRecDepth 100000 in
set_option maxHeartbeats 4000000 in
theorem touchedG_cannot (ua : Option Addr) (uc : Nat) (xa : Option Addr) (xc : Nat) (l : List ND) (c : List Int) (task : Int) (h : HD) (bT : Nat) (es : Array MapEntry) (nT : Nat) (w0 : World) (h1 : NSl w0 (.slice ua l.length uc) l) (h2 : SlI w0 (.slice xa c.length xc) c) (hl : l.length ≤ 1048576) (hc : c.length ≤ 1048576) (hTb : Tbl w0 bT es nT) (jt : Nat) (ft : FuncId) (hft : Instr.findNow (.int .i64) (.int .i64 h.at_) es.toList 0 = some (some (jt, .func (.func ft) #[] #[]))) (hE : ∀ (vs : Array Value) (w : World), (callFunc ft vs).run Try.prog w = .ok (.enter ft vs) w) (hok : canB l c task h = false) :
    Calls Try.prog 50 #[.map (some bT), .agg #[.slice ua l.length uc, .slice xa c.length xc], .int .i64 task, h.val] w0 (Says3 noR w0) := by
  unfold HD.val
  have hM := Mem.start w0
  go_enter Try.func50, Try.ntmps50
  refine wp_seq_k fun Kn1 cn1 => ?_
  refine wl_region ?_
  refine wl_box (by kernel_rfl) hM 33 _ rfl [.slice ua l.length uc, .slice xa c.length xc] rfl ?_
  clear hM; intro g1 W1 hM
  go_frame
  refine wl_box (by kernel_rfl) hM 36 _ rfl (HD.cells h) rfl ?_
  clear hM; intro g2 W2 hM
  go_frame
  refine wl_alloc (by kernel_rfl) hM 33 rfl [.slice none 0 0, .slice none 0 0] Z_impl_Shared ?_
  clear hM; intro g3 W3 hM
  go_frame
  refine wl_alloc (by kernel_rfl) hM 36 rfl (HD.cells HD.zero) Z_impl_Hand ?_
  clear hM; intro g4 W4 hM
  go_frame
  refine wl_pure (by kernel_rfl) (.bool false) (by kernel_rfl) ?_
  go_frame
  refine wl_nil ?_
  refine cn1 _ _ ?_
  clear cn1
  refine wp_seq_k fun Kn2 cn2 => ?_
  refine wl_region ?_
  refine wl_pure (by kernel_rfl) (.map (some bT)) (by kernel_rfl) ?_
  go_frame
  refine wl_pure (by kernel_rfl) (.pointer (some ⟨g2, 0, none⟩)) (by kernel_rfl) ?_
  go_frame
  refine wl_loadc (by kernel_rfl) hM 2 rfl 2 _ rfl 0 rfl Try.underlying2 rfl rfl ?_
  go_frame
  refine wl_look (by kernel_rfl) (hTb.below hM.below hTb.lt) 63 2 90 _ _ rfl Try.underlying63 Try.underlying2 rfl h.at_ rfl jt (.func (.func ft) #[] #[]) hft ?_
  go_frame
  refine wl_pure (by kernel_rfl) (.tuple #[.func (.func ft) #[] #[], .bool true]) (by kernel_rfl) ?_
  go_frame
  refine wl_pure (by kernel_rfl) (.func (.func ft) #[] #[]) (by kernel_rfl) ?_
  go_frame
  refine wl_pure (by kernel_rfl) (.bool true) (by kernel_rfl) ?_
  go_frame
  refine wl_pure (by kernel_rfl) (.func (.func ft) #[] #[]) (by kernel_rfl) ?_
  go_frame
  refine wl_pure (by kernel_rfl) (.bool true) (by kernel_rfl) ?_
  go_frame
  refine wl_nil ?_
  refine cn2 _ _ ?_
  clear cn2
  refine wp_seq_k fun Kn3 cn3 => ?_
  refine wp_seq_k fun Kn4 cn4 => ?_
  refine wl_region ?_
  refine wl_pure (by kernel_rfl) (.bool true) (by kernel_rfl) ?_
  go_frame
  refine wl_pure (by kernel_rfl) (.bool false) (by kernel_rfl) ?_
  go_frame
  refine wl_pure (by kernel_rfl) (.bool false) (by kernel_rfl) ?_
  go_frame
  refine wl_load (by kernel_rfl) hM 3 rfl 33 _ rfl rfl Try.underlying33 I_impl_Shared ?_
  go_frame
  refine wl_pure (by kernel_rfl) (.int .i64 task) (by kernel_rfl) ?_
  go_frame
  refine wl_load (by kernel_rfl) hM 2 rfl 36 _ rfl rfl Try.underlying36 I_impl_Hand ?_
  go_frame
  refine wl_call (by kernel_rfl) 65 #[.agg #[.slice ua l.length uc, .slice xa c.length xc], .int .i64 task, .agg (HD.cells h).toArray] (by kernel_rfl) (impl_canTouch ua uc xa xc l c task h _ (h1.below hM.below) (h2.below hM.below) hl hc) ?_
  rintro e W5 ⟨rfl, hb⟩
  refine ⟨.bool false, congrArg (fun b => Ending.returned (.bool b)) hok, ?_⟩
  replace hM := hM.call hb
  go_frame
  refine wl_pure (by kernel_rfl) (.bool true) (by kernel_rfl) ?_
  go_frame
  refine wl_pure (by kernel_rfl) (.bool true) (by kernel_rfl) ?_
  go_frame
  refine wl_nil ?_
  refine cn4 _ _ ?_
  clear cn4
  refine wp_cond_true rfl ?_
  refine wp_seq_k fun Kn5 cn5 => ?_
  refine wl_region ?_
  refine wl_pure (by kernel_rfl) (.agg #[.slice none 0 0, .slice none 0 0]) (by kernel_rfl) ?_
  go_frame
  refine wl_pure (by kernel_rfl) (.agg (HD.cells HD.zero).toArray) (by kernel_rfl) ?_
  go_frame
  refine wl_store (by kernel_rfl) hM 1 rfl 33 _ _ rfl rfl rfl [.slice none 0 0, .slice none 0 0] rfl I_impl_Shared rfl rfl ?_
  clear hM; intro W6 hM
  refine wl_store (by kernel_rfl) hM 0 rfl 36 _ _ rfl rfl rfl (HD.cells HD.zero) rfl I_impl_Hand rfl (hd_one' _) ?_
  clear hM; intro W7 hM
  refine wl_pure (by kernel_rfl) (.bool false) (by kernel_rfl) ?_
  go_frame
  refine wl_nil ?_
  refine cn5 _ _ ?_
  clear cn5
  refine wp_ret ?_
  simp only [Exit.then, Exit.inBlock]
  exact bodyPost_ret (ret_three (p := 8) (q := 9) (u := 10) (v := .bool false) rfl hM 1 0 rfl rfl rfl rfl rfl Try.underlying33 Try.underlying36 I_impl_Shared I_impl_Hand) rfl ⟨_, _, rfl, OwnR.nil _ _ _ _ _ _ _ (by simp [maxLen]), OwnR.nil _ _ _ _ _ _ _ (by simp [maxLen]), hM.below⟩
end Go.Proofs.Ythllpgjggmdmmaa
