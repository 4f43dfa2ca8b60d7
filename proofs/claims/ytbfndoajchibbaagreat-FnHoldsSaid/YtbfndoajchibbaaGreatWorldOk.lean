/- Whether a world is right: the model. -/
import Derived.Test.YtbfndoajchibbaaGreatShort
import Derived.Test.YtbfndoajchibbaaGreatRecs
namespace Go.Proofs.YtbfndoajchibbaaGreat
open Go.ChangeShapes Go.WideShapes Go.ChangeAt Go.RowKit
set_option linter.unusedVariables false
set_option maxRecDepth 100000
set_option maxHeartbeats 16000000
set_option linter.unusedSimpArgs false


theorem spec_l13Now (n : Int) (w0 : World) :
    Calls Tryz.prog 69 #[.int .i64 n] w0 fun e w' => e = .returned (.bool (inB n 0 20000)) ∧ Below w0.heap.size w0 w' := by
  have hM := Mem.start w0
  go_enter Tryz.func69, Tryz.ntmps69
  refine wp_seq_k fun _ cn1 => wl_region ?_
  refine np (.bool false) ?_
  go_frame
  refine wl_nil (cn1 _ _ ?_)
  clear cn1
  refine wp_seq_k fun _ cn2 => wl_region ?_
  refine np (.int .i64 n) ?_
  refine nc (spec_in n 0 20000 _) ?_
  rintro e W1 ⟨rfl, rfl⟩
  refine ⟨_, rfl, ?_⟩
  go_frame
  refine np (.bool (inB n 0 20000)) ?_
  go_frame
  refine wl_nil (cn2 _ _ ?_)
  clear cn2
  refine wp_ret ?_
  exact bodyPost_ret (v := .bool (inB n 0 20000)) (ret_tmp 2 rfl rfl) rfl ⟨rfl, hM.below⟩

theorem spec_l13Task (u x : Value) (a : Option Addr) (n k : Nat) (z : Value) (now who : Int) (w0 : World) (hn : n ≤ 1048576) :
    Calls Tryz.prog 66 #[.agg #[u, x, .slice a n k, z, .int .i64 now], .int .i64 who] w0 fun e w' => e = .returned (.bool (inB who 0 ((n : Int) - 1))) ∧ Below w0.heap.size w0 w' := by
  have hM := Mem.start w0
  go_enter Tryz.func66, Tryz.ntmps66
  refine wp_seq_k fun _ cn1 => wl_region ?_
  refine nx hM 59 [u, x, .slice a n k, z, .int .i64 now] ?_
  clear hM; intro g1 W1 hM
  refine np (.bool false) ?_
  go_frame
  refine wl_nil (cn1 _ _ ?_)
  clear cn1
  refine wp_seq_k fun _ cn2 => wl_region ?_
  refine np (.int .i64 who) ?_
  refine np (.pointer (some ⟨g1, 2, none⟩)) ?_
  refine ng hM 0 rfl 2 Tryz.underlying56 rfl ?_
  refine np (.int .i64 (n : Int)) ?_
  refine nI ((n : Int) - 1) ?_
  refine nc (spec_in who 0 ((n : Int) - 1) _) ?_
  rintro e W2 ⟨rfl, rfl⟩
  refine ⟨_, rfl, ?_⟩
  go_frame
  refine np (.bool (inB who 0 ((n : Int) - 1))) ?_
  go_frame
  refine wl_nil (cn2 _ _ ?_)
  clear cn2
  refine wp_ret ?_
  exact bodyPost_ret (v := .bool (inB who 0 ((n : Int) - 1))) (ret_tmp 4 rfl rfl) rfl ⟨rfl, hM.below⟩

theorem spec_WorldOk1 (u x y z : Value) (d : WD) (w0 : World) (hw : SlW w0 u x y z d) (hr : Room d) (hH : d.hs ≠ []) (hD : d.ds ≠ []) :
    Calls Tryz.prog 65 #[.agg #[u, x, y, z, .int .i64 d.now]] w0 fun e w' => e = .returned (.bool (worldB d)) ∧ Below w0.heap.size w0 w' := by
  obtain ⟨h1, h2, h3, h4⟩ := hw
  have H1 := h1
  have H2 := h2
  have H3 := h3
  have H4 := h4
  obtain ⟨r1, r2, r3, r4⟩ := hr
  obtain ⟨a1, i1, rfl, -⟩ := h1
  obtain ⟨a2, i2, rfl, -⟩ := h2
  obtain ⟨b3, off3, i3, rfl, kk3, mm3, s3, G3⟩ := SlR.at hd_len (by omega) h3 hH
  obtain ⟨b4, off4, i4, rfl, kk4, mm4, s4, G4⟩ := SlR.at dd_len (by omega) h4 hD
  have hM := Mem.start w0
  go_enter Tryz.func65, Tryz.ntmps65
  refine wp_seq_k fun _ cn1 => wl_region ?_
  refine nx hM 59 [.slice a1 d.l.length i1, .slice a2 d.c.length i2, .slice (some ⟨b3, off3, none⟩) d.hs.length i3, .slice (some ⟨b4, off4, none⟩) d.ds.length i4, .int .i64 d.now] ?_
  clear hM; intro g1 W1 hM
  refine np (.bool false) ?_
  go_frame
  refine wl_nil (cn1 _ _ ?_)
  clear cn1
  refine wp_seq_k fun Kn2 cn2 => ?_
  refine wp_seq_k fun _ cn3 => wl_region ?_
  refine np (.pointer (some ⟨g1, 0, none⟩)) ?_
  go_frame
  refine wl_part (by kernel_rfl) hM 0 rfl 55 _ rfl 0 rfl Tryz.underlying55 [.slice a1 d.l.length i1, .slice a2 d.c.length i2] I_impl_Shared rfl ?_
  go_frame
  refine nc (spec_SharedOk (.slice a1 d.l.length i1) (.slice a2 d.c.length i2) d.l d.c _ (H1.below hM.below) (H2.below hM.below) r1 r2) ?_
  rintro e W2 ⟨rfl, hb⟩
  refine ⟨_, rfl, ?_⟩
  replace hM := hM.call hb
  go_frame
  rcases tf ((sharedB d.l d.c)) with hx5 | hx5
  rw [hx5]
  refine np (.bool false) ?_
  refine np (.bool false) ?_
  refine np (.pointer (some ⟨g1, 2, none⟩)) ?_
  refine ng hM 0 rfl 2 Tryz.underlying56 rfl ?_
  refine np (.int .i64 (d.hs.length : Int)) ?_
  refine np (.pointer (some ⟨g1, 0, none⟩)) ?_
  refine np (.pointer (some ⟨g1, 1, none⟩)) ?_
  refine ng hM 0 rfl 1 Tryz.underlying33 rfl ?_
  refine np (.int .i64 (d.c.length : Int)) ?_
  refine np (.bool ((d.hs.length : Int) != (d.c.length : Int))) ?_
  refine np (.bool ((d.hs.length : Int) != (d.c.length : Int))) ?_
  refine np (.bool ((d.hs.length : Int) != (d.c.length : Int))) ?_
  go_frame
  rcases tf (((d.hs.length : Int) != (d.c.length : Int))) with hx6 | hx6
  rw [hx6]
  iterate 4 refine ns ?_
  refine np (.bool true) ?_
  refine np (.bool true) ?_
  iterate 4 refine ns ?_
  refine np (.bool true) ?_
  go_frame
  refine wl_nil (cn3 _ _ ?_)
  clear cn3
  refine wp_cond_true rfl ?_
  refine wp_seq_k fun _ cn4 => wl_region ?_
  refine np (.bool false) ?_
  go_frame
  refine wl_nil (cn4 _ _ ?_)
  clear cn4
  refine wp_ret ?_
  simp only [Exit.then, Exit.inBlock]
  exact bodyPost_ret (v := .bool false) (ret_tmp 2 rfl rfl) rfl ⟨ret_b (show false = worldB d from by simp only [worldB, hx5, hx6, Bool.true_and, Bool.and_true, Bool.false_and, Bool.and_false, Bool.not_true, Bool.not_false]), hM.below⟩
  rw [hx6]
  refine np (.pointer (some ⟨g1, 3, none⟩)) ?_
  refine ng hM 0 rfl 3 Tryz.underlying57 rfl ?_
  refine np (.int .i64 (d.ds.length : Int)) ?_
  refine np (.bool (decide ((d.ds.length : Int) > 1000))) ?_
  refine np (.bool (decide ((d.ds.length : Int) > 1000))) ?_
  refine np (.bool (decide ((d.ds.length : Int) > 1000))) ?_
  go_frame
  rcases tf (decide ((d.ds.length : Int) > 1000)) with hx7 | hx7
  rw [hx7]
  iterate 4 refine ns ?_
  refine np (.bool true) ?_
  go_frame
  refine wl_nil (cn3 _ _ ?_)
  clear cn3
  refine wp_cond_true rfl ?_
  refine wp_seq_k fun _ cn4 => wl_region ?_
  refine np (.bool false) ?_
  go_frame
  refine wl_nil (cn4 _ _ ?_)
  clear cn4
  refine wp_ret ?_
  simp only [Exit.then, Exit.inBlock]
  exact bodyPost_ret (v := .bool false) (ret_tmp 2 rfl rfl) rfl ⟨ret_b (show false = worldB d from by simp only [worldB, hx5, hx6, hx7, Bool.true_and, Bool.and_true, Bool.false_and, Bool.and_false, Bool.not_true, Bool.not_false]), hM.below⟩
  rw [hx7]
  refine np (.pointer (some ⟨g1, 4, none⟩)) ?_
  refine ng hM 0 rfl 4 Tryz.underlying2 rfl ?_
  refine nc (spec_l13Now d.now _) ?_
  rintro e W3 ⟨rfl, hb⟩
  refine ⟨_, rfl, ?_⟩
  replace hM := hM.call hb
  go_frame
  rcases tf ((inB d.now 0 20000)) with hx8 | hx8
  rw [hx8]
  refine np (.bool false) ?_
  refine np (.bool false) ?_
  go_frame
  refine wl_nil (cn3 _ _ ?_)
  clear cn3
  refine wp_cond_false rfl ?_
  refine wp_skip ?_
  refine cn2 _ _ ?_
  clear cn2
  refine wp_seq_k fun Kn4 cn4 => ?_
  refine wp_seq_k fun _ cn5 => wl_region ?_
  refine np (.int .i64 0) ?_
  go_frame
  refine wl_nil (cn5 _ _ ?_)
  clear cn5
  refine wp_block ?_
  refine wp_loop (fun act w => ∃ (k : Nat) (U1 : Nat → Value), act = ⟨#[.agg #[.slice a1 d.l.length i1, .slice a2 d.c.length i2, .slice (some ⟨b3, off3, none⟩) d.hs.length i3, .slice (some ⟨b4, off4, none⟩) d.ds.length i4, .int .i64 d.now], .pointer (some ⟨g1, 0, none⟩), (U1 0), .int .i64 (k : Int), undef, undef, .pointer (some ⟨g1, 0, none⟩), .agg #[.slice a1 d.l.length i1, .slice a2 d.c.length i2], .bool true, .bool false, .bool false, .pointer (some ⟨g1, 2, none⟩), .slice (some ⟨b3, off3, none⟩) d.hs.length i3, .int .i64 (d.hs.length : Int), .pointer (some ⟨g1, 0, none⟩), .pointer (some ⟨g1, 1, none⟩), .slice a2 d.c.length i2, .int .i64 (d.c.length : Int), .bool false, .bool false, .bool false, .pointer (some ⟨g1, 3, none⟩), .slice (some ⟨b4, off4, none⟩) d.ds.length i4, .int .i64 (d.ds.length : Int), .bool false, .bool false, .bool false, .pointer (some ⟨g1, 4, none⟩), .int .i64 d.now, .bool true, .bool false, .bool false, (U1 1), (U1 2), (U1 3), (U1 4), (U1 5), (U1 6), (U1 7), (U1 8), (U1 9), (U1 10), (U1 11), (U1 12), (U1 13), (U1 14), (U1 15), (U1 16), (U1 17), (U1 18), (U1 19), (U1 20), (U1 21), (U1 22), (U1 23), (U1 24), (U1 25), undef, undef, undef, undef, undef, undef, undef, undef, undef, undef, undef, undef, undef, undef, undef, undef, undef, undef, undef, undef, undef, undef, undef, undef, undef, undef, undef, undef, undef, undef, undef, undef, undef, undef, undef, undef, undef, undef, undef, undef, undef, undef, undef, undef, undef, undef, undef], []⟩ ∧ Mem w0 w [(g1, 59, [.slice a1 d.l.length i1, .slice a2 d.c.length i2, .slice (some ⟨b3, off3, none⟩) d.hs.length i3, .slice (some ⟨b4, off4, none⟩) d.ds.length i4, .int .i64 d.now])] ∧ (k ≤ d.hs.length ∧ ∀ j m, j < k → d.hs[j]? = some m → (fun h => handB h && !decide (h.begin_ > d.now)) m = true)) (fun act _ => d.hs.length - (intOf (act.tmps.getD 3 undef)).toNat) ?_ ?_
  exact ⟨0, (fun i => [.bool false, undef, undef, undef, undef, undef, undef, undef, undef, undef, undef, undef, undef, undef, undef, undef, undef, undef, undef, undef, undef, undef, undef, undef, undef, undef].getD i undef), rfl, hM, by omega, fun j n hj => by omega⟩
  clear hM
  rintro act w ⟨k, U1, rfl, hM, hk, hP⟩
  refine wp_seq_k fun Kn6 cn6 => ?_
  refine wp_seq_k fun _ cn7 => wl_region ?_
  refine np (.int .i64 (k : Int)) ?_
  refine np (.pointer (some ⟨g1, 2, none⟩)) ?_
  refine ng hM 0 rfl 2 Tryz.underlying56 rfl ?_
  refine np (.int .i64 (d.hs.length : Int)) ?_
  refine np (.bool (decide ((k : Int) < (d.hs.length : Int)))) ?_
  go_frame
  refine wl_nil (cn7 _ _ ?_)
  clear cn7
  rcases tf (decide ((k : Int) < (d.hs.length : Int))) with hx9 | hx9
  rw [hx9]
  have hk5 : k < d.hs.length := by simp at hx9; omega
  obtain ⟨hh, hhk⟩ : ∃ h, d.hs[k]? = some h := ⟨_, List.getElem?_eq_getElem hk5⟩
  refine wp_cond_true rfl ?_
  refine wp_skip ?_
  refine cn6 _ _ ?_
  clear cn6
  refine wp_seq_k fun Kn8 cn8 => ?_
  refine wp_block ?_
  refine wp_seq_k fun Kn9 cn9 => ?_
  rcases tf ((handB hh)) with hx10 | hx10
  refine wa_start (fun w => Below w0.heap.size w0 w ∧ Blk w g1 59 [.slice a1 d.l.length i1, .slice a2 d.c.length i2, .slice (some ⟨b3, off3, none⟩) d.hs.length i3, .slice (some ⟨b4, off4, none⟩) d.ds.length i4, .int .i64 d.now]) 18 rfl (by kernel_rfl) ?_
  replace hM := hM.drew
  refine wt 0 (some 39) (.pointer (some ⟨g1, 2, none⟩)) ⟨hM.below, hM.blk 0 rfl⟩ ?_
  go_frame
  refine wq 1 (some 40) (.slice (some ⟨b3, off3, none⟩) d.hs.length i3) ⟨hM.below, hM.blk 0 rfl⟩ rfl (fun w hS => r_loadc hS.2 56 _ rfl 2 rfl Tryz.underlying56 rfl rfl) ?_
  refine wt 2 (some 41) (.int .i64 (k : Int)) ⟨hM.below, hM.blk 0 rfl⟩ ?_
  go_frame
  refine wq 3 (some 42) (.pointer (some ⟨b3, off3 + k * 17, none⟩)) ⟨hM.below, hM.blk 0 rfl⟩ rfl (fun w hS => r_index 56 73 _ _ rfl b3 off3 d.hs.length i3 17 k rfl rfl rfl (by omega) Tryz.underlying56 I_impl_Hand) ?_
  go_frame
  refine wq 4 (some 43) (.agg (HD.cells hh).toArray) ⟨hM.below, hM.blk 0 rfl⟩ rfl (fun w hS => r_cells 73 _ rfl b3 (off3 + k * 17) rfl Tryz.underlying73 (HD.cells hh) I_impl_Hand (row_far (Mem.ofBelow hS.1) s3 (G3 k hh hhk))) ?_
  go_frame
  refine wn 5 ?_
  refine oc (some 44) (spec_HandOk hh _) ?_
  rintro e W4 ⟨rfl, hb⟩
  replace hM := hM.call hb
  refine ⟨.bool true, rb hx10, wk ⟨hM.below, hM.blk 0 rfl⟩ fun hs => ?_⟩
  go_frame
  refine wt 6 (some 45) (.bool false) hs ?_
  refine wt 7 (some 46) (.bool false) hs ?_
  refine wt 8 (some 47) (.pointer (some ⟨g1, 2, none⟩)) hs ?_
  go_frame
  refine wq 9 (some 48) (.slice (some ⟨b3, off3, none⟩) d.hs.length i3) hs rfl (fun w hS => r_loadc hS.2 56 _ rfl 2 rfl Tryz.underlying56 rfl rfl) ?_
  refine wt 10 (some 49) (.int .i64 (k : Int)) hs ?_
  go_frame
  refine wq 11 (some 50) (.pointer (some ⟨b3, off3 + k * 17, none⟩)) hs rfl (fun w hS => r_index 56 73 _ _ rfl b3 off3 d.hs.length i3 17 k rfl rfl rfl (by omega) Tryz.underlying56 I_impl_Hand) ?_
  refine wt 12 (some 51) (.pointer (some ⟨b3, off3 + k * 17 + 14, none⟩)) hs ?_
  go_frame
  refine wq 13 (some 52) (.int .i64 hh.begin_) hs rfl (fun w hS => r_cell 2 _ rfl ⟨b3, off3 + k * 17 + 14, none⟩ rfl Tryz.underlying2 rfl (row_far (Mem.ofBelow hS.1) s3 (G3 k hh hhk) 14 _ rfl)) ?_
  refine wt 14 (some 53) (.pointer (some ⟨g1, 4, none⟩)) hs ?_
  go_frame
  refine wq 15 (some 54) (.int .i64 d.now) hs rfl (fun w hS => r_loadc hS.2 2 _ rfl 4 rfl Tryz.underlying2 rfl rfl) ?_
  refine wt 16 (some 55) (.bool (decide (hh.begin_ > d.now))) hs ?_
  refine wt 17 (some 56) (.bool (decide (hh.begin_ > d.now))) hs ?_
  go_frame
  refine wa_done (by kernel_rfl) ?_
  refine cn9 _ _ ?_
  clear cn9
  rcases tf (decide (hh.begin_ > d.now)) with hx11 | hx11
  rw [hx11]
  refine wp_cond_true rfl ?_
  refine wp_seq_k fun _ cn10 => wl_region ?_
  refine np (.bool false) ?_
  go_frame
  refine wl_nil (cn10 _ _ ?_)
  clear cn10
  refine wp_ret ?_
  simp only [Exit.then, Exit.inBlock]
  have hoff : d.hs.all (fun h => handB h && !decide (h.begin_ > d.now)) = false := all_off hhk (show (fun h => handB h && !decide (h.begin_ > d.now)) hh = false from by simp [hx10, hx11])
  exact bodyPost_ret (v := .bool false) (ret_tmp 2 rfl rfl) rfl ⟨ret_b (show false = worldB d from by simp only [worldB, hoff, hx5, hx6, hx7, hx8, Bool.true_and, Bool.and_true, Bool.false_and, Bool.and_false, Bool.not_true, Bool.not_false]), hM.below⟩
  rw [hx11]
  refine wp_cond_false rfl ?_
  refine wp_skip ?_
  refine cn8 _ _ ?_
  clear cn8
  refine wl_region ?_
  refine np (.int .i64 (k : Int)) ?_
  refine nI ((k : Int) + 1) ?_
  refine np (.int .i64 ((k : Int) + 1)) ?_
  go_frame
  refine wl_nil ?_
  have HE : (fun h => handB h && !decide (h.begin_ > d.now)) hh = true := by simp [hx10, hx11]
  rw [show ((k : Int) + 1) = ((k + 1 : Nat) : Int) by omega]
  exact ⟨⟨k + 1, (fun i => [(U1 0), .int .i64 (k : Int), .pointer (some ⟨g1, 2, none⟩), .slice (some ⟨b3, off3, none⟩) d.hs.length i3, .int .i64 (d.hs.length : Int), .bool true, .int .i64 (k : Int), .int .i64 ((k : Int) + 1), .pointer (some ⟨g1, 2, none⟩), .slice (some ⟨b3, off3, none⟩) d.hs.length i3, .int .i64 (k : Int), .pointer (some ⟨b3, off3 + k * 17, none⟩), .agg (HD.cells hh).toArray, .bool true, .bool false, .bool false, .pointer (some ⟨g1, 2, none⟩), .slice (some ⟨b3, off3, none⟩) d.hs.length i3, .int .i64 (k : Int), .pointer (some ⟨b3, off3 + k * 17, none⟩), .pointer (some ⟨b3, off3 + k * 17 + 14, none⟩), .int .i64 hh.begin_, .pointer (some ⟨g1, 4, none⟩), .int .i64 d.now, .bool false, .bool false].getD i undef), rfl, hM, by omega, fun j m hj hm => if e : j = k then (by subst e; rw [hhk] at hm; cases hm; exact HE) else hP j m (by omega) hm⟩, by simp [intOf]; omega⟩
  refine wa_start (fun w => Below w0.heap.size w0 w ∧ Blk w g1 59 [.slice a1 d.l.length i1, .slice a2 d.c.length i2, .slice (some ⟨b3, off3, none⟩) d.hs.length i3, .slice (some ⟨b4, off4, none⟩) d.ds.length i4, .int .i64 d.now]) 18 rfl (by kernel_rfl) ?_
  replace hM := hM.drew
  refine wt 0 (some 39) (.pointer (some ⟨g1, 2, none⟩)) ⟨hM.below, hM.blk 0 rfl⟩ ?_
  go_frame
  refine wq 1 (some 40) (.slice (some ⟨b3, off3, none⟩) d.hs.length i3) ⟨hM.below, hM.blk 0 rfl⟩ rfl (fun w hS => r_loadc hS.2 56 _ rfl 2 rfl Tryz.underlying56 rfl rfl) ?_
  refine wt 2 (some 41) (.int .i64 (k : Int)) ⟨hM.below, hM.blk 0 rfl⟩ ?_
  go_frame
  refine wq 3 (some 42) (.pointer (some ⟨b3, off3 + k * 17, none⟩)) ⟨hM.below, hM.blk 0 rfl⟩ rfl (fun w hS => r_index 56 73 _ _ rfl b3 off3 d.hs.length i3 17 k rfl rfl rfl (by omega) Tryz.underlying56 I_impl_Hand) ?_
  go_frame
  refine wq 4 (some 43) (.agg (HD.cells hh).toArray) ⟨hM.below, hM.blk 0 rfl⟩ rfl (fun w hS => r_cells 73 _ rfl b3 (off3 + k * 17) rfl Tryz.underlying73 (HD.cells hh) I_impl_Hand (row_far (Mem.ofBelow hS.1) s3 (G3 k hh hhk))) ?_
  go_frame
  refine wn 5 ?_
  refine oc (some 44) (spec_HandOk hh _) ?_
  rintro e W4 ⟨rfl, hb⟩
  replace hM := hM.call hb
  refine ⟨.bool false, rb hx10, wk ⟨hM.below, hM.blk 0 rfl⟩ fun hs => ?_⟩
  go_frame
  refine wt 6 (some 45) (.bool true) hs ?_
  refine wt 7 (some 46) (.bool true) hs ?_
  go_frame
  refine ws 8 (some 47) hs ?_
  go_frame
  refine ws 9 (some 48) hs ?_
  go_frame
  refine ws 10 (some 49) hs ?_
  go_frame
  refine ws 11 (some 50) hs ?_
  go_frame
  refine ws 12 (some 51) hs ?_
  go_frame
  refine ws 13 (some 52) hs ?_
  go_frame
  refine ws 14 (some 53) hs ?_
  go_frame
  refine ws 15 (some 54) hs ?_
  go_frame
  refine ws 16 (some 55) hs ?_
  go_frame
  refine wt 17 (some 56) (.bool true) hs ?_
  go_frame
  refine wa_done (by kernel_rfl) ?_
  refine cn9 _ _ ?_
  clear cn9
  refine wp_cond_true rfl ?_
  refine wp_seq_k fun _ cn10 => wl_region ?_
  refine np (.bool false) ?_
  go_frame
  refine wl_nil (cn10 _ _ ?_)
  clear cn10
  refine wp_ret ?_
  simp only [Exit.then, Exit.inBlock]
  have hoff : d.hs.all (fun h => handB h && !decide (h.begin_ > d.now)) = false := all_off hhk (show (fun h => handB h && !decide (h.begin_ > d.now)) hh = false from by simp [hx10])
  exact bodyPost_ret (v := .bool false) (ret_tmp 2 rfl rfl) rfl ⟨ret_b (show false = worldB d from by simp only [worldB, hoff, hx5, hx6, hx7, hx8, Bool.true_and, Bool.and_true, Bool.false_and, Bool.and_false, Bool.not_true, Bool.not_false]), hM.below⟩
  rw [hx9]
  have hke : k = d.hs.length := by simp at hx9; omega
  subst hke
  have hall : d.hs.all (fun h => handB h && !decide (h.begin_ > d.now)) = true := all_on hP
  refine wp_cond_false rfl ?_
  refine wp_exit ?_
  refine cn4 _ _ ?_
  clear cn4
  refine wp_seq_k fun Kn8 cn8 => ?_
  refine wp_seq_k fun _ cn9 => wl_region ?_
  refine np (.int .i64 0) ?_
  go_frame
  refine wl_nil (cn9 _ _ ?_)
  clear cn9
  refine wp_block ?_
  refine wp_loop (fun act w => ∃ (q : Nat) (U2 : Nat → Value), act = ⟨#[.agg #[.slice a1 d.l.length i1, .slice a2 d.c.length i2, .slice (some ⟨b3, off3, none⟩) d.hs.length i3, .slice (some ⟨b4, off4, none⟩) d.ds.length i4, .int .i64 d.now], .pointer (some ⟨g1, 0, none⟩), (U2 0), .int .i64 (d.hs.length : Int), .int .i64 (q : Int), (U2 1), .pointer (some ⟨g1, 0, none⟩), .agg #[.slice a1 d.l.length i1, .slice a2 d.c.length i2], .bool true, .bool false, .bool false, .pointer (some ⟨g1, 2, none⟩), .slice (some ⟨b3, off3, none⟩) d.hs.length i3, .int .i64 (d.hs.length : Int), .pointer (some ⟨g1, 0, none⟩), .pointer (some ⟨g1, 1, none⟩), .slice a2 d.c.length i2, .int .i64 (d.c.length : Int), .bool false, .bool false, .bool false, .pointer (some ⟨g1, 3, none⟩), .slice (some ⟨b4, off4, none⟩) d.ds.length i4, .int .i64 (d.ds.length : Int), .bool false, .bool false, .bool false, .pointer (some ⟨g1, 4, none⟩), .int .i64 d.now, .bool true, .bool false, .bool false, .int .i64 (d.hs.length : Int), .pointer (some ⟨g1, 2, none⟩), .slice (some ⟨b3, off3, none⟩) d.hs.length i3, .int .i64 (d.hs.length : Int), .bool false, (U1 6), (U1 7), (U1 8), (U1 9), (U1 10), (U1 11), (U1 12), (U1 13), (U1 14), (U1 15), (U1 16), (U1 17), (U1 18), (U1 19), (U1 20), (U1 21), (U1 22), (U1 23), (U1 24), (U1 25), (U2 2), (U2 3), (U2 4), (U2 5), (U2 6), (U2 7), (U2 8), (U2 9), (U2 10), (U2 11), (U2 12), (U2 13), (U2 14), (U2 15), (U2 16), (U2 17), (U2 18), (U2 19), (U2 20), (U2 21), (U2 22), (U2 23), (U2 24), (U2 25), (U2 26), (U2 27), (U2 28), (U2 29), (U2 30), (U2 31), (U2 32), (U2 33), (U2 34), (U2 35), (U2 36), (U2 37), (U2 38), (U2 39), (U2 40), (U2 41), (U2 42), (U2 43), (U2 44), (U2 45), (U2 46), (U2 47), (U2 48)], []⟩ ∧ Mem w0 w [(g1, 59, [.slice a1 d.l.length i1, .slice a2 d.c.length i2, .slice (some ⟨b3, off3, none⟩) d.hs.length i3, .slice (some ⟨b4, off4, none⟩) d.ds.length i4, .int .i64 d.now])] ∧ (q ≤ d.ds.length ∧ ∀ j m, j < q → d.ds[j]? = some m → (dealB d.hs.length d.now) m = true)) (fun act _ => d.ds.length - (intOf (act.tmps.getD 4 undef)).toNat) ?_ ?_
  exact ⟨0, (fun i => [(U1 0), undef, undef, undef, undef, undef, undef, undef, undef, undef, undef, undef, undef, undef, undef, undef, undef, undef, undef, undef, undef, undef, undef, undef, undef, undef, undef, undef, undef, undef, undef, undef, undef, undef, undef, undef, undef, undef, undef, undef, undef, undef, undef, undef, undef, undef, undef, undef, undef].getD i undef), rfl, hM, by omega, fun j n hj => by omega⟩
  clear hM
  rintro act w ⟨q, U2, rfl, hM, hq, hP2⟩
  refine wp_seq_k fun Kn10 cn10 => ?_
  refine wp_seq_k fun _ cn11 => wl_region ?_
  refine np (.int .i64 (q : Int)) ?_
  refine np (.pointer (some ⟨g1, 3, none⟩)) ?_
  refine ng hM 0 rfl 3 Tryz.underlying57 rfl ?_
  refine np (.int .i64 (d.ds.length : Int)) ?_
  refine np (.bool (decide ((q : Int) < (d.ds.length : Int)))) ?_
  go_frame
  refine wl_nil (cn11 _ _ ?_)
  clear cn11
  rcases tf (decide ((q : Int) < (d.ds.length : Int))) with hx12 | hx12
  rw [hx12]
  have hq5 : q < d.ds.length := by simp at hx12; omega
  obtain ⟨dd, hdq⟩ : ∃ h, d.ds[q]? = some h := ⟨_, List.getElem?_eq_getElem hq5⟩
  refine wp_cond_true rfl ?_
  refine wp_skip ?_
  refine cn10 _ _ ?_
  clear cn10
  refine wp_seq_k fun Kn12 cn12 => ?_
  refine wp_block ?_
  refine wp_seq_k fun _ cn13 => wl_region ?_
  refine np (.pointer (some ⟨g1, 3, none⟩)) ?_
  refine ng hM 0 rfl 3 Tryz.underlying57 rfl ?_
  refine np (.int .i64 (q : Int)) ?_
  go_frame
  refine wl_index (by kernel_rfl) 57 113 _ _ rfl b4 off4 d.ds.length i4 8 q rfl rfl rfl (by omega) Tryz.underlying57 I_impl_Deal ?_
  go_frame
  refine wl_cells (by kernel_rfl) 113 _ rfl b4 (off4 + q * 8) rfl Tryz.underlying113 (DD.cells dd) I_impl_Deal (row_far hM s4 (G4 q dd hdq)) ?_
  go_frame
  refine na hM [.int .i64 0, .int .i64 0, .int .i64 0, .int .i64 0, .int .i64 0, .int .i64 0, .int .i64 0, .int .i64 0] Z_impl_Deal ?_
  clear hM; intro g2 W4 hM
  refine nS hM 0 rfl (DD.cells dd) I_impl_Deal (dd_one _) ?_
  clear hM; intro W5 hM
  refine wl_nil (cn13 _ _ ?_)
  clear cn13
  refine wp_seq_k fun _ cn14 => wl_region ?_
  refine nl hM 1 rfl Tryz.underlying59 I_impl_World ?_
  refine np (.pointer (some ⟨g2, 0, none⟩)) ?_
  refine ng hM 0 rfl 0 Tryz.underlying2 rfl ?_
  go_frame
  refine nC #[.agg #[.slice a1 d.l.length i1, .slice a2 d.c.length i2, .slice (some ⟨b3, off3, none⟩) d.hs.length i3, .slice (some ⟨b4, off4, none⟩) d.ds.length i4, .int .i64 d.now], .int .i64 dd.task] (spec_l13Task (.slice a1 d.l.length i1) (.slice a2 d.c.length i2) _ d.hs.length _ _ d.now dd.task _ (by omega)) ?_
  rintro e W6 ⟨rfl, hb⟩
  refine ⟨_, rfl, ?_⟩
  replace hM := hM.call hb
  go_frame
  rcases tf ((inB dd.task 0 ((d.hs.length : Int) - 1))) with hx18 | hx18
  rw [hx18]
  refine np (.bool false) ?_
  refine np (.bool false) ?_
  refine np (.pointer (some ⟨g2, 1, none⟩)) ?_
  go_frame
  refine wl_part (by kernel_rfl) hM 0 rfl 71 _ rfl 1 rfl Tryz.underlying71 [.int .i64 dd.c, .int .i64 dd.k, .int .i64 dd.v] I_impl_Call rfl ?_
  go_frame
  refine np (.pointer (some ⟨g2, 6, none⟩)) ?_
  refine ng hM 0 rfl 6 Tryz.underlying2 rfl ?_
  refine nc (spec_ReplyOk dd.c dd.k dd.v dd.reply _) ?_
  rintro e W7 ⟨rfl, hb⟩
  refine ⟨_, rfl, ?_⟩
  replace hM := hM.call hb
  go_frame
  rcases tf ((replyB dd.c dd.k dd.v dd.reply)) with hx19 | hx19
  rw [hx19]
  refine np (.bool false) ?_
  refine np (.bool false) ?_
  refine np (.bool false) ?_
  refine np (.pointer (some ⟨g2, 4, none⟩)) ?_
  refine ng hM 0 rfl 4 Tryz.underlying2 rfl ?_
  refine np (.pointer (some ⟨g1, 4, none⟩)) ?_
  refine ng hM 1 rfl 4 Tryz.underlying2 rfl ?_
  refine nc (spec_in dd.begin_ 0 d.now _) ?_
  rintro e W8 ⟨rfl, rfl⟩
  refine ⟨_, rfl, ?_⟩
  go_frame
  rcases tf (inB dd.begin_ 0 d.now) with hx20 | hx20
  rw [hx20]
  refine np (.bool false) ?_
  refine np (.bool false) ?_
  refine np (.bool false) ?_
  refine np (.pointer (some ⟨g2, 5, none⟩)) ?_
  refine ng hM 0 rfl 5 Tryz.underlying2 rfl ?_
  refine np (.pointer (some ⟨g1, 4, none⟩)) ?_
  refine ng hM 1 rfl 4 Tryz.underlying2 rfl ?_
  refine nc (spec_in dd.end_ 0 d.now _) ?_
  rintro e W9 ⟨rfl, rfl⟩
  refine ⟨_, rfl, ?_⟩
  go_frame
  rcases tf (inB dd.end_ 0 d.now) with hx21 | hx21
  rw [hx21]
  refine np (.bool false) ?_
  refine np (.bool false) ?_
  refine np (.bool false) ?_
  refine np (.pointer (some ⟨g2, 7, none⟩)) ?_
  refine ng hM 0 rfl 7 Tryz.underlying2 rfl ?_
  refine nc (spec_in dd.out 0 999 _) ?_
  rintro e W10 ⟨rfl, rfl⟩
  refine ⟨_, rfl, ?_⟩
  go_frame
  rcases tf (inB dd.out 0 999) with hx22 | hx22
  rw [hx22]
  refine np (.bool false) ?_
  refine np (.bool false) ?_
  go_frame
  refine wl_nil (cn14 _ _ ?_)
  clear cn14
  refine wp_cond_false rfl ?_
  refine wp_skip ?_
  refine cn12 _ _ ?_
  clear cn12
  refine wl_region ?_
  refine np (.int .i64 (q : Int)) ?_
  refine nI ((q : Int) + 1) ?_
  refine np (.int .i64 ((q : Int) + 1)) ?_
  go_frame
  refine wl_nil ?_
  have HE : (dealB d.hs.length d.now) dd = true := by simp [dealB, hx18, hx19, hx20, hx21, hx22]
  replace hM := hM.rest
  rw [show ((q : Int) + 1) = ((q + 1 : Nat) : Int) by omega]
  exact ⟨⟨q + 1, (fun i => [(U2 0), .pointer (some ⟨g2, 0, none⟩), .int .i64 (q : Int), .pointer (some ⟨g1, 3, none⟩), .slice (some ⟨b4, off4, none⟩) d.ds.length i4, .int .i64 (d.ds.length : Int), .bool true, .int .i64 (q : Int), .int .i64 ((q : Int) + 1), .pointer (some ⟨g1, 3, none⟩), .slice (some ⟨b4, off4, none⟩) d.ds.length i4, .int .i64 (q : Int), .pointer (some ⟨b4, off4 + q * 8, none⟩), .agg (DD.cells dd).toArray, .agg #[.slice a1 d.l.length i1, .slice a2 d.c.length i2, .slice (some ⟨b3, off3, none⟩) d.hs.length i3, .slice (some ⟨b4, off4, none⟩) d.ds.length i4, .int .i64 d.now], .pointer (some ⟨g2, 0, none⟩), .int .i64 dd.task, .bool true, .bool false, .bool false, .pointer (some ⟨g2, 1, none⟩), .agg #[.int .i64 dd.c, .int .i64 dd.k, .int .i64 dd.v], .pointer (some ⟨g2, 6, none⟩), .int .i64 dd.reply, .bool true, .bool false, .bool false, .bool false, .pointer (some ⟨g2, 4, none⟩), .int .i64 dd.begin_, .pointer (some ⟨g1, 4, none⟩), .int .i64 d.now, .bool true, .bool false, .bool false, .bool false, .pointer (some ⟨g2, 5, none⟩), .int .i64 dd.end_, .pointer (some ⟨g1, 4, none⟩), .int .i64 d.now, .bool true, .bool false, .bool false, .bool false, .pointer (some ⟨g2, 7, none⟩), .int .i64 dd.out, .bool true, .bool false, .bool false].getD i undef), rfl, hM, by omega, fun j m hj hm => if e : j = q then (by subst e; rw [hdq] at hm; cases hm; exact HE) else hP2 j m (by omega) hm⟩, by simp [intOf]; omega⟩
  rw [hx22]
  refine np (.bool true) ?_
  refine np (.bool true) ?_
  go_frame
  refine wl_nil (cn14 _ _ ?_)
  clear cn14
  refine wp_cond_true rfl ?_
  refine wp_seq_k fun _ cn15 => wl_region ?_
  refine np (.bool false) ?_
  go_frame
  refine wl_nil (cn15 _ _ ?_)
  clear cn15
  refine wp_ret ?_
  simp only [Exit.then, Exit.inBlock]
  have hoff : d.ds.all (dealB d.hs.length d.now) = false := all_off hdq (show (dealB d.hs.length d.now) dd = false from by simp [dealB, hx18, hx19, hx20, hx21, hx22])
  exact bodyPost_ret (v := .bool false) (ret_tmp 2 rfl rfl) rfl ⟨ret_b (show false = worldB d from by simp only [worldB, hoff, hall, hx5, hx6, hx7, hx8, hx9, Bool.true_and, Bool.and_true, Bool.false_and, Bool.and_false, Bool.not_true, Bool.not_false]), hM.below⟩
  rw [hx21]
  refine np (.bool true) ?_
  refine np (.bool true) ?_
  refine np (.bool true) ?_
  iterate 4 refine ns ?_
  refine np (.bool true) ?_
  go_frame
  refine wl_nil (cn14 _ _ ?_)
  clear cn14
  refine wp_cond_true rfl ?_
  refine wp_seq_k fun _ cn15 => wl_region ?_
  refine np (.bool false) ?_
  go_frame
  refine wl_nil (cn15 _ _ ?_)
  clear cn15
  refine wp_ret ?_
  simp only [Exit.then, Exit.inBlock]
  have hoff : d.ds.all (dealB d.hs.length d.now) = false := all_off hdq (show (dealB d.hs.length d.now) dd = false from by simp [dealB, hx18, hx19, hx20, hx21])
  exact bodyPost_ret (v := .bool false) (ret_tmp 2 rfl rfl) rfl ⟨ret_b (show false = worldB d from by simp only [worldB, hoff, hall, hx5, hx6, hx7, hx8, hx9, Bool.true_and, Bool.and_true, Bool.false_and, Bool.and_false, Bool.not_true, Bool.not_false]), hM.below⟩
  rw [hx20]
  refine np (.bool true) ?_
  refine np (.bool true) ?_
  refine np (.bool true) ?_
  iterate 6 refine ns ?_
  refine np (.bool true) ?_
  refine np (.bool true) ?_
  iterate 4 refine ns ?_
  refine np (.bool true) ?_
  go_frame
  refine wl_nil (cn14 _ _ ?_)
  clear cn14
  refine wp_cond_true rfl ?_
  refine wp_seq_k fun _ cn15 => wl_region ?_
  refine np (.bool false) ?_
  go_frame
  refine wl_nil (cn15 _ _ ?_)
  clear cn15
  refine wp_ret ?_
  simp only [Exit.then, Exit.inBlock]
  have hoff : d.ds.all (dealB d.hs.length d.now) = false := all_off hdq (show (dealB d.hs.length d.now) dd = false from by simp [dealB, hx18, hx19, hx20])
  exact bodyPost_ret (v := .bool false) (ret_tmp 2 rfl rfl) rfl ⟨ret_b (show false = worldB d from by simp only [worldB, hoff, hall, hx5, hx6, hx7, hx8, hx9, Bool.true_and, Bool.and_true, Bool.false_and, Bool.and_false, Bool.not_true, Bool.not_false]), hM.below⟩
  rw [hx19]
  refine np (.bool true) ?_
  refine np (.bool true) ?_
  refine np (.bool true) ?_
  iterate 6 refine ns ?_
  refine np (.bool true) ?_
  refine np (.bool true) ?_
  iterate 6 refine ns ?_
  refine np (.bool true) ?_
  refine np (.bool true) ?_
  iterate 4 refine ns ?_
  refine np (.bool true) ?_
  go_frame
  refine wl_nil (cn14 _ _ ?_)
  clear cn14
  refine wp_cond_true rfl ?_
  refine wp_seq_k fun _ cn15 => wl_region ?_
  refine np (.bool false) ?_
  go_frame
  refine wl_nil (cn15 _ _ ?_)
  clear cn15
  refine wp_ret ?_
  simp only [Exit.then, Exit.inBlock]
  have hoff : d.ds.all (dealB d.hs.length d.now) = false := all_off hdq (show (dealB d.hs.length d.now) dd = false from by simp [dealB, hx18, hx19])
  exact bodyPost_ret (v := .bool false) (ret_tmp 2 rfl rfl) rfl ⟨ret_b (show false = worldB d from by simp only [worldB, hoff, hall, hx5, hx6, hx7, hx8, hx9, Bool.true_and, Bool.and_true, Bool.false_and, Bool.and_false, Bool.not_true, Bool.not_false]), hM.below⟩
  rw [hx18]
  refine np (.bool true) ?_
  refine np (.bool true) ?_
  iterate 6 refine ns ?_
  refine np (.bool true) ?_
  refine np (.bool true) ?_
  iterate 6 refine ns ?_
  refine np (.bool true) ?_
  refine np (.bool true) ?_
  iterate 6 refine ns ?_
  refine np (.bool true) ?_
  refine np (.bool true) ?_
  iterate 4 refine ns ?_
  refine np (.bool true) ?_
  go_frame
  refine wl_nil (cn14 _ _ ?_)
  clear cn14
  refine wp_cond_true rfl ?_
  refine wp_seq_k fun _ cn15 => wl_region ?_
  refine np (.bool false) ?_
  go_frame
  refine wl_nil (cn15 _ _ ?_)
  clear cn15
  refine wp_ret ?_
  simp only [Exit.then, Exit.inBlock]
  have hoff : d.ds.all (dealB d.hs.length d.now) = false := all_off hdq (show (dealB d.hs.length d.now) dd = false from by simp [dealB, hx18])
  exact bodyPost_ret (v := .bool false) (ret_tmp 2 rfl rfl) rfl ⟨ret_b (show false = worldB d from by simp only [worldB, hoff, hall, hx5, hx6, hx7, hx8, hx9, Bool.true_and, Bool.and_true, Bool.false_and, Bool.and_false, Bool.not_true, Bool.not_false]), hM.below⟩
  rw [hx12]
  have hqe : q = d.ds.length := by simp at hx12; omega
  subst hqe
  have hallD : d.ds.all (dealB d.hs.length d.now) = true := all_on hP2
  refine wp_cond_false rfl ?_
  refine wp_exit ?_
  refine cn8 _ _ ?_
  clear cn8
  refine wp_seq_k fun _ cn12 => wl_region ?_
  refine np (.bool true) ?_
  go_frame
  refine wl_nil (cn12 _ _ ?_)
  clear cn12
  refine wp_ret ?_
  exact bodyPost_ret (v := .bool true) (ret_tmp 2 rfl rfl) rfl ⟨ret_b (show true = worldB d from by simp only [worldB, hall, hallD, hx5, hx6, hx7, hx8, hx9, hx12, Bool.true_and, Bool.and_true, Bool.false_and, Bool.and_false, Bool.not_true, Bool.not_false]), hM.below⟩
  rw [hx8]
  refine np (.bool true) ?_
  refine np (.bool true) ?_
  go_frame
  refine wl_nil (cn3 _ _ ?_)
  clear cn3
  refine wp_cond_true rfl ?_
  refine wp_seq_k fun _ cn4 => wl_region ?_
  refine np (.bool false) ?_
  go_frame
  refine wl_nil (cn4 _ _ ?_)
  clear cn4
  refine wp_ret ?_
  simp only [Exit.then, Exit.inBlock]
  exact bodyPost_ret (v := .bool false) (ret_tmp 2 rfl rfl) rfl ⟨ret_b (show false = worldB d from by simp only [worldB, hx5, hx6, hx7, hx8, Bool.true_and, Bool.and_true, Bool.false_and, Bool.and_false, Bool.not_true, Bool.not_false]), hM.below⟩
  rw [hx5]
  refine np (.bool true) ?_
  refine np (.bool true) ?_
  iterate 8 refine ns ?_
  refine np (.bool true) ?_
  refine np (.bool true) ?_
  iterate 4 refine ns ?_
  refine np (.bool true) ?_
  refine np (.bool true) ?_
  iterate 4 refine ns ?_
  refine np (.bool true) ?_
  go_frame
  refine wl_nil (cn3 _ _ ?_)
  clear cn3
  refine wp_cond_true rfl ?_
  refine wp_seq_k fun _ cn4 => wl_region ?_
  refine np (.bool false) ?_
  go_frame
  refine wl_nil (cn4 _ _ ?_)
  clear cn4
  refine wp_ret ?_
  simp only [Exit.then, Exit.inBlock]
  exact bodyPost_ret (v := .bool false) (ret_tmp 2 rfl rfl) rfl ⟨ret_b (show false = worldB d from by simp only [worldB, hx5, Bool.true_and, Bool.and_true, Bool.false_and, Bool.and_false, Bool.not_true, Bool.not_false]), hM.below⟩

theorem spec_WorldOk2 (u x y z : Value) (d : WD) (w0 : World) (hw : SlW w0 u x y z d) (hr : Room d) (hH : d.hs ≠ []) (hD : d.ds = []) :
    Calls Tryz.prog 65 #[.agg #[u, x, y, z, .int .i64 d.now]] w0 fun e w' => e = .returned (.bool (worldB d)) ∧ Below w0.heap.size w0 w' := by
  have hD0 : d.ds.length = 0 := by rw [hD]; rfl
  obtain ⟨h1, h2, h3, h4⟩ := hw
  have H1 := h1
  have H2 := h2
  have H3 := h3
  have H4 := h4
  obtain ⟨r1, r2, r3, r4⟩ := hr
  obtain ⟨a1, i1, rfl, -⟩ := h1
  obtain ⟨a2, i2, rfl, -⟩ := h2
  obtain ⟨b3, off3, i3, rfl, kk3, mm3, s3, G3⟩ := SlR.at hd_len (by omega) h3 hH
  obtain ⟨a4, i4, rfl, -⟩ := h4
  have hM := Mem.start w0
  go_enter Tryz.func65, Tryz.ntmps65
  refine wp_seq_k fun _ cn1 => wl_region ?_
  refine nx hM 59 [.slice a1 d.l.length i1, .slice a2 d.c.length i2, .slice (some ⟨b3, off3, none⟩) d.hs.length i3, .slice a4 d.ds.length i4, .int .i64 d.now] ?_
  clear hM; intro g1 W1 hM
  refine np (.bool false) ?_
  go_frame
  refine wl_nil (cn1 _ _ ?_)
  clear cn1
  refine wp_seq_k fun Kn2 cn2 => ?_
  refine wp_seq_k fun _ cn3 => wl_region ?_
  refine np (.pointer (some ⟨g1, 0, none⟩)) ?_
  go_frame
  refine wl_part (by kernel_rfl) hM 0 rfl 55 _ rfl 0 rfl Tryz.underlying55 [.slice a1 d.l.length i1, .slice a2 d.c.length i2] I_impl_Shared rfl ?_
  go_frame
  refine nc (spec_SharedOk (.slice a1 d.l.length i1) (.slice a2 d.c.length i2) d.l d.c _ (H1.below hM.below) (H2.below hM.below) r1 r2) ?_
  rintro e W2 ⟨rfl, hb⟩
  refine ⟨_, rfl, ?_⟩
  replace hM := hM.call hb
  go_frame
  rcases tf ((sharedB d.l d.c)) with hx5 | hx5
  rw [hx5]
  refine np (.bool false) ?_
  refine np (.bool false) ?_
  refine np (.pointer (some ⟨g1, 2, none⟩)) ?_
  refine ng hM 0 rfl 2 Tryz.underlying56 rfl ?_
  refine np (.int .i64 (d.hs.length : Int)) ?_
  refine np (.pointer (some ⟨g1, 0, none⟩)) ?_
  refine np (.pointer (some ⟨g1, 1, none⟩)) ?_
  refine ng hM 0 rfl 1 Tryz.underlying33 rfl ?_
  refine np (.int .i64 (d.c.length : Int)) ?_
  refine np (.bool ((d.hs.length : Int) != (d.c.length : Int))) ?_
  refine np (.bool ((d.hs.length : Int) != (d.c.length : Int))) ?_
  refine np (.bool ((d.hs.length : Int) != (d.c.length : Int))) ?_
  go_frame
  rcases tf (((d.hs.length : Int) != (d.c.length : Int))) with hx6 | hx6
  rw [hx6]
  iterate 4 refine ns ?_
  refine np (.bool true) ?_
  refine np (.bool true) ?_
  iterate 4 refine ns ?_
  refine np (.bool true) ?_
  go_frame
  refine wl_nil (cn3 _ _ ?_)
  clear cn3
  refine wp_cond_true rfl ?_
  refine wp_seq_k fun _ cn4 => wl_region ?_
  refine np (.bool false) ?_
  go_frame
  refine wl_nil (cn4 _ _ ?_)
  clear cn4
  refine wp_ret ?_
  simp only [Exit.then, Exit.inBlock]
  exact bodyPost_ret (v := .bool false) (ret_tmp 2 rfl rfl) rfl ⟨ret_b (show false = worldB d from by simp only [worldB, hx5, hx6, Bool.true_and, Bool.and_true, Bool.false_and, Bool.and_false, Bool.not_true, Bool.not_false]), hM.below⟩
  rw [hx6]
  refine np (.pointer (some ⟨g1, 3, none⟩)) ?_
  refine ng hM 0 rfl 3 Tryz.underlying57 rfl ?_
  refine np (.int .i64 (d.ds.length : Int)) ?_
  refine np (.bool (decide ((d.ds.length : Int) > 1000))) ?_
  refine np (.bool (decide ((d.ds.length : Int) > 1000))) ?_
  refine np (.bool (decide ((d.ds.length : Int) > 1000))) ?_
  go_frame
  rcases tf (decide ((d.ds.length : Int) > 1000)) with hx7 | hx7
  rw [hx7]
  iterate 4 refine ns ?_
  refine np (.bool true) ?_
  go_frame
  refine wl_nil (cn3 _ _ ?_)
  clear cn3
  refine wp_cond_true rfl ?_
  refine wp_seq_k fun _ cn4 => wl_region ?_
  refine np (.bool false) ?_
  go_frame
  refine wl_nil (cn4 _ _ ?_)
  clear cn4
  refine wp_ret ?_
  simp only [Exit.then, Exit.inBlock]
  exact bodyPost_ret (v := .bool false) (ret_tmp 2 rfl rfl) rfl ⟨ret_b (show false = worldB d from by simp only [worldB, hx5, hx6, hx7, Bool.true_and, Bool.and_true, Bool.false_and, Bool.and_false, Bool.not_true, Bool.not_false]), hM.below⟩
  rw [hx7]
  refine np (.pointer (some ⟨g1, 4, none⟩)) ?_
  refine ng hM 0 rfl 4 Tryz.underlying2 rfl ?_
  refine nc (spec_l13Now d.now _) ?_
  rintro e W3 ⟨rfl, hb⟩
  refine ⟨_, rfl, ?_⟩
  replace hM := hM.call hb
  go_frame
  rcases tf ((inB d.now 0 20000)) with hx8 | hx8
  rw [hx8]
  refine np (.bool false) ?_
  refine np (.bool false) ?_
  go_frame
  refine wl_nil (cn3 _ _ ?_)
  clear cn3
  refine wp_cond_false rfl ?_
  refine wp_skip ?_
  refine cn2 _ _ ?_
  clear cn2
  refine wp_seq_k fun Kn4 cn4 => ?_
  refine wp_seq_k fun _ cn5 => wl_region ?_
  refine np (.int .i64 0) ?_
  go_frame
  refine wl_nil (cn5 _ _ ?_)
  clear cn5
  refine wp_block ?_
  refine wp_loop (fun act w => ∃ (k : Nat) (U1 : Nat → Value), act = ⟨#[.agg #[.slice a1 d.l.length i1, .slice a2 d.c.length i2, .slice (some ⟨b3, off3, none⟩) d.hs.length i3, .slice a4 d.ds.length i4, .int .i64 d.now], .pointer (some ⟨g1, 0, none⟩), (U1 0), .int .i64 (k : Int), undef, undef, .pointer (some ⟨g1, 0, none⟩), .agg #[.slice a1 d.l.length i1, .slice a2 d.c.length i2], .bool true, .bool false, .bool false, .pointer (some ⟨g1, 2, none⟩), .slice (some ⟨b3, off3, none⟩) d.hs.length i3, .int .i64 (d.hs.length : Int), .pointer (some ⟨g1, 0, none⟩), .pointer (some ⟨g1, 1, none⟩), .slice a2 d.c.length i2, .int .i64 (d.c.length : Int), .bool false, .bool false, .bool false, .pointer (some ⟨g1, 3, none⟩), .slice a4 d.ds.length i4, .int .i64 (d.ds.length : Int), .bool false, .bool false, .bool false, .pointer (some ⟨g1, 4, none⟩), .int .i64 d.now, .bool true, .bool false, .bool false, (U1 1), (U1 2), (U1 3), (U1 4), (U1 5), (U1 6), (U1 7), (U1 8), (U1 9), (U1 10), (U1 11), (U1 12), (U1 13), (U1 14), (U1 15), (U1 16), (U1 17), (U1 18), (U1 19), (U1 20), (U1 21), (U1 22), (U1 23), (U1 24), (U1 25), undef, undef, undef, undef, undef, undef, undef, undef, undef, undef, undef, undef, undef, undef, undef, undef, undef, undef, undef, undef, undef, undef, undef, undef, undef, undef, undef, undef, undef, undef, undef, undef, undef, undef, undef, undef, undef, undef, undef, undef, undef, undef, undef, undef, undef, undef, undef], []⟩ ∧ Mem w0 w [(g1, 59, [.slice a1 d.l.length i1, .slice a2 d.c.length i2, .slice (some ⟨b3, off3, none⟩) d.hs.length i3, .slice a4 d.ds.length i4, .int .i64 d.now])] ∧ (k ≤ d.hs.length ∧ ∀ j m, j < k → d.hs[j]? = some m → (fun h => handB h && !decide (h.begin_ > d.now)) m = true)) (fun act _ => d.hs.length - (intOf (act.tmps.getD 3 undef)).toNat) ?_ ?_
  exact ⟨0, (fun i => [.bool false, undef, undef, undef, undef, undef, undef, undef, undef, undef, undef, undef, undef, undef, undef, undef, undef, undef, undef, undef, undef, undef, undef, undef, undef, undef].getD i undef), rfl, hM, by omega, fun j n hj => by omega⟩
  clear hM
  rintro act w ⟨k, U1, rfl, hM, hk, hP⟩
  refine wp_seq_k fun Kn6 cn6 => ?_
  refine wp_seq_k fun _ cn7 => wl_region ?_
  refine np (.int .i64 (k : Int)) ?_
  refine np (.pointer (some ⟨g1, 2, none⟩)) ?_
  refine ng hM 0 rfl 2 Tryz.underlying56 rfl ?_
  refine np (.int .i64 (d.hs.length : Int)) ?_
  refine np (.bool (decide ((k : Int) < (d.hs.length : Int)))) ?_
  go_frame
  refine wl_nil (cn7 _ _ ?_)
  clear cn7
  rcases tf (decide ((k : Int) < (d.hs.length : Int))) with hx9 | hx9
  rw [hx9]
  have hk5 : k < d.hs.length := by simp at hx9; omega
  obtain ⟨hh, hhk⟩ : ∃ h, d.hs[k]? = some h := ⟨_, List.getElem?_eq_getElem hk5⟩
  refine wp_cond_true rfl ?_
  refine wp_skip ?_
  refine cn6 _ _ ?_
  clear cn6
  refine wp_seq_k fun Kn8 cn8 => ?_
  refine wp_block ?_
  refine wp_seq_k fun Kn9 cn9 => ?_
  rcases tf ((handB hh)) with hx10 | hx10
  refine wa_start (fun w => Below w0.heap.size w0 w ∧ Blk w g1 59 [.slice a1 d.l.length i1, .slice a2 d.c.length i2, .slice (some ⟨b3, off3, none⟩) d.hs.length i3, .slice a4 d.ds.length i4, .int .i64 d.now]) 18 rfl (by kernel_rfl) ?_
  replace hM := hM.drew
  refine wt 0 (some 39) (.pointer (some ⟨g1, 2, none⟩)) ⟨hM.below, hM.blk 0 rfl⟩ ?_
  go_frame
  refine wq 1 (some 40) (.slice (some ⟨b3, off3, none⟩) d.hs.length i3) ⟨hM.below, hM.blk 0 rfl⟩ rfl (fun w hS => r_loadc hS.2 56 _ rfl 2 rfl Tryz.underlying56 rfl rfl) ?_
  refine wt 2 (some 41) (.int .i64 (k : Int)) ⟨hM.below, hM.blk 0 rfl⟩ ?_
  go_frame
  refine wq 3 (some 42) (.pointer (some ⟨b3, off3 + k * 17, none⟩)) ⟨hM.below, hM.blk 0 rfl⟩ rfl (fun w hS => r_index 56 73 _ _ rfl b3 off3 d.hs.length i3 17 k rfl rfl rfl (by omega) Tryz.underlying56 I_impl_Hand) ?_
  go_frame
  refine wq 4 (some 43) (.agg (HD.cells hh).toArray) ⟨hM.below, hM.blk 0 rfl⟩ rfl (fun w hS => r_cells 73 _ rfl b3 (off3 + k * 17) rfl Tryz.underlying73 (HD.cells hh) I_impl_Hand (row_far (Mem.ofBelow hS.1) s3 (G3 k hh hhk))) ?_
  go_frame
  refine wn 5 ?_
  refine oc (some 44) (spec_HandOk hh _) ?_
  rintro e W4 ⟨rfl, hb⟩
  replace hM := hM.call hb
  refine ⟨.bool true, rb hx10, wk ⟨hM.below, hM.blk 0 rfl⟩ fun hs => ?_⟩
  go_frame
  refine wt 6 (some 45) (.bool false) hs ?_
  refine wt 7 (some 46) (.bool false) hs ?_
  refine wt 8 (some 47) (.pointer (some ⟨g1, 2, none⟩)) hs ?_
  go_frame
  refine wq 9 (some 48) (.slice (some ⟨b3, off3, none⟩) d.hs.length i3) hs rfl (fun w hS => r_loadc hS.2 56 _ rfl 2 rfl Tryz.underlying56 rfl rfl) ?_
  refine wt 10 (some 49) (.int .i64 (k : Int)) hs ?_
  go_frame
  refine wq 11 (some 50) (.pointer (some ⟨b3, off3 + k * 17, none⟩)) hs rfl (fun w hS => r_index 56 73 _ _ rfl b3 off3 d.hs.length i3 17 k rfl rfl rfl (by omega) Tryz.underlying56 I_impl_Hand) ?_
  refine wt 12 (some 51) (.pointer (some ⟨b3, off3 + k * 17 + 14, none⟩)) hs ?_
  go_frame
  refine wq 13 (some 52) (.int .i64 hh.begin_) hs rfl (fun w hS => r_cell 2 _ rfl ⟨b3, off3 + k * 17 + 14, none⟩ rfl Tryz.underlying2 rfl (row_far (Mem.ofBelow hS.1) s3 (G3 k hh hhk) 14 _ rfl)) ?_
  refine wt 14 (some 53) (.pointer (some ⟨g1, 4, none⟩)) hs ?_
  go_frame
  refine wq 15 (some 54) (.int .i64 d.now) hs rfl (fun w hS => r_loadc hS.2 2 _ rfl 4 rfl Tryz.underlying2 rfl rfl) ?_
  refine wt 16 (some 55) (.bool (decide (hh.begin_ > d.now))) hs ?_
  refine wt 17 (some 56) (.bool (decide (hh.begin_ > d.now))) hs ?_
  go_frame
  refine wa_done (by kernel_rfl) ?_
  refine cn9 _ _ ?_
  clear cn9
  rcases tf (decide (hh.begin_ > d.now)) with hx11 | hx11
  rw [hx11]
  refine wp_cond_true rfl ?_
  refine wp_seq_k fun _ cn10 => wl_region ?_
  refine np (.bool false) ?_
  go_frame
  refine wl_nil (cn10 _ _ ?_)
  clear cn10
  refine wp_ret ?_
  simp only [Exit.then, Exit.inBlock]
  have hoff : d.hs.all (fun h => handB h && !decide (h.begin_ > d.now)) = false := all_off hhk (show (fun h => handB h && !decide (h.begin_ > d.now)) hh = false from by simp [hx10, hx11])
  exact bodyPost_ret (v := .bool false) (ret_tmp 2 rfl rfl) rfl ⟨ret_b (show false = worldB d from by simp only [worldB, hoff, hx5, hx6, hx7, hx8, Bool.true_and, Bool.and_true, Bool.false_and, Bool.and_false, Bool.not_true, Bool.not_false]), hM.below⟩
  rw [hx11]
  refine wp_cond_false rfl ?_
  refine wp_skip ?_
  refine cn8 _ _ ?_
  clear cn8
  refine wl_region ?_
  refine np (.int .i64 (k : Int)) ?_
  refine nI ((k : Int) + 1) ?_
  refine np (.int .i64 ((k : Int) + 1)) ?_
  go_frame
  refine wl_nil ?_
  have HE : (fun h => handB h && !decide (h.begin_ > d.now)) hh = true := by simp [hx10, hx11]
  rw [show ((k : Int) + 1) = ((k + 1 : Nat) : Int) by omega]
  exact ⟨⟨k + 1, (fun i => [(U1 0), .int .i64 (k : Int), .pointer (some ⟨g1, 2, none⟩), .slice (some ⟨b3, off3, none⟩) d.hs.length i3, .int .i64 (d.hs.length : Int), .bool true, .int .i64 (k : Int), .int .i64 ((k : Int) + 1), .pointer (some ⟨g1, 2, none⟩), .slice (some ⟨b3, off3, none⟩) d.hs.length i3, .int .i64 (k : Int), .pointer (some ⟨b3, off3 + k * 17, none⟩), .agg (HD.cells hh).toArray, .bool true, .bool false, .bool false, .pointer (some ⟨g1, 2, none⟩), .slice (some ⟨b3, off3, none⟩) d.hs.length i3, .int .i64 (k : Int), .pointer (some ⟨b3, off3 + k * 17, none⟩), .pointer (some ⟨b3, off3 + k * 17 + 14, none⟩), .int .i64 hh.begin_, .pointer (some ⟨g1, 4, none⟩), .int .i64 d.now, .bool false, .bool false].getD i undef), rfl, hM, by omega, fun j m hj hm => if e : j = k then (by subst e; rw [hhk] at hm; cases hm; exact HE) else hP j m (by omega) hm⟩, by simp [intOf]; omega⟩
  refine wa_start (fun w => Below w0.heap.size w0 w ∧ Blk w g1 59 [.slice a1 d.l.length i1, .slice a2 d.c.length i2, .slice (some ⟨b3, off3, none⟩) d.hs.length i3, .slice a4 d.ds.length i4, .int .i64 d.now]) 18 rfl (by kernel_rfl) ?_
  replace hM := hM.drew
  refine wt 0 (some 39) (.pointer (some ⟨g1, 2, none⟩)) ⟨hM.below, hM.blk 0 rfl⟩ ?_
  go_frame
  refine wq 1 (some 40) (.slice (some ⟨b3, off3, none⟩) d.hs.length i3) ⟨hM.below, hM.blk 0 rfl⟩ rfl (fun w hS => r_loadc hS.2 56 _ rfl 2 rfl Tryz.underlying56 rfl rfl) ?_
  refine wt 2 (some 41) (.int .i64 (k : Int)) ⟨hM.below, hM.blk 0 rfl⟩ ?_
  go_frame
  refine wq 3 (some 42) (.pointer (some ⟨b3, off3 + k * 17, none⟩)) ⟨hM.below, hM.blk 0 rfl⟩ rfl (fun w hS => r_index 56 73 _ _ rfl b3 off3 d.hs.length i3 17 k rfl rfl rfl (by omega) Tryz.underlying56 I_impl_Hand) ?_
  go_frame
  refine wq 4 (some 43) (.agg (HD.cells hh).toArray) ⟨hM.below, hM.blk 0 rfl⟩ rfl (fun w hS => r_cells 73 _ rfl b3 (off3 + k * 17) rfl Tryz.underlying73 (HD.cells hh) I_impl_Hand (row_far (Mem.ofBelow hS.1) s3 (G3 k hh hhk))) ?_
  go_frame
  refine wn 5 ?_
  refine oc (some 44) (spec_HandOk hh _) ?_
  rintro e W4 ⟨rfl, hb⟩
  replace hM := hM.call hb
  refine ⟨.bool false, rb hx10, wk ⟨hM.below, hM.blk 0 rfl⟩ fun hs => ?_⟩
  go_frame
  refine wt 6 (some 45) (.bool true) hs ?_
  refine wt 7 (some 46) (.bool true) hs ?_
  go_frame
  refine ws 8 (some 47) hs ?_
  go_frame
  refine ws 9 (some 48) hs ?_
  go_frame
  refine ws 10 (some 49) hs ?_
  go_frame
  refine ws 11 (some 50) hs ?_
  go_frame
  refine ws 12 (some 51) hs ?_
  go_frame
  refine ws 13 (some 52) hs ?_
  go_frame
  refine ws 14 (some 53) hs ?_
  go_frame
  refine ws 15 (some 54) hs ?_
  go_frame
  refine ws 16 (some 55) hs ?_
  go_frame
  refine wt 17 (some 56) (.bool true) hs ?_
  go_frame
  refine wa_done (by kernel_rfl) ?_
  refine cn9 _ _ ?_
  clear cn9
  refine wp_cond_true rfl ?_
  refine wp_seq_k fun _ cn10 => wl_region ?_
  refine np (.bool false) ?_
  go_frame
  refine wl_nil (cn10 _ _ ?_)
  clear cn10
  refine wp_ret ?_
  simp only [Exit.then, Exit.inBlock]
  have hoff : d.hs.all (fun h => handB h && !decide (h.begin_ > d.now)) = false := all_off hhk (show (fun h => handB h && !decide (h.begin_ > d.now)) hh = false from by simp [hx10])
  exact bodyPost_ret (v := .bool false) (ret_tmp 2 rfl rfl) rfl ⟨ret_b (show false = worldB d from by simp only [worldB, hoff, hx5, hx6, hx7, hx8, Bool.true_and, Bool.and_true, Bool.false_and, Bool.and_false, Bool.not_true, Bool.not_false]), hM.below⟩
  rw [hx9]
  have hke : k = d.hs.length := by simp at hx9; omega
  subst hke
  have hall : d.hs.all (fun h => handB h && !decide (h.begin_ > d.now)) = true := all_on hP
  refine wp_cond_false rfl ?_
  refine wp_exit ?_
  refine cn4 _ _ ?_
  clear cn4
  refine wp_seq_k fun Kn8 cn8 => ?_
  refine wp_seq_k fun _ cn9 => wl_region ?_
  refine np (.int .i64 0) ?_
  go_frame
  refine wl_nil (cn9 _ _ ?_)
  clear cn9
  refine wp_block ?_
  refine wp_loop (fun act w => ∃ (q : Nat) (U2 : Nat → Value), act = ⟨#[.agg #[.slice a1 d.l.length i1, .slice a2 d.c.length i2, .slice (some ⟨b3, off3, none⟩) d.hs.length i3, .slice a4 d.ds.length i4, .int .i64 d.now], .pointer (some ⟨g1, 0, none⟩), (U2 0), .int .i64 (d.hs.length : Int), .int .i64 (q : Int), (U2 1), .pointer (some ⟨g1, 0, none⟩), .agg #[.slice a1 d.l.length i1, .slice a2 d.c.length i2], .bool true, .bool false, .bool false, .pointer (some ⟨g1, 2, none⟩), .slice (some ⟨b3, off3, none⟩) d.hs.length i3, .int .i64 (d.hs.length : Int), .pointer (some ⟨g1, 0, none⟩), .pointer (some ⟨g1, 1, none⟩), .slice a2 d.c.length i2, .int .i64 (d.c.length : Int), .bool false, .bool false, .bool false, .pointer (some ⟨g1, 3, none⟩), .slice a4 d.ds.length i4, .int .i64 (d.ds.length : Int), .bool false, .bool false, .bool false, .pointer (some ⟨g1, 4, none⟩), .int .i64 d.now, .bool true, .bool false, .bool false, .int .i64 (d.hs.length : Int), .pointer (some ⟨g1, 2, none⟩), .slice (some ⟨b3, off3, none⟩) d.hs.length i3, .int .i64 (d.hs.length : Int), .bool false, (U1 6), (U1 7), (U1 8), (U1 9), (U1 10), (U1 11), (U1 12), (U1 13), (U1 14), (U1 15), (U1 16), (U1 17), (U1 18), (U1 19), (U1 20), (U1 21), (U1 22), (U1 23), (U1 24), (U1 25), (U2 2), (U2 3), (U2 4), (U2 5), (U2 6), (U2 7), (U2 8), (U2 9), (U2 10), (U2 11), (U2 12), (U2 13), (U2 14), (U2 15), (U2 16), (U2 17), (U2 18), (U2 19), (U2 20), (U2 21), (U2 22), (U2 23), (U2 24), (U2 25), (U2 26), (U2 27), (U2 28), (U2 29), (U2 30), (U2 31), (U2 32), (U2 33), (U2 34), (U2 35), (U2 36), (U2 37), (U2 38), (U2 39), (U2 40), (U2 41), (U2 42), (U2 43), (U2 44), (U2 45), (U2 46), (U2 47), (U2 48)], []⟩ ∧ Mem w0 w [(g1, 59, [.slice a1 d.l.length i1, .slice a2 d.c.length i2, .slice (some ⟨b3, off3, none⟩) d.hs.length i3, .slice a4 d.ds.length i4, .int .i64 d.now])] ∧ (q ≤ d.ds.length ∧ ∀ j m, j < q → d.ds[j]? = some m → (dealB d.hs.length d.now) m = true)) (fun act _ => d.ds.length - (intOf (act.tmps.getD 4 undef)).toNat) ?_ ?_
  exact ⟨0, (fun i => [(U1 0), undef, undef, undef, undef, undef, undef, undef, undef, undef, undef, undef, undef, undef, undef, undef, undef, undef, undef, undef, undef, undef, undef, undef, undef, undef, undef, undef, undef, undef, undef, undef, undef, undef, undef, undef, undef, undef, undef, undef, undef, undef, undef, undef, undef, undef, undef, undef, undef].getD i undef), rfl, hM, by omega, fun j n hj => by omega⟩
  clear hM
  rintro act w ⟨q, U2, rfl, hM, hq, hP2⟩
  refine wp_seq_k fun Kn10 cn10 => ?_
  refine wp_seq_k fun _ cn11 => wl_region ?_
  refine np (.int .i64 (q : Int)) ?_
  refine np (.pointer (some ⟨g1, 3, none⟩)) ?_
  refine ng hM 0 rfl 3 Tryz.underlying57 rfl ?_
  refine np (.int .i64 (d.ds.length : Int)) ?_
  refine np (.bool (decide ((q : Int) < (d.ds.length : Int)))) ?_
  go_frame
  refine wl_nil (cn11 _ _ ?_)
  clear cn11
  rcases tf (decide ((q : Int) < (d.ds.length : Int))) with hx12 | hx12
  rw [hx12]
  exfalso; simp at hx12; omega
  rw [hx12]
  have hqe : q = d.ds.length := by simp at hx12; omega
  subst hqe
  have hallD : d.ds.all (dealB d.hs.length d.now) = true := all_on hP2
  refine wp_cond_false rfl ?_
  refine wp_exit ?_
  refine cn8 _ _ ?_
  clear cn8
  refine wp_seq_k fun _ cn12 => wl_region ?_
  refine np (.bool true) ?_
  go_frame
  refine wl_nil (cn12 _ _ ?_)
  clear cn12
  refine wp_ret ?_
  exact bodyPost_ret (v := .bool true) (ret_tmp 2 rfl rfl) rfl ⟨ret_b (show true = worldB d from by simp only [worldB, hall, hallD, hx5, hx6, hx7, hx8, hx9, hx12, Bool.true_and, Bool.and_true, Bool.false_and, Bool.and_false, Bool.not_true, Bool.not_false]), hM.below⟩
  rw [hx8]
  refine np (.bool true) ?_
  refine np (.bool true) ?_
  go_frame
  refine wl_nil (cn3 _ _ ?_)
  clear cn3
  refine wp_cond_true rfl ?_
  refine wp_seq_k fun _ cn4 => wl_region ?_
  refine np (.bool false) ?_
  go_frame
  refine wl_nil (cn4 _ _ ?_)
  clear cn4
  refine wp_ret ?_
  simp only [Exit.then, Exit.inBlock]
  exact bodyPost_ret (v := .bool false) (ret_tmp 2 rfl rfl) rfl ⟨ret_b (show false = worldB d from by simp only [worldB, hx5, hx6, hx7, hx8, Bool.true_and, Bool.and_true, Bool.false_and, Bool.and_false, Bool.not_true, Bool.not_false]), hM.below⟩
  rw [hx5]
  refine np (.bool true) ?_
  refine np (.bool true) ?_
  iterate 8 refine ns ?_
  refine np (.bool true) ?_
  refine np (.bool true) ?_
  iterate 4 refine ns ?_
  refine np (.bool true) ?_
  refine np (.bool true) ?_
  iterate 4 refine ns ?_
  refine np (.bool true) ?_
  go_frame
  refine wl_nil (cn3 _ _ ?_)
  clear cn3
  refine wp_cond_true rfl ?_
  refine wp_seq_k fun _ cn4 => wl_region ?_
  refine np (.bool false) ?_
  go_frame
  refine wl_nil (cn4 _ _ ?_)
  clear cn4
  refine wp_ret ?_
  simp only [Exit.then, Exit.inBlock]
  exact bodyPost_ret (v := .bool false) (ret_tmp 2 rfl rfl) rfl ⟨ret_b (show false = worldB d from by simp only [worldB, hx5, Bool.true_and, Bool.and_true, Bool.false_and, Bool.and_false, Bool.not_true, Bool.not_false]), hM.below⟩

theorem spec_WorldOk3 (u x y z : Value) (d : WD) (w0 : World) (hw : SlW w0 u x y z d) (hr : Room d) (hH : d.hs = []) :
    Calls Tryz.prog 65 #[.agg #[u, x, y, z, .int .i64 d.now]] w0 fun e w' => e = .returned (.bool (worldB d)) ∧ Below w0.heap.size w0 w' := by
  obtain ⟨h1, h2, h3, h4⟩ := hw
  have H1 := h1
  have H2 := h2
  have H3 := h3
  have H4 := h4
  obtain ⟨r1, r2, r3, r4⟩ := hr
  obtain ⟨a1, i1, rfl, -⟩ := h1
  obtain ⟨a2, i2, rfl, -⟩ := h2
  obtain ⟨a3, i3, rfl, -⟩ := h3
  obtain ⟨a4, i4, rfl, -⟩ := h4
  have hM := Mem.start w0
  go_enter Tryz.func65, Tryz.ntmps65
  refine wp_seq_k fun _ cn1 => wl_region ?_
  refine nx hM 59 [.slice a1 d.l.length i1, .slice a2 d.c.length i2, .slice a3 d.hs.length i3, .slice a4 d.ds.length i4, .int .i64 d.now] ?_
  clear hM; intro g1 W1 hM
  refine np (.bool false) ?_
  go_frame
  refine wl_nil (cn1 _ _ ?_)
  clear cn1
  refine wp_seq_k fun Kn2 cn2 => ?_
  refine wp_seq_k fun _ cn3 => wl_region ?_
  refine np (.pointer (some ⟨g1, 0, none⟩)) ?_
  go_frame
  refine wl_part (by kernel_rfl) hM 0 rfl 55 _ rfl 0 rfl Tryz.underlying55 [.slice a1 d.l.length i1, .slice a2 d.c.length i2] I_impl_Shared rfl ?_
  go_frame
  refine nc (spec_SharedOk (.slice a1 d.l.length i1) (.slice a2 d.c.length i2) d.l d.c _ (H1.below hM.below) (H2.below hM.below) r1 r2) ?_
  rintro e W2 ⟨rfl, hb⟩
  refine ⟨_, rfl, ?_⟩
  replace hM := hM.call hb
  go_frame
  rcases tf ((sharedB d.l d.c)) with hx2 | hx2
  rw [hx2]
  have hne : ((d.hs.length : Int) != (d.c.length : Int)) = true := by
    have hc := (countsB_some (by simp only [sharedB, Bool.and_eq_true] at hx2; exact hx2.2)).1
    rw [hH]
    simp
    omega
  refine np (.bool false) ?_
  refine np (.bool false) ?_
  refine np (.pointer (some ⟨g1, 2, none⟩)) ?_
  refine ng hM 0 rfl 2 Tryz.underlying56 rfl ?_
  refine np (.int .i64 (d.hs.length : Int)) ?_
  refine np (.pointer (some ⟨g1, 0, none⟩)) ?_
  refine np (.pointer (some ⟨g1, 1, none⟩)) ?_
  refine ng hM 0 rfl 1 Tryz.underlying33 rfl ?_
  refine np (.int .i64 (d.c.length : Int)) ?_
  refine nB (hne) ?_
  refine np (.bool true) ?_
  refine np (.bool true) ?_
  iterate 4 refine ns ?_
  refine np (.bool true) ?_
  refine np (.bool true) ?_
  iterate 4 refine ns ?_
  refine np (.bool true) ?_
  go_frame
  refine wl_nil (cn3 _ _ ?_)
  clear cn3
  refine wp_cond_true rfl ?_
  refine wp_seq_k fun _ cn4 => wl_region ?_
  refine np (.bool false) ?_
  go_frame
  refine wl_nil (cn4 _ _ ?_)
  clear cn4
  refine wp_ret ?_
  simp only [Exit.then, Exit.inBlock]
  exact bodyPost_ret (v := .bool false) (ret_tmp 2 rfl rfl) rfl ⟨ret_b (show false = worldB d from by simp only [worldB, hx2, hne, Bool.true_and, Bool.and_true, Bool.false_and, Bool.and_false, Bool.not_true, Bool.not_false]), hM.below⟩
  rw [hx2]
  refine np (.bool true) ?_
  refine np (.bool true) ?_
  iterate 8 refine ns ?_
  refine np (.bool true) ?_
  refine np (.bool true) ?_
  iterate 4 refine ns ?_
  refine np (.bool true) ?_
  refine np (.bool true) ?_
  iterate 4 refine ns ?_
  refine np (.bool true) ?_
  go_frame
  refine wl_nil (cn3 _ _ ?_)
  clear cn3
  refine wp_cond_true rfl ?_
  refine wp_seq_k fun _ cn4 => wl_region ?_
  refine np (.bool false) ?_
  go_frame
  refine wl_nil (cn4 _ _ ?_)
  clear cn4
  refine wp_ret ?_
  simp only [Exit.then, Exit.inBlock]
  exact bodyPost_ret (v := .bool false) (ret_tmp 2 rfl rfl) rfl ⟨ret_b (show false = worldB d from by simp only [worldB, hx2, Bool.true_and, Bool.and_true, Bool.false_and, Bool.and_false, Bool.not_true, Bool.not_false]), hM.below⟩
theorem spec_WorldOk (u x y z : Value) (d : WD) (w0 : World) (hw : SlW w0 u x y z d) (hr : Room d) :
    Calls Tryz.prog 65 #[.agg #[u, x, y, z, .int .i64 d.now]] w0 fun e w' => e = .returned (.bool (worldB d)) ∧ Below w0.heap.size w0 w' := by
  by_cases hH : d.hs = []
  · exact spec_WorldOk3 u x y z d w0 hw hr hH
  · by_cases hD : d.ds = []
    · exact spec_WorldOk2 u x y z d w0 hw hr hH hD
    · exact spec_WorldOk1 u x y z d w0 hw hr hH hD
end Go.Proofs.YtbfndoajchibbaaGreat
