/- A world copied: the model. -/
import Derived.Test.YtbfndoajchibbaaGreatShort
import Derived.Test.YtbfndoajchibbaaGreatShort2
import Derived.Test.YtbfndoajchibbaaGreatWorldOk
import Derived.Test.YtbfndoajchibbaaGreatMem5
namespace Go.Proofs.YtbfndoajchibbaaGreat
open Go.ChangeShapes Go.WideShapes Go.ChangeAt Go.RowKit
set_option linter.unusedVariables false
set_option maxRecDepth 100000
set_option maxHeartbeats 16000000
set_option linter.unusedSimpArgs false

/-- A world in memory of its own: four blocks. -/
def CopiedW (d : WD) (w : World) (e : Ending) (w' : World) : Prop :=
  ∃ (m1 m2 m3 m4 k1 k2 k3 k4 : Nat) (p1 p2 p3 p4 : List Value), e = .returned (.agg #[.slice (some ⟨m1, 0, none⟩) d.l.length k1, .slice (some ⟨m2, 0, none⟩) d.c.length k2, .slice (some ⟨m3, 0, none⟩) d.hs.length k3, .slice (some ⟨m4, 0, none⟩) d.ds.length k4, .int .i64 d.now]) ∧
    (d.l.length ≤ k1 ∧ k1 ≤ maxLen ∧ d.c.length ≤ k2 ∧ k2 ≤ maxLen ∧ (cellsOf d.l ++ p1).length = k1 * 8 ∧ (cellsI d.c ++ p2).length = k2 * 1) ∧ (d.hs.length ≤ k3 ∧ k3 ≤ maxLen ∧ (cellsH d.hs ++ p3).length = k3 * 17) ∧ (d.ds.length ≤ k4 ∧ k4 ≤ maxLen ∧ (cellsD d.ds ++ p4).length = k4 * 8) ∧
    Mem w w' [(m1, 49, cellsOf d.l ++ p1), (m2, 2, cellsI d.c ++ p2), (m3, 73, cellsH d.hs ++ p3), (m4, 113, cellsD d.ds ++ p4)]
theorem Mem.four {w0 w : World} {a b c d : Bk} {L : List Bk} (h : Mem w0 w (a :: b :: c :: d :: L)) : Mem w0 w [a, b, c, d] :=
  h.sub (fun i => i) (fun i b hb => by match i, hb with | 0, hb => exact hb | 1, hb => exact hb | 2, hb => exact hb | 3, hb => exact hb | (n + 4), hb => simp at hb) (fun i j _ _ e => e)

theorem spec_l13Copy1 (u x y z : Value) (d : WD) (w0 : World) (hw : SlW w0 u x y z d) (hr : Room d) (hL : d.l ≠ []) (hC : d.c ≠ []) (hH : d.hs ≠ []) (hD : d.ds ≠ []) :
    Calls Tryz.prog 67 #[.agg #[u, x, y, z, .int .i64 d.now]] w0 (CopiedW d w0) := by
  obtain ⟨h1, h2, h3, h4⟩ := hw
  have H1 := h1
  have H2 := h2
  have H3 := h3
  have H4 := h4
  obtain ⟨r1, r2, r3, r4⟩ := hr
  obtain ⟨a1, i1, rfl, -⟩ := h1
  obtain ⟨a2, i2, rfl, -⟩ := h2
  obtain ⟨b3, off3, i3, rfl, kk3, mm3, s3, G3, A3⟩ := SlR.all hd_len (by omega) h3 hH
  obtain ⟨b4, off4, i4, rfl, kk4, mm4, s4, G4, A4⟩ := SlR.all dd_len (by omega) h4 hD
  have hM := Mem.start w0
  go_enter Tryz.func67, Tryz.ntmps67
  refine wp_seq_k fun _ cn1 => wl_region ?_
  refine nx hM 59 [.slice a1 d.l.length i1, .slice a2 d.c.length i2, .slice (some ⟨b3, off3, none⟩) d.hs.length i3, .slice (some ⟨b4, off4, none⟩) d.ds.length i4, .int .i64 d.now] ?_
  clear hM; intro g1 W1 hM
  refine na hM [.slice none 0 0, .slice none 0 0, .slice none 0 0, .slice none 0 0, .int .i64 0] Z_impl_World ?_
  clear hM; intro g2 W2 hM
  go_frame
  refine wl_nil (cn1 _ _ ?_)
  clear cn1
  refine wp_seq_k fun Kn2 cn2 => ?_
  refine wa_join (fun act W => ∃ (ga'7 ga'1 m1 m2 : Nat) (k1 : Nat) (k2 : Nat) (p1 : List Value) (p2 : List Value) (g3 : Nat) (ka'2 : Nat) (pa'3 : List Value) (g4 : Nat) (ka'8 : Nat) (pa'9 : List Value), act = ⟨#[.agg #[.slice a1 d.l.length i1, .slice a2 d.c.length i2, .slice (some ⟨b3, off3, none⟩) d.hs.length i3, .slice (some ⟨b4, off4, none⟩) d.ds.length i4, .int .i64 d.now], .pointer (some ⟨g1, 0, none⟩), .pointer (some ⟨g2, 0, none⟩), .pointer (some ⟨g1, 0, none⟩), .agg #[.slice a1 d.l.length i1, .slice a2 d.c.length i2], .agg #[.slice (some ⟨m1, 0, none⟩) d.l.length k1, .slice (some ⟨m2, 0, none⟩) d.c.length k2], .slice (some ⟨g3, 0, none⟩) 0 0, .pointer (some ⟨g1, 2, none⟩), .slice (some ⟨b3, off3, none⟩) d.hs.length i3, .slice (some ⟨ga'1, 0, none⟩) (0 + d.hs.length) ka'2, .slice (some ⟨g4, 0, none⟩) 0 0, .pointer (some ⟨g1, 3, none⟩), .slice (some ⟨b4, off4, none⟩) d.ds.length i4, .slice (some ⟨ga'7, 0, none⟩) (0 + d.ds.length) ka'8, .pointer (some ⟨g1, 4, none⟩), .int .i64 d.now, .agg #[.slice (some ⟨m1, 0, none⟩) d.l.length k1, .slice (some ⟨m2, 0, none⟩) d.c.length k2, .slice (some ⟨ga'1, 0, none⟩) (0 + d.hs.length) ka'2, .slice (some ⟨ga'7, 0, none⟩) (0 + d.ds.length) ka'8, .int .i64 d.now]], []⟩ ∧ Mem w0 W [(ga'7, 113, (cellsD d.ds ++ pa'9)), (ga'1, 73, (cellsH d.hs ++ pa'3)), (m1, 49, (cellsOf d.l ++ p1)), (m2, 2, (cellsI d.c ++ p2)), (g2, 59, [.slice (some ⟨m1, 0, none⟩) d.l.length k1, .slice (some ⟨m2, 0, none⟩) d.c.length k2, .slice (some ⟨ga'1, 0, none⟩) (0 + d.hs.length) ka'2, .slice (some ⟨ga'7, 0, none⟩) (0 + d.ds.length) ka'8, .int .i64 d.now]), (g1, 59, [.slice a1 d.l.length i1, .slice a2 d.c.length i2, .slice (some ⟨b3, off3, none⟩) d.hs.length i3, .slice (some ⟨b4, off4, none⟩) d.ds.length i4, .int .i64 d.now])] ∧ (d.l.length ≤ k1 ∧ k1 ≤ maxLen ∧ d.c.length ≤ k2 ∧ k2 ≤ maxLen ∧ (cellsOf d.l ++ p1).length = k1 * 8 ∧ (cellsI d.c ++ p2).length = k2 * 1) ∧ (d.hs.length ≤ ka'2 ∧ ka'2 ≤ maxLen ∧ (cellsH d.hs ++ pa'3).length = ka'2 * 17) ∧ (d.ds.length ≤ ka'8 ∧ ka'8 ≤ maxLen ∧ (cellsD d.ds ++ pa'9).length = ka'8 * 8)) ?_ ?_
  clear hM
  rintro act W9 ⟨ga'7, ga'1, m1, m2, k1, k2, p1, p2, g3, ka'2, pa'3, g4, ka'8, pa'9, rfl, hM, ⟨q1, q2, q3, q4, q5, q6⟩, ⟨qa'4, qb'5, qe'6⟩, ⟨qa'10, qb'11, qe'12⟩⟩
  refine cn2 _ _ ?_
  clear cn2
  refine wp_ret ?_
  refine bodyPost_ret (ret_row rfl hM 4 rfl rfl Tryz.underlying59 I_impl_World) rfl ⟨m1, m2, ga'1, ga'7, k1, k2, ka'2, ka'8, p1, p2, pa'3, pa'9, by simp only [Nat.zero_add], ⟨q1, q2, q3, q4, q5, q6⟩, ⟨qa'4, qb'5, qe'6⟩, ⟨qa'10, qb'11, qe'12⟩, ?_⟩
  replace hM := hM.pull 0 rfl
  replace hM := hM.pull 1 rfl
  replace hM := hM.pull 3 rfl
  replace hM := hM.pull 3 rfl
  exact hM.four
  refine wa_start (fun w => Below w0.heap.size w0 w ∧ Blk w g1 59 [.slice a1 d.l.length i1, .slice a2 d.c.length i2, .slice (some ⟨b3, off3, none⟩) d.hs.length i3, .slice (some ⟨b4, off4, none⟩) d.ds.length i4, .int .i64 d.now]) 15 rfl (by kernel_rfl) ?_
  replace hM := hM.drew
  refine wt 0 (some 3) (.pointer (some ⟨g1, 0, none⟩)) ⟨hM.below, hM.blk 1 rfl⟩ ?_
  go_frame
  refine wq 1 (some 4) (.agg #[.slice a1 d.l.length i1, .slice a2 d.c.length i2]) ⟨hM.below, hM.blk 1 rfl⟩ rfl (fun w hS => r_part hS.2 55 _ rfl 0 rfl Tryz.underlying55 [.slice a1 d.l.length i1, .slice a2 d.c.length i2] I_impl_Shared rfl) ?_
  refine wt 4 (some 7) (.pointer (some ⟨g1, 2, none⟩)) ⟨hM.below, hM.blk 1 rfl⟩ ?_
  go_frame
  refine wq 5 (some 8) (.slice (some ⟨b3, off3, none⟩) d.hs.length i3) ⟨hM.below, hM.blk 1 rfl⟩ rfl (fun w hS => r_loadc hS.2 56 _ rfl 2 rfl Tryz.underlying56 rfl rfl) ?_
  refine wt 8 (some 11) (.pointer (some ⟨g1, 3, none⟩)) ⟨hM.below, hM.blk 1 rfl⟩ ?_
  go_frame
  refine wq 9 (some 12) (.slice (some ⟨b4, off4, none⟩) d.ds.length i4) ⟨hM.below, hM.blk 1 rfl⟩ rfl (fun w hS => r_loadc hS.2 57 _ rfl 3 rfl Tryz.underlying57 rfl rfl) ?_
  refine wt 11 (some 14) (.pointer (some ⟨g1, 4, none⟩)) ⟨hM.below, hM.blk 1 rfl⟩ ?_
  go_frame
  refine wq 12 (some 15) (.int .i64 d.now) ⟨hM.below, hM.blk 1 rfl⟩ rfl (fun w hS => r_loadc hS.2 2 _ rfl 4 rfl Tryz.underlying2 rfl rfl) ?_
  go_frame
  refine w3 2 3 7 ?_ ?_ ?_
  refine oc (some 5) (spec_l7Copy (.slice a1 d.l.length i1) (.slice a2 d.c.length i2) d.l d.c _ (H1.below hM.below) (H2.below hM.below) hL hC r1 r2) ?_
  rintro e W3 ⟨m1, m2, k1, k2, p1, p2, rfl, ⟨q1, q2, q3, q4, q5, q6⟩, hMc⟩
  replace hM := hM.join hMc
  refine ⟨_, rfl, ⟨hM.below, hM.blk 3 rfl⟩, ?_⟩
  go_frame
  refine w2 3 7 ?_ ?_
  refine wo_buildSlice (some 6) rfl rfl (by kernel_rfl) hM 73 0 [] (fun w => by kernel_rfl) ?_
  clear hM; intro g3 W4 hM
  replace hM : Mem w0 W4 ((g3, 73, (cellsH ([]) ++ [])) :: _) := hM
  refine ⟨⟨hM.below, hM.blk 4 rfl⟩, ?_⟩
  go_frame
  refine w2 6 7 ?_ ?_
  refine wo_appendS (some 9) rfl rfl (by kernel_rfl) hM 0 rfl _ _ 56 rfl Tryz.underlying56 infoHand rfl (by decide) 0 0 d.hs.length i3 (by kernel_rfl) (Nat.le_refl 0) (by simp [maxLen]) rfl rfl (by kernel_rfl) (cellsH_len d.hs) (far_news hM s3 A3) (cellsR_one (fun r => hd_one' r) d.hs) (by first | exact List.length_pos_iff.2 hH | exact List.length_pos_iff.2 hD) (by (try unfold maxLen); omega) (by (try unfold maxLen); omega) ?_
  clear hM; intro ga'1 ka'2 pa'3 W5 qa'4 qb'5 qe'6 hM
  rw [Nat.zero_add] at qa'4
  replace qe'6 : (cellsH d.hs ++ pa'3).length = ka'2 * 17 := qe'6
  refine ⟨⟨hM.below, hM.blk 4 rfl⟩, ?_⟩
  go_frame
  refine wn 7 ?_
  refine wo_buildSlice (some 10) rfl rfl (by kernel_rfl) hM 113 0 [] (fun w => by kernel_rfl) ?_
  clear hM; intro g4 W6 hM
  replace hM : Mem w0 W6 ((g4, 113, (cellsD ([]) ++ [])) :: _) := hM
  refine ⟨⟨hM.below, hM.blk 5 rfl⟩, ?_⟩
  go_frame
  refine wn 10 ?_
  refine wo_appendS (some 13) rfl rfl (by kernel_rfl) hM 0 rfl _ _ 57 rfl Tryz.underlying57 infoDeal rfl (by decide) 0 0 d.ds.length i4 (by kernel_rfl) (Nat.le_refl 0) (by simp [maxLen]) rfl rfl (by kernel_rfl) (cellsD_len d.ds) (far_news hM s4 A4) (cellsR_one (fun r => dd_one r) d.ds) (by first | exact List.length_pos_iff.2 hH | exact List.length_pos_iff.2 hD) (by (try unfold maxLen); omega) (by (try unfold maxLen); omega) ?_
  clear hM; intro ga'7 ka'8 pa'9 W7 qa'10 qb'11 qe'12 hM
  rw [Nat.zero_add] at qa'10
  replace qe'12 : (cellsD d.ds ++ pa'9).length = ka'8 * 8 := qe'12
  refine wk ⟨hM.below, hM.blk 5 rfl⟩ fun hs => ?_
  go_frame
  refine wt 13 (some 16) (.agg #[.slice (some ⟨m1, 0, none⟩) d.l.length k1, .slice (some ⟨m2, 0, none⟩) d.c.length k2, .slice (some ⟨ga'1, 0, none⟩) (0 + d.hs.length) ka'2, .slice (some ⟨ga'7, 0, none⟩) (0 + d.ds.length) ka'8, .int .i64 d.now]) hs ?_
  go_frame
  refine wn 14 ?_
  refine oS hM 4 rfl [.slice (some ⟨m1, 0, none⟩) d.l.length k1, .slice (some ⟨m2, 0, none⟩) d.c.length k2, .slice (some ⟨ga'1, 0, none⟩) (0 + d.hs.length) ka'2, .slice (some ⟨ga'7, 0, none⟩) (0 + d.ds.length) ka'8, .int .i64 d.now] I_impl_World rfl ?_
  clear hM; intro W8 hM
  refine ⟨⟨hM.below, hM.blk 5 rfl⟩, ?_⟩
  refine wJ ?_
  exact ⟨ga'7, ga'1, m1, m2, k1, k2, p1, p2, g3, ka'2, pa'3, g4, ka'8, pa'9, rfl, hM, ⟨q1, q2, q3, q4, q5, q6⟩, ⟨qa'4, qb'5, qe'6⟩, ⟨qa'10, qb'11, qe'12⟩⟩
  refine wo_buildSlice (some 10) rfl rfl (by kernel_rfl) hM 113 0 [] (fun w => by kernel_rfl) ?_
  clear hM; intro g4 W5 hM
  replace hM : Mem w0 W5 ((g4, 113, (cellsD ([]) ++ [])) :: _) := hM
  refine ⟨⟨hM.below, hM.blk 5 rfl⟩, ?_⟩
  go_frame
  refine wn 6 ?_
  refine wo_appendS (some 9) rfl rfl (by kernel_rfl) hM 1 rfl _ _ 56 rfl Tryz.underlying56 infoHand rfl (by decide) 0 0 d.hs.length i3 (by kernel_rfl) (Nat.le_refl 0) (by simp [maxLen]) rfl rfl (by kernel_rfl) (cellsH_len d.hs) (far_news hM s3 A3) (cellsR_one (fun r => hd_one' r) d.hs) (by first | exact List.length_pos_iff.2 hH | exact List.length_pos_iff.2 hD) (by (try unfold maxLen); omega) (by (try unfold maxLen); omega) ?_
  clear hM; intro ga'1 ka'2 pa'3 W6 qa'4 qb'5 qe'6 hM
  rw [Nat.zero_add] at qa'4
  replace qe'6 : (cellsH d.hs ++ pa'3).length = ka'2 * 17 := qe'6
  refine ⟨⟨hM.below, hM.blk 5 rfl⟩, ?_⟩
  go_frame
  refine wn 10 ?_
  refine wo_appendS (some 13) rfl rfl (by kernel_rfl) hM 0 rfl _ _ 57 rfl Tryz.underlying57 infoDeal rfl (by decide) 0 0 d.ds.length i4 (by kernel_rfl) (Nat.le_refl 0) (by simp [maxLen]) rfl rfl (by kernel_rfl) (cellsD_len d.ds) (far_news hM s4 A4) (cellsR_one (fun r => dd_one r) d.ds) (by first | exact List.length_pos_iff.2 hH | exact List.length_pos_iff.2 hD) (by (try unfold maxLen); omega) (by (try unfold maxLen); omega) ?_
  clear hM; intro ga'7 ka'8 pa'9 W7 qa'10 qb'11 qe'12 hM
  rw [Nat.zero_add] at qa'10
  replace qe'12 : (cellsD d.ds ++ pa'9).length = ka'8 * 8 := qe'12
  refine wk ⟨hM.below, hM.blk 5 rfl⟩ fun hs => ?_
  go_frame
  refine wt 13 (some 16) (.agg #[.slice (some ⟨m1, 0, none⟩) d.l.length k1, .slice (some ⟨m2, 0, none⟩) d.c.length k2, .slice (some ⟨ga'1, 0, none⟩) (0 + d.hs.length) ka'2, .slice (some ⟨ga'7, 0, none⟩) (0 + d.ds.length) ka'8, .int .i64 d.now]) hs ?_
  go_frame
  refine wn 14 ?_
  refine oS hM 4 rfl [.slice (some ⟨m1, 0, none⟩) d.l.length k1, .slice (some ⟨m2, 0, none⟩) d.c.length k2, .slice (some ⟨ga'1, 0, none⟩) (0 + d.hs.length) ka'2, .slice (some ⟨ga'7, 0, none⟩) (0 + d.ds.length) ka'8, .int .i64 d.now] I_impl_World rfl ?_
  clear hM; intro W8 hM
  refine ⟨⟨hM.below, hM.blk 5 rfl⟩, ?_⟩
  refine wJ ?_
  exact ⟨ga'7, ga'1, m1, m2, k1, k2, p1, p2, g3, ka'2, pa'3, g4, ka'8, pa'9, rfl, hM, ⟨q1, q2, q3, q4, q5, q6⟩, ⟨qa'4, qb'5, qe'6⟩, ⟨qa'10, qb'11, qe'12⟩⟩
  refine wo_buildSlice (some 10) rfl rfl (by kernel_rfl) hM 113 0 [] (fun w => by kernel_rfl) ?_
  clear hM; intro g3 W4 hM
  replace hM : Mem w0 W4 ((g3, 113, (cellsD ([]) ++ [])) :: _) := hM
  refine ⟨⟨hM.below, hM.blk 4 rfl⟩, ?_⟩
  go_frame
  refine wn 3 ?_
  refine wo_buildSlice (some 6) rfl rfl (by kernel_rfl) hM 73 0 [] (fun w => by kernel_rfl) ?_
  clear hM; intro g4 W5 hM
  replace hM : Mem w0 W5 ((g4, 73, (cellsH ([]) ++ [])) :: _) := hM
  refine ⟨⟨hM.below, hM.blk 5 rfl⟩, ?_⟩
  go_frame
  refine wn 6 ?_
  refine wo_appendS (some 9) rfl rfl (by kernel_rfl) hM 0 rfl _ _ 56 rfl Tryz.underlying56 infoHand rfl (by decide) 0 0 d.hs.length i3 (by kernel_rfl) (Nat.le_refl 0) (by simp [maxLen]) rfl rfl (by kernel_rfl) (cellsH_len d.hs) (far_news hM s3 A3) (cellsR_one (fun r => hd_one' r) d.hs) (by first | exact List.length_pos_iff.2 hH | exact List.length_pos_iff.2 hD) (by (try unfold maxLen); omega) (by (try unfold maxLen); omega) ?_
  clear hM; intro ga'1 ka'2 pa'3 W6 qa'4 qb'5 qe'6 hM
  rw [Nat.zero_add] at qa'4
  replace qe'6 : (cellsH d.hs ++ pa'3).length = ka'2 * 17 := qe'6
  refine ⟨⟨hM.below, hM.blk 5 rfl⟩, ?_⟩
  go_frame
  refine wn 10 ?_
  refine wo_appendS (some 13) rfl rfl (by kernel_rfl) hM 1 rfl _ _ 57 rfl Tryz.underlying57 infoDeal rfl (by decide) 0 0 d.ds.length i4 (by kernel_rfl) (Nat.le_refl 0) (by simp [maxLen]) rfl rfl (by kernel_rfl) (cellsD_len d.ds) (far_news hM s4 A4) (cellsR_one (fun r => dd_one r) d.ds) (by first | exact List.length_pos_iff.2 hH | exact List.length_pos_iff.2 hD) (by (try unfold maxLen); omega) (by (try unfold maxLen); omega) ?_
  clear hM; intro ga'7 ka'8 pa'9 W7 qa'10 qb'11 qe'12 hM
  rw [Nat.zero_add] at qa'10
  replace qe'12 : (cellsD d.ds ++ pa'9).length = ka'8 * 8 := qe'12
  refine wk ⟨hM.below, hM.blk 5 rfl⟩ fun hs => ?_
  go_frame
  refine wt 13 (some 16) (.agg #[.slice (some ⟨m1, 0, none⟩) d.l.length k1, .slice (some ⟨m2, 0, none⟩) d.c.length k2, .slice (some ⟨ga'1, 0, none⟩) (0 + d.hs.length) ka'2, .slice (some ⟨ga'7, 0, none⟩) (0 + d.ds.length) ka'8, .int .i64 d.now]) hs ?_
  go_frame
  refine wn 14 ?_
  refine oS hM 4 rfl [.slice (some ⟨m1, 0, none⟩) d.l.length k1, .slice (some ⟨m2, 0, none⟩) d.c.length k2, .slice (some ⟨ga'1, 0, none⟩) (0 + d.hs.length) ka'2, .slice (some ⟨ga'7, 0, none⟩) (0 + d.ds.length) ka'8, .int .i64 d.now] I_impl_World rfl ?_
  clear hM; intro W8 hM
  refine ⟨⟨hM.below, hM.blk 5 rfl⟩, ?_⟩
  refine wJ ?_
  replace hM := hM.pull 0 rfl
  replace hM := hM.pull 1 rfl
  exact ⟨ga'7, ga'1, m1, m2, k1, k2, p1, p2, g4, ka'2, pa'3, g3, ka'8, pa'9, rfl, hM, ⟨q1, q2, q3, q4, q5, q6⟩, ⟨qa'4, qb'5, qe'6⟩, ⟨qa'10, qb'11, qe'12⟩⟩
  refine wo_buildSlice (some 6) rfl rfl (by kernel_rfl) hM 73 0 [] (fun w => by kernel_rfl) ?_
  clear hM; intro g3 W3 hM
  replace hM : Mem w0 W3 ((g3, 73, (cellsH ([]) ++ [])) :: _) := hM
  refine ⟨⟨hM.below, hM.blk 2 rfl⟩, ?_⟩
  go_frame
  refine w2 2 7 ?_ ?_
  refine oc (some 5) (spec_l7Copy (.slice a1 d.l.length i1) (.slice a2 d.c.length i2) d.l d.c _ (H1.below hM.below) (H2.below hM.below) hL hC r1 r2) ?_
  rintro e W4 ⟨m1, m2, k1, k2, p1, p2, rfl, ⟨q1, q2, q3, q4, q5, q6⟩, hMc⟩
  replace hM := hM.join hMc
  refine ⟨_, rfl, ⟨hM.below, hM.blk 4 rfl⟩, ?_⟩
  go_frame
  refine w2 6 7 ?_ ?_
  refine wo_appendS (some 9) rfl rfl (by kernel_rfl) hM 2 rfl _ _ 56 rfl Tryz.underlying56 infoHand rfl (by decide) 0 0 d.hs.length i3 (by kernel_rfl) (Nat.le_refl 0) (by simp [maxLen]) rfl rfl (by kernel_rfl) (cellsH_len d.hs) (far_news hM s3 A3) (cellsR_one (fun r => hd_one' r) d.hs) (by first | exact List.length_pos_iff.2 hH | exact List.length_pos_iff.2 hD) (by (try unfold maxLen); omega) (by (try unfold maxLen); omega) ?_
  clear hM; intro ga'1 ka'2 pa'3 W5 qa'4 qb'5 qe'6 hM
  rw [Nat.zero_add] at qa'4
  replace qe'6 : (cellsH d.hs ++ pa'3).length = ka'2 * 17 := qe'6
  refine ⟨⟨hM.below, hM.blk 4 rfl⟩, ?_⟩
  go_frame
  refine wn 7 ?_
  refine wo_buildSlice (some 10) rfl rfl (by kernel_rfl) hM 113 0 [] (fun w => by kernel_rfl) ?_
  clear hM; intro g4 W6 hM
  replace hM : Mem w0 W6 ((g4, 113, (cellsD ([]) ++ [])) :: _) := hM
  refine ⟨⟨hM.below, hM.blk 5 rfl⟩, ?_⟩
  go_frame
  refine wn 10 ?_
  refine wo_appendS (some 13) rfl rfl (by kernel_rfl) hM 0 rfl _ _ 57 rfl Tryz.underlying57 infoDeal rfl (by decide) 0 0 d.ds.length i4 (by kernel_rfl) (Nat.le_refl 0) (by simp [maxLen]) rfl rfl (by kernel_rfl) (cellsD_len d.ds) (far_news hM s4 A4) (cellsR_one (fun r => dd_one r) d.ds) (by first | exact List.length_pos_iff.2 hH | exact List.length_pos_iff.2 hD) (by (try unfold maxLen); omega) (by (try unfold maxLen); omega) ?_
  clear hM; intro ga'7 ka'8 pa'9 W7 qa'10 qb'11 qe'12 hM
  rw [Nat.zero_add] at qa'10
  replace qe'12 : (cellsD d.ds ++ pa'9).length = ka'8 * 8 := qe'12
  refine wk ⟨hM.below, hM.blk 5 rfl⟩ fun hs => ?_
  go_frame
  refine wt 13 (some 16) (.agg #[.slice (some ⟨m1, 0, none⟩) d.l.length k1, .slice (some ⟨m2, 0, none⟩) d.c.length k2, .slice (some ⟨ga'1, 0, none⟩) (0 + d.hs.length) ka'2, .slice (some ⟨ga'7, 0, none⟩) (0 + d.ds.length) ka'8, .int .i64 d.now]) hs ?_
  go_frame
  refine wn 14 ?_
  refine oS hM 4 rfl [.slice (some ⟨m1, 0, none⟩) d.l.length k1, .slice (some ⟨m2, 0, none⟩) d.c.length k2, .slice (some ⟨ga'1, 0, none⟩) (0 + d.hs.length) ka'2, .slice (some ⟨ga'7, 0, none⟩) (0 + d.ds.length) ka'8, .int .i64 d.now] I_impl_World rfl ?_
  clear hM; intro W8 hM
  refine ⟨⟨hM.below, hM.blk 5 rfl⟩, ?_⟩
  refine wJ ?_
  replace hM := hM.pull 2 rfl
  replace hM := hM.pull 2 rfl
  replace hM := hM.pull 3 rfl
  replace hM := hM.pull 3 rfl
  exact ⟨ga'7, ga'1, m1, m2, k1, k2, p1, p2, g3, ka'2, pa'3, g4, ka'8, pa'9, rfl, hM, ⟨q1, q2, q3, q4, q5, q6⟩, ⟨qa'4, qb'5, qe'6⟩, ⟨qa'10, qb'11, qe'12⟩⟩
  refine wo_buildSlice (some 10) rfl rfl (by kernel_rfl) hM 113 0 [] (fun w => by kernel_rfl) ?_
  clear hM; intro g4 W5 hM
  replace hM : Mem w0 W5 ((g4, 113, (cellsD ([]) ++ [])) :: _) := hM
  refine ⟨⟨hM.below, hM.blk 5 rfl⟩, ?_⟩
  go_frame
  refine wn 6 ?_
  refine wo_appendS (some 9) rfl rfl (by kernel_rfl) hM 3 rfl _ _ 56 rfl Tryz.underlying56 infoHand rfl (by decide) 0 0 d.hs.length i3 (by kernel_rfl) (Nat.le_refl 0) (by simp [maxLen]) rfl rfl (by kernel_rfl) (cellsH_len d.hs) (far_news hM s3 A3) (cellsR_one (fun r => hd_one' r) d.hs) (by first | exact List.length_pos_iff.2 hH | exact List.length_pos_iff.2 hD) (by (try unfold maxLen); omega) (by (try unfold maxLen); omega) ?_
  clear hM; intro ga'1 ka'2 pa'3 W6 qa'4 qb'5 qe'6 hM
  rw [Nat.zero_add] at qa'4
  replace qe'6 : (cellsH d.hs ++ pa'3).length = ka'2 * 17 := qe'6
  refine ⟨⟨hM.below, hM.blk 5 rfl⟩, ?_⟩
  go_frame
  refine wn 10 ?_
  refine wo_appendS (some 13) rfl rfl (by kernel_rfl) hM 0 rfl _ _ 57 rfl Tryz.underlying57 infoDeal rfl (by decide) 0 0 d.ds.length i4 (by kernel_rfl) (Nat.le_refl 0) (by simp [maxLen]) rfl rfl (by kernel_rfl) (cellsD_len d.ds) (far_news hM s4 A4) (cellsR_one (fun r => dd_one r) d.ds) (by first | exact List.length_pos_iff.2 hH | exact List.length_pos_iff.2 hD) (by (try unfold maxLen); omega) (by (try unfold maxLen); omega) ?_
  clear hM; intro ga'7 ka'8 pa'9 W7 qa'10 qb'11 qe'12 hM
  rw [Nat.zero_add] at qa'10
  replace qe'12 : (cellsD d.ds ++ pa'9).length = ka'8 * 8 := qe'12
  refine wk ⟨hM.below, hM.blk 5 rfl⟩ fun hs => ?_
  go_frame
  refine wt 13 (some 16) (.agg #[.slice (some ⟨m1, 0, none⟩) d.l.length k1, .slice (some ⟨m2, 0, none⟩) d.c.length k2, .slice (some ⟨ga'1, 0, none⟩) (0 + d.hs.length) ka'2, .slice (some ⟨ga'7, 0, none⟩) (0 + d.ds.length) ka'8, .int .i64 d.now]) hs ?_
  go_frame
  refine wn 14 ?_
  refine oS hM 4 rfl [.slice (some ⟨m1, 0, none⟩) d.l.length k1, .slice (some ⟨m2, 0, none⟩) d.c.length k2, .slice (some ⟨ga'1, 0, none⟩) (0 + d.hs.length) ka'2, .slice (some ⟨ga'7, 0, none⟩) (0 + d.ds.length) ka'8, .int .i64 d.now] I_impl_World rfl ?_
  clear hM; intro W8 hM
  refine ⟨⟨hM.below, hM.blk 5 rfl⟩, ?_⟩
  refine wJ ?_
  replace hM := hM.pull 2 rfl
  replace hM := hM.pull 2 rfl
  replace hM := hM.pull 3 rfl
  replace hM := hM.pull 3 rfl
  exact ⟨ga'7, ga'1, m1, m2, k1, k2, p1, p2, g3, ka'2, pa'3, g4, ka'8, pa'9, rfl, hM, ⟨q1, q2, q3, q4, q5, q6⟩, ⟨qa'4, qb'5, qe'6⟩, ⟨qa'10, qb'11, qe'12⟩⟩
  refine wo_buildSlice (some 10) rfl rfl (by kernel_rfl) hM 113 0 [] (fun w => by kernel_rfl) ?_
  clear hM; intro g4 W4 hM
  replace hM : Mem w0 W4 ((g4, 113, (cellsD ([]) ++ [])) :: _) := hM
  refine ⟨⟨hM.below, hM.blk 3 rfl⟩, ?_⟩
  go_frame
  refine wn 2 ?_
  refine oc (some 5) (spec_l7Copy (.slice a1 d.l.length i1) (.slice a2 d.c.length i2) d.l d.c _ (H1.below hM.below) (H2.below hM.below) hL hC r1 r2) ?_
  rintro e W5 ⟨m1, m2, k1, k2, p1, p2, rfl, ⟨q1, q2, q3, q4, q5, q6⟩, hMc⟩
  replace hM := hM.join hMc
  refine ⟨_, rfl, ⟨hM.below, hM.blk 5 rfl⟩, ?_⟩
  go_frame
  refine wn 6 ?_
  refine wo_appendS (some 9) rfl rfl (by kernel_rfl) hM 3 rfl _ _ 56 rfl Tryz.underlying56 infoHand rfl (by decide) 0 0 d.hs.length i3 (by kernel_rfl) (Nat.le_refl 0) (by simp [maxLen]) rfl rfl (by kernel_rfl) (cellsH_len d.hs) (far_news hM s3 A3) (cellsR_one (fun r => hd_one' r) d.hs) (by first | exact List.length_pos_iff.2 hH | exact List.length_pos_iff.2 hD) (by (try unfold maxLen); omega) (by (try unfold maxLen); omega) ?_
  clear hM; intro ga'1 ka'2 pa'3 W6 qa'4 qb'5 qe'6 hM
  rw [Nat.zero_add] at qa'4
  replace qe'6 : (cellsH d.hs ++ pa'3).length = ka'2 * 17 := qe'6
  refine ⟨⟨hM.below, hM.blk 5 rfl⟩, ?_⟩
  go_frame
  refine wn 10 ?_
  refine wo_appendS (some 13) rfl rfl (by kernel_rfl) hM 2 rfl _ _ 57 rfl Tryz.underlying57 infoDeal rfl (by decide) 0 0 d.ds.length i4 (by kernel_rfl) (Nat.le_refl 0) (by simp [maxLen]) rfl rfl (by kernel_rfl) (cellsD_len d.ds) (far_news hM s4 A4) (cellsR_one (fun r => dd_one r) d.ds) (by first | exact List.length_pos_iff.2 hH | exact List.length_pos_iff.2 hD) (by (try unfold maxLen); omega) (by (try unfold maxLen); omega) ?_
  clear hM; intro ga'7 ka'8 pa'9 W7 qa'10 qb'11 qe'12 hM
  rw [Nat.zero_add] at qa'10
  replace qe'12 : (cellsD d.ds ++ pa'9).length = ka'8 * 8 := qe'12
  refine wk ⟨hM.below, hM.blk 5 rfl⟩ fun hs => ?_
  go_frame
  refine wt 13 (some 16) (.agg #[.slice (some ⟨m1, 0, none⟩) d.l.length k1, .slice (some ⟨m2, 0, none⟩) d.c.length k2, .slice (some ⟨ga'1, 0, none⟩) (0 + d.hs.length) ka'2, .slice (some ⟨ga'7, 0, none⟩) (0 + d.ds.length) ka'8, .int .i64 d.now]) hs ?_
  go_frame
  refine wn 14 ?_
  refine oS hM 4 rfl [.slice (some ⟨m1, 0, none⟩) d.l.length k1, .slice (some ⟨m2, 0, none⟩) d.c.length k2, .slice (some ⟨ga'1, 0, none⟩) (0 + d.hs.length) ka'2, .slice (some ⟨ga'7, 0, none⟩) (0 + d.ds.length) ka'8, .int .i64 d.now] I_impl_World rfl ?_
  clear hM; intro W8 hM
  refine ⟨⟨hM.below, hM.blk 5 rfl⟩, ?_⟩
  refine wJ ?_
  replace hM := hM.pull 1 rfl
  replace hM := hM.pull 1 rfl
  replace hM := hM.pull 3 rfl
  replace hM := hM.pull 3 rfl
  exact ⟨ga'7, ga'1, m1, m2, k1, k2, p1, p2, g3, ka'2, pa'3, g4, ka'8, pa'9, rfl, hM, ⟨q1, q2, q3, q4, q5, q6⟩, ⟨qa'4, qb'5, qe'6⟩, ⟨qa'10, qb'11, qe'12⟩⟩
  refine wo_buildSlice (some 10) rfl rfl (by kernel_rfl) hM 113 0 [] (fun w => by kernel_rfl) ?_
  clear hM; intro g3 W3 hM
  replace hM : Mem w0 W3 ((g3, 113, (cellsD ([]) ++ [])) :: _) := hM
  refine ⟨⟨hM.below, hM.blk 2 rfl⟩, ?_⟩
  go_frame
  refine w2 2 3 ?_ ?_
  refine oc (some 5) (spec_l7Copy (.slice a1 d.l.length i1) (.slice a2 d.c.length i2) d.l d.c _ (H1.below hM.below) (H2.below hM.below) hL hC r1 r2) ?_
  rintro e W4 ⟨m1, m2, k1, k2, p1, p2, rfl, ⟨q1, q2, q3, q4, q5, q6⟩, hMc⟩
  replace hM := hM.join hMc
  refine ⟨_, rfl, ⟨hM.below, hM.blk 4 rfl⟩, ?_⟩
  go_frame
  refine wn 3 ?_
  refine wo_buildSlice (some 6) rfl rfl (by kernel_rfl) hM 73 0 [] (fun w => by kernel_rfl) ?_
  clear hM; intro g4 W5 hM
  replace hM : Mem w0 W5 ((g4, 73, (cellsH ([]) ++ [])) :: _) := hM
  refine ⟨⟨hM.below, hM.blk 5 rfl⟩, ?_⟩
  go_frame
  refine wn 6 ?_
  refine wo_appendS (some 9) rfl rfl (by kernel_rfl) hM 0 rfl _ _ 56 rfl Tryz.underlying56 infoHand rfl (by decide) 0 0 d.hs.length i3 (by kernel_rfl) (Nat.le_refl 0) (by simp [maxLen]) rfl rfl (by kernel_rfl) (cellsH_len d.hs) (far_news hM s3 A3) (cellsR_one (fun r => hd_one' r) d.hs) (by first | exact List.length_pos_iff.2 hH | exact List.length_pos_iff.2 hD) (by (try unfold maxLen); omega) (by (try unfold maxLen); omega) ?_
  clear hM; intro ga'1 ka'2 pa'3 W6 qa'4 qb'5 qe'6 hM
  rw [Nat.zero_add] at qa'4
  replace qe'6 : (cellsH d.hs ++ pa'3).length = ka'2 * 17 := qe'6
  refine ⟨⟨hM.below, hM.blk 5 rfl⟩, ?_⟩
  go_frame
  refine wn 10 ?_
  refine wo_appendS (some 13) rfl rfl (by kernel_rfl) hM 3 rfl _ _ 57 rfl Tryz.underlying57 infoDeal rfl (by decide) 0 0 d.ds.length i4 (by kernel_rfl) (Nat.le_refl 0) (by simp [maxLen]) rfl rfl (by kernel_rfl) (cellsD_len d.ds) (far_news hM s4 A4) (cellsR_one (fun r => dd_one r) d.ds) (by first | exact List.length_pos_iff.2 hH | exact List.length_pos_iff.2 hD) (by (try unfold maxLen); omega) (by (try unfold maxLen); omega) ?_
  clear hM; intro ga'7 ka'8 pa'9 W7 qa'10 qb'11 qe'12 hM
  rw [Nat.zero_add] at qa'10
  replace qe'12 : (cellsD d.ds ++ pa'9).length = ka'8 * 8 := qe'12
  refine wk ⟨hM.below, hM.blk 5 rfl⟩ fun hs => ?_
  go_frame
  refine wt 13 (some 16) (.agg #[.slice (some ⟨m1, 0, none⟩) d.l.length k1, .slice (some ⟨m2, 0, none⟩) d.c.length k2, .slice (some ⟨ga'1, 0, none⟩) (0 + d.hs.length) ka'2, .slice (some ⟨ga'7, 0, none⟩) (0 + d.ds.length) ka'8, .int .i64 d.now]) hs ?_
  go_frame
  refine wn 14 ?_
  refine oS hM 4 rfl [.slice (some ⟨m1, 0, none⟩) d.l.length k1, .slice (some ⟨m2, 0, none⟩) d.c.length k2, .slice (some ⟨ga'1, 0, none⟩) (0 + d.hs.length) ka'2, .slice (some ⟨ga'7, 0, none⟩) (0 + d.ds.length) ka'8, .int .i64 d.now] I_impl_World rfl ?_
  clear hM; intro W8 hM
  refine ⟨⟨hM.below, hM.blk 5 rfl⟩, ?_⟩
  refine wJ ?_
  replace hM := hM.pull 2 rfl
  replace hM := hM.pull 2 rfl
  replace hM := hM.pull 2 rfl
  replace hM := hM.pull 3 rfl
  exact ⟨ga'7, ga'1, m1, m2, k1, k2, p1, p2, g4, ka'2, pa'3, g3, ka'8, pa'9, rfl, hM, ⟨q1, q2, q3, q4, q5, q6⟩, ⟨qa'4, qb'5, qe'6⟩, ⟨qa'10, qb'11, qe'12⟩⟩
  refine wo_buildSlice (some 6) rfl rfl (by kernel_rfl) hM 73 0 [] (fun w => by kernel_rfl) ?_
  clear hM; intro g4 W4 hM
  replace hM : Mem w0 W4 ((g4, 73, (cellsH ([]) ++ [])) :: _) := hM
  refine ⟨⟨hM.below, hM.blk 3 rfl⟩, ?_⟩
  go_frame
  refine wn 2 ?_
  refine oc (some 5) (spec_l7Copy (.slice a1 d.l.length i1) (.slice a2 d.c.length i2) d.l d.c _ (H1.below hM.below) (H2.below hM.below) hL hC r1 r2) ?_
  rintro e W5 ⟨m1, m2, k1, k2, p1, p2, rfl, ⟨q1, q2, q3, q4, q5, q6⟩, hMc⟩
  replace hM := hM.join hMc
  refine ⟨_, rfl, ⟨hM.below, hM.blk 5 rfl⟩, ?_⟩
  go_frame
  refine wn 6 ?_
  refine wo_appendS (some 9) rfl rfl (by kernel_rfl) hM 2 rfl _ _ 56 rfl Tryz.underlying56 infoHand rfl (by decide) 0 0 d.hs.length i3 (by kernel_rfl) (Nat.le_refl 0) (by simp [maxLen]) rfl rfl (by kernel_rfl) (cellsH_len d.hs) (far_news hM s3 A3) (cellsR_one (fun r => hd_one' r) d.hs) (by first | exact List.length_pos_iff.2 hH | exact List.length_pos_iff.2 hD) (by (try unfold maxLen); omega) (by (try unfold maxLen); omega) ?_
  clear hM; intro ga'1 ka'2 pa'3 W6 qa'4 qb'5 qe'6 hM
  rw [Nat.zero_add] at qa'4
  replace qe'6 : (cellsH d.hs ++ pa'3).length = ka'2 * 17 := qe'6
  refine ⟨⟨hM.below, hM.blk 5 rfl⟩, ?_⟩
  go_frame
  refine wn 10 ?_
  refine wo_appendS (some 13) rfl rfl (by kernel_rfl) hM 3 rfl _ _ 57 rfl Tryz.underlying57 infoDeal rfl (by decide) 0 0 d.ds.length i4 (by kernel_rfl) (Nat.le_refl 0) (by simp [maxLen]) rfl rfl (by kernel_rfl) (cellsD_len d.ds) (far_news hM s4 A4) (cellsR_one (fun r => dd_one r) d.ds) (by first | exact List.length_pos_iff.2 hH | exact List.length_pos_iff.2 hD) (by (try unfold maxLen); omega) (by (try unfold maxLen); omega) ?_
  clear hM; intro ga'7 ka'8 pa'9 W7 qa'10 qb'11 qe'12 hM
  rw [Nat.zero_add] at qa'10
  replace qe'12 : (cellsD d.ds ++ pa'9).length = ka'8 * 8 := qe'12
  refine wk ⟨hM.below, hM.blk 5 rfl⟩ fun hs => ?_
  go_frame
  refine wt 13 (some 16) (.agg #[.slice (some ⟨m1, 0, none⟩) d.l.length k1, .slice (some ⟨m2, 0, none⟩) d.c.length k2, .slice (some ⟨ga'1, 0, none⟩) (0 + d.hs.length) ka'2, .slice (some ⟨ga'7, 0, none⟩) (0 + d.ds.length) ka'8, .int .i64 d.now]) hs ?_
  go_frame
  refine wn 14 ?_
  refine oS hM 4 rfl [.slice (some ⟨m1, 0, none⟩) d.l.length k1, .slice (some ⟨m2, 0, none⟩) d.c.length k2, .slice (some ⟨ga'1, 0, none⟩) (0 + d.hs.length) ka'2, .slice (some ⟨ga'7, 0, none⟩) (0 + d.ds.length) ka'8, .int .i64 d.now] I_impl_World rfl ?_
  clear hM; intro W8 hM
  refine ⟨⟨hM.below, hM.blk 5 rfl⟩, ?_⟩
  refine wJ ?_
  replace hM := hM.pull 1 rfl
  replace hM := hM.pull 1 rfl
  replace hM := hM.pull 2 rfl
  replace hM := hM.pull 3 rfl
  exact ⟨ga'7, ga'1, m1, m2, k1, k2, p1, p2, g4, ka'2, pa'3, g3, ka'8, pa'9, rfl, hM, ⟨q1, q2, q3, q4, q5, q6⟩, ⟨qa'4, qb'5, qe'6⟩, ⟨qa'10, qb'11, qe'12⟩⟩

theorem spec_l13Copy2 (u x y z : Value) (d : WD) (w0 : World) (hw : SlW w0 u x y z d) (hr : Room d) (hL : d.l ≠ []) (hC : d.c ≠ []) (hH : d.hs ≠ []) (hD : d.ds = []) :
    Calls Tryz.prog 67 #[.agg #[u, x, y, z, .int .i64 d.now]] w0 (CopiedW d w0) := by
  have hD0 : d.ds.length = 0 := by rw [hD]; rfl
  obtain ⟨h1, h2, h3, h4⟩ := hw
  have H1 := h1
  have H2 := h2
  have H3 := h3
  have H4 := h4
  obtain ⟨r1, r2, r3, r4⟩ := hr
  obtain ⟨a1, i1, rfl, -⟩ := h1
  obtain ⟨a2, i2, rfl, -⟩ := h2
  obtain ⟨b3, off3, i3, rfl, kk3, mm3, s3, G3, A3⟩ := SlR.all hd_len (by omega) h3 hH
  obtain ⟨a4, i4, rfl, -⟩ := h4
  rw [hD0]
  have hM := Mem.start w0
  go_enter Tryz.func67, Tryz.ntmps67
  refine wp_seq_k fun _ cn1 => wl_region ?_
  refine nx hM 59 [.slice a1 d.l.length i1, .slice a2 d.c.length i2, .slice (some ⟨b3, off3, none⟩) d.hs.length i3, .slice a4 0 i4, .int .i64 d.now] ?_
  clear hM; intro g1 W1 hM
  refine na hM [.slice none 0 0, .slice none 0 0, .slice none 0 0, .slice none 0 0, .int .i64 0] Z_impl_World ?_
  clear hM; intro g2 W2 hM
  go_frame
  refine wl_nil (cn1 _ _ ?_)
  clear cn1
  refine wp_seq_k fun Kn2 cn2 => ?_
  refine wa_join (fun act W => ∃ (g4 ga'1 m1 m2 : Nat) (k1 : Nat) (k2 : Nat) (p1 : List Value) (p2 : List Value) (g3 : Nat) (ka'2 : Nat) (pa'3 : List Value), act = ⟨#[.agg #[.slice a1 d.l.length i1, .slice a2 d.c.length i2, .slice (some ⟨b3, off3, none⟩) d.hs.length i3, .slice a4 0 i4, .int .i64 d.now], .pointer (some ⟨g1, 0, none⟩), .pointer (some ⟨g2, 0, none⟩), .pointer (some ⟨g1, 0, none⟩), .agg #[.slice a1 d.l.length i1, .slice a2 d.c.length i2], .agg #[.slice (some ⟨m1, 0, none⟩) d.l.length k1, .slice (some ⟨m2, 0, none⟩) d.c.length k2], .slice (some ⟨g3, 0, none⟩) 0 0, .pointer (some ⟨g1, 2, none⟩), .slice (some ⟨b3, off3, none⟩) d.hs.length i3, .slice (some ⟨ga'1, 0, none⟩) (0 + d.hs.length) ka'2, .slice (some ⟨g4, 0, none⟩) 0 0, .pointer (some ⟨g1, 3, none⟩), .slice a4 0 i4, .slice (some ⟨g4, 0, none⟩) 0 0, .pointer (some ⟨g1, 4, none⟩), .int .i64 d.now, .agg #[.slice (some ⟨m1, 0, none⟩) d.l.length k1, .slice (some ⟨m2, 0, none⟩) d.c.length k2, .slice (some ⟨ga'1, 0, none⟩) (0 + d.hs.length) ka'2, .slice (some ⟨g4, 0, none⟩) 0 0, .int .i64 d.now]], []⟩ ∧ Mem w0 W [(g4, 113, (cellsD ([]) ++ [])), (ga'1, 73, (cellsH d.hs ++ pa'3)), (m1, 49, (cellsOf d.l ++ p1)), (m2, 2, (cellsI d.c ++ p2)), (g2, 59, [.slice (some ⟨m1, 0, none⟩) d.l.length k1, .slice (some ⟨m2, 0, none⟩) d.c.length k2, .slice (some ⟨ga'1, 0, none⟩) (0 + d.hs.length) ka'2, .slice (some ⟨g4, 0, none⟩) 0 0, .int .i64 d.now]), (g1, 59, [.slice a1 d.l.length i1, .slice a2 d.c.length i2, .slice (some ⟨b3, off3, none⟩) d.hs.length i3, .slice a4 0 i4, .int .i64 d.now])] ∧ (d.l.length ≤ k1 ∧ k1 ≤ maxLen ∧ d.c.length ≤ k2 ∧ k2 ≤ maxLen ∧ (cellsOf d.l ++ p1).length = k1 * 8 ∧ (cellsI d.c ++ p2).length = k2 * 1) ∧ (d.hs.length ≤ ka'2 ∧ ka'2 ≤ maxLen ∧ (cellsH d.hs ++ pa'3).length = ka'2 * 17)) ?_ ?_
  clear hM
  rintro act W9 ⟨g4, ga'1, m1, m2, k1, k2, p1, p2, g3, ka'2, pa'3, rfl, hM, ⟨q1, q2, q3, q4, q5, q6⟩, ⟨qa'4, qb'5, qe'6⟩⟩
  refine cn2 _ _ ?_
  clear cn2
  refine wp_ret ?_
  refine bodyPost_ret (ret_row rfl hM 4 rfl rfl Tryz.underlying59 I_impl_World) rfl ⟨m1, m2, ga'1, g4, k1, k2, ka'2, 0, p1, p2, pa'3, [], by simp only [Nat.zero_add, hD0], ⟨q1, q2, q3, q4, q5, q6⟩, ⟨qa'4, qb'5, qe'6⟩, by rw [hD]; exact ⟨Nat.le_refl _, by simp [maxLen], rfl⟩, ?_⟩
  replace hM := hM.pull 0 rfl
  replace hM := hM.pull 1 rfl
  replace hM := hM.pull 3 rfl
  replace hM := hM.pull 3 rfl
  rw [hD]; exact hM.four
  refine wa_start (fun w => Below w0.heap.size w0 w ∧ Blk w g1 59 [.slice a1 d.l.length i1, .slice a2 d.c.length i2, .slice (some ⟨b3, off3, none⟩) d.hs.length i3, .slice a4 0 i4, .int .i64 d.now]) 15 rfl (by kernel_rfl) ?_
  replace hM := hM.drew
  refine wt 0 (some 3) (.pointer (some ⟨g1, 0, none⟩)) ⟨hM.below, hM.blk 1 rfl⟩ ?_
  go_frame
  refine wq 1 (some 4) (.agg #[.slice a1 d.l.length i1, .slice a2 d.c.length i2]) ⟨hM.below, hM.blk 1 rfl⟩ rfl (fun w hS => r_part hS.2 55 _ rfl 0 rfl Tryz.underlying55 [.slice a1 d.l.length i1, .slice a2 d.c.length i2] I_impl_Shared rfl) ?_
  refine wt 4 (some 7) (.pointer (some ⟨g1, 2, none⟩)) ⟨hM.below, hM.blk 1 rfl⟩ ?_
  go_frame
  refine wq 5 (some 8) (.slice (some ⟨b3, off3, none⟩) d.hs.length i3) ⟨hM.below, hM.blk 1 rfl⟩ rfl (fun w hS => r_loadc hS.2 56 _ rfl 2 rfl Tryz.underlying56 rfl rfl) ?_
  refine wt 8 (some 11) (.pointer (some ⟨g1, 3, none⟩)) ⟨hM.below, hM.blk 1 rfl⟩ ?_
  go_frame
  refine wq 9 (some 12) (.slice a4 0 i4) ⟨hM.below, hM.blk 1 rfl⟩ rfl (fun w hS => r_loadc hS.2 57 _ rfl 3 rfl Tryz.underlying57 rfl rfl) ?_
  refine wt 11 (some 14) (.pointer (some ⟨g1, 4, none⟩)) ⟨hM.below, hM.blk 1 rfl⟩ ?_
  go_frame
  refine wq 12 (some 15) (.int .i64 d.now) ⟨hM.below, hM.blk 1 rfl⟩ rfl (fun w hS => r_loadc hS.2 2 _ rfl 4 rfl Tryz.underlying2 rfl rfl) ?_
  go_frame
  refine w3 2 3 7 ?_ ?_ ?_
  refine oc (some 5) (spec_l7Copy (.slice a1 d.l.length i1) (.slice a2 d.c.length i2) d.l d.c _ (H1.below hM.below) (H2.below hM.below) hL hC r1 r2) ?_
  rintro e W3 ⟨m1, m2, k1, k2, p1, p2, rfl, ⟨q1, q2, q3, q4, q5, q6⟩, hMc⟩
  replace hM := hM.join hMc
  refine ⟨_, rfl, ⟨hM.below, hM.blk 3 rfl⟩, ?_⟩
  go_frame
  refine w2 3 7 ?_ ?_
  refine wo_buildSlice (some 6) rfl rfl (by kernel_rfl) hM 73 0 [] (fun w => by kernel_rfl) ?_
  clear hM; intro g3 W4 hM
  replace hM : Mem w0 W4 ((g3, 73, (cellsH ([]) ++ [])) :: _) := hM
  refine ⟨⟨hM.below, hM.blk 4 rfl⟩, ?_⟩
  go_frame
  refine w2 6 7 ?_ ?_
  refine wo_appendS (some 9) rfl rfl (by kernel_rfl) hM 0 rfl _ _ 56 rfl Tryz.underlying56 infoHand rfl (by decide) 0 0 d.hs.length i3 (by kernel_rfl) (Nat.le_refl 0) (by simp [maxLen]) rfl rfl (by kernel_rfl) (cellsH_len d.hs) (far_news hM s3 A3) (cellsR_one (fun r => hd_one' r) d.hs) (by first | exact List.length_pos_iff.2 hH | exact List.length_pos_iff.2 hD) (by (try unfold maxLen); omega) (by (try unfold maxLen); omega) ?_
  clear hM; intro ga'1 ka'2 pa'3 W5 qa'4 qb'5 qe'6 hM
  rw [Nat.zero_add] at qa'4
  replace qe'6 : (cellsH d.hs ++ pa'3).length = ka'2 * 17 := qe'6
  refine ⟨⟨hM.below, hM.blk 4 rfl⟩, ?_⟩
  go_frame
  refine wn 7 ?_
  refine wo_buildSlice (some 10) rfl rfl (by kernel_rfl) hM 113 0 [] (fun w => by kernel_rfl) ?_
  clear hM; intro g4 W6 hM
  replace hM : Mem w0 W6 ((g4, 113, (cellsD ([]) ++ [])) :: _) := hM
  refine wk ⟨hM.below, hM.blk 5 rfl⟩ fun hs => ?_
  go_frame
  refine wn 10 ?_
  refine oq (some 13) (.slice (some ⟨g4, 0, none⟩) 0 0) hs rfl (r_append0 _ _ 57 113 rfl Tryz.underlying57 infoDeal _ _ _ rfl (Nat.le_refl 0) _ _ rfl) ?_
  go_frame
  refine wt 13 (some 16) (.agg #[.slice (some ⟨m1, 0, none⟩) d.l.length k1, .slice (some ⟨m2, 0, none⟩) d.c.length k2, .slice (some ⟨ga'1, 0, none⟩) (0 + d.hs.length) ka'2, .slice (some ⟨g4, 0, none⟩) 0 0, .int .i64 d.now]) hs ?_
  go_frame
  refine wn 14 ?_
  refine oS hM 4 rfl [.slice (some ⟨m1, 0, none⟩) d.l.length k1, .slice (some ⟨m2, 0, none⟩) d.c.length k2, .slice (some ⟨ga'1, 0, none⟩) (0 + d.hs.length) ka'2, .slice (some ⟨g4, 0, none⟩) 0 0, .int .i64 d.now] I_impl_World rfl ?_
  clear hM; intro W8 hM
  refine ⟨⟨hM.below, hM.blk 5 rfl⟩, ?_⟩
  refine wJ ?_
  exact ⟨g4, ga'1, m1, m2, k1, k2, p1, p2, g3, ka'2, pa'3, rfl, hM, ⟨q1, q2, q3, q4, q5, q6⟩, ⟨qa'4, qb'5, qe'6⟩⟩
  refine wo_buildSlice (some 10) rfl rfl (by kernel_rfl) hM 113 0 [] (fun w => by kernel_rfl) ?_
  clear hM; intro g4 W5 hM
  replace hM : Mem w0 W5 ((g4, 113, (cellsD ([]) ++ [])) :: _) := hM
  refine ⟨⟨hM.below, hM.blk 5 rfl⟩, ?_⟩
  go_frame
  refine wn 6 ?_
  refine wo_appendS (some 9) rfl rfl (by kernel_rfl) hM 1 rfl _ _ 56 rfl Tryz.underlying56 infoHand rfl (by decide) 0 0 d.hs.length i3 (by kernel_rfl) (Nat.le_refl 0) (by simp [maxLen]) rfl rfl (by kernel_rfl) (cellsH_len d.hs) (far_news hM s3 A3) (cellsR_one (fun r => hd_one' r) d.hs) (by first | exact List.length_pos_iff.2 hH | exact List.length_pos_iff.2 hD) (by (try unfold maxLen); omega) (by (try unfold maxLen); omega) ?_
  clear hM; intro ga'1 ka'2 pa'3 W6 qa'4 qb'5 qe'6 hM
  rw [Nat.zero_add] at qa'4
  replace qe'6 : (cellsH d.hs ++ pa'3).length = ka'2 * 17 := qe'6
  refine wk ⟨hM.below, hM.blk 5 rfl⟩ fun hs => ?_
  go_frame
  refine wn 10 ?_
  refine oq (some 13) (.slice (some ⟨g4, 0, none⟩) 0 0) hs rfl (r_append0 _ _ 57 113 rfl Tryz.underlying57 infoDeal _ _ _ rfl (Nat.le_refl 0) _ _ rfl) ?_
  go_frame
  refine wt 13 (some 16) (.agg #[.slice (some ⟨m1, 0, none⟩) d.l.length k1, .slice (some ⟨m2, 0, none⟩) d.c.length k2, .slice (some ⟨ga'1, 0, none⟩) (0 + d.hs.length) ka'2, .slice (some ⟨g4, 0, none⟩) 0 0, .int .i64 d.now]) hs ?_
  go_frame
  refine wn 14 ?_
  refine oS hM 4 rfl [.slice (some ⟨m1, 0, none⟩) d.l.length k1, .slice (some ⟨m2, 0, none⟩) d.c.length k2, .slice (some ⟨ga'1, 0, none⟩) (0 + d.hs.length) ka'2, .slice (some ⟨g4, 0, none⟩) 0 0, .int .i64 d.now] I_impl_World rfl ?_
  clear hM; intro W8 hM
  refine ⟨⟨hM.below, hM.blk 5 rfl⟩, ?_⟩
  refine wJ ?_
  exact ⟨g4, ga'1, m1, m2, k1, k2, p1, p2, g3, ka'2, pa'3, rfl, hM, ⟨q1, q2, q3, q4, q5, q6⟩, ⟨qa'4, qb'5, qe'6⟩⟩
  refine wo_buildSlice (some 10) rfl rfl (by kernel_rfl) hM 113 0 [] (fun w => by kernel_rfl) ?_
  clear hM; intro g3 W4 hM
  replace hM : Mem w0 W4 ((g3, 113, (cellsD ([]) ++ [])) :: _) := hM
  refine ⟨⟨hM.below, hM.blk 4 rfl⟩, ?_⟩
  go_frame
  refine wn 3 ?_
  refine wo_buildSlice (some 6) rfl rfl (by kernel_rfl) hM 73 0 [] (fun w => by kernel_rfl) ?_
  clear hM; intro g4 W5 hM
  replace hM : Mem w0 W5 ((g4, 73, (cellsH ([]) ++ [])) :: _) := hM
  refine ⟨⟨hM.below, hM.blk 5 rfl⟩, ?_⟩
  go_frame
  refine wn 6 ?_
  refine wo_appendS (some 9) rfl rfl (by kernel_rfl) hM 0 rfl _ _ 56 rfl Tryz.underlying56 infoHand rfl (by decide) 0 0 d.hs.length i3 (by kernel_rfl) (Nat.le_refl 0) (by simp [maxLen]) rfl rfl (by kernel_rfl) (cellsH_len d.hs) (far_news hM s3 A3) (cellsR_one (fun r => hd_one' r) d.hs) (by first | exact List.length_pos_iff.2 hH | exact List.length_pos_iff.2 hD) (by (try unfold maxLen); omega) (by (try unfold maxLen); omega) ?_
  clear hM; intro ga'1 ka'2 pa'3 W6 qa'4 qb'5 qe'6 hM
  rw [Nat.zero_add] at qa'4
  replace qe'6 : (cellsH d.hs ++ pa'3).length = ka'2 * 17 := qe'6
  refine wk ⟨hM.below, hM.blk 5 rfl⟩ fun hs => ?_
  go_frame
  refine wn 10 ?_
  refine oq (some 13) (.slice (some ⟨g3, 0, none⟩) 0 0) hs rfl (r_append0 _ _ 57 113 rfl Tryz.underlying57 infoDeal _ _ _ rfl (Nat.le_refl 0) _ _ rfl) ?_
  go_frame
  refine wt 13 (some 16) (.agg #[.slice (some ⟨m1, 0, none⟩) d.l.length k1, .slice (some ⟨m2, 0, none⟩) d.c.length k2, .slice (some ⟨ga'1, 0, none⟩) (0 + d.hs.length) ka'2, .slice (some ⟨g3, 0, none⟩) 0 0, .int .i64 d.now]) hs ?_
  go_frame
  refine wn 14 ?_
  refine oS hM 4 rfl [.slice (some ⟨m1, 0, none⟩) d.l.length k1, .slice (some ⟨m2, 0, none⟩) d.c.length k2, .slice (some ⟨ga'1, 0, none⟩) (0 + d.hs.length) ka'2, .slice (some ⟨g3, 0, none⟩) 0 0, .int .i64 d.now] I_impl_World rfl ?_
  clear hM; intro W8 hM
  refine ⟨⟨hM.below, hM.blk 5 rfl⟩, ?_⟩
  refine wJ ?_
  replace hM := hM.pull 0 rfl
  replace hM := hM.pull 1 rfl
  exact ⟨g3, ga'1, m1, m2, k1, k2, p1, p2, g4, ka'2, pa'3, rfl, hM, ⟨q1, q2, q3, q4, q5, q6⟩, ⟨qa'4, qb'5, qe'6⟩⟩
  refine wo_buildSlice (some 6) rfl rfl (by kernel_rfl) hM 73 0 [] (fun w => by kernel_rfl) ?_
  clear hM; intro g3 W3 hM
  replace hM : Mem w0 W3 ((g3, 73, (cellsH ([]) ++ [])) :: _) := hM
  refine ⟨⟨hM.below, hM.blk 2 rfl⟩, ?_⟩
  go_frame
  refine w2 2 7 ?_ ?_
  refine oc (some 5) (spec_l7Copy (.slice a1 d.l.length i1) (.slice a2 d.c.length i2) d.l d.c _ (H1.below hM.below) (H2.below hM.below) hL hC r1 r2) ?_
  rintro e W4 ⟨m1, m2, k1, k2, p1, p2, rfl, ⟨q1, q2, q3, q4, q5, q6⟩, hMc⟩
  replace hM := hM.join hMc
  refine ⟨_, rfl, ⟨hM.below, hM.blk 4 rfl⟩, ?_⟩
  go_frame
  refine w2 6 7 ?_ ?_
  refine wo_appendS (some 9) rfl rfl (by kernel_rfl) hM 2 rfl _ _ 56 rfl Tryz.underlying56 infoHand rfl (by decide) 0 0 d.hs.length i3 (by kernel_rfl) (Nat.le_refl 0) (by simp [maxLen]) rfl rfl (by kernel_rfl) (cellsH_len d.hs) (far_news hM s3 A3) (cellsR_one (fun r => hd_one' r) d.hs) (by first | exact List.length_pos_iff.2 hH | exact List.length_pos_iff.2 hD) (by (try unfold maxLen); omega) (by (try unfold maxLen); omega) ?_
  clear hM; intro ga'1 ka'2 pa'3 W5 qa'4 qb'5 qe'6 hM
  rw [Nat.zero_add] at qa'4
  replace qe'6 : (cellsH d.hs ++ pa'3).length = ka'2 * 17 := qe'6
  refine ⟨⟨hM.below, hM.blk 4 rfl⟩, ?_⟩
  go_frame
  refine wn 7 ?_
  refine wo_buildSlice (some 10) rfl rfl (by kernel_rfl) hM 113 0 [] (fun w => by kernel_rfl) ?_
  clear hM; intro g4 W6 hM
  replace hM : Mem w0 W6 ((g4, 113, (cellsD ([]) ++ [])) :: _) := hM
  refine wk ⟨hM.below, hM.blk 5 rfl⟩ fun hs => ?_
  go_frame
  refine wn 10 ?_
  refine oq (some 13) (.slice (some ⟨g4, 0, none⟩) 0 0) hs rfl (r_append0 _ _ 57 113 rfl Tryz.underlying57 infoDeal _ _ _ rfl (Nat.le_refl 0) _ _ rfl) ?_
  go_frame
  refine wt 13 (some 16) (.agg #[.slice (some ⟨m1, 0, none⟩) d.l.length k1, .slice (some ⟨m2, 0, none⟩) d.c.length k2, .slice (some ⟨ga'1, 0, none⟩) (0 + d.hs.length) ka'2, .slice (some ⟨g4, 0, none⟩) 0 0, .int .i64 d.now]) hs ?_
  go_frame
  refine wn 14 ?_
  refine oS hM 4 rfl [.slice (some ⟨m1, 0, none⟩) d.l.length k1, .slice (some ⟨m2, 0, none⟩) d.c.length k2, .slice (some ⟨ga'1, 0, none⟩) (0 + d.hs.length) ka'2, .slice (some ⟨g4, 0, none⟩) 0 0, .int .i64 d.now] I_impl_World rfl ?_
  clear hM; intro W8 hM
  refine ⟨⟨hM.below, hM.blk 5 rfl⟩, ?_⟩
  refine wJ ?_
  replace hM := hM.pull 2 rfl
  replace hM := hM.pull 2 rfl
  replace hM := hM.pull 3 rfl
  replace hM := hM.pull 3 rfl
  exact ⟨g4, ga'1, m1, m2, k1, k2, p1, p2, g3, ka'2, pa'3, rfl, hM, ⟨q1, q2, q3, q4, q5, q6⟩, ⟨qa'4, qb'5, qe'6⟩⟩
  refine wo_buildSlice (some 10) rfl rfl (by kernel_rfl) hM 113 0 [] (fun w => by kernel_rfl) ?_
  clear hM; intro g4 W5 hM
  replace hM : Mem w0 W5 ((g4, 113, (cellsD ([]) ++ [])) :: _) := hM
  refine ⟨⟨hM.below, hM.blk 5 rfl⟩, ?_⟩
  go_frame
  refine wn 6 ?_
  refine wo_appendS (some 9) rfl rfl (by kernel_rfl) hM 3 rfl _ _ 56 rfl Tryz.underlying56 infoHand rfl (by decide) 0 0 d.hs.length i3 (by kernel_rfl) (Nat.le_refl 0) (by simp [maxLen]) rfl rfl (by kernel_rfl) (cellsH_len d.hs) (far_news hM s3 A3) (cellsR_one (fun r => hd_one' r) d.hs) (by first | exact List.length_pos_iff.2 hH | exact List.length_pos_iff.2 hD) (by (try unfold maxLen); omega) (by (try unfold maxLen); omega) ?_
  clear hM; intro ga'1 ka'2 pa'3 W6 qa'4 qb'5 qe'6 hM
  rw [Nat.zero_add] at qa'4
  replace qe'6 : (cellsH d.hs ++ pa'3).length = ka'2 * 17 := qe'6
  refine wk ⟨hM.below, hM.blk 5 rfl⟩ fun hs => ?_
  go_frame
  refine wn 10 ?_
  refine oq (some 13) (.slice (some ⟨g4, 0, none⟩) 0 0) hs rfl (r_append0 _ _ 57 113 rfl Tryz.underlying57 infoDeal _ _ _ rfl (Nat.le_refl 0) _ _ rfl) ?_
  go_frame
  refine wt 13 (some 16) (.agg #[.slice (some ⟨m1, 0, none⟩) d.l.length k1, .slice (some ⟨m2, 0, none⟩) d.c.length k2, .slice (some ⟨ga'1, 0, none⟩) (0 + d.hs.length) ka'2, .slice (some ⟨g4, 0, none⟩) 0 0, .int .i64 d.now]) hs ?_
  go_frame
  refine wn 14 ?_
  refine oS hM 4 rfl [.slice (some ⟨m1, 0, none⟩) d.l.length k1, .slice (some ⟨m2, 0, none⟩) d.c.length k2, .slice (some ⟨ga'1, 0, none⟩) (0 + d.hs.length) ka'2, .slice (some ⟨g4, 0, none⟩) 0 0, .int .i64 d.now] I_impl_World rfl ?_
  clear hM; intro W8 hM
  refine ⟨⟨hM.below, hM.blk 5 rfl⟩, ?_⟩
  refine wJ ?_
  replace hM := hM.pull 2 rfl
  replace hM := hM.pull 2 rfl
  replace hM := hM.pull 3 rfl
  replace hM := hM.pull 3 rfl
  exact ⟨g4, ga'1, m1, m2, k1, k2, p1, p2, g3, ka'2, pa'3, rfl, hM, ⟨q1, q2, q3, q4, q5, q6⟩, ⟨qa'4, qb'5, qe'6⟩⟩
  refine wo_buildSlice (some 10) rfl rfl (by kernel_rfl) hM 113 0 [] (fun w => by kernel_rfl) ?_
  clear hM; intro g4 W4 hM
  replace hM : Mem w0 W4 ((g4, 113, (cellsD ([]) ++ [])) :: _) := hM
  refine ⟨⟨hM.below, hM.blk 3 rfl⟩, ?_⟩
  go_frame
  refine wn 2 ?_
  refine oc (some 5) (spec_l7Copy (.slice a1 d.l.length i1) (.slice a2 d.c.length i2) d.l d.c _ (H1.below hM.below) (H2.below hM.below) hL hC r1 r2) ?_
  rintro e W5 ⟨m1, m2, k1, k2, p1, p2, rfl, ⟨q1, q2, q3, q4, q5, q6⟩, hMc⟩
  replace hM := hM.join hMc
  refine ⟨_, rfl, ⟨hM.below, hM.blk 5 rfl⟩, ?_⟩
  go_frame
  refine wn 6 ?_
  refine wo_appendS (some 9) rfl rfl (by kernel_rfl) hM 3 rfl _ _ 56 rfl Tryz.underlying56 infoHand rfl (by decide) 0 0 d.hs.length i3 (by kernel_rfl) (Nat.le_refl 0) (by simp [maxLen]) rfl rfl (by kernel_rfl) (cellsH_len d.hs) (far_news hM s3 A3) (cellsR_one (fun r => hd_one' r) d.hs) (by first | exact List.length_pos_iff.2 hH | exact List.length_pos_iff.2 hD) (by (try unfold maxLen); omega) (by (try unfold maxLen); omega) ?_
  clear hM; intro ga'1 ka'2 pa'3 W6 qa'4 qb'5 qe'6 hM
  rw [Nat.zero_add] at qa'4
  replace qe'6 : (cellsH d.hs ++ pa'3).length = ka'2 * 17 := qe'6
  refine wk ⟨hM.below, hM.blk 5 rfl⟩ fun hs => ?_
  go_frame
  refine wn 10 ?_
  refine oq (some 13) (.slice (some ⟨g4, 0, none⟩) 0 0) hs rfl (r_append0 _ _ 57 113 rfl Tryz.underlying57 infoDeal _ _ _ rfl (Nat.le_refl 0) _ _ rfl) ?_
  go_frame
  refine wt 13 (some 16) (.agg #[.slice (some ⟨m1, 0, none⟩) d.l.length k1, .slice (some ⟨m2, 0, none⟩) d.c.length k2, .slice (some ⟨ga'1, 0, none⟩) (0 + d.hs.length) ka'2, .slice (some ⟨g4, 0, none⟩) 0 0, .int .i64 d.now]) hs ?_
  go_frame
  refine wn 14 ?_
  refine oS hM 4 rfl [.slice (some ⟨m1, 0, none⟩) d.l.length k1, .slice (some ⟨m2, 0, none⟩) d.c.length k2, .slice (some ⟨ga'1, 0, none⟩) (0 + d.hs.length) ka'2, .slice (some ⟨g4, 0, none⟩) 0 0, .int .i64 d.now] I_impl_World rfl ?_
  clear hM; intro W8 hM
  refine ⟨⟨hM.below, hM.blk 5 rfl⟩, ?_⟩
  refine wJ ?_
  replace hM := hM.pull 1 rfl
  replace hM := hM.pull 1 rfl
  replace hM := hM.pull 3 rfl
  replace hM := hM.pull 3 rfl
  exact ⟨g4, ga'1, m1, m2, k1, k2, p1, p2, g3, ka'2, pa'3, rfl, hM, ⟨q1, q2, q3, q4, q5, q6⟩, ⟨qa'4, qb'5, qe'6⟩⟩
  refine wo_buildSlice (some 10) rfl rfl (by kernel_rfl) hM 113 0 [] (fun w => by kernel_rfl) ?_
  clear hM; intro g3 W3 hM
  replace hM : Mem w0 W3 ((g3, 113, (cellsD ([]) ++ [])) :: _) := hM
  refine ⟨⟨hM.below, hM.blk 2 rfl⟩, ?_⟩
  go_frame
  refine w2 2 3 ?_ ?_
  refine oc (some 5) (spec_l7Copy (.slice a1 d.l.length i1) (.slice a2 d.c.length i2) d.l d.c _ (H1.below hM.below) (H2.below hM.below) hL hC r1 r2) ?_
  rintro e W4 ⟨m1, m2, k1, k2, p1, p2, rfl, ⟨q1, q2, q3, q4, q5, q6⟩, hMc⟩
  replace hM := hM.join hMc
  refine ⟨_, rfl, ⟨hM.below, hM.blk 4 rfl⟩, ?_⟩
  go_frame
  refine wn 3 ?_
  refine wo_buildSlice (some 6) rfl rfl (by kernel_rfl) hM 73 0 [] (fun w => by kernel_rfl) ?_
  clear hM; intro g4 W5 hM
  replace hM : Mem w0 W5 ((g4, 73, (cellsH ([]) ++ [])) :: _) := hM
  refine ⟨⟨hM.below, hM.blk 5 rfl⟩, ?_⟩
  go_frame
  refine wn 6 ?_
  refine wo_appendS (some 9) rfl rfl (by kernel_rfl) hM 0 rfl _ _ 56 rfl Tryz.underlying56 infoHand rfl (by decide) 0 0 d.hs.length i3 (by kernel_rfl) (Nat.le_refl 0) (by simp [maxLen]) rfl rfl (by kernel_rfl) (cellsH_len d.hs) (far_news hM s3 A3) (cellsR_one (fun r => hd_one' r) d.hs) (by first | exact List.length_pos_iff.2 hH | exact List.length_pos_iff.2 hD) (by (try unfold maxLen); omega) (by (try unfold maxLen); omega) ?_
  clear hM; intro ga'1 ka'2 pa'3 W6 qa'4 qb'5 qe'6 hM
  rw [Nat.zero_add] at qa'4
  replace qe'6 : (cellsH d.hs ++ pa'3).length = ka'2 * 17 := qe'6
  refine wk ⟨hM.below, hM.blk 5 rfl⟩ fun hs => ?_
  go_frame
  refine wn 10 ?_
  refine oq (some 13) (.slice (some ⟨g3, 0, none⟩) 0 0) hs rfl (r_append0 _ _ 57 113 rfl Tryz.underlying57 infoDeal _ _ _ rfl (Nat.le_refl 0) _ _ rfl) ?_
  go_frame
  refine wt 13 (some 16) (.agg #[.slice (some ⟨m1, 0, none⟩) d.l.length k1, .slice (some ⟨m2, 0, none⟩) d.c.length k2, .slice (some ⟨ga'1, 0, none⟩) (0 + d.hs.length) ka'2, .slice (some ⟨g3, 0, none⟩) 0 0, .int .i64 d.now]) hs ?_
  go_frame
  refine wn 14 ?_
  refine oS hM 4 rfl [.slice (some ⟨m1, 0, none⟩) d.l.length k1, .slice (some ⟨m2, 0, none⟩) d.c.length k2, .slice (some ⟨ga'1, 0, none⟩) (0 + d.hs.length) ka'2, .slice (some ⟨g3, 0, none⟩) 0 0, .int .i64 d.now] I_impl_World rfl ?_
  clear hM; intro W8 hM
  refine ⟨⟨hM.below, hM.blk 5 rfl⟩, ?_⟩
  refine wJ ?_
  replace hM := hM.pull 2 rfl
  replace hM := hM.pull 2 rfl
  replace hM := hM.pull 2 rfl
  replace hM := hM.pull 3 rfl
  exact ⟨g3, ga'1, m1, m2, k1, k2, p1, p2, g4, ka'2, pa'3, rfl, hM, ⟨q1, q2, q3, q4, q5, q6⟩, ⟨qa'4, qb'5, qe'6⟩⟩
  refine wo_buildSlice (some 6) rfl rfl (by kernel_rfl) hM 73 0 [] (fun w => by kernel_rfl) ?_
  clear hM; intro g4 W4 hM
  replace hM : Mem w0 W4 ((g4, 73, (cellsH ([]) ++ [])) :: _) := hM
  refine ⟨⟨hM.below, hM.blk 3 rfl⟩, ?_⟩
  go_frame
  refine wn 2 ?_
  refine oc (some 5) (spec_l7Copy (.slice a1 d.l.length i1) (.slice a2 d.c.length i2) d.l d.c _ (H1.below hM.below) (H2.below hM.below) hL hC r1 r2) ?_
  rintro e W5 ⟨m1, m2, k1, k2, p1, p2, rfl, ⟨q1, q2, q3, q4, q5, q6⟩, hMc⟩
  replace hM := hM.join hMc
  refine ⟨_, rfl, ⟨hM.below, hM.blk 5 rfl⟩, ?_⟩
  go_frame
  refine wn 6 ?_
  refine wo_appendS (some 9) rfl rfl (by kernel_rfl) hM 2 rfl _ _ 56 rfl Tryz.underlying56 infoHand rfl (by decide) 0 0 d.hs.length i3 (by kernel_rfl) (Nat.le_refl 0) (by simp [maxLen]) rfl rfl (by kernel_rfl) (cellsH_len d.hs) (far_news hM s3 A3) (cellsR_one (fun r => hd_one' r) d.hs) (by first | exact List.length_pos_iff.2 hH | exact List.length_pos_iff.2 hD) (by (try unfold maxLen); omega) (by (try unfold maxLen); omega) ?_
  clear hM; intro ga'1 ka'2 pa'3 W6 qa'4 qb'5 qe'6 hM
  rw [Nat.zero_add] at qa'4
  replace qe'6 : (cellsH d.hs ++ pa'3).length = ka'2 * 17 := qe'6
  refine wk ⟨hM.below, hM.blk 5 rfl⟩ fun hs => ?_
  go_frame
  refine wn 10 ?_
  refine oq (some 13) (.slice (some ⟨g3, 0, none⟩) 0 0) hs rfl (r_append0 _ _ 57 113 rfl Tryz.underlying57 infoDeal _ _ _ rfl (Nat.le_refl 0) _ _ rfl) ?_
  go_frame
  refine wt 13 (some 16) (.agg #[.slice (some ⟨m1, 0, none⟩) d.l.length k1, .slice (some ⟨m2, 0, none⟩) d.c.length k2, .slice (some ⟨ga'1, 0, none⟩) (0 + d.hs.length) ka'2, .slice (some ⟨g3, 0, none⟩) 0 0, .int .i64 d.now]) hs ?_
  go_frame
  refine wn 14 ?_
  refine oS hM 4 rfl [.slice (some ⟨m1, 0, none⟩) d.l.length k1, .slice (some ⟨m2, 0, none⟩) d.c.length k2, .slice (some ⟨ga'1, 0, none⟩) (0 + d.hs.length) ka'2, .slice (some ⟨g3, 0, none⟩) 0 0, .int .i64 d.now] I_impl_World rfl ?_
  clear hM; intro W8 hM
  refine ⟨⟨hM.below, hM.blk 5 rfl⟩, ?_⟩
  refine wJ ?_
  replace hM := hM.pull 1 rfl
  replace hM := hM.pull 1 rfl
  replace hM := hM.pull 2 rfl
  replace hM := hM.pull 3 rfl
  exact ⟨g3, ga'1, m1, m2, k1, k2, p1, p2, g4, ka'2, pa'3, rfl, hM, ⟨q1, q2, q3, q4, q5, q6⟩, ⟨qa'4, qb'5, qe'6⟩⟩
theorem spec_l13Copy (u x y z : Value) (d : WD) (w0 : World) (hw : SlW w0 u x y z d) (hr : Room d) (hL : d.l ≠ []) (hC : d.c ≠ []) (hH : d.hs ≠ []) :
    Calls Tryz.prog 67 #[.agg #[u, x, y, z, .int .i64 d.now]] w0 (CopiedW d w0) := by
  by_cases hD : d.ds = []
  · exact spec_l13Copy2 u x y z d w0 hw hr hL hC hH hD
  · exact spec_l13Copy1 u x y z d w0 hw hr hL hC hH hD
end Go.Proofs.YtbfndoajchibbaaGreat
