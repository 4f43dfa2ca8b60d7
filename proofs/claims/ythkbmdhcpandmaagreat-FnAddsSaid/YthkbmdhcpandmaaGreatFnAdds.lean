/- FnAdds: whatever the arguments are, the law answers true and leaves them as they were. No condition. -/
import Derived.Test.YthkbmdhcpandmaaGreatShort
import Derived.Test.YthkbmdhcpandmaaGreatShort2
import Derived.Test.YthkbmdhcpandmaaGreatKinds
import Derived.Test.YthkbmdhcpandmaaGreatDrawSteps
import Derived.Test.YthkbmdhcpandmaaGreatAddImpl3
namespace Go.Proofs.YthkbmdhcpandmaaGreat.fnAdds
open Go.ChangeShapes Go.WideShapes Go.ChangeAt Go.RowKit
set_option linter.unusedVariables false
set_option maxRecDepth 100000
set_option maxHeartbeats 16000000
set_option linter.unusedSimpArgs false

theorem hold_kinds {l : List ND} {c : List Int} {task : Int} {h : HD} {a t : Int} (h0 : 0 < l.length ∧ 0 < c.length ∧ c.length ≤ 6) : Kinds l c h (faceR l c h (holdT l task h a t)) := by
  unfold holdT
  split
  · rename_i hk
    refine done_kinds h0 ?_;unfold lockB at hk ⊢
    split at hk
    · rename_i h3
      rw [if_pos h3]
      split at hk
      · rename_i h4
        rw [if_pos h4]
        show OneN l (giveO l a (task + 1))
        unfold giveO
        split
        · exact .inr (.inl ⟨_, _, rfl⟩)
        · exact .inl rfl
      · simp at hk
    · simp at hk
  · exact .inr (.inl ⟨rfl, h0.1, h0.2.1⟩)
theorem gives0 {l : List ND} {c : List Int} {h : HD} : Kinds l c h (faceR l c h (.gives 0)) := .inr (.inr rfl)
theorem can_lens {l : List ND} {c : List Int} {task : Int} {h : HD} (hok : canB l c task h = true) : 0 < l.length ∧ 0 < c.length ∧ c.length ≤ 6 := by
  have hk := can_ok hok;obtain ⟨-, -, h1, h2, -⟩ := ok_facts hk;simp only [l7okB, Bool.and_eq_true, sharedB] at hk;exact ⟨h1, h2, (countsB_some hk.1.1.1.1.2).2.1⟩
theorem add_kinds (l : List ND) (c : List Int) (task : Int) (h : HD) : Kinds l c h (addR l c task h) := by
  by_cases hat : 5 ≤ h.at_ ∧ h.at_ ≤ 8
  · rw [addR_can hat]
    rcases tf (canB l c task h) with hok | hok
    · rw [hok]
      have h0 := can_lens hok
      show Kinds l c h (faceR l c h (addT l task h))
      unfold addT
      split
      · unfold lockT
        split
        · exact hold_kinds h0
        · split
          · exact hold_kinds h0
          · exact gives0
      · split
        · unfold checkT
          repeat' split
          · exact gives0
          · exact done_kinds h0 (.inl rfl)
          · exact done_kinds h0 (.inl rfl)
        · split
          · unfold makeT
            split
            · exact gives0
            · refine done_kinds h0 ?_
              unfold makeR
              split
              · exact .inl rfl
              · exact .inr (.inr ⟨_, rfl⟩)
          · unfold hangT
            split
            · exact gives0
            · exact done_kinds h0 (.inr (.inl ⟨_, _, rfl⟩))
    · rw [hok]
      exact .inr (.inr rfl)
  · exact .inr (.inr (addR_out hat))

theorem big_slice (a : Option Addr) (n c : Nat) (w0 : World) :
    Calls Tryz.prog 5 #[.slice a n c] w0 fun e w' => e = .returned (.bool (decide ((n : Int) > 4096))) ∧ Below w0.heap.size w0 w' := by
  have hM := Mem.start w0
  go_enter Tryz.func5, Tryz.ntmps5
  refine sr fun _ cn1 => ?_;refine np (.bool false) ?_;go_frame;refine wz cn1 ?_;clear cn1;refine sr fun _ cn2 => ?_;refine np (.slice a n c) <| np (.int .i64 (n : Int)) <| np (.bool (decide ((n : Int) > 4096))) <| np (.bool (decide ((n : Int) > 4096))) ?_;go_frame;refine wz cn2 ?_;clear cn2;refine wp_ret ?_;exact bt ⟨rfl, hM.below⟩

theorem walk1 (va : Option Addr) (vc : Nat) (lb : List Int) (w0 : World) (hbt : Bts w0.heap.size w0 (.slice va lb.length vc) lb) (hl4 : lb.length ≤ 4096) :
    Calls Tryz.prog 4 #[(.slice va lb.length vc)] w0 fun e w' => e = .returned (.bool true) ∧ Below w0.heap.size w0 w' := by
  have hbg : decide ((lb.length : Int) > 4096) = false := by simp; omega
  have hM := Mem.start w0
  go_enter Tryz.func4, Tryz.ntmps4
  refine sr fun _ cn1 => ?_;refine np (.bool false) ?_;go_frame;refine wz cn1 ?_;clear cn1;refine wp_seq_k fun Kn2 cn2 => ?_;refine sr fun _ cn3 => ?_;refine np (.slice va lb.length vc) ?_;refine nc (big_slice va lb.length vc _) ?_;rintro e W1 ⟨rfl, hb⟩;refine ⟨.bool false, rb hbg, ?_⟩;replace hM := hM.call hb;go_frame;refine wz cn3 ?_;clear cn3;refine wp_cond_false rfl ?_;refine wp_skip ?_;refine cn2 _ _ ?_;clear cn2;refine sr fun _ cn4 => ?_;refine np (.slice va lb.length vc) ?_;refine nc (spec_DrawAddStep va vc lb _ (bts_after hbt hM.below) hl4) ?_;rintro e W2 ⟨l, c, task, h, u, x, E, rfl, hU, hX, hl, hc, hM2⟩;replace hM := hM.join hM2; clear hM2;obtain ⟨a1, i1, rfl⟩ := hU.slice;obtain ⟨a2, i2, rfl⟩ := hX.slice;have hS := fun (w : World) (u x : Value) (h1 : NSl w u l) (h2 : SlI w x c) => spec_AddStep u x l c task h w h1 h2 hl hc;have hI := fun (w : World) (ua : Option Addr) (uc : Nat) (xa : Option Addr) (xc : Nat) (h1 : NSl w (.slice ua l.length uc) l) (h2 : SlI w (.slice xa c.length xc) c) => impl_AddStep ua uc xa xc l c task h w h1 h2 hl hc;unfold HD.val at hS hI;refine ⟨_, rfl, ?_⟩;go_frame;refine np (.tuple #[.agg #[.slice a1 l.length i1, .slice a2 c.length i2], .int .i64 task, .agg (HD.cells h).toArray]) <| np (.agg #[.slice a1 l.length i1, .slice a2 c.length i2]) <| np (.int .i64 task) <| np (.agg (HD.cells h).toArray) ?_;refine na hM [.slice none 0 0, .slice none 0 0] Z_impl_Shared ?_;clear hM;intro g1 W3 hM;refine na hM (HD.cells HD.zero) Z_impl_Hand ?_;clear hM;intro g2 W4 hM;refine nS hM 1 rfl [.slice a1 l.length i1, .slice a2 c.length i2] I_impl_Shared rfl ?_;clear hM;intro W5 hM;refine np (.int .i64 task) ?_;refine nS hM 0 rfl (HD.cells h) I_impl_Hand (hd_one' _) ?_;clear hM;intro W6 hM;refine wz cn4 ?_;clear cn4;rcases add_kinds l c task h with ⟨lo, co, ho, e, hsh, hhd, ⟨hl0, hc0, hc6⟩, ⟨hle, hlo30⟩, hcd, ht1⟩ | ⟨e, hl0, hc0⟩ | e;rw [e] at hS hI;have hlo : 0 < lo.length := by omega
  have hco : 0 < co.length := by omega
  have hT : decide (touchN l lo c co ≤ 1) = true := by simpa using ht1
  refine sr fun _ cn5 => ?_;refine nl hM 1 rfl Tryz.underlying27 I_impl_Shared <| np (.int .i64 task) <| nl hM 0 rfl Tryz.underlying31 I_impl_Hand ?_;refine nc (hI _ a1 i1 a2 i2 (hU.sl (fun b hb => hM.mem (List.mem_append_right [_, _] (List.mem_append_left _ (List.mem_append_left _ hb))))) (hX.sl (fun b hb => hM.mem (List.mem_append_right [_, _] (List.mem_append_left _ (List.mem_append_left _ hb)))))) ?_;rintro e W7 ⟨u', x', rfl, hO1, hO2, hb⟩;obtain ⟨v'1, j'1, r'1, rfl, s'1_1, s'1_2, s'1_3, s'1_4, -⟩ := ownr_blk hO1 hlo;obtain ⟨y'1, i'1, e'1, rfl, s'1_5, s'1_6, s'1_7, s'1_8, -⟩ := ownr_blk hO2 hco;replace hM := hM.join (Mem.two hb s'1_4 s'1_8 s'1_3 s'1_7 ne_types);clear hO1 hO2 s'1_3 s'1_4 s'1_7 s'1_8;refine ⟨_, rfl, ?_⟩;go_frame;refine np (.tuple #[.agg #[sa v'1 lo.length j'1, sa y'1 co.length i'1], .agg (HD.cells ho).toArray, .bool true]) <| np (.agg #[sa v'1 lo.length j'1, sa y'1 co.length i'1]) <| np (.agg (HD.cells ho).toArray) <| np (.bool true) ?_;refine na hM [.slice none 0 0, .slice none 0 0] Z_impl_Shared ?_;clear hM;intro g3 W8 hM;refine na hM (HD.cells HD.zero) Z_impl_Hand ?_;clear hM;intro g4 W9 hM;refine nS hM 1 rfl [sa v'1 lo.length j'1, sa y'1 co.length i'1] I_impl_Shared rfl ?_;clear hM;intro W10 hM;refine nS hM 0 rfl (HD.cells ho) I_impl_Hand (hd_one' _) ?_;clear hM;intro W11 hM;refine np (.bool true) ?_;go_frame;refine wz cn5 ?_;clear cn5;refine sr fun _ cn6 => ?_;refine nl hM 5 rfl Tryz.underlying27 I_impl_Shared <| np (.int .i64 task) <| nl hM 4 rfl Tryz.underlying31 I_impl_Hand ?_;refine nc (hS _ (.slice a1 l.length i1) (.slice a2 c.length i2) (hU.sl (fun b hb => hM.mem (List.mem_append_right [_, _, _, _, _, _] (List.mem_append_left _ (List.mem_append_left _ hb))))) (hX.sl (fun b hb => hM.mem (List.mem_append_right [_, _, _, _, _, _] (List.mem_append_left _ (List.mem_append_left _ hb)))))) ?_;rintro e W12 ⟨u', x', rfl, hO1, hO2, hb⟩;obtain ⟨v'2, j'2, r'2, rfl, s'2_1, s'2_2, s'2_3, s'2_4, -⟩ := ownr_blk hO1 hlo;obtain ⟨y'2, i'2, e'2, rfl, s'2_5, s'2_6, s'2_7, s'2_8, -⟩ := ownr_blk hO2 hco;replace hM := hM.join (Mem.two hb s'2_4 s'2_8 s'2_3 s'2_7 ne_types);clear hO1 hO2 s'2_3 s'2_4 s'2_7 s'2_8;refine ⟨_, rfl, ?_⟩;go_frame;refine np (.tuple #[.agg #[sa v'2 lo.length j'2, sa y'2 co.length i'2], .agg (HD.cells ho).toArray, .bool true]) <| np (.agg #[sa v'2 lo.length j'2, sa y'2 co.length i'2]) <| np (.agg (HD.cells ho).toArray) <| np (.bool true) ?_;refine na hM [.slice none 0 0, .slice none 0 0] Z_impl_Shared ?_;clear hM;intro g5 W13 hM;refine na hM (HD.cells HD.zero) Z_impl_Hand ?_;clear hM;intro g6 W14 hM;refine nS hM 1 rfl [sa v'2 lo.length j'2, sa y'2 co.length i'2] I_impl_Shared rfl ?_;clear hM;intro W15 hM;refine nS hM 0 rfl (HD.cells ho) I_impl_Hand (hd_one' _) ?_;clear hM;intro W16 hM;refine np (.bool true) ?_;go_frame;refine wz cn6 ?_;clear cn6;refine wp_seq_k fun Kn7 cn7 => ?_;refine sr fun _ cn8 => ?_;refine np (.bool true) <| np (.bool true) <| np (.bool false) <| np (.bool false) <| nl hM 5 rfl Tryz.underlying27 I_impl_Shared <| nl hM 1 rfl Tryz.underlying27 I_impl_Shared ?_;refine nc (likeShared_same (sa v'1 lo.length j'1) (sa y'1 co.length i'1) (sa v'2 lo.length j'2) (sa y'2 co.length i'2) lo co _ (nsl_blk (hM.blk 6 rfl) s'1_1 s'1_2) (nsl_blk (hM.blk 2 rfl) s'2_1 s'2_2) (sli_blk (hM.blk 7 rfl) s'1_5 s'1_6) (sli_blk (hM.blk 3 rfl) s'2_5 s'2_6) (by first | omega | (show 0 ≤ 1048576; omega))) ?_;rintro e W17 ⟨rfl, hb⟩;refine ⟨_, rfl, ?_⟩;replace hM := hM.call hb;go_frame;refine np (.bool false) <| np (.bool false) <| np (.bool false) <| nl hM 4 rfl Tryz.underlying31 I_impl_Hand <| nl hM 0 rfl Tryz.underlying31 I_impl_Hand ?_;go_frame;refine wl_pureB (by kernel_rfl) (b := (!(hdEq ho ho))) (hd_neq ho ho rfl rfl rfl) ((congrArg Bool.not (hdEq_self _))) ?_;go_frame;refine np (.bool false) ?_;go_frame;refine wz cn8 ?_;clear cn8;refine wp_cond_false rfl ?_;refine wp_skip ?_;refine cn7 _ _ ?_;clear cn7;refine wp_seq_k fun Kn9 cn9 => ?_;refine sr fun _ cn10 => ?_;refine np (.bool true) <| np (.bool false) ?_
  go_frame;refine wz cn10 ?_;clear cn10;refine wp_cond_false rfl ?_;refine wp_skip ?_;refine cn9 _ _ ?_;clear cn9;refine sr fun _ cn11 => ?_;refine nl hM 5 rfl Tryz.underlying27 I_impl_Shared ?_;refine nc (impl_SharedOk (sa v'1 lo.length j'1) (sa y'1 co.length i'1) lo co _ (nsl_blk (hM.blk 6 rfl) s'1_1 s'1_2) (sli_blk (hM.blk 7 rfl) s'1_5 s'1_6) (by omega) (by omega)) ?_;rintro e W18 ⟨rfl, hb⟩;refine ⟨.bool true, rb hsh, ?_⟩;replace hM := hM.call hb;go_frame;refine np (.bool true) <| nl hM 9 rfl Tryz.underlying27 I_impl_Shared <| nl hM 5 rfl Tryz.underlying27 I_impl_Shared ?_;refine nc (touched_says (.slice a1 l.length i1) (.slice a2 c.length i2) (sa v'1 lo.length j'1) (sa y'1 co.length i'1) l lo c co _ (hU.sl (fun b hb => hM.mem (List.mem_append_right [_, _, _, _, _, _, _, _, _, _] (List.mem_append_left _ (List.mem_append_left _ hb))))) (nsl_blk (hM.blk 6 rfl) s'1_1 s'1_2) (hX.sl (fun b hb => hM.mem (List.mem_append_right [_, _, _, _, _, _, _, _, _, _] (List.mem_append_left _ (List.mem_append_left _ hb))))) (sli_blk (hM.blk 7 rfl) s'1_5 s'1_6) hl0 hc0 (by omega) (by omega) hle hcd) ?_;rintro e W19 ⟨rfl, hb⟩;refine ⟨_, rfl, ?_⟩;replace hM := hM.call hb;go_frame;refine nB (hT) <| np (.bool true) <| np (.bool true) ?_;go_frame;refine wz cn11 ?_;clear cn11;refine wp_ret ?_;exact bt ⟨rfl, hM.below⟩;rw [e] at hS hI;have hlo := hl0;have hco := hc0;have hZ : ((l.length : Int) == 0) = false := beq_eq_false_iff_ne.2 (by omega);refine sr fun _ cn5 => ?_;refine nl hM 1 rfl Tryz.underlying27 I_impl_Shared <| np (.int .i64 task) <| nl hM 0 rfl Tryz.underlying31 I_impl_Hand ?_;refine nc (hI _ a1 i1 a2 i2 (hU.sl (fun b hb => hM.mem (List.mem_append_right [_, _] (List.mem_append_left _ (List.mem_append_left _ hb))))) (hX.sl (fun b hb => hM.mem (List.mem_append_right [_, _] (List.mem_append_left _ (List.mem_append_left _ hb)))))) ?_;rintro e W7 ⟨u', x', rfl, hO1, hO2, hb⟩;obtain ⟨v'1, j'1, r'1, rfl, s'1_1, s'1_2, s'1_3, s'1_4, -⟩ := ownr_blk hO1 hlo;obtain ⟨y'1, i'1, e'1, rfl, s'1_5, s'1_6, s'1_7, s'1_8, -⟩ := ownr_blk hO2 hco;replace hM := hM.join (Mem.two hb s'1_4 s'1_8 s'1_3 s'1_7 ne_types);clear hO1 hO2 s'1_3 s'1_4 s'1_7 s'1_8;refine ⟨_, rfl, ?_⟩;go_frame;refine np (.tuple #[.agg #[sa v'1 l.length j'1, sa y'1 c.length i'1], .agg (HD.cells h).toArray, .bool false]) <| np (.agg #[sa v'1 l.length j'1, sa y'1 c.length i'1]) <| np (.agg (HD.cells h).toArray) <| np (.bool false) ?_;refine na hM [.slice none 0 0, .slice none 0 0] Z_impl_Shared ?_;clear hM;intro g3 W8 hM;refine na hM (HD.cells HD.zero) Z_impl_Hand ?_;clear hM;intro g4 W9 hM;refine nS hM 1 rfl [sa v'1 l.length j'1, sa y'1 c.length i'1] I_impl_Shared rfl ?_;clear hM;intro W10 hM;refine nS hM 0 rfl (HD.cells h) I_impl_Hand (hd_one' _) ?_;clear hM;intro W11 hM;refine np (.bool false) ?_;go_frame;refine wz cn5 ?_;clear cn5;refine sr fun _ cn6 => ?_;refine nl hM 5 rfl Tryz.underlying27 I_impl_Shared <| np (.int .i64 task) <| nl hM 4 rfl Tryz.underlying31 I_impl_Hand ?_;refine nc (hS _ (.slice a1 l.length i1) (.slice a2 c.length i2) (hU.sl (fun b hb => hM.mem (List.mem_append_right [_, _, _, _, _, _] (List.mem_append_left _ (List.mem_append_left _ hb))))) (hX.sl (fun b hb => hM.mem (List.mem_append_right [_, _, _, _, _, _] (List.mem_append_left _ (List.mem_append_left _ hb)))))) ?_;rintro e W12 ⟨u', x', rfl, hO1, hO2, hb⟩;obtain ⟨v'2, j'2, r'2, rfl, s'2_1, s'2_2, s'2_3, s'2_4, -⟩ := ownr_blk hO1 hlo;obtain ⟨y'2, i'2, e'2, rfl, s'2_5, s'2_6, s'2_7, s'2_8, -⟩ := ownr_blk hO2 hco;replace hM := hM.join (Mem.two hb s'2_4 s'2_8 s'2_3 s'2_7 ne_types);clear hO1 hO2 s'2_3 s'2_4 s'2_7 s'2_8;refine ⟨_, rfl, ?_⟩;go_frame;refine np (.tuple #[.agg #[sa v'2 l.length j'2, sa y'2 c.length i'2], .agg (HD.cells h).toArray, .bool false]) <| np (.agg #[sa v'2 l.length j'2, sa y'2 c.length i'2]) <| np (.agg (HD.cells h).toArray) <| np (.bool false) ?_;refine na hM [.slice none 0 0, .slice none 0 0] Z_impl_Shared ?_;clear hM;intro g5 W13 hM;refine na hM (HD.cells HD.zero) Z_impl_Hand ?_;clear hM;intro g6 W14 hM
  refine nS hM 1 rfl [sa v'2 l.length j'2, sa y'2 c.length i'2] I_impl_Shared rfl ?_;clear hM;intro W15 hM;refine nS hM 0 rfl (HD.cells h) I_impl_Hand (hd_one' _) ?_;clear hM;intro W16 hM;refine np (.bool false) ?_;go_frame;refine wz cn6 ?_;clear cn6;refine wp_seq_k fun Kn7 cn7 => ?_;refine sr fun _ cn8 => ?_;refine np (.bool false) <| np (.bool false) <| np (.bool false) <| np (.bool false) <| nl hM 5 rfl Tryz.underlying27 I_impl_Shared <| nl hM 1 rfl Tryz.underlying27 I_impl_Shared ?_;refine nc (likeShared_same (sa v'1 l.length j'1) (sa y'1 c.length i'1) (sa v'2 l.length j'2) (sa y'2 c.length i'2) l c _ (nsl_blk (hM.blk 6 rfl) s'1_1 s'1_2) (nsl_blk (hM.blk 2 rfl) s'2_1 s'2_2) (sli_blk (hM.blk 7 rfl) s'1_5 s'1_6) (sli_blk (hM.blk 3 rfl) s'2_5 s'2_6) (by first | omega | (show 0 ≤ 1048576; omega))) ?_;rintro e W17 ⟨rfl, hb⟩;refine ⟨_, rfl, ?_⟩;replace hM := hM.call hb;go_frame;refine np (.bool false) <| np (.bool false) <| np (.bool false) <| nl hM 4 rfl Tryz.underlying31 I_impl_Hand <| nl hM 0 rfl Tryz.underlying31 I_impl_Hand ?_;go_frame;refine wl_pureB (by kernel_rfl) (b := (!(hdEq h h))) (hd_neq h h rfl rfl rfl) ((congrArg Bool.not (hdEq_self _))) ?_;go_frame;refine np (.bool false) ?_;go_frame;refine wz cn8 ?_;clear cn8;refine wp_cond_false rfl ?_;refine wp_skip ?_;refine cn7 _ _ ?_;clear cn7;refine wp_seq_k fun Kn9 cn9 => ?_;refine sr fun _ cn10 => ?_;refine np (.bool false) <| np (.bool true) ?_;go_frame;refine wz cn10 ?_;clear cn10;refine wp_cond_true rfl ?_;refine sr fun _ cn11 => ?_;refine np (pt g3 0) <| ng hM 5 rfl 0 Tryz.underlying24 rfl <| np (.int .i64 (l.length : Int)) <| nB (hZ) <| np (.bool false) <| nl hM 5 rfl Tryz.underlying27 I_impl_Shared ?_;refine nl hM 9 rfl Tryz.underlying27 I_impl_Shared ?_;refine nc (likeShared_same (sa v'1 l.length j'1) (sa y'1 c.length i'1) (.slice a1 l.length i1) (.slice a2 c.length i2) l c _ (nsl_blk (hM.blk 6 rfl) s'1_1 s'1_2) (hU.sl (fun b hb => hM.mem (List.mem_append_right [_, _, _, _, _, _, _, _, _, _] (List.mem_append_left _ (List.mem_append_left _ hb))))) (sli_blk (hM.blk 7 rfl) s'1_5 s'1_6) (hX.sl (fun b hb => hM.mem (List.mem_append_right [_, _, _, _, _, _, _, _, _, _] (List.mem_append_left _ (List.mem_append_left _ hb))))) (by first | omega | (show 0 ≤ 1048576; omega))) ?_;rintro e W18 ⟨rfl, hb⟩;refine ⟨_, rfl, ?_⟩;replace hM := hM.call hb;go_frame;refine np (.bool true) <| nl hM 4 rfl Tryz.underlying31 I_impl_Hand <| nl hM 8 rfl Tryz.underlying31 I_impl_Hand ?_;go_frame;refine wl_pureB (by kernel_rfl) (b := (hdEq h h)) (hd_eql h h rfl rfl rfl) ((hdEq_self _)) ?_;go_frame;refine np (.bool true) <| np (.bool true) <| np (.bool true) ?_;go_frame;refine wz cn11 ?_;clear cn11;refine wp_ret ?_;simp only [Exit.then, Exit.inBlock];exact bt ⟨rfl, hM.below⟩;rw [e] at hS hI;refine sr fun _ cn5 => ?_;refine nl hM 1 rfl Tryz.underlying27 I_impl_Shared <| np (.int .i64 task) <| nl hM 0 rfl Tryz.underlying31 I_impl_Hand ?_;refine nc (hI _ a1 i1 a2 i2 (hU.sl (fun b hb => hM.mem (List.mem_append_right [_, _] (List.mem_append_left _ (List.mem_append_left _ hb))))) (hX.sl (fun b hb => hM.mem (List.mem_append_right [_, _] (List.mem_append_left _ (List.mem_append_left _ hb)))))) ?_;rintro e W7 ⟨u', x', rfl, hO1, hO2, hb⟩;obtain ⟨v'1, j'1, rfl, -, s'1_1⟩ := (show OwnR _ _ _ _ 8 0 [] _ from hO1).slice;obtain ⟨y'1, i'1, rfl, -, s'1_2⟩ := (show OwnR _ _ _ _ 1 0 [] _ from hO2).slice;replace hM := hM.call hb;refine ⟨_, rfl, ?_⟩;go_frame;refine np (.tuple #[.agg #[.slice v'1 0 j'1, .slice y'1 0 i'1], .agg (HD.cells HD.zero).toArray, .bool false]) <| np (.agg #[.slice v'1 0 j'1, .slice y'1 0 i'1]) <| np (.agg (HD.cells HD.zero).toArray) <| np (.bool false) ?_;refine na hM [.slice none 0 0, .slice none 0 0] Z_impl_Shared ?_;clear hM;intro g3 W8 hM;refine na hM (HD.cells HD.zero) Z_impl_Hand ?_;clear hM;intro g4 W9 hM;refine nS hM 1 rfl [.slice v'1 0 j'1, .slice y'1 0 i'1] I_impl_Shared rfl ?_;clear hM;intro W10 hM;refine nS hM 0 rfl (HD.cells HD.zero) I_impl_Hand (hd_one' _) ?_;clear hM;intro W11 hM
  refine np (.bool false) ?_;go_frame;refine wz cn5 ?_;clear cn5;refine sr fun _ cn6 => ?_;refine nl hM 3 rfl Tryz.underlying27 I_impl_Shared <| np (.int .i64 task) <| nl hM 2 rfl Tryz.underlying31 I_impl_Hand ?_;refine nc (hS _ (.slice a1 l.length i1) (.slice a2 c.length i2) (hU.sl (fun b hb => hM.mem (List.mem_append_right [_, _, _, _] (List.mem_append_left _ (List.mem_append_left _ hb))))) (hX.sl (fun b hb => hM.mem (List.mem_append_right [_, _, _, _] (List.mem_append_left _ (List.mem_append_left _ hb)))))) ?_;rintro e W12 ⟨u', x', rfl, hO1, hO2, hb⟩;obtain ⟨v'2, j'2, rfl, -, s'2_1⟩ := (show OwnR _ _ _ _ 8 0 [] _ from hO1).slice;obtain ⟨y'2, i'2, rfl, -, s'2_2⟩ := (show OwnR _ _ _ _ 1 0 [] _ from hO2).slice;replace hM := hM.call hb;refine ⟨_, rfl, ?_⟩;go_frame;refine np (.tuple #[.agg #[.slice v'2 0 j'2, .slice y'2 0 i'2], .agg (HD.cells HD.zero).toArray, .bool false]) <| np (.agg #[.slice v'2 0 j'2, .slice y'2 0 i'2]) <| np (.agg (HD.cells HD.zero).toArray) <| np (.bool false) ?_;refine na hM [.slice none 0 0, .slice none 0 0] Z_impl_Shared ?_;clear hM;intro g5 W13 hM;refine na hM (HD.cells HD.zero) Z_impl_Hand ?_;clear hM;intro g6 W14 hM;refine nS hM 1 rfl [.slice v'2 0 j'2, .slice y'2 0 i'2] I_impl_Shared rfl ?_;clear hM;intro W15 hM;refine nS hM 0 rfl (HD.cells HD.zero) I_impl_Hand (hd_one' _) ?_;clear hM;intro W16 hM;refine np (.bool false) ?_;go_frame;refine wz cn6 ?_;clear cn6;refine wp_seq_k fun Kn7 cn7 => ?_;refine sr fun _ cn8 => ?_;refine np (.bool false) <| np (.bool false) <| np (.bool false) <| np (.bool false) <| nl hM 3 rfl Tryz.underlying27 I_impl_Shared <| nl hM 1 rfl Tryz.underlying27 I_impl_Shared ?_;refine nc (likeShared_same (.slice v'1 0 j'1) (.slice y'1 0 i'1) (.slice v'2 0 j'2) (.slice y'2 0 i'2) [] [] _ (nsl_nil0 s'1_1) (nsl_nil0 s'2_1) (sli_nil0 s'1_2) (sli_nil0 s'2_2) (by first | omega | (show 0 ≤ 1048576; omega))) ?_;rintro e W17 ⟨rfl, hb⟩;refine ⟨_, rfl, ?_⟩;replace hM := hM.call hb;go_frame;refine np (.bool false) <| np (.bool false) <| np (.bool false) <| nl hM 2 rfl Tryz.underlying31 I_impl_Hand <| nl hM 0 rfl Tryz.underlying31 I_impl_Hand ?_;go_frame;refine wl_pureB (by kernel_rfl) (b := (!(hdEq HD.zero HD.zero))) (hd_neq HD.zero HD.zero rfl rfl rfl) ((congrArg Bool.not (hdEq_self _))) ?_;go_frame;refine np (.bool false) ?_;go_frame;refine wz cn8 ?_;clear cn8;refine wp_cond_false rfl ?_;refine wp_skip ?_;refine cn7 _ _ ?_;clear cn7;refine wp_seq_k fun Kn9 cn9 => ?_;refine sr fun _ cn10 => ?_;refine np (.bool false) <| np (.bool true) ?_;go_frame;refine wz cn10 ?_;clear cn10;refine wp_cond_true rfl ?_;refine sr fun _ cn11 => ?_;refine np (pt g3 0) <| ng hM 3 rfl 0 Tryz.underlying24 rfl <| np (.int .i64 0) <| np (.bool true) <| np (.bool true) ?_
  iterate 8 refine ns ?_
  refine np (.bool true) <| np (.bool true) ?_;go_frame;refine wz cn11 ?_;clear cn11;refine wp_ret ?_;simp only [Exit.then, Exit.inBlock];exact bt ⟨rfl, hM.below⟩

theorem walk0 (va : Option Addr) (vc : Nat) (lb : List Int) (w0 : World) (hbt : Bts w0.heap.size w0 (.slice va lb.length vc) lb) (hl4 : ¬ lb.length ≤ 4096) :
    Calls Tryz.prog 4 #[(.slice va lb.length vc)] w0 fun e w' => e = .returned (.bool true) ∧ Below w0.heap.size w0 w' := by
  have hbg : decide ((lb.length : Int) > 4096) = true := by simp; omega
  have hM := Mem.start w0
  go_enter Tryz.func4, Tryz.ntmps4
  refine sr fun _ cn1 => ?_;refine np (.bool false) ?_;go_frame;refine wz cn1 ?_;clear cn1;refine wp_seq_k fun Kn2 cn2 => ?_;refine sr fun _ cn3 => ?_;refine np (.slice va lb.length vc) ?_;refine nc (big_slice va lb.length vc _) ?_;rintro e W1 ⟨rfl, hb⟩;refine ⟨.bool true, rb hbg, ?_⟩;replace hM := hM.call hb;go_frame;refine wz cn3 ?_;clear cn3;refine wp_cond_true rfl ?_;refine sr fun _ cn4 => ?_;refine np (.bool true) ?_;go_frame;refine wz cn4 ?_;clear cn4;refine wp_ret ?_;simp only [Exit.then, Exit.inBlock];exact bt ⟨rfl, hM.below⟩
theorem walk (v : Value) (l : List Int) (w : World) (h : Bts w.heap.size w v l) :
    Calls Tryz.prog 4 #[v] w fun e w' => e = .returned (.bool true) ∧ Below w.heap.size w w' := by
  obtain ⟨⟨a, c, rfl, hc1, hc2, -⟩, -⟩ := id h
  by_cases hl : l.length ≤ 4096
  · exact walk1 a c l w h hl
  · exact walk0 a c l w h hl

theorem lifted (os : Os) (started : os.Started) (H : Type) (enc : TypeId × Value → H) :
    ReturnsInHanded {} Tryz.checked os 4 .any (Rows.fnAddsSpec.pre6 enc Tryz.prog Tryz.f4 Rows.fnAddsRow.domain false) (Rows.fnAddsSpec.post enc Tryz.prog Tryz.f4 false true false false) := by
  refine returnsInHanded_of_change (C := Tryz.checked) own started (by kernel_rfl) Tryz.func4
    (ChangeSpec.witness6 (enc := enc) (C := Tryz.checked) false ⟨#[], #[.slice none 0 0], []⟩ 8 (by kernel_rfl) (by kernel_rfl) (by kernel_rfl) (by kernel_rfl)) ?_
  intro W base args ds gs before hval0 hW hcnd _;have hval : ∀ (j : Nat) t v, Tryz.f4.params[j]? = some t → args[j]? = some v → Value.okWide Tryz.prog W .any base t v := hval0;have hW' := hW;obtain ⟨p, q, hA0, hV, rfl, hfz, hnd⟩ := hW;have hA : DataW.TrodAll enc Tryz.prog W 0 (fun _ => true) true Tryz.f4.params.toList args.toList ds p := hA0;rw [Tryz.params4] at hA hval;obtain ⟨v0, vs0, d0, ds0, p0, q0, hargs, rfl, rfl, h0, r0⟩ := trodAll_cons hA;obtain ⟨rfl, rfl, rfl⟩ := trodAll_nil r0;obtain rfl : args = #[v0] := by cases args; simp_all
  obtain ⟨rfl, rfl⟩ := trodVars_none hV;have k0 := h0;have lt0 : ∀ x ∈ p0, x.block < W.heap.size := by obtain ⟨m, hm⟩ := k0; exact DataW.trod_lt m _ _ _ hm
  obtain ⟨l_0, hl_0⟩ := open_bytes (hval 0 22 v0 rfl rfl) h0;clear hA0 hval0;refine (walk v0 l_0 W hl_0).mono fun e W' ⟨he, bel⟩ => ?_;subst he;exact ⟨_, rfl, _, _, _, [], _, [], hW', trodAll_mk1 (shut_bool Tryz.underlying4 _), (trodAll_cons_mk (Below.trod laidOut (by kernel_rfl) (of_decide_eq_true (by kernel_rfl)) k0 bel lt0) trodAll_mk0), rfl, bel.frame _, fun h => by cases h⟩

theorem over : Rows.fnAddsRow.holds Tryz.pinned (OpenSpec.ofChange Rows.fnAddsSpec) :=
  OpenClaim.holds_of_wide 4 Tryz.f4 rfl rfl rfl rfl rfl rfl rfl ⟨rfl, rfl, rfl, rfl, rfl⟩ rfl rfl rfl rfl rfl (by kernel_rfl) Tryz.func4 (by kernel_rfl)
    (of_decide_eq_true (by kernel_rfl)) (by unfold Func.isWrapper; rw [if_neg (of_decide_eq_false (by kernel_rfl))]; exact ⟨rfl, rfl⟩)
    (fun os started H enc _ => lifted os started H enc)

theorem proved : Rows.FnAddsSaid := over
end Go.Proofs.YthkbmdhcpandmaaGreat.fnAdds
