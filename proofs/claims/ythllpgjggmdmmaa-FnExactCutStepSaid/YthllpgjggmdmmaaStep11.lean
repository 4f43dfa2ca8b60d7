/- l8Lock of the model. -/
import Derived.Test.YthllpgjggmdmmaaStep10
import Derived.Test.YthllpgjggmdmmaaReads
namespace Go.Proofs.Ythllpgjggmdmmaa
open Go.ChangeShapes Go.WideShapes Go.ChangeAt Go.RowKit
set_option linter.unusedVariables false
set_option linter.unusedSimpArgs false

/-- A node is locked, and then. -/
def lockR (l : List ND) (c : List Int) (task : Int) (h : HD) (at' then' : Int) : StepR :=
  if (lockB l at' task).2 then ((lockB l at' task).1, c, { h with at_ := then' }, true) else (l, c, h, false)
theorem lock_own {w1 w' : World} {l : List ND} {u : Value} (h : OwnR w' w1.heap.size w'.heap.size 52 8 l.length (cellsOf l) u) (h0 : 0 < l.length) : ∃ (g k : Nat) (p : List Value), u = .slice (some ⟨g, 0, none⟩) l.length k ∧ l.length ≤ k ∧ k ≤ maxLen ∧ w1.heap.size ≤ g ∧ Blk w' g 52 (cellsOf l ++ p) ∧ (cellsOf l ++ p).length = k * 8 := by
  rcases h with ⟨h1, -⟩ | ⟨-, g, hg, -, k, p, rfl, h1, h2, ⟨-, hx⟩, hb⟩
  · omega
  · exact ⟨g, k, p, rfl, h1, h2, hg, hb, hx⟩

set_option maxRecDepth 100000 in
set_option maxHeartbeats 8000000 in
theorem spec_l8Lock (u x : Value) (l : List ND) (c : List Int) (task : Int) (h : HD) (at' then' : Int) (w0 : World) (h1 : NSl w0 u l) (h2 : SlI w0 x c) (hl0 : l ≠ []) (hc0 : c ≠ []) (hl : l.length ≤ 1048576) (hc : c.length ≤ 1048576) (hat : In64 at') :
    Calls Try.prog 17 #[.agg #[u, x], .int .i64 task, h.val, .int .i64 at', .int .i64 then'] w0 (Says3 (lockR l c task h at' then') w0) := by
  have H1 := h1
  have H2 := h2
  have hl1 : 0 < l.length := List.length_pos_iff.2 hl0
  have hc1 : 0 < c.length := List.length_pos_iff.2 hc0
  unfold HD.val
  have hM := Mem.start w0
  obtain ⟨b, off, cap, rfl, kk1, mm1, s1, G1⟩ := h1.at hl0
  obtain ⟨b2, off2, cap2, rfl, kk2, mm2, s2, G2⟩ := h2.at hc0
  rcases Bool.eq_false_or_eq_true ((lockB l at' task).2) with hlk | hlk
  · have hlk0 : 0 < (lockB l at' task).1.length := by
      have hh : lockB l at' task = (giveO l at' (task + 1), true) := by
        unfold lockB at hlk ⊢
        split at hlk
        · rename_i hc1
          rw [if_pos hc1]
          split at hlk
          · rename_i hc2
            rw [if_pos hc2]
          · simp at hlk
        · simp at hlk
      rw [hh]
      show 0 < (giveO l at' (task + 1)).length
      rw [giveO_len]
      exact hl1
    go_enter Try.func17, Try.ntmps17
    refine wp_seq_k fun Kn1 cn1 => ?_
    refine wl_region ?_
    refine wl_box (by kernel_rfl) hM 33 _ rfl [.slice (some ⟨b, off, none⟩) l.length cap, .slice (some ⟨b2, off2, none⟩) c.length cap2] rfl ?_
    clear hM; intro g1 W1 hM
    go_frame
    refine wl_box (by kernel_rfl) hM 36 _ rfl (HD.cells h) rfl ?_
    clear hM; intro g2 W2 hM
    go_frame
    refine wl_alloc (by kernel_rfl) hM 33 rfl [.slice none 0 0, .slice none 0 0] Z_impl_Shared ?_
    clear hM; intro g3 W3 hM
    go_frame
    refine wl_alloc (by kernel_rfl) hM 36 rfl (HD.cells HD.zero) Z_impl_Hand ?_
    clear hM; intro g4 W4 hM
    go_frame
    refine wl_pure (by kernel_rfl) (.bool false) (by kernel_rfl) ?_
    go_frame
    refine wl_nil ?_
    refine cn1 _ _ ?_
    clear cn1
    refine wp_seq_k fun Kn2 cn2 => ?_
    refine wl_region ?_
    refine wl_pure (by kernel_rfl) (.pointer (some ⟨g1, 0, none⟩)) (by kernel_rfl) ?_
    go_frame
    refine wl_loadc (by kernel_rfl) hM 3 rfl 31 _ rfl 0 rfl Try.underlying31 rfl rfl ?_
    go_frame
    refine wl_pure (by kernel_rfl) (.int .i64 at') (by kernel_rfl) ?_
    go_frame
    refine wl_pure (by kernel_rfl) (.int .i64 task) (by kernel_rfl) ?_
    go_frame
    refine wl_call (by kernel_rfl) 43 #[.slice (some ⟨b, off, none⟩) l.length cap, .int .i64 at', .int .i64 task] (by kernel_rfl) (spec_Locked (.slice (some ⟨b, off, none⟩) l.length cap) l at' task _ (H1.below hM.below) hl hat) ?_
    rintro e W5 hLk
    obtain ⟨u', rfl, hO, hb⟩ := hLk
    obtain ⟨m1, k1, p1, rfl, q1, q2, hg1, hB1, q5⟩ := lock_own hO hlk0
    replace hM := hM.got hb hg1 hB1
    rw [hlk]
    refine ⟨_, rfl, ?_⟩
    go_frame
    refine wl_pure (by kernel_rfl) (.tuple #[.slice (some ⟨m1, 0, none⟩) ((lockB l at' task).1.length) k1, .bool true]) (by kernel_rfl) ?_
    go_frame
    refine wl_pure (by kernel_rfl) (.slice (some ⟨m1, 0, none⟩) ((lockB l at' task).1.length) k1) (by kernel_rfl) ?_
    go_frame
    refine wl_pure (by kernel_rfl) (.bool true) (by kernel_rfl) ?_
    go_frame
    refine wl_pure (by kernel_rfl) (.slice (some ⟨m1, 0, none⟩) ((lockB l at' task).1.length) k1) (by kernel_rfl) ?_
    go_frame
    refine wl_pure (by kernel_rfl) (.bool true) (by kernel_rfl) ?_
    go_frame
    refine wl_nil ?_
    refine cn2 _ _ ?_
    clear cn2
    refine wp_seq_k fun Kn3 cn3 => ?_
    refine wp_seq_k fun Kn4 cn4 => ?_
    refine wl_region ?_
    refine wl_pure (by kernel_rfl) (.bool true) (by kernel_rfl) ?_
    go_frame
    refine wl_pure (by kernel_rfl) (.bool false) (by kernel_rfl) ?_
    go_frame
    refine wl_nil ?_
    refine cn4 _ _ ?_
    clear cn4
    refine wp_cond_false rfl ?_
    refine wp_skip ?_
    refine cn3 _ _ ?_
    clear cn3
    refine wp_seq_k fun Kn5 cn5 => ?_
    refine wl_region ?_
    refine wl_pure (by kernel_rfl) (.int .i64 then') (by kernel_rfl) ?_
    go_frame
    refine wl_pure (by kernel_rfl) (.pointer (some ⟨g2, 0, none⟩)) (by kernel_rfl) ?_
    go_frame
    refine wl_storec (by kernel_rfl) hM 3 rfl 2 _ _ rfl rfl 0 rfl (.int .i64 then') rfl rfl rfl I_int64 (by simp [HD.cells]) ?_
    clear hM; intro W6 hM
    refine wl_nil ?_
    refine cn5 _ _ ?_
    clear cn5
    refine wp_seq_k fun Kn6 cn6 => ?_
    -- region 5, drawn: one after the other
    refine wa_start (fun w => Below w0.heap.size w0 w ∧ Blk w g1 33 [.slice (some ⟨b, off, none⟩) l.length cap, .slice (some ⟨b2, off2, none⟩) c.length cap2] ∧ Blk w g2 36 (HD.cells { h with at_ := then' })) 9 rfl (by kernel_rfl) ?_
    replace hM := hM.drew
    refine wa_take 0 (some 30) (.slice (some ⟨m1, 0, none⟩) ((lockB l at' task).1.length) k1) rfl rfl (by kernel_rfl) (by kernel_rfl) (by kernel_rfl) (fun _ _ _ h => h) (by kernel_rfl) (fun w hS => by kernel_rfl) ⟨hM.below, hM.blk 4 rfl, hM.blk 3 rfl⟩ ?_
    go_frame
    refine wa_take 1 (some 31) (.pointer (some ⟨g1, 1, none⟩)) rfl rfl (by kernel_rfl) (by kernel_rfl) (by kernel_rfl) (fun _ _ _ h => h) (by kernel_rfl) (fun w hS => by kernel_rfl) ⟨hM.below, hM.blk 4 rfl, hM.blk 3 rfl⟩ ?_
    go_frame
    refine wa_take 2 (some 32) (.slice (some ⟨b2, off2, none⟩) c.length cap2) rfl rfl (by kernel_rfl) (by kernel_rfl) (by kernel_rfl) (fun _ _ _ h => h) (by kernel_rfl) (fun w hS => r_loadc hS.2.1 23 _ rfl 1 rfl Try.underlying23 rfl rfl) ⟨hM.below, hM.blk 4 rfl, hM.blk 3 rfl⟩ ?_
    go_frame
    refine wa_take 5 (some 35) (.agg (HD.cells { h with at_ := then' }).toArray) rfl rfl (by kernel_rfl) (by kernel_rfl) (by kernel_rfl) (fun _ _ _ h => h) (by kernel_rfl) (fun w hS => r_load hS.2.2 36 _ rfl rfl Try.underlying36 I_impl_Hand) ⟨hM.below, hM.blk 4 rfl, hM.blk 3 rfl⟩ ?_
    go_frame
    refine wa_one 3 (by kernel_rfl) ?_
    refine wo_call (some 33) rfl rfl (by kernel_rfl) 42 #[.slice (some ⟨b2, off2, none⟩) c.length cap2] (by kernel_rfl) (spec_copyI (.slice (some ⟨b2, off2, none⟩) c.length cap2) c _ (H2.below hM.below) hc0 hc) ?_
    rintro e W7 hCp
    obtain ⟨g', v', rfl, hg2, ⟨k2, p2, rfl, q3, q4, ⟨-, q6⟩, hB2⟩, hb⟩ := hCp
    replace hM := hM.got hb hg2 hB2
    refine ⟨_, rfl, ⟨hM.below, hM.blk 5 rfl, hM.blk 4 rfl⟩, ?_⟩
    go_frame
    refine wa_take 4 (some 34) (.agg #[.slice (some ⟨m1, 0, none⟩) ((lockB l at' task).1.length) k1, .slice (some ⟨g', 0, none⟩) c.length k2]) rfl rfl (by kernel_rfl) (by kernel_rfl) (by kernel_rfl) (fun _ _ _ h => h) (by kernel_rfl) (fun w hS => by kernel_rfl) ⟨hM.below, hM.blk 5 rfl, hM.blk 4 rfl⟩ ?_
    go_frame
    refine wa_one 6 (by kernel_rfl) ?_
    refine wo_store rfl (by kernel_rfl) hM 3 rfl 33 _ _ rfl rfl (by kernel_rfl) [.slice (some ⟨m1, 0, none⟩) ((lockB l at' task).1.length) k1, .slice (some ⟨g', 0, none⟩) c.length k2] (by kernel_rfl) I_impl_Shared rfl rfl ?_
    clear hM; intro W8 hM
    refine ⟨⟨hM.below, hM.blk 5 rfl, hM.blk 4 rfl⟩, ?_⟩
    refine wa_one 7 (by kernel_rfl) ?_
    refine wo_store rfl (by kernel_rfl) hM 2 rfl 36 _ _ rfl rfl (by kernel_rfl) (HD.cells { h with at_ := then' }) (by kernel_rfl) I_impl_Hand rfl (hd_one' _) ?_
    clear hM; intro W9 hM
    refine ⟨⟨hM.below, hM.blk 5 rfl, hM.blk 4 rfl⟩, ?_⟩
    refine wa_take 8 (some 12) (.bool true) rfl rfl (by kernel_rfl) (by kernel_rfl) (by kernel_rfl) (fun _ _ _ h => h) (by kernel_rfl) (fun w hS => by kernel_rfl) ⟨hM.below, hM.blk 5 rfl, hM.blk 4 rfl⟩ ?_
    go_frame
    refine wa_done (by kernel_rfl) ?_
    refine cn6 _ _ ?_
    clear cn6
    refine wp_ret ?_
    have hR : lockR l c task h at' then' = ((lockB l at' task).1, c, { h with at_ := then' }, true) := by simp [lockR, hlk]
    rw [hR]
    exact bodyPost_ret (ret_three (p := 10) (q := 11) (u := 12) (v := .bool true) rfl hM 3 2 rfl rfl rfl rfl rfl Try.underlying33 Try.underlying36 I_impl_Shared I_impl_Hand) rfl ⟨_, _, rfl, own_nblk (hM.blk 1 rfl) q1 q2 (hM.base 1 rfl) hlk0 q5, own_iblk (hM.blk 0 rfl) q3 q4 (hM.base 0 rfl) hc1 q6, hM.below⟩
  · go_enter Try.func17, Try.ntmps17
    refine wp_seq_k fun Kn1 cn1 => ?_
    refine wl_region ?_
    refine wl_box (by kernel_rfl) hM 33 _ rfl [.slice (some ⟨b, off, none⟩) l.length cap, .slice (some ⟨b2, off2, none⟩) c.length cap2] rfl ?_
    clear hM; intro g1 W1 hM
    go_frame
    refine wl_box (by kernel_rfl) hM 36 _ rfl (HD.cells h) rfl ?_
    clear hM; intro g2 W2 hM
    go_frame
    refine wl_alloc (by kernel_rfl) hM 33 rfl [.slice none 0 0, .slice none 0 0] Z_impl_Shared ?_
    clear hM; intro g3 W3 hM
    go_frame
    refine wl_alloc (by kernel_rfl) hM 36 rfl (HD.cells HD.zero) Z_impl_Hand ?_
    clear hM; intro g4 W4 hM
    go_frame
    refine wl_pure (by kernel_rfl) (.bool false) (by kernel_rfl) ?_
    go_frame
    refine wl_nil ?_
    refine cn1 _ _ ?_
    clear cn1
    refine wp_seq_k fun Kn2 cn2 => ?_
    refine wl_region ?_
    refine wl_pure (by kernel_rfl) (.pointer (some ⟨g1, 0, none⟩)) (by kernel_rfl) ?_
    go_frame
    refine wl_loadc (by kernel_rfl) hM 3 rfl 31 _ rfl 0 rfl Try.underlying31 rfl rfl ?_
    go_frame
    refine wl_pure (by kernel_rfl) (.int .i64 at') (by kernel_rfl) ?_
    go_frame
    refine wl_pure (by kernel_rfl) (.int .i64 task) (by kernel_rfl) ?_
    go_frame
    refine wl_call (by kernel_rfl) 43 #[.slice (some ⟨b, off, none⟩) l.length cap, .int .i64 at', .int .i64 task] (by kernel_rfl) (spec_Locked (.slice (some ⟨b, off, none⟩) l.length cap) l at' task _ (H1.below hM.below) hl hat) ?_
    rintro e W5 hLk
    obtain ⟨u', rfl, hO, hb⟩ := hLk
    replace hM := hM.call hb
    rw [hlk]
    refine ⟨_, rfl, ?_⟩
    go_frame
    refine wl_pure (by kernel_rfl) (.tuple #[u', .bool false]) (by kernel_rfl) ?_
    go_frame
    refine wl_pure (by kernel_rfl) (u') (by kernel_rfl) ?_
    go_frame
    refine wl_pure (by kernel_rfl) (.bool false) (by kernel_rfl) ?_
    go_frame
    refine wl_pure (by kernel_rfl) (u') (by kernel_rfl) ?_
    go_frame
    refine wl_pure (by kernel_rfl) (.bool false) (by kernel_rfl) ?_
    go_frame
    refine wl_nil ?_
    refine cn2 _ _ ?_
    clear cn2
    refine wp_seq_k fun Kn3 cn3 => ?_
    refine wp_seq_k fun Kn4 cn4 => ?_
    refine wl_region ?_
    refine wl_pure (by kernel_rfl) (.bool false) (by kernel_rfl) ?_
    go_frame
    refine wl_pure (by kernel_rfl) (.bool true) (by kernel_rfl) ?_
    go_frame
    refine wl_nil ?_
    refine cn4 _ _ ?_
    clear cn4
    refine wp_cond_true rfl ?_
    refine wp_seq_k fun Kn5 cn5 => ?_
    -- region 3, drawn: one after the other
    refine wa_start (fun w => Below w0.heap.size w0 w ∧ Blk w g1 33 [.slice (some ⟨b, off, none⟩) l.length cap, .slice (some ⟨b2, off2, none⟩) c.length cap2] ∧ Blk w g2 36 (HD.cells h)) 6 rfl (by kernel_rfl) ?_
    replace hM := hM.drew
    refine wa_take 0 (some 25) (.agg #[.slice (some ⟨b, off, none⟩) l.length cap, .slice (some ⟨b2, off2, none⟩) c.length cap2]) rfl rfl (by kernel_rfl) (by kernel_rfl) (by kernel_rfl) (fun _ _ _ h => h) (by kernel_rfl) (fun w hS => r_load hS.2.1 33 _ rfl rfl Try.underlying33 I_impl_Shared) ⟨hM.below, hM.blk 3 rfl, hM.blk 2 rfl⟩ ?_
    go_frame
    refine wa_take 2 (some 27) (.agg (HD.cells h).toArray) rfl rfl (by kernel_rfl) (by kernel_rfl) (by kernel_rfl) (fun _ _ _ h => h) (by kernel_rfl) (fun w hS => r_load hS.2.2 36 _ rfl rfl Try.underlying36 I_impl_Hand) ⟨hM.below, hM.blk 3 rfl, hM.blk 2 rfl⟩ ?_
    go_frame
    refine wa_one 1 (by kernel_rfl) ?_
    refine wo_call (some 26) rfl rfl (by kernel_rfl) 16 #[.agg #[.slice (some ⟨b, off, none⟩) l.length cap, .slice (some ⟨b2, off2, none⟩) c.length cap2]] (by kernel_rfl) (spec_l7Copy (.slice (some ⟨b, off, none⟩) l.length cap) (.slice (some ⟨b2, off2, none⟩) c.length cap2) l c _ (H1.below hM.below) (H2.below hM.below) hl0 hc0 hl hc) ?_
    rintro e W6 ⟨m1, m2, k1, k2, p1, p2, rfl, ⟨q1, q2, q3, q4, q5, q6⟩, hMc⟩
    replace hM := hM.join hMc
    refine ⟨_, rfl, ⟨hM.below, hM.blk 5 rfl, hM.blk 4 rfl⟩, ?_⟩
    go_frame
    refine wa_one 3 (by kernel_rfl) ?_
    refine wo_store rfl (by kernel_rfl) hM 3 rfl 33 _ _ rfl rfl (by kernel_rfl) [.slice (some ⟨m1, 0, none⟩) l.length k1, .slice (some ⟨m2, 0, none⟩) c.length k2] (by kernel_rfl) I_impl_Shared rfl rfl ?_
    clear hM; intro W7 hM
    refine ⟨⟨hM.below, hM.blk 5 rfl, hM.blk 4 rfl⟩, ?_⟩
    refine wa_one 4 (by kernel_rfl) ?_
    refine wo_store rfl (by kernel_rfl) hM 2 rfl 36 _ _ rfl rfl (by kernel_rfl) (HD.cells h) (by kernel_rfl) I_impl_Hand rfl (hd_one' _) ?_
    clear hM; intro W8 hM
    refine ⟨⟨hM.below, hM.blk 5 rfl, hM.blk 4 rfl⟩, ?_⟩
    refine wa_take 5 (some 12) (.bool false) rfl rfl (by kernel_rfl) (by kernel_rfl) (by kernel_rfl) (fun _ _ _ h => h) (by kernel_rfl) (fun w hS => by kernel_rfl) ⟨hM.below, hM.blk 5 rfl, hM.blk 4 rfl⟩ ?_
    go_frame
    refine wa_done (by kernel_rfl) ?_
    refine cn5 _ _ ?_
    clear cn5
    refine wp_ret ?_
    simp only [Exit.then, Exit.inBlock]
    have hR : lockR l c task h at' then' = (l, c, h, false) := by simp [lockR, hlk]
    rw [hR]
    exact bodyPost_ret (ret_three (p := 10) (q := 11) (u := 12) (v := .bool false) rfl hM 3 2 rfl rfl rfl rfl rfl Try.underlying33 Try.underlying36 I_impl_Shared I_impl_Hand) rfl ⟨_, _, rfl, own_nblk (hM.blk 0 rfl) q1 q2 (hM.base 0 rfl) hl1 q5, own_iblk (hM.blk 1 rfl) q3 q4 (hM.base 1 rfl) hc1 q6, hM.below⟩
end Go.Proofs.Ythllpgjggmdmmaa
