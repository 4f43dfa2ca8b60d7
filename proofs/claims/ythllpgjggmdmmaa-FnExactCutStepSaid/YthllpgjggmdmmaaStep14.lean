/- AddStep, CutStep of the model. -/
import Derived.Test.YthllpgjggmdmmaaStep13
namespace Go.Proofs.Ythllpgjggmdmmaa
open Go.ChangeShapes Go.WideShapes Go.ChangeAt Go.RowKit
set_option linter.unusedVariables false
set_option linter.unusedSimpArgs false

theorem nslX {w : World} {g k n : Nat} {t : TypeId} {l : List ND} {p : List Value} (hb : Blk w g t (cellsOf l ++ p)) (hn : n = l.length) (h1 : n ≤ k) (h2 : k ≤ maxLen) : NSl w (.slice (some ⟨g, 0, none⟩) n k) l := by
  subst hn
  exact nsl_blk hb h1 h2
theorem own_nX {w : World} {B g k n : Nat} {l : List ND} {p : List Value} (hb : Blk w g 52 (cellsOf l ++ p)) (hn : n = l.length) (h1 : n ≤ k) (h2 : k ≤ maxLen) (hB : B ≤ g) (h0 : 0 < l.length) (hx : (cellsOf l ++ p).length = k * 8) : OwnR w B w.heap.size 52 8 l.length (cellsOf l) (.slice (some ⟨g, 0, none⟩) n k) := by
  subst hn
  exact own_nblk hb h1 h2 hB h0 hx
theorem liftR_len (l : List ND) (a s k : Int) : (liftR l a s k).1.length = l.length := by simp [liftR, setK]
theorem shared_pos {l : List ND} {c : List Int} {b : Bool} (h : (sharedB l c && b) = true) : 0 < l.length := by
  simp only [sharedB, Bool.and_eq_true] at h
  exact (nodes_some h.1.1).1
theorem has64 {l : List ND} {i : Int} (h : hasB l i = true) (hl : l.length ≤ 1048576) : In64 i := by
  obtain ⟨h0, h1⟩ := inB_t h
  unfold In64
  omega
theorem lockR_pos {l : List ND} {c : List Int} {task : Int} {h : HD} {at' then' : Int} (hl : l ≠ []) (hc : c ≠ []) : 0 < (lockR l c task h at' then').1.length ∧ 0 < (lockR l c task h at' then').2.1.length := by
  have h1 := List.length_pos_iff.2 hl
  have h2 := List.length_pos_iff.2 hc
  unfold lockR
  split
  · rename_i hk
    refine ⟨?_, h2⟩
    unfold lockB at hk ⊢
    split at hk
    · rename_i h3
      rw [if_pos h3]
      split at hk
      · rename_i h4
        rw [if_pos h4]
        show 0 < (giveO l at' (task + 1)).length
        rw [giveO_len]
        exact h1
      · simp at hk
    · simp at hk
  · exact ⟨h1, h2⟩
def cutKid (l : List ND) (h : HD) : Int := if (nd l h.cur).l == 0 then (nd l h.cur).r else (nd l h.cur).l
def cutR (l : List ND) (c : List Int) (task : Int) (h : HD) : StepR :=
  if !l7okB l c task h 9 13 || h.c != 3 || h.cur == 0 then noR
  else if h.at_ == 9 then lockR l c task h h.cur 10
  else if h.at_ == 10 then doneR l c (checkCutH l h)
  else if h.at_ == 11 then doneR (setK l h.cur goneN) c { h with at_ := 12 }
  else if h.at_ == 12 then (if (liftR l h.prev h.side (cutKid l h)).2 then doneR (liftR l h.prev h.side (cutKid l h)).1 c { h with at_ := 13 } else doneR (liftR l h.prev h.side (cutKid l h)).1 c (endH h 1))
  else doneR (setK l h.prev fun n => withT n h.side) c (endH h 1)

set_option maxRecDepth 100000 in
set_option maxHeartbeats 8000000 in
theorem spec_CutStep (u x : Value) (l : List ND) (c : List Int) (task : Int) (h : HD) (w0 : World) (h1 : NSl w0 u l) (h2 : SlI w0 x c) (hl : l.length ≤ 1048576) (hc : c.length ≤ 1048576) :
    Calls Try.prog 5 #[.agg #[u, x], .int .i64 task, h.val] w0 (Says3 (cutR l c task h) w0) := by
  have H1 := h1
  have H2 := h2
  unfold HD.val
  have hM := Mem.start w0
  rcases Bool.eq_false_or_eq_true (l7okB l c task h 9 13) with hok | hok
  · obtain ⟨hl0, hc0, hl1, hc1, hat, kt, hkt0, hkt, hcnt, hnodes, qnp, qnc, qnu, qnx, qnw⟩ := ok_facts hok
    obtain ⟨b, off, cap, rfl, kk1, mm1, s1, G1⟩ := h1.at hl0
    obtain ⟨b2, off2, cap2, rfl, kk2, mm2, s2, G2⟩ := h2.at hc0
    have ht : task.toNat = kt := by omega
    have hl30 := (nodes_some hnodes).2
    obtain ⟨knp, ⟨npk, npv, npl, npr, npo, npg, nplt, nprt⟩, hknp, npe, hlnp, hnnp⟩ := nd_at qnp
    have Anp := G1 knp _ hnnp
    have tnp : h.prev.toNat = knp := by omega
    obtain ⟨knc, ⟨nck, ncv, ncl, ncr, nco, ncg, nclt, ncrt⟩, hknc, nce, hlnc, hnnc⟩ := nd_at qnc
    have Anc := G1 knc _ hnnc
    have tnc : h.cur.toNat = knc := by omega
    go_enter Try.func5, Try.ntmps5
    refine wp_seq_k fun Kn1 cn1 => ?_
    refine wl_region ?_
    refine wl_box (by kernel_rfl) hM 33 _ rfl [.slice (some ⟨b, off, none⟩) l.length cap, .slice (some ⟨b2, off2, none⟩) c.length cap2] rfl ?_
    clear hM; intro g1 W1 hM
    go_frame
    refine wl_box (by kernel_rfl) hM 36 _ rfl (HD.cells h) rfl ?_
    clear hM; intro g2 W2 hM
    go_frame
    refine wl_alloc (by kernel_rfl) hM 33 rfl [.slice none 0 0, .slice none 0 0] Z_impl_Shared ?_
    clear hM; intro g3 W3 hM
    go_frame
    refine wl_alloc (by kernel_rfl) hM 36 rfl (HD.cells HD.zero) Z_impl_Hand ?_
    clear hM; intro g4 W4 hM
    go_frame
    refine wl_pure (by kernel_rfl) (.bool false) (by kernel_rfl) ?_
    go_frame
    refine wl_nil ?_
    refine cn1 _ _ ?_
    clear cn1
    refine wp_seq_k fun Kn2 cn2 => ?_
    refine wp_seq_k fun Kn3 cn3 => ?_
    obtain ⟨xg1, hxg1⟩ : ∃ x : Bool, x = (((!l7okB l c task h 9 13) || (h.c != 3)) || (h.cur == 0)) := ⟨_, rfl⟩
    refine wa_join (fun act W => ∃ (U1 : Nat → Value), act = ⟨#[.agg #[.slice (some ⟨b, off, none⟩) l.length cap, .slice (some ⟨b2, off2, none⟩) c.length cap2], .int .i64 task, .agg (HD.cells h).toArray, .pointer (some ⟨g1, 0, none⟩), undef, .pointer (some ⟨g2, 0, none⟩), .pointer (some ⟨g3, 0, none⟩), .pointer (some ⟨g4, 0, none⟩), .bool false, undef, undef, undef, undef, (U1 0), (U1 1), (U1 2), (U1 3), (U1 4), (U1 5), (U1 6), (U1 7), (U1 8), (U1 9), (U1 10), (U1 11), (U1 12), (U1 13), (U1 14), (U1 15), undef, undef, undef, undef, undef, undef, undef, undef, undef, undef, undef, undef, undef, undef, undef, undef, undef, undef, undef, undef, undef, undef, undef, undef, undef, undef, undef, undef, undef, undef, undef, undef, undef, undef, undef, undef, undef, undef, undef, undef, undef, undef, undef, undef, undef, undef, undef, undef, undef, undef, undef, undef, undef, undef, undef, undef, undef, undef, undef, undef, undef, undef, undef, undef, undef, undef, undef, undef, undef, undef, undef, undef, undef, undef, undef, undef, undef, undef, undef, undef, undef, undef, undef, undef, undef, undef, undef, undef], []⟩ ∧ U1 15 = .bool xg1 ∧ Mem w0 W [(g4, 36, (HD.cells HD.zero)), (g3, 33, [.slice none 0 0, .slice none 0 0]), (g2, 36, (HD.cells h)), (g1, 33, [.slice (some ⟨b, off, none⟩) l.length cap, .slice (some ⟨b2, off2, none⟩) c.length cap2])]) ?_ ?_
    clear hM
    rintro act W5 ⟨U1, rfl, hU1, hM⟩
    refine cn3 _ _ ?_
    clear cn3
    rcases Bool.eq_false_or_eq_true ((((!l7okB l c task h 9 13) || (h.c != 3)) || (h.cur == 0))) with hx11 | hx11
    refine wp_cond_true (hU1.trans (congrArg Value.bool (hxg1.trans hx11))) ?_
    refine wp_seq_k fun Kn4 cn4 => ?_
    refine wl_region ?_
    refine wl_pure (by kernel_rfl) (.agg #[.slice none 0 0, .slice none 0 0]) (by kernel_rfl) ?_
    go_frame
    refine wl_pure (by kernel_rfl) (.agg (HD.cells HD.zero).toArray) (by kernel_rfl) ?_
    go_frame
    refine wl_store (by kernel_rfl) hM 1 rfl 33 _ _ rfl rfl rfl [.slice none 0 0, .slice none 0 0] rfl I_impl_Shared rfl rfl ?_
    clear hM; intro W6 hM
    refine wl_store (by kernel_rfl) hM 0 rfl 36 _ _ rfl rfl rfl (HD.cells HD.zero) rfl I_impl_Hand rfl (hd_one' _) ?_
    clear hM; intro W7 hM
    refine wl_pure (by kernel_rfl) (.bool false) (by kernel_rfl) ?_
    go_frame
    refine wl_nil ?_
    refine cn4 _ _ ?_
    clear cn4
    refine wp_ret ?_
    simp only [Exit.then, Exit.inBlock]
    have hR : cutR l c task h = ([], [], HD.zero, false) := by unfold cutR; rw [if_pos hx11]; rfl
    rw [hR]
    exact bodyPost_ret (ret_three (p := 6) (q := 7) (u := 8) (v := .bool false) rfl hM 1 0 rfl rfl rfl rfl rfl Try.underlying33 Try.underlying36 I_impl_Shared I_impl_Hand) rfl ⟨_, _, rfl, OwnR.nil _ _ _ _ _ _ _ (by simp [maxLen]), OwnR.nil _ _ _ _ _ _ _ (by simp [maxLen]), hM.below⟩
    refine wp_cond_false (hU1.trans (congrArg Value.bool (hxg1.trans hx11))) ?_
    refine wp_skip ?_
    refine cn2 _ _ ?_
    clear cn2
    refine wp_seq_k fun Kn4 cn4 => ?_
    refine wl_region ?_
    refine wl_load (by kernel_rfl) hM 3 rfl 33 _ rfl rfl Try.underlying33 I_impl_Shared ?_
    go_frame
    refine wl_call (by kernel_rfl) 16 #[.agg #[.slice (some ⟨b, off, none⟩) l.length cap, .slice (some ⟨b2, off2, none⟩) c.length cap2]] (by kernel_rfl) (spec_l7Copy (.slice (some ⟨b, off, none⟩) l.length cap) (.slice (some ⟨b2, off2, none⟩) c.length cap2) l c _ (H1.below hM.below) (H2.below hM.below) hl0 hc0 hl hc) ?_
    rintro e W6 ⟨m1, m2, k1, k2, p1, p2, rfl, ⟨q1, q2, q3, q4, q5, q6⟩, hMc⟩
    refine ⟨_, rfl, ?_⟩
    replace hM := hM.join hMc
    go_frame
    refine wl_alloc (by kernel_rfl) hM 33 rfl [.slice none 0 0, .slice none 0 0] Z_impl_Shared ?_
    clear hM; intro g5 W7 hM
    go_frame
    refine wl_store (by kernel_rfl) hM 0 rfl 33 _ _ rfl rfl rfl [.slice (some ⟨m1, 0, none⟩) l.length k1, .slice (some ⟨m2, 0, none⟩) c.length k2] rfl I_impl_Shared rfl rfl ?_
    clear hM; intro W8 hM
    refine wl_nil ?_
    refine cn4 _ _ ?_
    clear cn4
    refine wp_seq_k fun Kn5 cn5 => ?_
    refine wp_seq_k fun Kn6 cn6 => ?_
    refine wl_region ?_
    refine wl_pure (by kernel_rfl) (.pointer (some ⟨g2, 0, none⟩)) (by kernel_rfl) ?_
    go_frame
    refine wl_loadc (by kernel_rfl) hM 5 rfl 2 _ rfl 0 rfl Try.underlying2 rfl rfl ?_
    go_frame
    refine wl_nil ?_
    refine cn6 _ _ ?_
    clear cn6
    refine wp_block ?_
    refine wp_seq_k fun Kn7 cn7 => ?_
    refine wl_region ?_
    refine wl_pure (by kernel_rfl) (.bool (h.at_ == 9)) (by kernel_rfl) ?_
    go_frame
    refine wl_pure (by kernel_rfl) (.bool (h.at_ == 9)) (by kernel_rfl) ?_
    go_frame
    refine wl_nil ?_
    refine cn7 _ _ ?_
    clear cn7
    rcases Bool.eq_false_or_eq_true ((h.at_ == 9)) with hx12 | hx12
    rw [hx12]
    refine wp_cond_true rfl ?_
    refine wp_seq_k fun Kn8 cn8 => ?_
    refine wl_region ?_
    refine wl_load (by kernel_rfl) hM 6 rfl 33 _ rfl rfl Try.underlying33 I_impl_Shared ?_
    go_frame
    refine wl_pure (by kernel_rfl) (.int .i64 task) (by kernel_rfl) ?_
    go_frame
    refine wl_load (by kernel_rfl) hM 5 rfl 36 _ rfl rfl Try.underlying36 I_impl_Hand ?_
    go_frame
    refine wl_pure (by kernel_rfl) (.pointer (some ⟨g2, 5, none⟩)) (by kernel_rfl) ?_
    go_frame
    refine wl_loadc (by kernel_rfl) hM 5 rfl 2 _ rfl 5 rfl Try.underlying2 rfl rfl ?_
    go_frame
    refine wl_call (by kernel_rfl) 17 #[.agg #[.slice (some ⟨b, off, none⟩) l.length cap, .slice (some ⟨b2, off2, none⟩) c.length cap2], .int .i64 task, .agg (HD.cells h).toArray, .int .i64 h.cur, .int .i64 10] (by kernel_rfl) (spec_l8Lock (.slice (some ⟨b, off, none⟩) l.length cap) (.slice (some ⟨b2, off2, none⟩) c.length cap2) l c task h h.cur 10 _ (H1.below hM.below) (H2.below hM.below) hl0 hc0 hl hc (has64 qnc hl)) ?_
    rintro e W9 ⟨u', x', rfl, hO1, hO2, hb⟩
    obtain ⟨hr1, hr2⟩ := lockR_pos (task := task) (h := h) (at' := h.cur) (then' := 10) hl0 hc0
    obtain ⟨v1, j1, r1, rfl, s1', s2', s3', s4', s9'⟩ := own_blk hO1 hr1
    obtain ⟨v2, j2, r2, rfl, s5', s6', s7', s8', s0'⟩ := own_blk hO2 hr2
    replace hM := hM.join (Mem.two hb s4' s8' s3' s7' ne_types)
    refine ⟨_, rfl, ?_⟩
    go_frame
    refine wl_pure (by kernel_rfl) (.agg #[.slice (some ⟨v1, 0, none⟩) ((lockR l c task h h.cur 10).1.length) j1, .slice (some ⟨v2, 0, none⟩) ((lockR l c task h h.cur 10).2.1.length) j2]) (by kernel_rfl) ?_
    go_frame
    refine wl_pure (by kernel_rfl) (.agg (HD.cells ((lockR l c task h h.cur 10).2.2.1)).toArray) (by kernel_rfl) ?_
    go_frame
    refine wl_pure (by kernel_rfl) (.bool ((lockR l c task h h.cur 10).2.2.2)) (by kernel_rfl) ?_
    go_frame
    refine wl_store (by kernel_rfl) hM 6 rfl 33 _ _ rfl rfl rfl [.slice (some ⟨v1, 0, none⟩) ((lockR l c task h h.cur 10).1.length) j1, .slice (some ⟨v2, 0, none⟩) ((lockR l c task h h.cur 10).2.1.length) j2] rfl I_impl_Shared rfl rfl ?_
    clear hM; intro W10 hM
    refine wl_store (by kernel_rfl) hM 5 rfl 36 _ _ rfl rfl rfl (HD.cells ((lockR l c task h h.cur 10).2.2.1)) rfl I_impl_Hand rfl (hd_one' _) ?_
    clear hM; intro W11 hM
    refine wl_pure (by kernel_rfl) (.bool ((lockR l c task h h.cur 10).2.2.2)) (by kernel_rfl) ?_
    go_frame
    refine wl_nil ?_
    refine cn8 _ _ ?_
    clear cn8
    refine wp_ret ?_
    simp only [Exit.then, Exit.inBlock]
    have hR : cutR l c task h = ((lockR l c task h h.cur 10).1, (lockR l c task h h.cur 10).2.1, (lockR l c task h h.cur 10).2.2.1, (lockR l c task h h.cur 10).2.2.2) := by unfold cutR; rw [if_neg (by rw [hx11]; exact Bool.false_ne_true)]; simp [cutKid, doneR, noR, setK, withT, goneN, hok, hx12, ht, npe, tnp, nce, tnc]
    rw [hR]
    exact bodyPost_ret (ret_three (p := 6) (q := 7) (u := 8) (v := .bool ((lockR l c task h h.cur 10).2.2.2)) rfl hM 6 5 rfl rfl rfl rfl rfl Try.underlying33 Try.underlying36 I_impl_Shared I_impl_Hand) rfl ⟨_, _, rfl, own_nX (hM.blk 0 rfl) rfl s1' s2' (hM.base 0 rfl) hr1 s9', own_iblk (hM.blk 1 rfl) s5' s6' (hM.base 1 rfl) hr2 s0', hM.below⟩
    rw [hx12]
    refine wp_cond_false rfl ?_
    refine wp_seq_k fun Kn8 cn8 => ?_
    refine wl_region ?_
    refine wl_pure (by kernel_rfl) (.bool (h.at_ == 10)) (by kernel_rfl) ?_
    go_frame
    refine wl_pure (by kernel_rfl) (.bool (h.at_ == 10)) (by kernel_rfl) ?_
    go_frame
    refine wl_nil ?_
    refine cn8 _ _ ?_
    clear cn8
    rcases Bool.eq_false_or_eq_true ((h.at_ == 10)) with hx13 | hx13
    rw [hx13]
    refine wp_cond_true rfl ?_
    refine wl_region ?_
    refine wl_load (by kernel_rfl) hM 6 rfl 33 _ rfl rfl Try.underlying33 I_impl_Shared ?_
    go_frame
    refine wl_load (by kernel_rfl) hM 5 rfl 36 _ rfl rfl Try.underlying36 I_impl_Hand ?_
    go_frame
    refine wl_call (by kernel_rfl) 18 #[.agg #[.slice (some ⟨b, off, none⟩) l.length cap, .slice (some ⟨b2, off2, none⟩) c.length cap2], .agg (HD.cells h).toArray] (by kernel_rfl) (spec_l9Check (.slice (some ⟨b, off, none⟩) l.length cap) (.slice (some ⟨b2, off2, none⟩) c.length cap2) l h _ (H1.below hM.below) qnp qnc) ?_
    rintro e W9 ⟨rfl, hb⟩
    refine ⟨_, rfl, ?_⟩
    replace hM := hM.call hb
    go_frame
    refine wl_store (by kernel_rfl) hM 5 rfl 36 _ _ rfl rfl rfl (HD.cells (checkCutH l h)) rfl I_impl_Hand rfl (hd_one' _) ?_
    clear hM; intro W10 hM
    refine wl_nil ?_
    refine cn5 _ _ ?_
    clear cn5
    refine wp_seq_k fun Kn9 cn9 => ?_
    refine wl_region ?_
    refine wl_load (by kernel_rfl) hM 0 rfl 33 _ rfl rfl Try.underlying33 I_impl_Shared ?_
    go_frame
    refine wl_load (by kernel_rfl) hM 5 rfl 36 _ rfl rfl Try.underlying36 I_impl_Hand ?_
    go_frame
    rcases Bool.eq_false_or_eq_true ((sharedB l c && handB (checkCutH l h))) with hx15 | hx15
    refine wl_call (by kernel_rfl) 22 #[.agg #[.slice (some ⟨m1, 0, none⟩) l.length k1, .slice (some ⟨m2, 0, none⟩) c.length k2], .agg (HD.cells (checkCutH l h)).toArray] (by kernel_rfl) (spec_l7Done (.slice (some ⟨m1, 0, none⟩) l.length k1) (.slice (some ⟨m2, 0, none⟩) c.length k2) l c (checkCutH l h) _ (nslX (hM.blk 1 rfl) (by first | rfl | (simp; done) | (simp [liftR_len]; done)) q1 q2) (sli_blk (hM.blk 2 rfl) q3 q4) (by first | omega | (simp; omega) | (rw [liftR_len]; omega)) hc) ?_
    rintro e W11 ⟨rfl, hb⟩
    refine ⟨.tuple #[.agg #[.slice (some ⟨m1, 0, none⟩) l.length k1, .slice (some ⟨m2, 0, none⟩) c.length k2], .agg (HD.cells (checkCutH l h)).toArray, .bool true], congrArg Ending.returned (by simp [doneV, HD.val, hx15]), ?_⟩
    replace hM := hM.call hb
    go_frame
    refine wl_pure (by kernel_rfl) (.agg #[.slice (some ⟨m1, 0, none⟩) l.length k1, .slice (some ⟨m2, 0, none⟩) c.length k2]) (by kernel_rfl) ?_
    go_frame
    refine wl_pure (by kernel_rfl) (.agg (HD.cells (checkCutH l h)).toArray) (by kernel_rfl) ?_
    go_frame
    refine wl_pure (by kernel_rfl) (.bool true) (by kernel_rfl) ?_
    go_frame
    refine wl_store (by kernel_rfl) hM 4 rfl 33 _ _ rfl rfl rfl [.slice (some ⟨m1, 0, none⟩) l.length k1, .slice (some ⟨m2, 0, none⟩) c.length k2] rfl I_impl_Shared rfl rfl ?_
    clear hM; intro W12 hM
    refine wl_store (by kernel_rfl) hM 3 rfl 36 _ _ rfl rfl rfl (HD.cells (checkCutH l h)) rfl I_impl_Hand rfl (hd_one' _) ?_
    clear hM; intro W13 hM
    refine wl_pure (by kernel_rfl) (.bool true) (by kernel_rfl) ?_
    go_frame
    refine wl_nil ?_
    refine cn9 _ _ ?_
    clear cn9
    refine wp_ret ?_
    have hps : 0 < (l : List ND).length := hl1
    have hR : cutR l c task h = (l, c, (checkCutH l h), true) := by unfold cutR; rw [if_neg (by rw [hx11]; exact Bool.false_ne_true)]; simp [cutKid, doneR, noR, setK, withT, goneN, hok, hx12, hx13, hx15, ht, npe, tnp, nce, tnc]
    rw [hR]
    exact bodyPost_ret (ret_three (p := 6) (q := 7) (u := 8) (v := .bool true) rfl hM 4 3 rfl rfl rfl rfl rfl Try.underlying33 Try.underlying36 I_impl_Shared I_impl_Hand) rfl ⟨_, _, rfl, own_nX (hM.blk 1 rfl) (by first | rfl | (simp; done) | (simp [liftR_len]; done)) q1 q2 (hM.base 1 rfl) hps (by first | exact q5 | (simpa [cellsOf_len] using q5) | (simpa [cellsOf_len, liftR_len] using q5)), own_iblk (hM.blk 2 rfl) q3 q4 (hM.base 2 rfl) hc1 q6, hM.below⟩
    refine wl_call (by kernel_rfl) 22 #[.agg #[.slice (some ⟨m1, 0, none⟩) l.length k1, .slice (some ⟨m2, 0, none⟩) c.length k2], .agg (HD.cells (checkCutH l h)).toArray] (by kernel_rfl) (spec_l7Done (.slice (some ⟨m1, 0, none⟩) l.length k1) (.slice (some ⟨m2, 0, none⟩) c.length k2) l c (checkCutH l h) _ (nslX (hM.blk 1 rfl) (by first | rfl | (simp; done) | (simp [liftR_len]; done)) q1 q2) (sli_blk (hM.blk 2 rfl) q3 q4) (by first | omega | (simp; omega) | (rw [liftR_len]; omega)) hc) ?_
    rintro e W11 ⟨rfl, hb⟩
    refine ⟨.tuple #[.agg #[.slice none 0 0, .slice none 0 0], .agg (HD.cells HD.zero).toArray, .bool false], congrArg Ending.returned (by simp [doneV, HD.val, hx15]), ?_⟩
    replace hM := hM.call hb
    go_frame
    refine wl_pure (by kernel_rfl) (.agg #[.slice none 0 0, .slice none 0 0]) (by kernel_rfl) ?_
    go_frame
    refine wl_pure (by kernel_rfl) (.agg (HD.cells HD.zero).toArray) (by kernel_rfl) ?_
    go_frame
    refine wl_pure (by kernel_rfl) (.bool false) (by kernel_rfl) ?_
    go_frame
    refine wl_store (by kernel_rfl) hM 4 rfl 33 _ _ rfl rfl rfl [.slice none 0 0, .slice none 0 0] rfl I_impl_Shared rfl rfl ?_
    clear hM; intro W12 hM
    refine wl_store (by kernel_rfl) hM 3 rfl 36 _ _ rfl rfl rfl (HD.cells HD.zero) rfl I_impl_Hand rfl (hd_one' _) ?_
    clear hM; intro W13 hM
    refine wl_pure (by kernel_rfl) (.bool false) (by kernel_rfl) ?_
    go_frame
    refine wl_nil ?_
    refine cn9 _ _ ?_
    clear cn9
    refine wp_ret ?_
    have hR : cutR l c task h = ([], [], HD.zero, false) := by unfold cutR; rw [if_neg (by rw [hx11]; exact Bool.false_ne_true)]; simp [cutKid, doneR, noR, setK, withT, goneN, hok, hx12, hx13, hx15, ht, npe, tnp, nce, tnc]
    rw [hR]
    exact bodyPost_ret (ret_three (p := 6) (q := 7) (u := 8) (v := .bool false) rfl hM 4 3 rfl rfl rfl rfl rfl Try.underlying33 Try.underlying36 I_impl_Shared I_impl_Hand) rfl ⟨_, _, rfl, OwnR.nil _ _ _ _ _ _ _ (by simp [maxLen]), OwnR.nil _ _ _ _ _ _ _ (by simp [maxLen]), hM.below⟩
    rw [hx13]
    refine wp_cond_false rfl ?_
    refine wp_seq_k fun Kn9 cn9 => ?_
    refine wl_region ?_
    refine wl_pure (by kernel_rfl) (.bool (h.at_ == 11)) (by kernel_rfl) ?_
    go_frame
    refine wl_pure (by kernel_rfl) (.bool (h.at_ == 11)) (by kernel_rfl) ?_
    go_frame
    refine wl_nil ?_
    refine cn9 _ _ ?_
    clear cn9
    rcases Bool.eq_false_or_eq_true ((h.at_ == 11)) with hx16 | hx16
    rw [hx16]
    refine wp_cond_true rfl ?_
    refine wp_seq_k fun Kn10 cn10 => ?_
    refine wl_region ?_
    refine wl_pure (by kernel_rfl) (.pointer (some ⟨g5, 0, none⟩)) (by kernel_rfl) ?_
    go_frame
    refine wl_loadc (by kernel_rfl) hM 0 rfl 31 _ rfl 0 rfl Try.underlying31 rfl rfl ?_
    go_frame
    refine wl_pure (by kernel_rfl) (.pointer (some ⟨g2, 5, none⟩)) (by kernel_rfl) ?_
    go_frame
    refine wl_loadc (by kernel_rfl) hM 5 rfl 2 _ rfl 5 rfl Try.underlying2 rfl rfl ?_
    go_frame
    refine wl_index (by kernel_rfl) 31 52 _ _ rfl m1 0 l.length k1 8 knc rfl rfl hknc (by omega) Try.underlying31 I_impl_Node ?_
    go_frame
    refine wl_pure (by kernel_rfl) (.pointer (some ⟨m1, 0 + knc * 8 + 5, none⟩)) (by kernel_rfl) ?_
    go_frame
    refine wl_storec (by kernel_rfl) hM 1 rfl 4 _ _ rfl rfl (0 + knc * 8 + 5) rfl (.bool true) rfl rfl rfl I_bool (node_room1 hlnc (by decide)) ?_
    clear hM; intro W9 hM; rw [node_set (j := 5) (n' := ⟨nck, ncv, ncl, ncr, nco, true, nclt, ncrt⟩) hnnc (by decide) rfl] at hM
    refine wl_nil ?_
    refine cn10 _ _ ?_
    clear cn10
    refine wl_region ?_
    refine wl_pure (by kernel_rfl) (.pointer (some ⟨g2, 0, none⟩)) (by kernel_rfl) ?_
    go_frame
    refine wl_storec (by kernel_rfl) hM 5 rfl 2 _ _ rfl rfl 0 rfl (.int .i64 12) rfl rfl rfl I_int64 (by simp [HD.cells]) ?_
    clear hM; intro W10 hM
    refine wl_nil ?_
    refine cn5 _ _ ?_
    clear cn5
    refine wp_seq_k fun Kn11 cn11 => ?_
    refine wl_region ?_
    refine wl_load (by kernel_rfl) hM 0 rfl 33 _ rfl rfl Try.underlying33 I_impl_Shared ?_
    go_frame
    refine wl_load (by kernel_rfl) hM 5 rfl 36 _ rfl rfl Try.underlying36 I_impl_Hand ?_
    go_frame
    rcases Bool.eq_false_or_eq_true ((sharedB (l.set knc ⟨nck, ncv, ncl, ncr, nco, true, nclt, ncrt⟩) c && handB ({ h with at_ := 12 }))) with hx18 | hx18
    refine wl_call (by kernel_rfl) 22 #[.agg #[.slice (some ⟨m1, 0, none⟩) l.length k1, .slice (some ⟨m2, 0, none⟩) c.length k2], .agg (HD.cells { h with at_ := 12 }).toArray] (by kernel_rfl) (spec_l7Done (.slice (some ⟨m1, 0, none⟩) l.length k1) (.slice (some ⟨m2, 0, none⟩) c.length k2) (l.set knc ⟨nck, ncv, ncl, ncr, nco, true, nclt, ncrt⟩) c ({ h with at_ := 12 }) _ (nslX (hM.blk 1 rfl) (by first | rfl | (simp; done) | (simp [liftR_len]; done)) q1 q2) (sli_blk (hM.blk 2 rfl) q3 q4) (by first | omega | (simp; omega) | (rw [liftR_len]; omega)) hc) ?_
    rintro e W11 ⟨rfl, hb⟩
    refine ⟨.tuple #[.agg #[.slice (some ⟨m1, 0, none⟩) l.length k1, .slice (some ⟨m2, 0, none⟩) c.length k2], .agg (HD.cells { h with at_ := 12 }).toArray, .bool true], congrArg Ending.returned (by simp [doneV, HD.val, hx18]), ?_⟩
    replace hM := hM.call hb
    go_frame
    refine wl_pure (by kernel_rfl) (.agg #[.slice (some ⟨m1, 0, none⟩) l.length k1, .slice (some ⟨m2, 0, none⟩) c.length k2]) (by kernel_rfl) ?_
    go_frame
    refine wl_pure (by kernel_rfl) (.agg (HD.cells { h with at_ := 12 }).toArray) (by kernel_rfl) ?_
    go_frame
    refine wl_pure (by kernel_rfl) (.bool true) (by kernel_rfl) ?_
    go_frame
    refine wl_store (by kernel_rfl) hM 4 rfl 33 _ _ rfl rfl rfl [.slice (some ⟨m1, 0, none⟩) l.length k1, .slice (some ⟨m2, 0, none⟩) c.length k2] rfl I_impl_Shared rfl rfl ?_
    clear hM; intro W12 hM
    refine wl_store (by kernel_rfl) hM 3 rfl 36 _ _ rfl rfl rfl (HD.cells { h with at_ := 12 }) rfl I_impl_Hand rfl (hd_one' _) ?_
    clear hM; intro W13 hM
    refine wl_pure (by kernel_rfl) (.bool true) (by kernel_rfl) ?_
    go_frame
    refine wl_nil ?_
    refine cn11 _ _ ?_
    clear cn11
    refine wp_ret ?_
    have hps : 0 < ((l.set knc ⟨nck, ncv, ncl, ncr, nco, true, nclt, ncrt⟩) : List ND).length := shared_pos (by assumption)
    have hR : cutR l c task h = ((l.set knc ⟨nck, ncv, ncl, ncr, nco, true, nclt, ncrt⟩), c, { h with at_ := 12 }, true) := by unfold cutR; rw [if_neg (by rw [hx11]; exact Bool.false_ne_true)]; simp [cutKid, doneR, noR, setK, withT, goneN, hok, hx12, hx13, hx16, hx18, ht, npe, tnp, nce, tnc]
    rw [hR]
    exact bodyPost_ret (ret_three (p := 6) (q := 7) (u := 8) (v := .bool true) rfl hM 4 3 rfl rfl rfl rfl rfl Try.underlying33 Try.underlying36 I_impl_Shared I_impl_Hand) rfl ⟨_, _, rfl, own_nX (hM.blk 1 rfl) (by first | rfl | (simp; done) | (simp [liftR_len]; done)) q1 q2 (hM.base 1 rfl) hps (by first | exact q5 | (simpa [cellsOf_len] using q5) | (simpa [cellsOf_len, liftR_len] using q5)), own_iblk (hM.blk 2 rfl) q3 q4 (hM.base 2 rfl) hc1 q6, hM.below⟩
    refine wl_call (by kernel_rfl) 22 #[.agg #[.slice (some ⟨m1, 0, none⟩) l.length k1, .slice (some ⟨m2, 0, none⟩) c.length k2], .agg (HD.cells { h with at_ := 12 }).toArray] (by kernel_rfl) (spec_l7Done (.slice (some ⟨m1, 0, none⟩) l.length k1) (.slice (some ⟨m2, 0, none⟩) c.length k2) (l.set knc ⟨nck, ncv, ncl, ncr, nco, true, nclt, ncrt⟩) c ({ h with at_ := 12 }) _ (nslX (hM.blk 1 rfl) (by first | rfl | (simp; done) | (simp [liftR_len]; done)) q1 q2) (sli_blk (hM.blk 2 rfl) q3 q4) (by first | omega | (simp; omega) | (rw [liftR_len]; omega)) hc) ?_
    rintro e W11 ⟨rfl, hb⟩
    refine ⟨.tuple #[.agg #[.slice none 0 0, .slice none 0 0], .agg (HD.cells HD.zero).toArray, .bool false], congrArg Ending.returned (by simp [doneV, HD.val, hx18]), ?_⟩
    replace hM := hM.call hb
    go_frame
    refine wl_pure (by kernel_rfl) (.agg #[.slice none 0 0, .slice none 0 0]) (by kernel_rfl) ?_
    go_frame
    refine wl_pure (by kernel_rfl) (.agg (HD.cells HD.zero).toArray) (by kernel_rfl) ?_
    go_frame
    refine wl_pure (by kernel_rfl) (.bool false) (by kernel_rfl) ?_
    go_frame
    refine wl_store (by kernel_rfl) hM 4 rfl 33 _ _ rfl rfl rfl [.slice none 0 0, .slice none 0 0] rfl I_impl_Shared rfl rfl ?_
    clear hM; intro W12 hM
    refine wl_store (by kernel_rfl) hM 3 rfl 36 _ _ rfl rfl rfl (HD.cells HD.zero) rfl I_impl_Hand rfl (hd_one' _) ?_
    clear hM; intro W13 hM
    refine wl_pure (by kernel_rfl) (.bool false) (by kernel_rfl) ?_
    go_frame
    refine wl_nil ?_
    refine cn11 _ _ ?_
    clear cn11
    refine wp_ret ?_
    have hR : cutR l c task h = ([], [], HD.zero, false) := by unfold cutR; rw [if_neg (by rw [hx11]; exact Bool.false_ne_true)]; simp [cutKid, doneR, noR, setK, withT, goneN, hok, hx12, hx13, hx16, hx18, ht, npe, tnp, nce, tnc]
    rw [hR]
    exact bodyPost_ret (ret_three (p := 6) (q := 7) (u := 8) (v := .bool false) rfl hM 4 3 rfl rfl rfl rfl rfl Try.underlying33 Try.underlying36 I_impl_Shared I_impl_Hand) rfl ⟨_, _, rfl, OwnR.nil _ _ _ _ _ _ _ (by simp [maxLen]), OwnR.nil _ _ _ _ _ _ _ (by simp [maxLen]), hM.below⟩
    rw [hx16]
    refine wp_cond_false rfl ?_
    refine wp_seq_k fun Kn10 cn10 => ?_
    refine wl_region ?_
    refine wl_pure (by kernel_rfl) (.bool (h.at_ == 12)) (by kernel_rfl) ?_
    go_frame
    refine wl_pure (by kernel_rfl) (.bool (h.at_ == 12)) (by kernel_rfl) ?_
    go_frame
    refine wl_nil ?_
    refine cn10 _ _ ?_
    clear cn10
    rcases Bool.eq_false_or_eq_true ((h.at_ == 12)) with hx19 | hx19
    rw [hx19]
    refine wp_cond_true rfl ?_
    refine wp_seq_k fun Kn11 cn11 => ?_
    refine wl_region ?_
    refine wl_pure (by kernel_rfl) (.pointer (some ⟨g1, 0, none⟩)) (by kernel_rfl) ?_
    go_frame
    refine wl_loadc (by kernel_rfl) hM 6 rfl 31 _ rfl 0 rfl Try.underlying31 rfl rfl ?_
    go_frame
    refine wl_pure (by kernel_rfl) (.pointer (some ⟨g2, 5, none⟩)) (by kernel_rfl) ?_
    go_frame
    refine wl_loadc (by kernel_rfl) hM 5 rfl 2 _ rfl 5 rfl Try.underlying2 rfl rfl ?_
    go_frame
    refine wl_index (by kernel_rfl) 31 52 _ _ rfl b off l.length cap 8 knc rfl rfl hknc (by omega) Try.underlying31 I_impl_Node ?_
    go_frame
    refine wl_pure (by kernel_rfl) (.pointer (some ⟨b, off + knc * 8 + 2, none⟩)) (by kernel_rfl) ?_
    go_frame
    refine wl_cell (by kernel_rfl) 2 _ rfl ⟨b, off + knc * 8 + 2, none⟩ rfl Try.underlying2 rfl (row_of hM s1 Anc 2 _ rfl) ?_
    go_frame
    refine wl_pure (by kernel_rfl) (.int .i64 ncl) (by kernel_rfl) ?_
    go_frame
    refine wl_nil ?_
    refine cn11 _ _ ?_
    clear cn11
    refine wp_seq_k fun Kn12 cn12 => ?_
    refine wp_seq_k fun Kn13 cn13 => ?_
    refine wl_region ?_
    refine wl_pure (by kernel_rfl) (.int .i64 ncl) (by kernel_rfl) ?_
    go_frame
    refine wl_pure (by kernel_rfl) (.bool (ncl == 0)) (by kernel_rfl) ?_
    go_frame
    refine wl_nil ?_
    refine cn13 _ _ ?_
    clear cn13
    rcases Bool.eq_false_or_eq_true ((ncl == 0)) with hx20 | hx20
    rw [hx20]
    refine wp_cond_true rfl ?_
    refine wl_region ?_
    refine wl_pure (by kernel_rfl) (.pointer (some ⟨g1, 0, none⟩)) (by kernel_rfl) ?_
    go_frame
    refine wl_loadc (by kernel_rfl) hM 6 rfl 31 _ rfl 0 rfl Try.underlying31 rfl rfl ?_
    go_frame
    refine wl_pure (by kernel_rfl) (.pointer (some ⟨g2, 5, none⟩)) (by kernel_rfl) ?_
    go_frame
    refine wl_loadc (by kernel_rfl) hM 5 rfl 2 _ rfl 5 rfl Try.underlying2 rfl rfl ?_
    go_frame
    refine wl_index (by kernel_rfl) 31 52 _ _ rfl b off l.length cap 8 knc rfl rfl hknc (by omega) Try.underlying31 I_impl_Node ?_
    go_frame
    refine wl_pure (by kernel_rfl) (.pointer (some ⟨b, off + knc * 8 + 3, none⟩)) (by kernel_rfl) ?_
    go_frame
    refine wl_cell (by kernel_rfl) 2 _ rfl ⟨b, off + knc * 8 + 3, none⟩ rfl Try.underlying2 rfl (row_of hM s1 Anc 3 _ rfl) ?_
    go_frame
    refine wl_pure (by kernel_rfl) (.int .i64 ncr) (by kernel_rfl) ?_
    go_frame
    refine wl_nil ?_
    refine cn12 _ _ ?_
    clear cn12
    refine wp_seq_k fun Kn14 cn14 => ?_
    refine wl_region ?_
    refine wl_load (by kernel_rfl) hM 0 rfl 33 _ rfl rfl Try.underlying33 I_impl_Shared ?_
    go_frame
    refine wl_pure (by kernel_rfl) (.pointer (some ⟨g2, 4, none⟩)) (by kernel_rfl) ?_
    go_frame
    refine wl_loadc (by kernel_rfl) hM 5 rfl 2 _ rfl 4 rfl Try.underlying2 rfl rfl ?_
    go_frame
    refine wl_pure (by kernel_rfl) (.pointer (some ⟨g2, 6, none⟩)) (by kernel_rfl) ?_
    go_frame
    refine wl_loadc (by kernel_rfl) hM 5 rfl 2 _ rfl 6 rfl Try.underlying2 rfl rfl ?_
    go_frame
    refine wl_pure (by kernel_rfl) (.int .i64 ncr) (by kernel_rfl) ?_
    go_frame
    replace hM := hM.pull 1 rfl
    refine wl_call (by kernel_rfl) 19 #[.agg #[.slice (some ⟨m1, 0, none⟩) l.length k1, .slice (some ⟨m2, 0, none⟩) c.length k2], .int .i64 h.prev, .int .i64 h.side, .int .i64 ncr] (by kernel_rfl) (spec_l9Lift l h.prev h.side ncr m1 k1 p1 _ _ _ _ _ _ hM q1 q2 q5 qnp) ?_
    rintro e W9 ⟨ga'1, ka'2, pa'3, rfl, ⟨qa'4, qb'5, qe'6⟩, hM2⟩
    refine ⟨_, rfl, ?_⟩
    clear hM; have hM := hM2; clear hM2
    replace hM : Mem w0 W9 [(ga'1, 52, (cellsOf ((liftR l h.prev h.side ncr).1) ++ pa'3)), (g5, 33, [.slice (some ⟨m1, 0, none⟩) l.length k1, .slice (some ⟨m2, 0, none⟩) c.length k2]), (m2, 2, (cellsI c ++ p2)), (g4, 36, (HD.cells HD.zero)), (g3, 33, [.slice none 0 0, .slice none 0 0]), (g2, 36, (HD.cells h)), (g1, 33, [.slice (some ⟨b, off, none⟩) l.length cap, .slice (some ⟨b2, off2, none⟩) c.length cap2])] := hM
    go_frame
    refine wl_pure (by kernel_rfl) (.tuple #[.agg #[.slice (some ⟨ga'1, 0, none⟩) ((liftR l h.prev h.side ncr).1.length) ka'2, .slice (some ⟨m2, 0, none⟩) c.length k2], .bool ((liftR l h.prev h.side ncr).2)]) (by kernel_rfl) ?_
    go_frame
    refine wl_pure (by kernel_rfl) (.agg #[.slice (some ⟨ga'1, 0, none⟩) ((liftR l h.prev h.side ncr).1.length) ka'2, .slice (some ⟨m2, 0, none⟩) c.length k2]) (by kernel_rfl) ?_
    go_frame
    refine wl_pure (by kernel_rfl) (.bool ((liftR l h.prev h.side ncr).2)) (by kernel_rfl) ?_
    go_frame
    refine wl_alloc (by kernel_rfl) hM 33 rfl [.slice none 0 0, .slice none 0 0] Z_impl_Shared ?_
    clear hM; intro g6 W10 hM
    go_frame
    refine wl_store (by kernel_rfl) hM 0 rfl 33 _ _ rfl rfl rfl [.slice (some ⟨ga'1, 0, none⟩) ((liftR l h.prev h.side ncr).1.length) ka'2, .slice (some ⟨m2, 0, none⟩) c.length k2] rfl I_impl_Shared rfl rfl ?_
    clear hM; intro W11 hM
    refine wl_pure (by kernel_rfl) (.bool ((liftR l h.prev h.side ncr).2)) (by kernel_rfl) ?_
    go_frame
    refine wl_nil ?_
    refine cn14 _ _ ?_
    clear cn14
    refine wp_seq_k fun Kn15 cn15 => ?_
    refine wl_region ?_
    refine wl_load (by kernel_rfl) hM 0 rfl 33 _ rfl rfl Try.underlying33 I_impl_Shared ?_
    go_frame
    refine wl_store (by kernel_rfl) hM 2 rfl 33 _ _ rfl rfl rfl [.slice (some ⟨ga'1, 0, none⟩) ((liftR l h.prev h.side ncr).1.length) ka'2, .slice (some ⟨m2, 0, none⟩) c.length k2] rfl I_impl_Shared rfl rfl ?_
    clear hM; intro W12 hM
    refine wl_nil ?_
    refine cn15 _ _ ?_
    clear cn15
    refine wp_seq_k fun Kn16 cn16 => ?_
    refine wl_region ?_
    refine wl_pure (by kernel_rfl) (.bool ((liftR l h.prev h.side ncr).2)) (by kernel_rfl) ?_
    go_frame
    refine wl_nil ?_
    refine cn16 _ _ ?_
    clear cn16
    rcases Bool.eq_false_or_eq_true ((liftR l h.prev h.side ncr).2) with hx21 | hx21
    rw [hx21]
    refine wp_cond_true rfl ?_
    refine wl_region ?_
    refine wl_pure (by kernel_rfl) (.pointer (some ⟨g2, 0, none⟩)) (by kernel_rfl) ?_
    go_frame
    refine wl_storec (by kernel_rfl) hM 6 rfl 2 _ _ rfl rfl 0 rfl (.int .i64 13) rfl rfl rfl I_int64 (by simp [HD.cells]) ?_
    clear hM; intro W13 hM
    refine wl_nil ?_
    refine cn5 _ _ ?_
    clear cn5
    refine wp_seq_k fun Kn17 cn17 => ?_
    refine wl_region ?_
    refine wl_load (by kernel_rfl) hM 2 rfl 33 _ rfl rfl Try.underlying33 I_impl_Shared ?_
    go_frame
    refine wl_load (by kernel_rfl) hM 6 rfl 36 _ rfl rfl Try.underlying36 I_impl_Hand ?_
    go_frame
    rcases Bool.eq_false_or_eq_true ((sharedB ((liftR l h.prev h.side ncr).1) c && handB ({ h with at_ := 13 }))) with hx23 | hx23
    refine wl_call (by kernel_rfl) 22 #[.agg #[.slice (some ⟨ga'1, 0, none⟩) ((liftR l h.prev h.side ncr).1.length) ka'2, .slice (some ⟨m2, 0, none⟩) c.length k2], .agg (HD.cells { h with at_ := 13 }).toArray] (by kernel_rfl) (spec_l7Done (.slice (some ⟨ga'1, 0, none⟩) ((liftR l h.prev h.side ncr).1.length) ka'2) (.slice (some ⟨m2, 0, none⟩) c.length k2) ((liftR l h.prev h.side ncr).1) c ({ h with at_ := 13 }) _ (nslX (hM.blk 1 rfl) (by first | rfl | (simp; done) | (simp [liftR_len]; done)) qa'4 qb'5) (sli_blk (hM.blk 3 rfl) q3 q4) (by first | omega | (simp; omega) | (rw [liftR_len]; omega)) hc) ?_
    rintro e W14 ⟨rfl, hb⟩
    refine ⟨.tuple #[.agg #[.slice (some ⟨ga'1, 0, none⟩) ((liftR l h.prev h.side ncr).1.length) ka'2, .slice (some ⟨m2, 0, none⟩) c.length k2], .agg (HD.cells { h with at_ := 13 }).toArray, .bool true], congrArg Ending.returned (by simp [doneV, HD.val, hx23]), ?_⟩
    replace hM := hM.call hb
    go_frame
    refine wl_pure (by kernel_rfl) (.agg #[.slice (some ⟨ga'1, 0, none⟩) ((liftR l h.prev h.side ncr).1.length) ka'2, .slice (some ⟨m2, 0, none⟩) c.length k2]) (by kernel_rfl) ?_
    go_frame
    refine wl_pure (by kernel_rfl) (.agg (HD.cells { h with at_ := 13 }).toArray) (by kernel_rfl) ?_
    go_frame
    refine wl_pure (by kernel_rfl) (.bool true) (by kernel_rfl) ?_
    go_frame
    refine wl_store (by kernel_rfl) hM 5 rfl 33 _ _ rfl rfl rfl [.slice (some ⟨ga'1, 0, none⟩) ((liftR l h.prev h.side ncr).1.length) ka'2, .slice (some ⟨m2, 0, none⟩) c.length k2] rfl I_impl_Shared rfl rfl ?_
    clear hM; intro W15 hM
    refine wl_store (by kernel_rfl) hM 4 rfl 36 _ _ rfl rfl rfl (HD.cells { h with at_ := 13 }) rfl I_impl_Hand rfl (hd_one' _) ?_
    clear hM; intro W16 hM
    refine wl_pure (by kernel_rfl) (.bool true) (by kernel_rfl) ?_
    go_frame
    refine wl_nil ?_
    refine cn17 _ _ ?_
    clear cn17
    refine wp_ret ?_
    have hps : 0 < ((liftR l h.prev h.side ncr).1 : List ND).length := shared_pos (by assumption)
    have hR : cutR l c task h = ((liftR l h.prev h.side ncr).1, c, { h with at_ := 13 }, true) := by unfold cutR; rw [if_neg (by rw [hx11]; exact Bool.false_ne_true)]; simp [cutKid, doneR, noR, setK, withT, goneN, hok, hx12, hx13, hx16, hx19, hx20, hx21, hx23, ht, npe, tnp, nce, tnc]
    rw [hR]
    exact bodyPost_ret (ret_three (p := 6) (q := 7) (u := 8) (v := .bool true) rfl hM 5 4 rfl rfl rfl rfl rfl Try.underlying33 Try.underlying36 I_impl_Shared I_impl_Hand) rfl ⟨_, _, rfl, own_nX (hM.blk 1 rfl) (by first | rfl | (simp; done) | (simp [liftR_len]; done)) qa'4 qb'5 (hM.base 1 rfl) hps (by first | exact qe'6 | (simpa [cellsOf_len] using qe'6) | (simpa [cellsOf_len, liftR_len] using qe'6)), own_iblk (hM.blk 3 rfl) q3 q4 (hM.base 3 rfl) hc1 q6, hM.below⟩
    refine wl_call (by kernel_rfl) 22 #[.agg #[.slice (some ⟨ga'1, 0, none⟩) ((liftR l h.prev h.side ncr).1.length) ka'2, .slice (some ⟨m2, 0, none⟩) c.length k2], .agg (HD.cells { h with at_ := 13 }).toArray] (by kernel_rfl) (spec_l7Done (.slice (some ⟨ga'1, 0, none⟩) ((liftR l h.prev h.side ncr).1.length) ka'2) (.slice (some ⟨m2, 0, none⟩) c.length k2) ((liftR l h.prev h.side ncr).1) c ({ h with at_ := 13 }) _ (nslX (hM.blk 1 rfl) (by first | rfl | (simp; done) | (simp [liftR_len]; done)) qa'4 qb'5) (sli_blk (hM.blk 3 rfl) q3 q4) (by first | omega | (simp; omega) | (rw [liftR_len]; omega)) hc) ?_
    rintro e W14 ⟨rfl, hb⟩
    refine ⟨.tuple #[.agg #[.slice none 0 0, .slice none 0 0], .agg (HD.cells HD.zero).toArray, .bool false], congrArg Ending.returned (by simp [doneV, HD.val, hx23]), ?_⟩
    replace hM := hM.call hb
    go_frame
    refine wl_pure (by kernel_rfl) (.agg #[.slice none 0 0, .slice none 0 0]) (by kernel_rfl) ?_
    go_frame
    refine wl_pure (by kernel_rfl) (.agg (HD.cells HD.zero).toArray) (by kernel_rfl) ?_
    go_frame
    refine wl_pure (by kernel_rfl) (.bool false) (by kernel_rfl) ?_
    go_frame
    refine wl_store (by kernel_rfl) hM 5 rfl 33 _ _ rfl rfl rfl [.slice none 0 0, .slice none 0 0] rfl I_impl_Shared rfl rfl ?_
    clear hM; intro W15 hM
    refine wl_store (by kernel_rfl) hM 4 rfl 36 _ _ rfl rfl rfl (HD.cells HD.zero) rfl I_impl_Hand rfl (hd_one' _) ?_
    clear hM; intro W16 hM
    refine wl_pure (by kernel_rfl) (.bool false) (by kernel_rfl) ?_
    go_frame
    refine wl_nil ?_
    refine cn17 _ _ ?_
    clear cn17
    refine wp_ret ?_
    have hR : cutR l c task h = ([], [], HD.zero, false) := by unfold cutR; rw [if_neg (by rw [hx11]; exact Bool.false_ne_true)]; simp [cutKid, doneR, noR, setK, withT, goneN, hok, hx12, hx13, hx16, hx19, hx20, hx21, hx23, ht, npe, tnp, nce, tnc]
    rw [hR]
    exact bodyPost_ret (ret_three (p := 6) (q := 7) (u := 8) (v := .bool false) rfl hM 5 4 rfl rfl rfl rfl rfl Try.underlying33 Try.underlying36 I_impl_Shared I_impl_Hand) rfl ⟨_, _, rfl, OwnR.nil _ _ _ _ _ _ _ (by simp [maxLen]), OwnR.nil _ _ _ _ _ _ _ (by simp [maxLen]), hM.below⟩
    rw [hx21]
    refine wp_cond_false rfl ?_
    refine wl_region ?_
    refine wl_load (by kernel_rfl) hM 6 rfl 36 _ rfl rfl Try.underlying36 I_impl_Hand ?_
    go_frame
    refine wl_call (by kernel_rfl) 20 #[.agg (HD.cells h).toArray, .int .i64 1] (by kernel_rfl) (spec_l8End h 1 _) ?_
    rintro e W13 ⟨rfl, hb⟩
    refine ⟨_, rfl, ?_⟩
    replace hM := hM.call hb
    go_frame
    refine wl_store (by kernel_rfl) hM 6 rfl 36 _ _ rfl rfl rfl (HD.cells (endH h 1)) rfl I_impl_Hand rfl (hd_one' _) ?_
    clear hM; intro W14 hM
    refine wl_nil ?_
    refine cn5 _ _ ?_
    clear cn5
    refine wp_seq_k fun Kn17 cn17 => ?_
    refine wl_region ?_
    refine wl_load (by kernel_rfl) hM 2 rfl 33 _ rfl rfl Try.underlying33 I_impl_Shared ?_
    go_frame
    refine wl_load (by kernel_rfl) hM 6 rfl 36 _ rfl rfl Try.underlying36 I_impl_Hand ?_
    go_frame
    rcases Bool.eq_false_or_eq_true ((sharedB ((liftR l h.prev h.side ncr).1) c && handB (endH h 1))) with hx25 | hx25
    refine wl_call (by kernel_rfl) 22 #[.agg #[.slice (some ⟨ga'1, 0, none⟩) ((liftR l h.prev h.side ncr).1.length) ka'2, .slice (some ⟨m2, 0, none⟩) c.length k2], .agg (HD.cells (endH h 1)).toArray] (by kernel_rfl) (spec_l7Done (.slice (some ⟨ga'1, 0, none⟩) ((liftR l h.prev h.side ncr).1.length) ka'2) (.slice (some ⟨m2, 0, none⟩) c.length k2) ((liftR l h.prev h.side ncr).1) c (endH h 1) _ (nslX (hM.blk 1 rfl) (by first | rfl | (simp; done) | (simp [liftR_len]; done)) qa'4 qb'5) (sli_blk (hM.blk 3 rfl) q3 q4) (by first | omega | (simp; omega) | (rw [liftR_len]; omega)) hc) ?_
    rintro e W15 ⟨rfl, hb⟩
    refine ⟨.tuple #[.agg #[.slice (some ⟨ga'1, 0, none⟩) ((liftR l h.prev h.side ncr).1.length) ka'2, .slice (some ⟨m2, 0, none⟩) c.length k2], .agg (HD.cells (endH h 1)).toArray, .bool true], congrArg Ending.returned (by simp [doneV, HD.val, hx25]), ?_⟩
    replace hM := hM.call hb
    go_frame
    refine wl_pure (by kernel_rfl) (.agg #[.slice (some ⟨ga'1, 0, none⟩) ((liftR l h.prev h.side ncr).1.length) ka'2, .slice (some ⟨m2, 0, none⟩) c.length k2]) (by kernel_rfl) ?_
    go_frame
    refine wl_pure (by kernel_rfl) (.agg (HD.cells (endH h 1)).toArray) (by kernel_rfl) ?_
    go_frame
    refine wl_pure (by kernel_rfl) (.bool true) (by kernel_rfl) ?_
    go_frame
    refine wl_store (by kernel_rfl) hM 5 rfl 33 _ _ rfl rfl rfl [.slice (some ⟨ga'1, 0, none⟩) ((liftR l h.prev h.side ncr).1.length) ka'2, .slice (some ⟨m2, 0, none⟩) c.length k2] rfl I_impl_Shared rfl rfl ?_
    clear hM; intro W16 hM
    refine wl_store (by kernel_rfl) hM 4 rfl 36 _ _ rfl rfl rfl (HD.cells (endH h 1)) rfl I_impl_Hand rfl (hd_one' _) ?_
    clear hM; intro W17 hM
    refine wl_pure (by kernel_rfl) (.bool true) (by kernel_rfl) ?_
    go_frame
    refine wl_nil ?_
    refine cn17 _ _ ?_
    clear cn17
    refine wp_ret ?_
    have hps : 0 < ((liftR l h.prev h.side ncr).1 : List ND).length := shared_pos (by assumption)
    have hR : cutR l c task h = ((liftR l h.prev h.side ncr).1, c, (endH h 1), true) := by unfold cutR; rw [if_neg (by rw [hx11]; exact Bool.false_ne_true)]; simp [cutKid, doneR, noR, setK, withT, goneN, hok, hx12, hx13, hx16, hx19, hx20, hx21, hx25, ht, npe, tnp, nce, tnc]
    rw [hR]
    exact bodyPost_ret (ret_three (p := 6) (q := 7) (u := 8) (v := .bool true) rfl hM 5 4 rfl rfl rfl rfl rfl Try.underlying33 Try.underlying36 I_impl_Shared I_impl_Hand) rfl ⟨_, _, rfl, own_nX (hM.blk 1 rfl) (by first | rfl | (simp; done) | (simp [liftR_len]; done)) qa'4 qb'5 (hM.base 1 rfl) hps (by first | exact qe'6 | (simpa [cellsOf_len] using qe'6) | (simpa [cellsOf_len, liftR_len] using qe'6)), own_iblk (hM.blk 3 rfl) q3 q4 (hM.base 3 rfl) hc1 q6, hM.below⟩
    refine wl_call (by kernel_rfl) 22 #[.agg #[.slice (some ⟨ga'1, 0, none⟩) ((liftR l h.prev h.side ncr).1.length) ka'2, .slice (some ⟨m2, 0, none⟩) c.length k2], .agg (HD.cells (endH h 1)).toArray] (by kernel_rfl) (spec_l7Done (.slice (some ⟨ga'1, 0, none⟩) ((liftR l h.prev h.side ncr).1.length) ka'2) (.slice (some ⟨m2, 0, none⟩) c.length k2) ((liftR l h.prev h.side ncr).1) c (endH h 1) _ (nslX (hM.blk 1 rfl) (by first | rfl | (simp; done) | (simp [liftR_len]; done)) qa'4 qb'5) (sli_blk (hM.blk 3 rfl) q3 q4) (by first | omega | (simp; omega) | (rw [liftR_len]; omega)) hc) ?_
    rintro e W15 ⟨rfl, hb⟩
    refine ⟨.tuple #[.agg #[.slice none 0 0, .slice none 0 0], .agg (HD.cells HD.zero).toArray, .bool false], congrArg Ending.returned (by simp [doneV, HD.val, hx25]), ?_⟩
    replace hM := hM.call hb
    go_frame
    refine wl_pure (by kernel_rfl) (.agg #[.slice none 0 0, .slice none 0 0]) (by kernel_rfl) ?_
    go_frame
    refine wl_pure (by kernel_rfl) (.agg (HD.cells HD.zero).toArray) (by kernel_rfl) ?_
    go_frame
    refine wl_pure (by kernel_rfl) (.bool false) (by kernel_rfl) ?_
    go_frame
    refine wl_store (by kernel_rfl) hM 5 rfl 33 _ _ rfl rfl rfl [.slice none 0 0, .slice none 0 0] rfl I_impl_Shared rfl rfl ?_
    clear hM; intro W16 hM
    refine wl_store (by kernel_rfl) hM 4 rfl 36 _ _ rfl rfl rfl (HD.cells HD.zero) rfl I_impl_Hand rfl (hd_one' _) ?_
    clear hM; intro W17 hM
    refine wl_pure (by kernel_rfl) (.bool false) (by kernel_rfl) ?_
    go_frame
    refine wl_nil ?_
    refine cn17 _ _ ?_
    clear cn17
    refine wp_ret ?_
    have hR : cutR l c task h = ([], [], HD.zero, false) := by unfold cutR; rw [if_neg (by rw [hx11]; exact Bool.false_ne_true)]; simp [cutKid, doneR, noR, setK, withT, goneN, hok, hx12, hx13, hx16, hx19, hx20, hx21, hx25, ht, npe, tnp, nce, tnc]
    rw [hR]
    exact bodyPost_ret (ret_three (p := 6) (q := 7) (u := 8) (v := .bool false) rfl hM 5 4 rfl rfl rfl rfl rfl Try.underlying33 Try.underlying36 I_impl_Shared I_impl_Hand) rfl ⟨_, _, rfl, OwnR.nil _ _ _ _ _ _ _ (by simp [maxLen]), OwnR.nil _ _ _ _ _ _ _ (by simp [maxLen]), hM.below⟩
    rw [hx20]
    refine wp_cond_false rfl ?_
    refine wp_skip ?_
    refine cn12 _ _ ?_
    clear cn12
    refine wp_seq_k fun Kn14 cn14 => ?_
    refine wl_region ?_
    refine wl_load (by kernel_rfl) hM 0 rfl 33 _ rfl rfl Try.underlying33 I_impl_Shared ?_
    go_frame
    refine wl_pure (by kernel_rfl) (.pointer (some ⟨g2, 4, none⟩)) (by kernel_rfl) ?_
    go_frame
    refine wl_loadc (by kernel_rfl) hM 5 rfl 2 _ rfl 4 rfl Try.underlying2 rfl rfl ?_
    go_frame
    refine wl_pure (by kernel_rfl) (.pointer (some ⟨g2, 6, none⟩)) (by kernel_rfl) ?_
    go_frame
    refine wl_loadc (by kernel_rfl) hM 5 rfl 2 _ rfl 6 rfl Try.underlying2 rfl rfl ?_
    go_frame
    refine wl_pure (by kernel_rfl) (.int .i64 ncl) (by kernel_rfl) ?_
    go_frame
    replace hM := hM.pull 1 rfl
    refine wl_call (by kernel_rfl) 19 #[.agg #[.slice (some ⟨m1, 0, none⟩) l.length k1, .slice (some ⟨m2, 0, none⟩) c.length k2], .int .i64 h.prev, .int .i64 h.side, .int .i64 ncl] (by kernel_rfl) (spec_l9Lift l h.prev h.side ncl m1 k1 p1 _ _ _ _ _ _ hM q1 q2 q5 qnp) ?_
    rintro e W9 ⟨ga'1, ka'2, pa'3, rfl, ⟨qa'4, qb'5, qe'6⟩, hM2⟩
    refine ⟨_, rfl, ?_⟩
    clear hM; have hM := hM2; clear hM2
    replace hM : Mem w0 W9 [(ga'1, 52, (cellsOf ((liftR l h.prev h.side ncl).1) ++ pa'3)), (g5, 33, [.slice (some ⟨m1, 0, none⟩) l.length k1, .slice (some ⟨m2, 0, none⟩) c.length k2]), (m2, 2, (cellsI c ++ p2)), (g4, 36, (HD.cells HD.zero)), (g3, 33, [.slice none 0 0, .slice none 0 0]), (g2, 36, (HD.cells h)), (g1, 33, [.slice (some ⟨b, off, none⟩) l.length cap, .slice (some ⟨b2, off2, none⟩) c.length cap2])] := hM
    go_frame
    refine wl_pure (by kernel_rfl) (.tuple #[.agg #[.slice (some ⟨ga'1, 0, none⟩) ((liftR l h.prev h.side ncl).1.length) ka'2, .slice (some ⟨m2, 0, none⟩) c.length k2], .bool ((liftR l h.prev h.side ncl).2)]) (by kernel_rfl) ?_
    go_frame
    refine wl_pure (by kernel_rfl) (.agg #[.slice (some ⟨ga'1, 0, none⟩) ((liftR l h.prev h.side ncl).1.length) ka'2, .slice (some ⟨m2, 0, none⟩) c.length k2]) (by kernel_rfl) ?_
    go_frame
    refine wl_pure (by kernel_rfl) (.bool ((liftR l h.prev h.side ncl).2)) (by kernel_rfl) ?_
    go_frame
    refine wl_alloc (by kernel_rfl) hM 33 rfl [.slice none 0 0, .slice none 0 0] Z_impl_Shared ?_
    clear hM; intro g6 W10 hM
    go_frame
    refine wl_store (by kernel_rfl) hM 0 rfl 33 _ _ rfl rfl rfl [.slice (some ⟨ga'1, 0, none⟩) ((liftR l h.prev h.side ncl).1.length) ka'2, .slice (some ⟨m2, 0, none⟩) c.length k2] rfl I_impl_Shared rfl rfl ?_
    clear hM; intro W11 hM
    refine wl_pure (by kernel_rfl) (.bool ((liftR l h.prev h.side ncl).2)) (by kernel_rfl) ?_
    go_frame
    refine wl_nil ?_
    refine cn14 _ _ ?_
    clear cn14
    refine wp_seq_k fun Kn15 cn15 => ?_
    refine wl_region ?_
    refine wl_load (by kernel_rfl) hM 0 rfl 33 _ rfl rfl Try.underlying33 I_impl_Shared ?_
    go_frame
    refine wl_store (by kernel_rfl) hM 2 rfl 33 _ _ rfl rfl rfl [.slice (some ⟨ga'1, 0, none⟩) ((liftR l h.prev h.side ncl).1.length) ka'2, .slice (some ⟨m2, 0, none⟩) c.length k2] rfl I_impl_Shared rfl rfl ?_
    clear hM; intro W12 hM
    refine wl_nil ?_
    refine cn15 _ _ ?_
    clear cn15
    refine wp_seq_k fun Kn16 cn16 => ?_
    refine wl_region ?_
    refine wl_pure (by kernel_rfl) (.bool ((liftR l h.prev h.side ncl).2)) (by kernel_rfl) ?_
    go_frame
    refine wl_nil ?_
    refine cn16 _ _ ?_
    clear cn16
    rcases Bool.eq_false_or_eq_true ((liftR l h.prev h.side ncl).2) with hx26 | hx26
    rw [hx26]
    refine wp_cond_true rfl ?_
    refine wl_region ?_
    refine wl_pure (by kernel_rfl) (.pointer (some ⟨g2, 0, none⟩)) (by kernel_rfl) ?_
    go_frame
    refine wl_storec (by kernel_rfl) hM 6 rfl 2 _ _ rfl rfl 0 rfl (.int .i64 13) rfl rfl rfl I_int64 (by simp [HD.cells]) ?_
    clear hM; intro W13 hM
    refine wl_nil ?_
    refine cn5 _ _ ?_
    clear cn5
    refine wp_seq_k fun Kn17 cn17 => ?_
    refine wl_region ?_
    refine wl_load (by kernel_rfl) hM 2 rfl 33 _ rfl rfl Try.underlying33 I_impl_Shared ?_
    go_frame
    refine wl_load (by kernel_rfl) hM 6 rfl 36 _ rfl rfl Try.underlying36 I_impl_Hand ?_
    go_frame
    rcases Bool.eq_false_or_eq_true ((sharedB ((liftR l h.prev h.side ncl).1) c && handB ({ h with at_ := 13 }))) with hx28 | hx28
    refine wl_call (by kernel_rfl) 22 #[.agg #[.slice (some ⟨ga'1, 0, none⟩) ((liftR l h.prev h.side ncl).1.length) ka'2, .slice (some ⟨m2, 0, none⟩) c.length k2], .agg (HD.cells { h with at_ := 13 }).toArray] (by kernel_rfl) (spec_l7Done (.slice (some ⟨ga'1, 0, none⟩) ((liftR l h.prev h.side ncl).1.length) ka'2) (.slice (some ⟨m2, 0, none⟩) c.length k2) ((liftR l h.prev h.side ncl).1) c ({ h with at_ := 13 }) _ (nslX (hM.blk 1 rfl) (by first | rfl | (simp; done) | (simp [liftR_len]; done)) qa'4 qb'5) (sli_blk (hM.blk 3 rfl) q3 q4) (by first | omega | (simp; omega) | (rw [liftR_len]; omega)) hc) ?_
    rintro e W14 ⟨rfl, hb⟩
    refine ⟨.tuple #[.agg #[.slice (some ⟨ga'1, 0, none⟩) ((liftR l h.prev h.side ncl).1.length) ka'2, .slice (some ⟨m2, 0, none⟩) c.length k2], .agg (HD.cells { h with at_ := 13 }).toArray, .bool true], congrArg Ending.returned (by simp [doneV, HD.val, hx28]), ?_⟩
    replace hM := hM.call hb
    go_frame
    refine wl_pure (by kernel_rfl) (.agg #[.slice (some ⟨ga'1, 0, none⟩) ((liftR l h.prev h.side ncl).1.length) ka'2, .slice (some ⟨m2, 0, none⟩) c.length k2]) (by kernel_rfl) ?_
    go_frame
    refine wl_pure (by kernel_rfl) (.agg (HD.cells { h with at_ := 13 }).toArray) (by kernel_rfl) ?_
    go_frame
    refine wl_pure (by kernel_rfl) (.bool true) (by kernel_rfl) ?_
    go_frame
    refine wl_store (by kernel_rfl) hM 5 rfl 33 _ _ rfl rfl rfl [.slice (some ⟨ga'1, 0, none⟩) ((liftR l h.prev h.side ncl).1.length) ka'2, .slice (some ⟨m2, 0, none⟩) c.length k2] rfl I_impl_Shared rfl rfl ?_
    clear hM; intro W15 hM
    refine wl_store (by kernel_rfl) hM 4 rfl 36 _ _ rfl rfl rfl (HD.cells { h with at_ := 13 }) rfl I_impl_Hand rfl (hd_one' _) ?_
    clear hM; intro W16 hM
    refine wl_pure (by kernel_rfl) (.bool true) (by kernel_rfl) ?_
    go_frame
    refine wl_nil ?_
    refine cn17 _ _ ?_
    clear cn17
    refine wp_ret ?_
    have hps : 0 < ((liftR l h.prev h.side ncl).1 : List ND).length := shared_pos (by assumption)
    have hR : cutR l c task h = ((liftR l h.prev h.side ncl).1, c, { h with at_ := 13 }, true) := by unfold cutR; rw [if_neg (by rw [hx11]; exact Bool.false_ne_true)]; simp [cutKid, doneR, noR, setK, withT, goneN, hok, hx12, hx13, hx16, hx19, hx20, hx26, hx28, ht, npe, tnp, nce, tnc]
    rw [hR]
    exact bodyPost_ret (ret_three (p := 6) (q := 7) (u := 8) (v := .bool true) rfl hM 5 4 rfl rfl rfl rfl rfl Try.underlying33 Try.underlying36 I_impl_Shared I_impl_Hand) rfl ⟨_, _, rfl, own_nX (hM.blk 1 rfl) (by first | rfl | (simp; done) | (simp [liftR_len]; done)) qa'4 qb'5 (hM.base 1 rfl) hps (by first | exact qe'6 | (simpa [cellsOf_len] using qe'6) | (simpa [cellsOf_len, liftR_len] using qe'6)), own_iblk (hM.blk 3 rfl) q3 q4 (hM.base 3 rfl) hc1 q6, hM.below⟩
    refine wl_call (by kernel_rfl) 22 #[.agg #[.slice (some ⟨ga'1, 0, none⟩) ((liftR l h.prev h.side ncl).1.length) ka'2, .slice (some ⟨m2, 0, none⟩) c.length k2], .agg (HD.cells { h with at_ := 13 }).toArray] (by kernel_rfl) (spec_l7Done (.slice (some ⟨ga'1, 0, none⟩) ((liftR l h.prev h.side ncl).1.length) ka'2) (.slice (some ⟨m2, 0, none⟩) c.length k2) ((liftR l h.prev h.side ncl).1) c ({ h with at_ := 13 }) _ (nslX (hM.blk 1 rfl) (by first | rfl | (simp; done) | (simp [liftR_len]; done)) qa'4 qb'5) (sli_blk (hM.blk 3 rfl) q3 q4) (by first | omega | (simp; omega) | (rw [liftR_len]; omega)) hc) ?_
    rintro e W14 ⟨rfl, hb⟩
    refine ⟨.tuple #[.agg #[.slice none 0 0, .slice none 0 0], .agg (HD.cells HD.zero).toArray, .bool false], congrArg Ending.returned (by simp [doneV, HD.val, hx28]), ?_⟩
    replace hM := hM.call hb
    go_frame
    refine wl_pure (by kernel_rfl) (.agg #[.slice none 0 0, .slice none 0 0]) (by kernel_rfl) ?_
    go_frame
    refine wl_pure (by kernel_rfl) (.agg (HD.cells HD.zero).toArray) (by kernel_rfl) ?_
    go_frame
    refine wl_pure (by kernel_rfl) (.bool false) (by kernel_rfl) ?_
    go_frame
    refine wl_store (by kernel_rfl) hM 5 rfl 33 _ _ rfl rfl rfl [.slice none 0 0, .slice none 0 0] rfl I_impl_Shared rfl rfl ?_
    clear hM; intro W15 hM
    refine wl_store (by kernel_rfl) hM 4 rfl 36 _ _ rfl rfl rfl (HD.cells HD.zero) rfl I_impl_Hand rfl (hd_one' _) ?_
    clear hM; intro W16 hM
    refine wl_pure (by kernel_rfl) (.bool false) (by kernel_rfl) ?_
    go_frame
    refine wl_nil ?_
    refine cn17 _ _ ?_
    clear cn17
    refine wp_ret ?_
    have hR : cutR l c task h = ([], [], HD.zero, false) := by unfold cutR; rw [if_neg (by rw [hx11]; exact Bool.false_ne_true)]; simp [cutKid, doneR, noR, setK, withT, goneN, hok, hx12, hx13, hx16, hx19, hx20, hx26, hx28, ht, npe, tnp, nce, tnc]
    rw [hR]
    exact bodyPost_ret (ret_three (p := 6) (q := 7) (u := 8) (v := .bool false) rfl hM 5 4 rfl rfl rfl rfl rfl Try.underlying33 Try.underlying36 I_impl_Shared I_impl_Hand) rfl ⟨_, _, rfl, OwnR.nil _ _ _ _ _ _ _ (by simp [maxLen]), OwnR.nil _ _ _ _ _ _ _ (by simp [maxLen]), hM.below⟩
    rw [hx26]
    refine wp_cond_false rfl ?_
    refine wl_region ?_
    refine wl_load (by kernel_rfl) hM 6 rfl 36 _ rfl rfl Try.underlying36 I_impl_Hand ?_
    go_frame
    refine wl_call (by kernel_rfl) 20 #[.agg (HD.cells h).toArray, .int .i64 1] (by kernel_rfl) (spec_l8End h 1 _) ?_
    rintro e W13 ⟨rfl, hb⟩
    refine ⟨_, rfl, ?_⟩
    replace hM := hM.call hb
    go_frame
    refine wl_store (by kernel_rfl) hM 6 rfl 36 _ _ rfl rfl rfl (HD.cells (endH h 1)) rfl I_impl_Hand rfl (hd_one' _) ?_
    clear hM; intro W14 hM
    refine wl_nil ?_
    refine cn5 _ _ ?_
    clear cn5
    refine wp_seq_k fun Kn17 cn17 => ?_
    refine wl_region ?_
    refine wl_load (by kernel_rfl) hM 2 rfl 33 _ rfl rfl Try.underlying33 I_impl_Shared ?_
    go_frame
    refine wl_load (by kernel_rfl) hM 6 rfl 36 _ rfl rfl Try.underlying36 I_impl_Hand ?_
    go_frame
    rcases Bool.eq_false_or_eq_true ((sharedB ((liftR l h.prev h.side ncl).1) c && handB (endH h 1))) with hx30 | hx30
    refine wl_call (by kernel_rfl) 22 #[.agg #[.slice (some ⟨ga'1, 0, none⟩) ((liftR l h.prev h.side ncl).1.length) ka'2, .slice (some ⟨m2, 0, none⟩) c.length k2], .agg (HD.cells (endH h 1)).toArray] (by kernel_rfl) (spec_l7Done (.slice (some ⟨ga'1, 0, none⟩) ((liftR l h.prev h.side ncl).1.length) ka'2) (.slice (some ⟨m2, 0, none⟩) c.length k2) ((liftR l h.prev h.side ncl).1) c (endH h 1) _ (nslX (hM.blk 1 rfl) (by first | rfl | (simp; done) | (simp [liftR_len]; done)) qa'4 qb'5) (sli_blk (hM.blk 3 rfl) q3 q4) (by first | omega | (simp; omega) | (rw [liftR_len]; omega)) hc) ?_
    rintro e W15 ⟨rfl, hb⟩
    refine ⟨.tuple #[.agg #[.slice (some ⟨ga'1, 0, none⟩) ((liftR l h.prev h.side ncl).1.length) ka'2, .slice (some ⟨m2, 0, none⟩) c.length k2], .agg (HD.cells (endH h 1)).toArray, .bool true], congrArg Ending.returned (by simp [doneV, HD.val, hx30]), ?_⟩
    replace hM := hM.call hb
    go_frame
    refine wl_pure (by kernel_rfl) (.agg #[.slice (some ⟨ga'1, 0, none⟩) ((liftR l h.prev h.side ncl).1.length) ka'2, .slice (some ⟨m2, 0, none⟩) c.length k2]) (by kernel_rfl) ?_
    go_frame
    refine wl_pure (by kernel_rfl) (.agg (HD.cells (endH h 1)).toArray) (by kernel_rfl) ?_
    go_frame
    refine wl_pure (by kernel_rfl) (.bool true) (by kernel_rfl) ?_
    go_frame
    refine wl_store (by kernel_rfl) hM 5 rfl 33 _ _ rfl rfl rfl [.slice (some ⟨ga'1, 0, none⟩) ((liftR l h.prev h.side ncl).1.length) ka'2, .slice (some ⟨m2, 0, none⟩) c.length k2] rfl I_impl_Shared rfl rfl ?_
    clear hM; intro W16 hM
    refine wl_store (by kernel_rfl) hM 4 rfl 36 _ _ rfl rfl rfl (HD.cells (endH h 1)) rfl I_impl_Hand rfl (hd_one' _) ?_
    clear hM; intro W17 hM
    refine wl_pure (by kernel_rfl) (.bool true) (by kernel_rfl) ?_
    go_frame
    refine wl_nil ?_
    refine cn17 _ _ ?_
    clear cn17
    refine wp_ret ?_
    have hps : 0 < ((liftR l h.prev h.side ncl).1 : List ND).length := shared_pos (by assumption)
    have hR : cutR l c task h = ((liftR l h.prev h.side ncl).1, c, (endH h 1), true) := by unfold cutR; rw [if_neg (by rw [hx11]; exact Bool.false_ne_true)]; simp [cutKid, doneR, noR, setK, withT, goneN, hok, hx12, hx13, hx16, hx19, hx20, hx26, hx30, ht, npe, tnp, nce, tnc]
    rw [hR]
    exact bodyPost_ret (ret_three (p := 6) (q := 7) (u := 8) (v := .bool true) rfl hM 5 4 rfl rfl rfl rfl rfl Try.underlying33 Try.underlying36 I_impl_Shared I_impl_Hand) rfl ⟨_, _, rfl, own_nX (hM.blk 1 rfl) (by first | rfl | (simp; done) | (simp [liftR_len]; done)) qa'4 qb'5 (hM.base 1 rfl) hps (by first | exact qe'6 | (simpa [cellsOf_len] using qe'6) | (simpa [cellsOf_len, liftR_len] using qe'6)), own_iblk (hM.blk 3 rfl) q3 q4 (hM.base 3 rfl) hc1 q6, hM.below⟩
    refine wl_call (by kernel_rfl) 22 #[.agg #[.slice (some ⟨ga'1, 0, none⟩) ((liftR l h.prev h.side ncl).1.length) ka'2, .slice (some ⟨m2, 0, none⟩) c.length k2], .agg (HD.cells (endH h 1)).toArray] (by kernel_rfl) (spec_l7Done (.slice (some ⟨ga'1, 0, none⟩) ((liftR l h.prev h.side ncl).1.length) ka'2) (.slice (some ⟨m2, 0, none⟩) c.length k2) ((liftR l h.prev h.side ncl).1) c (endH h 1) _ (nslX (hM.blk 1 rfl) (by first | rfl | (simp; done) | (simp [liftR_len]; done)) qa'4 qb'5) (sli_blk (hM.blk 3 rfl) q3 q4) (by first | omega | (simp; omega) | (rw [liftR_len]; omega)) hc) ?_
    rintro e W15 ⟨rfl, hb⟩
    refine ⟨.tuple #[.agg #[.slice none 0 0, .slice none 0 0], .agg (HD.cells HD.zero).toArray, .bool false], congrArg Ending.returned (by simp [doneV, HD.val, hx30]), ?_⟩
    replace hM := hM.call hb
    go_frame
    refine wl_pure (by kernel_rfl) (.agg #[.slice none 0 0, .slice none 0 0]) (by kernel_rfl) ?_
    go_frame
    refine wl_pure (by kernel_rfl) (.agg (HD.cells HD.zero).toArray) (by kernel_rfl) ?_
    go_frame
    refine wl_pure (by kernel_rfl) (.bool false) (by kernel_rfl) ?_
    go_frame
    refine wl_store (by kernel_rfl) hM 5 rfl 33 _ _ rfl rfl rfl [.slice none 0 0, .slice none 0 0] rfl I_impl_Shared rfl rfl ?_
    clear hM; intro W16 hM
    refine wl_store (by kernel_rfl) hM 4 rfl 36 _ _ rfl rfl rfl (HD.cells HD.zero) rfl I_impl_Hand rfl (hd_one' _) ?_
    clear hM; intro W17 hM
    refine wl_pure (by kernel_rfl) (.bool false) (by kernel_rfl) ?_
    go_frame
    refine wl_nil ?_
    refine cn17 _ _ ?_
    clear cn17
    refine wp_ret ?_
    have hR : cutR l c task h = ([], [], HD.zero, false) := by unfold cutR; rw [if_neg (by rw [hx11]; exact Bool.false_ne_true)]; simp [cutKid, doneR, noR, setK, withT, goneN, hok, hx12, hx13, hx16, hx19, hx20, hx26, hx30, ht, npe, tnp, nce, tnc]
    rw [hR]
    exact bodyPost_ret (ret_three (p := 6) (q := 7) (u := 8) (v := .bool false) rfl hM 5 4 rfl rfl rfl rfl rfl Try.underlying33 Try.underlying36 I_impl_Shared I_impl_Hand) rfl ⟨_, _, rfl, OwnR.nil _ _ _ _ _ _ _ (by simp [maxLen]), OwnR.nil _ _ _ _ _ _ _ (by simp [maxLen]), hM.below⟩
    rw [hx19]
    refine wp_cond_false rfl ?_
    refine wp_seq_k fun Kn11 cn11 => ?_
    refine wl_region ?_
    refine wl_pure (by kernel_rfl) (.bool (h.at_ == 13)) (by kernel_rfl) ?_
    go_frame
    refine wl_pure (by kernel_rfl) (.bool (h.at_ == 13)) (by kernel_rfl) ?_
    go_frame
    refine wl_nil ?_
    refine cn11 _ _ ?_
    clear cn11
    rcases Bool.eq_false_or_eq_true ((h.at_ == 13)) with hx31 | hx31
    rw [hx31]
    refine wp_cond_true rfl ?_
    refine wp_seq_k fun Kn12 cn12 => ?_
    -- region 22, drawn: one after the other
    refine wa_start (fun w => Below w0.heap.size w0 w ∧ Blk w g5 33 [.slice (some ⟨m1, 0, none⟩) l.length k1, .slice (some ⟨m2, 0, none⟩) c.length k2] ∧ Blk w g2 36 (HD.cells h)) 15 rfl (by kernel_rfl) ?_
    replace hM := hM.drew
    refine wa_take 0 (some 95) (.pointer (some ⟨g5, 0, none⟩)) rfl rfl (by kernel_rfl) (by kernel_rfl) (by kernel_rfl) (fun _ _ _ h => h) (by kernel_rfl) (fun w hS => by kernel_rfl) ⟨hM.below, hM.blk 0 rfl, hM.blk 5 rfl⟩ ?_
    go_frame
    refine wa_take 1 (some 96) (.slice (some ⟨m1, 0, none⟩) l.length k1) rfl rfl (by kernel_rfl) (by kernel_rfl) (by kernel_rfl) (fun _ _ _ h => h) (by kernel_rfl) (fun w hS => r_loadc hS.2.1 31 _ rfl 0 rfl Try.underlying31 rfl rfl) ⟨hM.below, hM.blk 0 rfl, hM.blk 5 rfl⟩ ?_
    go_frame
    refine wa_take 2 (some 97) (.pointer (some ⟨g2, 4, none⟩)) rfl rfl (by kernel_rfl) (by kernel_rfl) (by kernel_rfl) (fun _ _ _ h => h) (by kernel_rfl) (fun w hS => by kernel_rfl) ⟨hM.below, hM.blk 0 rfl, hM.blk 5 rfl⟩ ?_
    go_frame
    refine wa_take 3 (some 98) (.int .i64 h.prev) rfl rfl (by kernel_rfl) (by kernel_rfl) (by kernel_rfl) (fun _ _ _ h => h) (by kernel_rfl) (fun w hS => r_loadc hS.2.2 2 _ rfl 4 rfl Try.underlying2 rfl rfl) ⟨hM.below, hM.blk 0 rfl, hM.blk 5 rfl⟩ ?_
    go_frame
    refine wa_take 4 (some 99) (.pointer (some ⟨g5, 0, none⟩)) rfl rfl (by kernel_rfl) (by kernel_rfl) (by kernel_rfl) (fun _ _ _ h => h) (by kernel_rfl) (fun w hS => by kernel_rfl) ⟨hM.below, hM.blk 0 rfl, hM.blk 5 rfl⟩ ?_
    go_frame
    refine wa_take 5 (some 100) (.slice (some ⟨m1, 0, none⟩) l.length k1) rfl rfl (by kernel_rfl) (by kernel_rfl) (by kernel_rfl) (fun _ _ _ h => h) (by kernel_rfl) (fun w hS => r_loadc hS.2.1 31 _ rfl 0 rfl Try.underlying31 rfl rfl) ⟨hM.below, hM.blk 0 rfl, hM.blk 5 rfl⟩ ?_
    go_frame
    refine wa_take 6 (some 101) (.pointer (some ⟨g2, 4, none⟩)) rfl rfl (by kernel_rfl) (by kernel_rfl) (by kernel_rfl) (fun _ _ _ h => h) (by kernel_rfl) (fun w hS => by kernel_rfl) ⟨hM.below, hM.blk 0 rfl, hM.blk 5 rfl⟩ ?_
    go_frame
    refine wa_take 7 (some 102) (.int .i64 h.prev) rfl rfl (by kernel_rfl) (by kernel_rfl) (by kernel_rfl) (fun _ _ _ h => h) (by kernel_rfl) (fun w hS => r_loadc hS.2.2 2 _ rfl 4 rfl Try.underlying2 rfl rfl) ⟨hM.below, hM.blk 0 rfl, hM.blk 5 rfl⟩ ?_
    go_frame
    refine wa_take 8 (some 103) (.pointer (some ⟨m1, 0 + knp * 8, none⟩)) rfl rfl (by kernel_rfl) (by kernel_rfl) (by kernel_rfl) (fun _ _ _ h => h) (by kernel_rfl) (fun w hS => r_index 31 52 _ _ rfl m1 0 l.length k1 8 knp rfl rfl hknp (by omega) Try.underlying31 I_impl_Node) ⟨hM.below, hM.blk 0 rfl, hM.blk 5 rfl⟩ ?_
    go_frame
    refine wa_take 10 (some 105) (.pointer (some ⟨g2, 6, none⟩)) rfl rfl (by kernel_rfl) (by kernel_rfl) (by kernel_rfl) (fun _ _ _ h => h) (by kernel_rfl) (fun w hS => by kernel_rfl) ⟨hM.below, hM.blk 0 rfl, hM.blk 5 rfl⟩ ?_
    go_frame
    refine wa_take 11 (some 106) (.int .i64 h.side) rfl rfl (by kernel_rfl) (by kernel_rfl) (by kernel_rfl) (fun _ _ _ h => h) (by kernel_rfl) (fun w hS => r_loadc hS.2.2 2 _ rfl 6 rfl Try.underlying2 rfl rfl) ⟨hM.below, hM.blk 0 rfl, hM.blk 5 rfl⟩ ?_
    go_frame
    refine wa_one 9 (by kernel_rfl) ?_
    refine wo_pure (some 104) rfl rfl (by kernel_rfl) (.agg (ND.cells ⟨npk, npv, npl, npr, npo, npg, nplt, nprt⟩).toArray) (r_part (hM.blk 1 rfl) 52 _ rfl (0 + knp * 8) rfl Try.underlying52 (ND.cells ⟨npk, npv, npl, npr, npo, npg, nplt, nprt⟩) I_impl_Node (node_part hnnp)) ⟨hM.below, hM.blk 0 rfl, hM.blk 5 rfl⟩ ?_
    go_frame
    refine wa_one 12 (by kernel_rfl) ?_
    refine wo_call (some 107) rfl rfl (by kernel_rfl) 21 #[.agg (ND.cells ⟨npk, npv, npl, npr, npo, npg, nplt, nprt⟩).toArray, .int .i64 h.side] (by kernel_rfl) (spec_WithTag npk npv npl npr npo npg nplt nprt h.side _) ?_
    rintro e W9 ⟨rfl, hb⟩
    replace hM := hM.call hb
    refine ⟨_, rfl, ⟨hM.below, hM.blk 0 rfl, hM.blk 5 rfl⟩, ?_⟩
    go_frame
    refine wa_take 13 (some 108) (.pointer (some ⟨m1, 0 + knp * 8, none⟩)) rfl rfl (by kernel_rfl) (by kernel_rfl) (by kernel_rfl) (fun _ _ _ h => h) (by kernel_rfl) (fun w hS => r_index 31 52 _ _ rfl m1 0 l.length k1 8 knp rfl rfl hknp (by omega) Try.underlying31 I_impl_Node) ⟨hM.below, hM.blk 0 rfl, hM.blk 5 rfl⟩ ?_
    go_frame
    refine wa_one 14 (by kernel_rfl) ?_
    refine wo_storep rfl (by kernel_rfl) hM 1 rfl 52 _ _ rfl rfl (0 + knp * 8) (by kernel_rfl) (ND.cells ⟨npk, npv, npl, npr, npo, npg, (leftF h.side (wrap64 (nplt + 1)) nplt), (rightF h.side (wrap64 (nprt + 1)) nprt)⟩) (by kernel_rfl) I_impl_Node (node_room hlnp) (nd_one _) ?_
    clear hM; intro W10 hM; rw [splice_node hlnp] at hM
    refine ⟨⟨hM.below, hM.blk 0 rfl, hM.blk 5 rfl⟩, ?_⟩
    refine wa_done (by kernel_rfl) ?_
    refine cn12 _ _ ?_
    clear cn12
    refine wl_region ?_
    refine wl_load (by kernel_rfl) hM 5 rfl 36 _ rfl rfl Try.underlying36 I_impl_Hand ?_
    go_frame
    refine wl_call (by kernel_rfl) 20 #[.agg (HD.cells h).toArray, .int .i64 1] (by kernel_rfl) (spec_l8End h 1 _) ?_
    rintro e W11 ⟨rfl, hb⟩
    refine ⟨_, rfl, ?_⟩
    replace hM := hM.call hb
    go_frame
    refine wl_store (by kernel_rfl) hM 5 rfl 36 _ _ rfl rfl rfl (HD.cells (endH h 1)) rfl I_impl_Hand rfl (hd_one' _) ?_
    clear hM; intro W12 hM
    refine wl_nil ?_
    refine cn5 _ _ ?_
    clear cn5
    refine wp_seq_k fun Kn13 cn13 => ?_
    refine wl_region ?_
    refine wl_load (by kernel_rfl) hM 0 rfl 33 _ rfl rfl Try.underlying33 I_impl_Shared ?_
    go_frame
    refine wl_load (by kernel_rfl) hM 5 rfl 36 _ rfl rfl Try.underlying36 I_impl_Hand ?_
    go_frame
    rcases Bool.eq_false_or_eq_true ((sharedB (l.set knp ⟨npk, npv, npl, npr, npo, npg, (leftF h.side (wrap64 (nplt + 1)) nplt), (rightF h.side (wrap64 (nprt + 1)) nprt)⟩) c && handB (endH h 1))) with hx33 | hx33
    refine wl_call (by kernel_rfl) 22 #[.agg #[.slice (some ⟨m1, 0, none⟩) l.length k1, .slice (some ⟨m2, 0, none⟩) c.length k2], .agg (HD.cells (endH h 1)).toArray] (by kernel_rfl) (spec_l7Done (.slice (some ⟨m1, 0, none⟩) l.length k1) (.slice (some ⟨m2, 0, none⟩) c.length k2) (l.set knp ⟨npk, npv, npl, npr, npo, npg, (leftF h.side (wrap64 (nplt + 1)) nplt), (rightF h.side (wrap64 (nprt + 1)) nprt)⟩) c (endH h 1) _ (nslX (hM.blk 1 rfl) (by first | rfl | (simp; done) | (simp [liftR_len]; done)) q1 q2) (sli_blk (hM.blk 2 rfl) q3 q4) (by first | omega | (simp; omega) | (rw [liftR_len]; omega)) hc) ?_
    rintro e W13 ⟨rfl, hb⟩
    refine ⟨.tuple #[.agg #[.slice (some ⟨m1, 0, none⟩) l.length k1, .slice (some ⟨m2, 0, none⟩) c.length k2], .agg (HD.cells (endH h 1)).toArray, .bool true], congrArg Ending.returned (by simp [doneV, HD.val, hx33]), ?_⟩
    replace hM := hM.call hb
    go_frame
    refine wl_pure (by kernel_rfl) (.agg #[.slice (some ⟨m1, 0, none⟩) l.length k1, .slice (some ⟨m2, 0, none⟩) c.length k2]) (by kernel_rfl) ?_
    go_frame
    refine wl_pure (by kernel_rfl) (.agg (HD.cells (endH h 1)).toArray) (by kernel_rfl) ?_
    go_frame
    refine wl_pure (by kernel_rfl) (.bool true) (by kernel_rfl) ?_
    go_frame
    refine wl_store (by kernel_rfl) hM 4 rfl 33 _ _ rfl rfl rfl [.slice (some ⟨m1, 0, none⟩) l.length k1, .slice (some ⟨m2, 0, none⟩) c.length k2] rfl I_impl_Shared rfl rfl ?_
    clear hM; intro W14 hM
    refine wl_store (by kernel_rfl) hM 3 rfl 36 _ _ rfl rfl rfl (HD.cells (endH h 1)) rfl I_impl_Hand rfl (hd_one' _) ?_
    clear hM; intro W15 hM
    refine wl_pure (by kernel_rfl) (.bool true) (by kernel_rfl) ?_
    go_frame
    refine wl_nil ?_
    refine cn13 _ _ ?_
    clear cn13
    refine wp_ret ?_
    have hps : 0 < ((l.set knp ⟨npk, npv, npl, npr, npo, npg, (leftF h.side (wrap64 (nplt + 1)) nplt), (rightF h.side (wrap64 (nprt + 1)) nprt)⟩) : List ND).length := shared_pos (by assumption)
    have hR : cutR l c task h = ((l.set knp ⟨npk, npv, npl, npr, npo, npg, (leftF h.side (wrap64 (nplt + 1)) nplt), (rightF h.side (wrap64 (nprt + 1)) nprt)⟩), c, (endH h 1), true) := by unfold cutR; rw [if_neg (by rw [hx11]; exact Bool.false_ne_true)]; simp [cutKid, doneR, noR, setK, withT, goneN, hok, hx12, hx13, hx16, hx19, hx31, hx33, ht, npe, tnp, nce, tnc]
    rw [hR]
    exact bodyPost_ret (ret_three (p := 6) (q := 7) (u := 8) (v := .bool true) rfl hM 4 3 rfl rfl rfl rfl rfl Try.underlying33 Try.underlying36 I_impl_Shared I_impl_Hand) rfl ⟨_, _, rfl, own_nX (hM.blk 1 rfl) (by first | rfl | (simp; done) | (simp [liftR_len]; done)) q1 q2 (hM.base 1 rfl) hps (by first | exact q5 | (simpa [cellsOf_len] using q5) | (simpa [cellsOf_len, liftR_len] using q5)), own_iblk (hM.blk 2 rfl) q3 q4 (hM.base 2 rfl) hc1 q6, hM.below⟩
    refine wl_call (by kernel_rfl) 22 #[.agg #[.slice (some ⟨m1, 0, none⟩) l.length k1, .slice (some ⟨m2, 0, none⟩) c.length k2], .agg (HD.cells (endH h 1)).toArray] (by kernel_rfl) (spec_l7Done (.slice (some ⟨m1, 0, none⟩) l.length k1) (.slice (some ⟨m2, 0, none⟩) c.length k2) (l.set knp ⟨npk, npv, npl, npr, npo, npg, (leftF h.side (wrap64 (nplt + 1)) nplt), (rightF h.side (wrap64 (nprt + 1)) nprt)⟩) c (endH h 1) _ (nslX (hM.blk 1 rfl) (by first | rfl | (simp; done) | (simp [liftR_len]; done)) q1 q2) (sli_blk (hM.blk 2 rfl) q3 q4) (by first | omega | (simp; omega) | (rw [liftR_len]; omega)) hc) ?_
    rintro e W13 ⟨rfl, hb⟩
    refine ⟨.tuple #[.agg #[.slice none 0 0, .slice none 0 0], .agg (HD.cells HD.zero).toArray, .bool false], congrArg Ending.returned (by simp [doneV, HD.val, hx33]), ?_⟩
    replace hM := hM.call hb
    go_frame
    refine wl_pure (by kernel_rfl) (.agg #[.slice none 0 0, .slice none 0 0]) (by kernel_rfl) ?_
    go_frame
    refine wl_pure (by kernel_rfl) (.agg (HD.cells HD.zero).toArray) (by kernel_rfl) ?_
    go_frame
    refine wl_pure (by kernel_rfl) (.bool false) (by kernel_rfl) ?_
    go_frame
    refine wl_store (by kernel_rfl) hM 4 rfl 33 _ _ rfl rfl rfl [.slice none 0 0, .slice none 0 0] rfl I_impl_Shared rfl rfl ?_
    clear hM; intro W14 hM
    refine wl_store (by kernel_rfl) hM 3 rfl 36 _ _ rfl rfl rfl (HD.cells HD.zero) rfl I_impl_Hand rfl (hd_one' _) ?_
    clear hM; intro W15 hM
    refine wl_pure (by kernel_rfl) (.bool false) (by kernel_rfl) ?_
    go_frame
    refine wl_nil ?_
    refine cn13 _ _ ?_
    clear cn13
    refine wp_ret ?_
    have hR : cutR l c task h = ([], [], HD.zero, false) := by unfold cutR; rw [if_neg (by rw [hx11]; exact Bool.false_ne_true)]; simp [cutKid, doneR, noR, setK, withT, goneN, hok, hx12, hx13, hx16, hx19, hx31, hx33, ht, npe, tnp, nce, tnc]
    rw [hR]
    exact bodyPost_ret (ret_three (p := 6) (q := 7) (u := 8) (v := .bool false) rfl hM 4 3 rfl rfl rfl rfl rfl Try.underlying33 Try.underlying36 I_impl_Shared I_impl_Hand) rfl ⟨_, _, rfl, OwnR.nil _ _ _ _ _ _ _ (by simp [maxLen]), OwnR.nil _ _ _ _ _ _ _ (by simp [maxLen]), hM.below⟩
    rw [hx31]
    exfalso
    simp only [beq_eq_false_iff_ne, ne_eq] at hx12 hx13 hx16 hx19 hx31
    omega
    refine wl_region ?_
    refine wl_load (by kernel_rfl) hM 3 rfl 33 _ rfl rfl Try.underlying33 I_impl_Shared ?_
    go_frame
    refine wl_pure (by kernel_rfl) (.int .i64 task) (by kernel_rfl) ?_
    go_frame
    refine wl_load (by kernel_rfl) hM 2 rfl 36 _ rfl rfl Try.underlying36 I_impl_Hand ?_
    go_frame
    refine wl_call (by kernel_rfl) 15 #[.agg #[.slice (some ⟨b, off, none⟩) l.length cap, .slice (some ⟨b2, off2, none⟩) c.length cap2], .int .i64 task, .agg (HD.cells h).toArray, .int .i64 9, .int .i64 13] (by kernel_rfl) (spec_l7Ok (.slice (some ⟨b, off, none⟩) l.length cap) (.slice (some ⟨b2, off2, none⟩) c.length cap2) l c task h 9 13 _ (H1.below hM.below) (H2.below hM.below) hl hc) ?_
    rintro e W6 ⟨rfl, hb⟩
    refine ⟨.bool true, congrArg (fun b => Ending.returned (.bool b)) hok, ?_⟩
    replace hM := hM.call hb
    go_frame
    refine wl_pure (by kernel_rfl) (.bool false) (by kernel_rfl) ?_
    go_frame
    refine wl_pure (by kernel_rfl) (.bool false) (by kernel_rfl) ?_
    go_frame
    refine wl_pure (by kernel_rfl) (.pointer (some ⟨g2, 1, none⟩)) (by kernel_rfl) ?_
    go_frame
    refine wl_pure (by kernel_rfl) (.pointer (some ⟨g2, 1, none⟩)) (by kernel_rfl) ?_
    go_frame
    refine wl_loadc (by kernel_rfl) hM 2 rfl 2 _ rfl 1 rfl Try.underlying2 rfl rfl ?_
    go_frame
    refine wl_pure (by kernel_rfl) (.bool (h.c != 3)) (by kernel_rfl) ?_
    go_frame
    refine wl_pure (by kernel_rfl) (.bool (h.c != 3)) (by kernel_rfl) ?_
    go_frame
    refine wl_pure (by kernel_rfl) (.bool (h.c != 3)) (by kernel_rfl) ?_
    go_frame
    rcases Bool.eq_false_or_eq_true ((h.c != 3)) with hx34 | hx34
    rw [hx34]
    refine wl_skip (by kernel_rfl) ?_
    go_frame
    refine wl_skip (by kernel_rfl) ?_
    go_frame
    refine wl_skip (by kernel_rfl) ?_
    go_frame
    refine wl_pure (by kernel_rfl) (.bool true) (by kernel_rfl) ?_
    go_frame
    refine wl_nil ?_
    exact ⟨(fun i => ([.agg #[.slice (some ⟨b, off, none⟩) l.length cap, .slice (some ⟨b2, off2, none⟩) c.length cap2], .int .i64 task, .agg (HD.cells h).toArray, .bool true, .bool false, .bool false, .pointer (some ⟨g2, 1, none⟩), .pointer (some ⟨g2, 1, none⟩), .int .i64 h.c, .bool true, .bool true, .bool true, undef, undef, undef, .bool true] : List Value).getD i undef), rfl, congrArg Value.bool (show true = xg1 by rw [hxg1]; simp [hok, hx34]), hM⟩
    rw [hx34]
    refine wl_pure (by kernel_rfl) (.pointer (some ⟨g2, 5, none⟩)) (by kernel_rfl) ?_
    go_frame
    refine wl_loadc (by kernel_rfl) hM 2 rfl 2 _ rfl 5 rfl Try.underlying2 rfl rfl ?_
    go_frame
    refine wl_pure (by kernel_rfl) (.bool (h.cur == 0)) (by kernel_rfl) ?_
    go_frame
    refine wl_pure (by kernel_rfl) (.bool (h.cur == 0)) (by kernel_rfl) ?_
    go_frame
    refine wl_nil ?_
    exact ⟨(fun i => ([.agg #[.slice (some ⟨b, off, none⟩) l.length cap, .slice (some ⟨b2, off2, none⟩) c.length cap2], .int .i64 task, .agg (HD.cells h).toArray, .bool true, .bool false, .bool false, .pointer (some ⟨g2, 1, none⟩), .pointer (some ⟨g2, 1, none⟩), .int .i64 h.c, .bool false, .bool false, .bool false, .pointer (some ⟨g2, 5, none⟩), .int .i64 h.cur, .bool (h.cur == 0), .bool (h.cur == 0)] : List Value).getD i undef), rfl, congrArg Value.bool (show (h.cur == 0) = xg1 by rw [hxg1]; simp [hok, hx34]), hM⟩
  · obtain ⟨a1, j1, rfl, -⟩ := h1
    obtain ⟨a2, j2, rfl, -⟩ := h2
    go_enter Try.func5, Try.ntmps5
    refine wp_seq_k fun Kn1 cn1 => ?_
    refine wl_region ?_
    refine wl_box (by kernel_rfl) hM 33 _ rfl [.slice a1 l.length j1, .slice a2 c.length j2] rfl ?_
    clear hM; intro g1 W1 hM
    go_frame
    refine wl_box (by kernel_rfl) hM 36 _ rfl (HD.cells h) rfl ?_
    clear hM; intro g2 W2 hM
    go_frame
    refine wl_alloc (by kernel_rfl) hM 33 rfl [.slice none 0 0, .slice none 0 0] Z_impl_Shared ?_
    clear hM; intro g3 W3 hM
    go_frame
    refine wl_alloc (by kernel_rfl) hM 36 rfl (HD.cells HD.zero) Z_impl_Hand ?_
    clear hM; intro g4 W4 hM
    go_frame
    refine wl_pure (by kernel_rfl) (.bool false) (by kernel_rfl) ?_
    go_frame
    refine wl_nil ?_
    refine cn1 _ _ ?_
    clear cn1
    refine wp_seq_k fun Kn2 cn2 => ?_
    refine wp_seq_k fun Kn3 cn3 => ?_
    refine wl_region ?_
    refine wl_load (by kernel_rfl) hM 3 rfl 33 _ rfl rfl Try.underlying33 I_impl_Shared ?_
    go_frame
    refine wl_pure (by kernel_rfl) (.int .i64 task) (by kernel_rfl) ?_
    go_frame
    refine wl_load (by kernel_rfl) hM 2 rfl 36 _ rfl rfl Try.underlying36 I_impl_Hand ?_
    go_frame
    refine wl_call (by kernel_rfl) 15 #[.agg #[.slice a1 l.length j1, .slice a2 c.length j2], .int .i64 task, .agg (HD.cells h).toArray, .int .i64 9, .int .i64 13] (by kernel_rfl) (spec_l7Ok (.slice a1 l.length j1) (.slice a2 c.length j2) l c task h 9 13 _ (H1.below hM.below) (H2.below hM.below) hl hc) ?_
    rintro e W5 ⟨rfl, hb⟩
    refine ⟨.bool false, congrArg (fun b => Ending.returned (.bool b)) hok, ?_⟩
    replace hM := hM.call hb
    go_frame
    refine wl_pure (by kernel_rfl) (.bool true) (by kernel_rfl) ?_
    go_frame
    refine wl_pure (by kernel_rfl) (.bool true) (by kernel_rfl) ?_
    go_frame
    refine wl_skip (by kernel_rfl) ?_
    go_frame
    refine wl_skip (by kernel_rfl) ?_
    go_frame
    refine wl_skip (by kernel_rfl) ?_
    go_frame
    refine wl_skip (by kernel_rfl) ?_
    go_frame
    refine wl_pure (by kernel_rfl) (.bool true) (by kernel_rfl) ?_
    go_frame
    refine wl_pure (by kernel_rfl) (.bool true) (by kernel_rfl) ?_
    go_frame
    refine wl_skip (by kernel_rfl) ?_
    go_frame
    refine wl_skip (by kernel_rfl) ?_
    go_frame
    refine wl_skip (by kernel_rfl) ?_
    go_frame
    refine wl_pure (by kernel_rfl) (.bool true) (by kernel_rfl) ?_
    go_frame
    refine wl_nil ?_
    refine cn3 _ _ ?_
    clear cn3
    refine wp_cond_true rfl ?_
    refine wp_seq_k fun Kn4 cn4 => ?_
    refine wl_region ?_
    refine wl_pure (by kernel_rfl) (.agg #[.slice none 0 0, .slice none 0 0]) (by kernel_rfl) ?_
    go_frame
    refine wl_pure (by kernel_rfl) (.agg (HD.cells HD.zero).toArray) (by kernel_rfl) ?_
    go_frame
    refine wl_store (by kernel_rfl) hM 1 rfl 33 _ _ rfl rfl rfl [.slice none 0 0, .slice none 0 0] rfl I_impl_Shared rfl rfl ?_
    clear hM; intro W6 hM
    refine wl_store (by kernel_rfl) hM 0 rfl 36 _ _ rfl rfl rfl (HD.cells HD.zero) rfl I_impl_Hand rfl (hd_one' _) ?_
    clear hM; intro W7 hM
    refine wl_pure (by kernel_rfl) (.bool false) (by kernel_rfl) ?_
    go_frame
    refine wl_nil ?_
    refine cn4 _ _ ?_
    clear cn4
    refine wp_ret ?_
    simp only [Exit.then, Exit.inBlock]
    have hR : cutR l c task h = ([], [], HD.zero, false) := by simp [cutR, cutKid, doneR, noR, setK, withT, goneN, hok]
    rw [hR]
    exact bodyPost_ret (ret_three (p := 6) (q := 7) (u := 8) (v := .bool false) rfl hM 1 0 rfl rfl rfl rfl rfl Try.underlying33 Try.underlying36 I_impl_Shared I_impl_Hand) rfl ⟨_, _, rfl, OwnR.nil _ _ _ _ _ _ _ (by simp [maxLen]), OwnR.nil _ _ _ _ _ _ _ (by simp [maxLen]), hM.below⟩
end Go.Proofs.Ythllpgjggmdmmaa
