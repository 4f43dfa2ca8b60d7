/- MoveStep, WaitStep of the model. -/
import Derived.Test.YtbfndoajchibbaaGreatShort
import Derived.Test.YtbfndoajchibbaaGreatStep14
namespace Go.Proofs.YtbfndoajchibbaaGreat
open Go.ChangeShapes Go.WideShapes Go.ChangeAt Go.RowKit
set_option linter.unusedVariables false
set_option maxRecDepth 100000
set_option maxHeartbeats 16000000
set_option linter.unusedSimpArgs false

def mvR (l : List ND) (c : List Int) (task : Int) (h : HD) : StepR :=
  if !l7okB l c task h 14 25 || h.at_ == 22 || h.c != 3 || h.cur == 0 || (h.at_ != 14 && h.next == 0) || (decide (h.at_ ≥ 21) && h.new == 0) then noR
  else if h.at_ == 16 then lockR l c task h h.up 17
  else if h.at_ == 17 then lockR l c task h h.next 18
  else doneR (doR l task h).1 c (doR l task h).2
def waitR (l : List ND) (c : List Int) (task : Int) (h : HD) : StepR :=
  if !l7okB l c task h 22 26 || (h.at_ != 22 && h.at_ != 26) then noR
  else if h.at_ == 26 then doneR (freeR l task h).1 c (freeR l task h).2
  else if (syncR c task h).2 then doneR l c (syncR c task h).1 else (l, c, h, false)
theorem ok_task {l : List ND} {c : List Int} {task : Int} {h : HD} {a b : Int} (hk : l7okB l c task h a b = true) : (0 ≤ task ∧ task ≤ 6) ∧ (0 ≤ h.index ∧ h.index ≤ 6) ∧ ∀ (k : Nat) (n : Int), c[k]? = some n → 0 ≤ n ∧ n ≤ 100000 := by
  simp only [l7okB, Bool.and_eq_true, sharedB] at hk
  obtain ⟨⟨⟨⟨⟨h1, h2⟩, h3⟩, h4⟩, h5⟩, h6⟩ := hk
  obtain ⟨c1, c2, c3⟩ := countsB_some h2
  obtain ⟨t0, t1⟩ := inB_t h4
  simp only [handB, handL, Bool.and_eq_true] at h3
  refine ⟨⟨t0, by omega⟩, inB_t h3.2.1.1.1.1.2, fun k n hk => ?_⟩
  have := c3 k n hk
  first | exact this | exact inB_t this

theorem spec_MoveStep (u x : Value) (l : List ND) (c : List Int) (task : Int) (h : HD) (w0 : World) (h1 : NSl w0 u l) (h2 : SlI w0 x c) (hl : l.length ≤ 1048576) (hc : c.length ≤ 1048576) :
    Calls Tryz.prog 94 #[.agg #[u, x], .int .i64 task, h.val] w0 (Says3 (mvR l c task h) w0) := by
  have H1 := h1
  have H2 := h2
  unfold HD.val
  have hM := Mem.start w0
  rcases tf (l7okB l c task h 14 25) with hok | hok
  · obtain ⟨hl0, hc0, hl1, hc1, hat, kt, hkt0, hkt, hcnt, hnodes, qnp, qnc, qnu, qnx, qnw⟩ := ok_facts hok
    obtain ⟨b, off, cap, rfl, kk1, mm1, s1, G1⟩ := h1.at hl0
    obtain ⟨b2, off2, cap2, rfl, kk2, mm2, s2, G2⟩ := h2.at hc0
    have ht : task.toNat = kt := by omega
    have hl30 := (nodes_some hnodes).2
    obtain ⟨ht6, hix, hcs⟩ := ok_task hok
    have hdl := doR_len l task h
    go_enter Tryz.func94, Tryz.ntmps94
    refine wp_seq_k fun _ cn1 => wl_region ?_
    refine nx hM 55 [.slice (some ⟨b, off, none⟩) l.length cap, .slice (some ⟨b2, off2, none⟩) c.length cap2] ?_
    clear hM; intro g1 W1 hM
    refine nx hM 73 (HD.cells h) ?_
    clear hM; intro g2 W2 hM
    refine na hM [.slice none 0 0, .slice none 0 0] Z_impl_Shared ?_
    clear hM; intro g3 W3 hM
    refine na hM (HD.cells HD.zero) Z_impl_Hand ?_
    clear hM; intro g4 W4 hM
    refine np (.bool false) ?_
    go_frame
    refine wl_nil (cn1 _ _ ?_)
    clear cn1
    refine wp_seq_k fun Kn2 cn2 => ?_
    refine wp_seq_k fun Kn3 cn3 => ?_
    obtain ⟨xg1, hxg1⟩ : ∃ x : Bool, x = ((((((!l7okB l c task h 14 25) || (h.at_ == 22)) || (h.c != 3)) || (h.cur == 0)) || ((h.at_ != 14) && (h.next == 0))) || (decide (h.at_ ≥ 21) && (h.new == 0))) := ⟨_, rfl⟩
    refine wa_join (fun act W => ∃ (U1 : Nat → Value), act = ⟨#[.agg #[.slice (some ⟨b, off, none⟩) l.length cap, .slice (some ⟨b2, off2, none⟩) c.length cap2], .int .i64 task, .agg (HD.cells h).toArray, .pointer (some ⟨g1, 0, none⟩), undef, .pointer (some ⟨g2, 0, none⟩), .pointer (some ⟨g3, 0, none⟩), .pointer (some ⟨g4, 0, none⟩), .bool false, undef, undef, (U1 0), (U1 1), (U1 2), (U1 3), (U1 4), (U1 5), (U1 6), (U1 7), (U1 8), (U1 9), (U1 10), (U1 11), (U1 12), (U1 13), (U1 14), (U1 15), (U1 16), (U1 17), (U1 18), (U1 19), (U1 20), (U1 21), (U1 22), (U1 23), (U1 24), (U1 25), (U1 26), (U1 27), (U1 28), (U1 29), (U1 30), (U1 31), (U1 32), (U1 33), (U1 34), (U1 35), (U1 36), (U1 37), (U1 38), (U1 39), (U1 40), undef, undef, undef, undef, undef, undef, undef, undef, undef, undef, undef, undef, undef, undef, undef, undef, undef, undef, undef, undef, undef, undef, undef, undef, undef, undef, undef, undef, undef, undef, undef, undef, undef, undef, undef, undef, undef, undef, undef, undef], []⟩ ∧ U1 40 = .bool xg1 ∧ Mem w0 W [(g4, 73, (HD.cells HD.zero)), (g3, 55, [.slice none 0 0, .slice none 0 0]), (g2, 73, (HD.cells h)), (g1, 55, [.slice (some ⟨b, off, none⟩) l.length cap, .slice (some ⟨b2, off2, none⟩) c.length cap2])]) ?_ ?_
    clear hM
    rintro act W5 ⟨U1, rfl, hU1, hM⟩
    refine cn3 _ _ ?_
    clear cn3
    rcases tf (((((((!l7okB l c task h 14 25) || (h.at_ == 22)) || (h.c != 3)) || (h.cur == 0)) || ((h.at_ != 14) && (h.next == 0))) || (decide (h.at_ ≥ 21) && (h.new == 0)))) with hx11 | hx11
    refine wp_cond_true (hU1.trans (congrArg Value.bool (hxg1.trans hx11))) ?_
    refine wp_seq_k fun _ cn4 => wl_region ?_
    refine np (.agg #[.slice none 0 0, .slice none 0 0]) ?_
    refine np (.agg (HD.cells HD.zero).toArray) ?_
    refine nS hM 1 rfl [.slice none 0 0, .slice none 0 0] I_impl_Shared rfl ?_
    clear hM; intro W6 hM
    refine nS hM 0 rfl (HD.cells HD.zero) I_impl_Hand (hd_one' _) ?_
    clear hM; intro W7 hM
    refine np (.bool false) ?_
    go_frame
    refine wl_nil (cn4 _ _ ?_)
    clear cn4
    refine wp_ret ?_
    simp only [Exit.then, Exit.inBlock]
    have hR : mvR l c task h = ([], [], HD.zero, false) := by unfold mvR; rw [if_pos hx11]; rfl
    rw [hR]
    exact bodyPost_ret (ret3 (p := 6) (q := 7) (u := 8) (v := .bool false) rfl hM 1 0 rfl rfl rfl rfl rfl) rfl ⟨_, _, rfl, own0, own0, hM.below⟩
    refine wp_cond_false (hU1.trans (congrArg Value.bool (hxg1.trans hx11))) ?_
    refine wp_skip ?_
    refine cn2 _ _ ?_
    clear cn2
    refine wp_seq_k fun Kn4 cn4 => ?_
    refine wp_seq_k fun _ cn5 => wl_region ?_
    refine np (.pointer (some ⟨g2, 0, none⟩)) ?_
    refine ng hM 2 rfl 0 Tryz.underlying2 rfl ?_
    go_frame
    refine wl_nil (cn5 _ _ ?_)
    clear cn5
    refine wp_block ?_
    refine wp_seq_k fun _ cn6 => wl_region ?_
    refine np (.bool (h.at_ == 16)) ?_
    refine np (.bool (h.at_ == 16)) ?_
    go_frame
    refine wl_nil (cn6 _ _ ?_)
    clear cn6
    rcases tf ((h.at_ == 16)) with hx12 | hx12
    rw [hx12]
    refine wp_cond_true rfl ?_
    refine wp_seq_k fun _ cn7 => wl_region ?_
    refine nl hM 3 rfl Tryz.underlying55 I_impl_Shared ?_
    refine np (.int .i64 task) ?_
    refine nl hM 2 rfl Tryz.underlying73 I_impl_Hand ?_
    refine np (.pointer (some ⟨g2, 8, none⟩)) ?_
    refine ng hM 2 rfl 8 Tryz.underlying2 rfl ?_
    refine nc (spec_l8Lock (.slice (some ⟨b, off, none⟩) l.length cap) (.slice (some ⟨b2, off2, none⟩) c.length cap2) l c task h h.up 17 _ (H1.below hM.below) (H2.below hM.below) hl0 hc0 hl hc (has64 qnu hl)) ?_
    rintro e W6 ⟨u', x', rfl, hO1, hO2, hb⟩
    obtain ⟨hr1, hr2⟩ := lockR_pos (task := task) (h := h) (at' := h.up) (then' := 17) hl0 hc0
    obtain ⟨v1, j1, r1, rfl, s1', s2', s3', s4', s9'⟩ := own_blk hO1 hr1
    obtain ⟨v2, j2, r2, rfl, s5', s6', s7', s8', s0'⟩ := own_blk hO2 hr2
    replace hM := hM.join (Mem.two hb s4' s8' s3' s7' ne_types)
    refine ⟨_, rfl, ?_⟩
    go_frame
    refine np (.agg #[.slice (some ⟨v1, 0, none⟩) ((lockR l c task h h.up 17).1.length) j1, .slice (some ⟨v2, 0, none⟩) ((lockR l c task h h.up 17).2.1.length) j2]) ?_
    refine np (.agg (HD.cells ((lockR l c task h h.up 17).2.2.1)).toArray) ?_
    refine np (.bool ((lockR l c task h h.up 17).2.2.2)) ?_
    refine nS hM 3 rfl [.slice (some ⟨v1, 0, none⟩) ((lockR l c task h h.up 17).1.length) j1, .slice (some ⟨v2, 0, none⟩) ((lockR l c task h h.up 17).2.1.length) j2] I_impl_Shared rfl ?_
    clear hM; intro W7 hM
    refine nS hM 2 rfl (HD.cells ((lockR l c task h h.up 17).2.2.1)) I_impl_Hand (hd_one' _) ?_
    clear hM; intro W8 hM
    refine np (.bool ((lockR l c task h h.up 17).2.2.2)) ?_
    go_frame
    refine wl_nil (cn7 _ _ ?_)
    clear cn7
    refine wp_ret ?_
    simp only [Exit.then, Exit.inBlock]
    have hR : mvR l c task h = ((lockR l c task h h.up 17).1, (lockR l c task h h.up 17).2.1, (lockR l c task h h.up 17).2.2.1, (lockR l c task h h.up 17).2.2.2) := by unfold mvR; rw [if_neg (by rw [hx11]; exact Bool.false_ne_true)]; simp [doneR, noR, hok, hx12, ht]
    rw [hR]
    exact bodyPost_ret (ret3 (p := 6) (q := 7) (u := 8) (v := .bool ((lockR l c task h h.up 17).2.2.2)) rfl hM 3 2 rfl rfl rfl rfl rfl) rfl ⟨_, _, rfl, own_nX (hM.blk 0 rfl) rfl s1' s2' (hM.base 0 rfl) hr1 s9', own_iblk (hM.blk 1 rfl) s5' s6' (hM.base 1 rfl) hr2 s0', hM.below⟩
    rw [hx12]
    refine wp_cond_false rfl ?_
    refine wp_seq_k fun _ cn7 => wl_region ?_
    refine np (.bool (h.at_ == 17)) ?_
    refine np (.bool (h.at_ == 17)) ?_
    go_frame
    refine wl_nil (cn7 _ _ ?_)
    clear cn7
    rcases tf ((h.at_ == 17)) with hx13 | hx13
    rw [hx13]
    refine wp_cond_true rfl ?_
    refine wp_seq_k fun _ cn8 => wl_region ?_
    refine nl hM 3 rfl Tryz.underlying55 I_impl_Shared ?_
    refine np (.int .i64 task) ?_
    refine nl hM 2 rfl Tryz.underlying73 I_impl_Hand ?_
    refine np (.pointer (some ⟨g2, 9, none⟩)) ?_
    refine ng hM 2 rfl 9 Tryz.underlying2 rfl ?_
    refine nc (spec_l8Lock (.slice (some ⟨b, off, none⟩) l.length cap) (.slice (some ⟨b2, off2, none⟩) c.length cap2) l c task h h.next 18 _ (H1.below hM.below) (H2.below hM.below) hl0 hc0 hl hc (has64 qnx hl)) ?_
    rintro e W6 ⟨u', x', rfl, hO1, hO2, hb⟩
    obtain ⟨hr1, hr2⟩ := lockR_pos (task := task) (h := h) (at' := h.next) (then' := 18) hl0 hc0
    obtain ⟨v1, j1, r1, rfl, s1', s2', s3', s4', s9'⟩ := own_blk hO1 hr1
    obtain ⟨v2, j2, r2, rfl, s5', s6', s7', s8', s0'⟩ := own_blk hO2 hr2
    replace hM := hM.join (Mem.two hb s4' s8' s3' s7' ne_types)
    refine ⟨_, rfl, ?_⟩
    go_frame
    refine np (.agg #[.slice (some ⟨v1, 0, none⟩) ((lockR l c task h h.next 18).1.length) j1, .slice (some ⟨v2, 0, none⟩) ((lockR l c task h h.next 18).2.1.length) j2]) ?_
    refine np (.agg (HD.cells ((lockR l c task h h.next 18).2.2.1)).toArray) ?_
    refine np (.bool ((lockR l c task h h.next 18).2.2.2)) ?_
    refine nS hM 3 rfl [.slice (some ⟨v1, 0, none⟩) ((lockR l c task h h.next 18).1.length) j1, .slice (some ⟨v2, 0, none⟩) ((lockR l c task h h.next 18).2.1.length) j2] I_impl_Shared rfl ?_
    clear hM; intro W7 hM
    refine nS hM 2 rfl (HD.cells ((lockR l c task h h.next 18).2.2.1)) I_impl_Hand (hd_one' _) ?_
    clear hM; intro W8 hM
    refine np (.bool ((lockR l c task h h.next 18).2.2.2)) ?_
    go_frame
    refine wl_nil (cn8 _ _ ?_)
    clear cn8
    refine wp_ret ?_
    simp only [Exit.then, Exit.inBlock]
    have hR : mvR l c task h = ((lockR l c task h h.next 18).1, (lockR l c task h h.next 18).2.1, (lockR l c task h h.next 18).2.2.1, (lockR l c task h h.next 18).2.2.2) := by unfold mvR; rw [if_neg (by rw [hx11]; exact Bool.false_ne_true)]; simp [doneR, noR, hok, hx12, hx13, ht]
    rw [hR]
    exact bodyPost_ret (ret3 (p := 6) (q := 7) (u := 8) (v := .bool ((lockR l c task h h.next 18).2.2.2)) rfl hM 3 2 rfl rfl rfl rfl rfl) rfl ⟨_, _, rfl, own_nX (hM.blk 0 rfl) rfl s1' s2' (hM.base 0 rfl) hr1 s9', own_iblk (hM.blk 1 rfl) s5' s6' (hM.base 1 rfl) hr2 s0', hM.below⟩
    rw [hx13]
    refine wp_cond_false rfl ?_
    refine wp_skip ?_
    refine cn4 _ _ ?_
    clear cn4
    refine wp_seq_k fun Kn8 cn8 => ?_
    refine wa_join (fun act W => ∃ (g6 g5 ga'1 m2 : Nat) (m1 : Nat) (k1 : Nat) (k2 : Nat) (p1 : List Value) (p2 : List Value) (ka'2 : Nat) (pa'3 : List Value), act = ⟨#[.agg #[.slice (some ⟨b, off, none⟩) l.length cap, .slice (some ⟨b2, off2, none⟩) c.length cap2], .int .i64 task, .agg (HD.cells h).toArray, .pointer (some ⟨g1, 0, none⟩), undef, .pointer (some ⟨g2, 0, none⟩), .pointer (some ⟨g3, 0, none⟩), .pointer (some ⟨g4, 0, none⟩), .bool false, .pointer (some ⟨g5, 0, none⟩), .pointer (some ⟨g6, 0, none⟩), (U1 0), (U1 1), (U1 2), (U1 3), (U1 4), (U1 5), (U1 6), (U1 7), (U1 8), (U1 9), (U1 10), (U1 11), (U1 12), (U1 13), (U1 14), (U1 15), (U1 16), (U1 17), (U1 18), (U1 19), (U1 20), (U1 21), (U1 22), (U1 23), (U1 24), (U1 25), (U1 26), (U1 27), (U1 28), (U1 29), (U1 30), (U1 31), (U1 32), (U1 33), (U1 34), (U1 35), (U1 36), (U1 37), (U1 38), (U1 39), (U1 40), undef, undef, .pointer (some ⟨g2, 0, none⟩), .int .i64 h.at_, .bool false, .bool false, undef, undef, undef, undef, undef, undef, undef, undef, undef, .bool false, .bool false, undef, undef, undef, undef, undef, undef, undef, undef, undef, .tuple #[.agg #[.slice (some ⟨ga'1, 0, none⟩) ((doR l task h).1.length) ka'2, .slice (some ⟨m2, 0, none⟩) c.length k2], .agg (HD.cells ((doR l task h).2)).toArray], .agg #[.slice (some ⟨b, off, none⟩) l.length cap, .slice (some ⟨b2, off2, none⟩) c.length cap2], .agg #[.slice (some ⟨m1, 0, none⟩) l.length k1, .slice (some ⟨m2, 0, none⟩) c.length k2], .int .i64 task, .agg (HD.cells h).toArray, .tuple #[.agg #[.slice (some ⟨ga'1, 0, none⟩) ((doR l task h).1.length) ka'2, .slice (some ⟨m2, 0, none⟩) c.length k2], .agg (HD.cells ((doR l task h).2)).toArray], .agg #[.slice (some ⟨ga'1, 0, none⟩) ((doR l task h).1.length) ka'2, .slice (some ⟨m2, 0, none⟩) c.length k2], .agg (HD.cells ((doR l task h).2)).toArray, undef, undef, undef, undef, undef, undef], []⟩ ∧ Mem w0 W [(g6, 73, (HD.cells ((doR l task h).2))), (g5, 55, [.slice (some ⟨ga'1, 0, none⟩) ((doR l task h).1.length) ka'2, .slice (some ⟨m2, 0, none⟩) c.length k2]), (ga'1, 49, (cellsOf ((doR l task h).1) ++ pa'3)), (m2, 2, (cellsI c ++ p2)), (g4, 73, (HD.cells HD.zero)), (g3, 55, [.slice none 0 0, .slice none 0 0]), (g2, 73, (HD.cells h)), (g1, 55, [.slice (some ⟨b, off, none⟩) l.length cap, .slice (some ⟨b2, off2, none⟩) c.length cap2])] ∧ (l.length ≤ k1 ∧ k1 ≤ maxLen ∧ c.length ≤ k2 ∧ k2 ≤ maxLen ∧ (cellsOf l ++ p1).length = k1 * 8 ∧ (cellsI c ++ p2).length = k2 * 1) ∧ ((doR l task h).1.length ≤ ka'2 ∧ ka'2 ≤ maxLen ∧ (cellsOf (doR l task h).1 ++ pa'3).length = ka'2 * 8)) ?_ ?_
    clear hM
    rintro act W12 ⟨g6, g5, ga'1, m2, m1, k1, k2, p1, p2, ka'2, pa'3, rfl, hM, ⟨q1, q2, q3, q4, q5, q6⟩, ⟨qa'4, qb'5, qe'6⟩⟩
    refine cn8 _ _ ?_
    clear cn8
    refine wp_seq_k fun _ cn9 => wl_region ?_
    refine nl hM 1 rfl Tryz.underlying55 I_impl_Shared ?_
    refine nl hM 0 rfl Tryz.underlying73 I_impl_Hand ?_
    go_frame
    rcases tf ((sharedB ((doR l task h).1) c && handB ((doR l task h).2))) with hx15 | hx15
    refine nc (spec_l7Done (.slice (some ⟨ga'1, 0, none⟩) ((doR l task h).1.length) ka'2) (.slice (some ⟨m2, 0, none⟩) c.length k2) ((doR l task h).1) c ((doR l task h).2) _ (nslX (hM.blk 2 rfl) (by first | rfl | (simp; done) | (simp [liftR_len]; done)) qa'4 qb'5) (sli_blk (hM.blk 3 rfl) q3 q4) (by first | omega | (simp; omega) | (rw [liftR_len]; omega)) hc) ?_
    rintro e W13 ⟨rfl, hb⟩
    refine ⟨.tuple #[.agg #[.slice (some ⟨ga'1, 0, none⟩) ((doR l task h).1.length) ka'2, .slice (some ⟨m2, 0, none⟩) c.length k2], .agg (HD.cells ((doR l task h).2)).toArray, .bool true], congrArg Ending.returned (by simp [doneV, HD.val, hx15]), ?_⟩
    replace hM := hM.call hb
    go_frame
    refine np (.agg #[.slice (some ⟨ga'1, 0, none⟩) ((doR l task h).1.length) ka'2, .slice (some ⟨m2, 0, none⟩) c.length k2]) ?_
    refine np (.agg (HD.cells ((doR l task h).2)).toArray) ?_
    refine np (.bool true) ?_
    refine nS hM 5 rfl [.slice (some ⟨ga'1, 0, none⟩) ((doR l task h).1.length) ka'2, .slice (some ⟨m2, 0, none⟩) c.length k2] I_impl_Shared rfl ?_
    clear hM; intro W14 hM
    refine nS hM 4 rfl (HD.cells ((doR l task h).2)) I_impl_Hand (hd_one' _) ?_
    clear hM; intro W15 hM
    refine np (.bool true) ?_
    go_frame
    refine wl_nil (cn9 _ _ ?_)
    clear cn9
    refine wp_ret ?_
    have hps : 0 < ((doR l task h).1 : List ND).length := shared_pos (by assumption)
    have hR : mvR l c task h = ((doR l task h).1, c, (doR l task h).2, true) := by unfold mvR; rw [if_neg (by rw [hx11]; exact Bool.false_ne_true)]; simp [doneR, noR, hok, hx12, hx13, hx15, ht]
    rw [hR]
    exact bodyPost_ret (ret3 (p := 6) (q := 7) (u := 8) (v := .bool true) rfl hM 5 4 rfl rfl rfl rfl rfl) rfl ⟨_, _, rfl, own_nX (hM.blk 2 rfl) (by first | rfl | (simp; done) | (simp [liftR_len]; done)) qa'4 qb'5 (hM.base 2 rfl) hps (by first | exact qe'6 | (simpa [cellsOf_len] using qe'6) | (simpa [cellsOf_len, liftR_len] using qe'6)), own_iblk (hM.blk 3 rfl) q3 q4 (hM.base 3 rfl) hc1 q6, hM.below⟩
    refine nc (spec_l7Done (.slice (some ⟨ga'1, 0, none⟩) ((doR l task h).1.length) ka'2) (.slice (some ⟨m2, 0, none⟩) c.length k2) ((doR l task h).1) c ((doR l task h).2) _ (nslX (hM.blk 2 rfl) (by first | rfl | (simp; done) | (simp [liftR_len]; done)) qa'4 qb'5) (sli_blk (hM.blk 3 rfl) q3 q4) (by first | omega | (simp; omega) | (rw [liftR_len]; omega)) hc) ?_
    rintro e W13 ⟨rfl, hb⟩
    refine ⟨.tuple #[.agg #[.slice none 0 0, .slice none 0 0], .agg (HD.cells HD.zero).toArray, .bool false], congrArg Ending.returned (by simp [doneV, HD.val, hx15]), ?_⟩
    replace hM := hM.call hb
    go_frame
    refine np (.agg #[.slice none 0 0, .slice none 0 0]) ?_
    refine np (.agg (HD.cells HD.zero).toArray) ?_
    refine np (.bool false) ?_
    refine nS hM 5 rfl [.slice none 0 0, .slice none 0 0] I_impl_Shared rfl ?_
    clear hM; intro W14 hM
    refine nS hM 4 rfl (HD.cells HD.zero) I_impl_Hand (hd_one' _) ?_
    clear hM; intro W15 hM
    refine np (.bool false) ?_
    go_frame
    refine wl_nil (cn9 _ _ ?_)
    clear cn9
    refine wp_ret ?_
    have hR : mvR l c task h = ([], [], HD.zero, false) := by unfold mvR; rw [if_neg (by rw [hx11]; exact Bool.false_ne_true)]; simp [doneR, noR, hok, hx12, hx13, hx15, ht]
    rw [hR]
    exact bodyPost_ret (ret3 (p := 6) (q := 7) (u := 8) (v := .bool false) rfl hM 5 4 rfl rfl rfl rfl rfl) rfl ⟨_, _, rfl, own0, own0, hM.below⟩
    refine wa_start (fun w => Below w0.heap.size w0 w ∧ Blk w g1 55 [.slice (some ⟨b, off, none⟩) l.length cap, .slice (some ⟨b2, off2, none⟩) c.length cap2] ∧ Blk w g2 73 (HD.cells h)) 12 rfl (by kernel_rfl) ?_
    replace hM := hM.drew
    refine wq 0 (some 79) (.agg #[.slice (some ⟨b, off, none⟩) l.length cap, .slice (some ⟨b2, off2, none⟩) c.length cap2]) ⟨hM.below, hM.blk 3 rfl, hM.blk 2 rfl⟩ rfl (fun w hS => r_load hS.2.1 55 _ rfl rfl Tryz.underlying55 I_impl_Shared) ?_
    refine wt 2 (some 81) (.int .i64 task) ⟨hM.below, hM.blk 3 rfl, hM.blk 2 rfl⟩ ?_
    go_frame
    refine wq 3 (some 82) (.agg (HD.cells h).toArray) ⟨hM.below, hM.blk 3 rfl, hM.blk 2 rfl⟩ rfl (fun w hS => r_load hS.2.2 73 _ rfl rfl Tryz.underlying73 I_impl_Hand) ?_
    go_frame
    refine wa_three 1 8 9 (by kernel_rfl) ?_ ?_ ?_
    refine oc (some 80) (spec_l7Copy (.slice (some ⟨b, off, none⟩) l.length cap) (.slice (some ⟨b2, off2, none⟩) c.length cap2) l c _ (H1.below hM.below) (H2.below hM.below) hl0 hc0 hl hc) ?_
    rintro e W6 ⟨m1, m2, k1, k2, p1, p2, rfl, ⟨q1, q2, q3, q4, q5, q6⟩, hMc⟩
    replace hM := hM.join hMc
    refine ⟨_, rfl, ⟨hM.below, hM.blk 5 rfl, hM.blk 4 rfl⟩, ?_⟩
    go_frame
    refine wa_three 4 8 9 (by kernel_rfl) ?_ ?_ ?_
    replace hM := hM.pull 0 rfl
    refine oC (some 83) #[.agg #[.slice (some ⟨m1, 0, none⟩) l.length k1, .slice (some ⟨m2, 0, none⟩) c.length k2], .int .i64 task, .agg (HD.cells h).toArray] (spec_l10Do l task h m1 k1 p1 _ _ _ _ _ _ hM q1 q2 q5 hl30 ht6 qnp qnc qnu qnx qnw) ?_
    rintro e W7 ⟨ga'1, ka'2, pa'3, rfl, ⟨qa'4, qb'5, qe'6⟩, hM2⟩
    clear hM; have hM := hM2; clear hM2
    refine ⟨_, rfl, wk ⟨hM.below, hM.blk 5 rfl, hM.blk 4 rfl⟩ fun hs => ?_⟩
    go_frame
    refine wt 5 (some 78) (.tuple #[.agg #[.slice (some ⟨ga'1, 0, none⟩) ((doR l task h).1.length) ka'2, .slice (some ⟨m2, 0, none⟩) c.length k2], .agg (HD.cells ((doR l task h).2)).toArray]) hs ?_
    refine wt 6 (some 84) (.agg #[.slice (some ⟨ga'1, 0, none⟩) ((doR l task h).1.length) ka'2, .slice (some ⟨m2, 0, none⟩) c.length k2]) hs ?_
    refine wt 7 (some 85) (.agg (HD.cells ((doR l task h).2)).toArray) hs ?_
    go_frame
    refine wa_two 8 9 (by kernel_rfl) ?_ ?_
    refine oa (some 9) hM [.slice none 0 0, .slice none 0 0] Z_impl_Shared ?_
    clear hM; intro g5 W8 hM
    refine ⟨⟨hM.below, hM.blk 6 rfl, hM.blk 5 rfl⟩, ?_⟩
    go_frame
    refine wn 9 ?_
    refine oa (some 10) hM (HD.cells HD.zero) Z_impl_Hand ?_
    clear hM; intro g6 W9 hM
    refine ⟨⟨hM.below, hM.blk 7 rfl, hM.blk 6 rfl⟩, ?_⟩
    go_frame
    refine wn 10 ?_
    refine oS hM 1 rfl [.slice (some ⟨ga'1, 0, none⟩) ((doR l task h).1.length) ka'2, .slice (some ⟨m2, 0, none⟩) c.length k2] I_impl_Shared rfl ?_
    clear hM; intro W10 hM
    refine ⟨⟨hM.below, hM.blk 7 rfl, hM.blk 6 rfl⟩, ?_⟩
    refine wn 11 ?_
    refine oS hM 0 rfl (HD.cells ((doR l task h).2)) I_impl_Hand (hd_one' _) ?_
    clear hM; intro W11 hM
    refine ⟨⟨hM.below, hM.blk 7 rfl, hM.blk 6 rfl⟩, ?_⟩
    refine wa_doneJ (by kernel_rfl) ?_
    exact ⟨g6, g5, ga'1, m2, m1, k1, k2, p1, p2, ka'2, pa'3, rfl, hM, ⟨q1, q2, q3, q4, q5, q6⟩, ⟨qa'4, qb'5, qe'6⟩⟩
    refine oa (some 10) hM (HD.cells HD.zero) Z_impl_Hand ?_
    clear hM; intro g5 W8 hM
    refine ⟨⟨hM.below, hM.blk 6 rfl, hM.blk 5 rfl⟩, ?_⟩
    go_frame
    refine wn 8 ?_
    refine oa (some 9) hM [.slice none 0 0, .slice none 0 0] Z_impl_Shared ?_
    clear hM; intro g6 W9 hM
    refine ⟨⟨hM.below, hM.blk 7 rfl, hM.blk 6 rfl⟩, ?_⟩
    go_frame
    refine wn 10 ?_
    refine oS hM 0 rfl [.slice (some ⟨ga'1, 0, none⟩) ((doR l task h).1.length) ka'2, .slice (some ⟨m2, 0, none⟩) c.length k2] I_impl_Shared rfl ?_
    clear hM; intro W10 hM
    refine ⟨⟨hM.below, hM.blk 7 rfl, hM.blk 6 rfl⟩, ?_⟩
    refine wn 11 ?_
    refine oS hM 1 rfl (HD.cells ((doR l task h).2)) I_impl_Hand (hd_one' _) ?_
    clear hM; intro W11 hM
    refine ⟨⟨hM.below, hM.blk 7 rfl, hM.blk 6 rfl⟩, ?_⟩
    refine wa_doneJ (by kernel_rfl) ?_
    replace hM := hM.pull 0 rfl
    replace hM := hM.pull 1 rfl
    exact ⟨g5, g6, ga'1, m2, m1, k1, k2, p1, p2, ka'2, pa'3, rfl, hM, ⟨q1, q2, q3, q4, q5, q6⟩, ⟨qa'4, qb'5, qe'6⟩⟩
    refine oa (some 9) hM [.slice none 0 0, .slice none 0 0] Z_impl_Shared ?_
    clear hM; intro g5 W7 hM
    refine ⟨⟨hM.below, hM.blk 6 rfl, hM.blk 5 rfl⟩, ?_⟩
    go_frame
    refine wa_two 4 9 (by kernel_rfl) ?_ ?_
    replace hM := hM.pull 1 rfl
    refine oC (some 83) #[.agg #[.slice (some ⟨m1, 0, none⟩) l.length k1, .slice (some ⟨m2, 0, none⟩) c.length k2], .int .i64 task, .agg (HD.cells h).toArray] (spec_l10Do l task h m1 k1 p1 _ _ _ _ _ _ hM q1 q2 q5 hl30 ht6 qnp qnc qnu qnx qnw) ?_
    rintro e W8 ⟨ga'1, ka'2, pa'3, rfl, ⟨qa'4, qb'5, qe'6⟩, hM2⟩
    clear hM; have hM := hM2; clear hM2
    refine ⟨_, rfl, wk ⟨hM.below, hM.blk 6 rfl, hM.blk 5 rfl⟩ fun hs => ?_⟩
    go_frame
    refine wt 5 (some 78) (.tuple #[.agg #[.slice (some ⟨ga'1, 0, none⟩) ((doR l task h).1.length) ka'2, .slice (some ⟨m2, 0, none⟩) c.length k2], .agg (HD.cells ((doR l task h).2)).toArray]) hs ?_
    refine wt 6 (some 84) (.agg #[.slice (some ⟨ga'1, 0, none⟩) ((doR l task h).1.length) ka'2, .slice (some ⟨m2, 0, none⟩) c.length k2]) hs ?_
    refine wt 7 (some 85) (.agg (HD.cells ((doR l task h).2)).toArray) hs ?_
    go_frame
    refine wn 9 ?_
    refine oa (some 10) hM (HD.cells HD.zero) Z_impl_Hand ?_
    clear hM; intro g6 W9 hM
    refine ⟨⟨hM.below, hM.blk 7 rfl, hM.blk 6 rfl⟩, ?_⟩
    go_frame
    refine wn 10 ?_
    refine oS hM 2 rfl [.slice (some ⟨ga'1, 0, none⟩) ((doR l task h).1.length) ka'2, .slice (some ⟨m2, 0, none⟩) c.length k2] I_impl_Shared rfl ?_
    clear hM; intro W10 hM
    refine ⟨⟨hM.below, hM.blk 7 rfl, hM.blk 6 rfl⟩, ?_⟩
    refine wn 11 ?_
    refine oS hM 0 rfl (HD.cells ((doR l task h).2)) I_impl_Hand (hd_one' _) ?_
    clear hM; intro W11 hM
    refine ⟨⟨hM.below, hM.blk 7 rfl, hM.blk 6 rfl⟩, ?_⟩
    refine wa_doneJ (by kernel_rfl) ?_
    replace hM := hM.pull 1 rfl
    replace hM := hM.pull 2 rfl
    replace hM := hM.pull 2 rfl
    exact ⟨g6, g5, ga'1, m2, m1, k1, k2, p1, p2, ka'2, pa'3, rfl, hM, ⟨q1, q2, q3, q4, q5, q6⟩, ⟨qa'4, qb'5, qe'6⟩⟩
    refine oa (some 10) hM (HD.cells HD.zero) Z_impl_Hand ?_
    clear hM; intro g6 W8 hM
    refine ⟨⟨hM.below, hM.blk 7 rfl, hM.blk 6 rfl⟩, ?_⟩
    go_frame
    refine wn 4 ?_
    replace hM := hM.pull 2 rfl
    refine oC (some 83) #[.agg #[.slice (some ⟨m1, 0, none⟩) l.length k1, .slice (some ⟨m2, 0, none⟩) c.length k2], .int .i64 task, .agg (HD.cells h).toArray] (spec_l10Do l task h m1 k1 p1 _ _ _ _ _ _ hM q1 q2 q5 hl30 ht6 qnp qnc qnu qnx qnw) ?_
    rintro e W9 ⟨ga'1, ka'2, pa'3, rfl, ⟨qa'4, qb'5, qe'6⟩, hM2⟩
    clear hM; have hM := hM2; clear hM2
    refine ⟨_, rfl, wk ⟨hM.below, hM.blk 7 rfl, hM.blk 6 rfl⟩ fun hs => ?_⟩
    go_frame
    refine wt 5 (some 78) (.tuple #[.agg #[.slice (some ⟨ga'1, 0, none⟩) ((doR l task h).1.length) ka'2, .slice (some ⟨m2, 0, none⟩) c.length k2], .agg (HD.cells ((doR l task h).2)).toArray]) hs ?_
    refine wt 6 (some 84) (.agg #[.slice (some ⟨ga'1, 0, none⟩) ((doR l task h).1.length) ka'2, .slice (some ⟨m2, 0, none⟩) c.length k2]) hs ?_
    refine wt 7 (some 85) (.agg (HD.cells ((doR l task h).2)).toArray) hs ?_
    go_frame
    refine wn 10 ?_
    refine oS hM 2 rfl [.slice (some ⟨ga'1, 0, none⟩) ((doR l task h).1.length) ka'2, .slice (some ⟨m2, 0, none⟩) c.length k2] I_impl_Shared rfl ?_
    clear hM; intro W10 hM
    refine ⟨⟨hM.below, hM.blk 7 rfl, hM.blk 6 rfl⟩, ?_⟩
    refine wn 11 ?_
    refine oS hM 1 rfl (HD.cells ((doR l task h).2)) I_impl_Hand (hd_one' _) ?_
    clear hM; intro W11 hM
    refine ⟨⟨hM.below, hM.blk 7 rfl, hM.blk 6 rfl⟩, ?_⟩
    refine wa_doneJ (by kernel_rfl) ?_
    replace hM := hM.pull 0 rfl
    replace hM := hM.pull 2 rfl
    replace hM := hM.pull 2 rfl
    exact ⟨g6, g5, ga'1, m2, m1, k1, k2, p1, p2, ka'2, pa'3, rfl, hM, ⟨q1, q2, q3, q4, q5, q6⟩, ⟨qa'4, qb'5, qe'6⟩⟩
    refine oa (some 10) hM (HD.cells HD.zero) Z_impl_Hand ?_
    clear hM; intro g5 W7 hM
    refine ⟨⟨hM.below, hM.blk 6 rfl, hM.blk 5 rfl⟩, ?_⟩
    go_frame
    refine wa_two 4 8 (by kernel_rfl) ?_ ?_
    replace hM := hM.pull 1 rfl
    refine oC (some 83) #[.agg #[.slice (some ⟨m1, 0, none⟩) l.length k1, .slice (some ⟨m2, 0, none⟩) c.length k2], .int .i64 task, .agg (HD.cells h).toArray] (spec_l10Do l task h m1 k1 p1 _ _ _ _ _ _ hM q1 q2 q5 hl30 ht6 qnp qnc qnu qnx qnw) ?_
    rintro e W8 ⟨ga'1, ka'2, pa'3, rfl, ⟨qa'4, qb'5, qe'6⟩, hM2⟩
    clear hM; have hM := hM2; clear hM2
    refine ⟨_, rfl, wk ⟨hM.below, hM.blk 6 rfl, hM.blk 5 rfl⟩ fun hs => ?_⟩
    go_frame
    refine wt 5 (some 78) (.tuple #[.agg #[.slice (some ⟨ga'1, 0, none⟩) ((doR l task h).1.length) ka'2, .slice (some ⟨m2, 0, none⟩) c.length k2], .agg (HD.cells ((doR l task h).2)).toArray]) hs ?_
    refine wt 6 (some 84) (.agg #[.slice (some ⟨ga'1, 0, none⟩) ((doR l task h).1.length) ka'2, .slice (some ⟨m2, 0, none⟩) c.length k2]) hs ?_
    refine wt 7 (some 85) (.agg (HD.cells ((doR l task h).2)).toArray) hs ?_
    go_frame
    refine wn 8 ?_
    refine oa (some 9) hM [.slice none 0 0, .slice none 0 0] Z_impl_Shared ?_
    clear hM; intro g6 W9 hM
    refine ⟨⟨hM.below, hM.blk 7 rfl, hM.blk 6 rfl⟩, ?_⟩
    go_frame
    refine wn 10 ?_
    refine oS hM 0 rfl [.slice (some ⟨ga'1, 0, none⟩) ((doR l task h).1.length) ka'2, .slice (some ⟨m2, 0, none⟩) c.length k2] I_impl_Shared rfl ?_
    clear hM; intro W10 hM
    refine ⟨⟨hM.below, hM.blk 7 rfl, hM.blk 6 rfl⟩, ?_⟩
    refine wn 11 ?_
    refine oS hM 2 rfl (HD.cells ((doR l task h).2)) I_impl_Hand (hd_one' _) ?_
    clear hM; intro W11 hM
    refine ⟨⟨hM.below, hM.blk 7 rfl, hM.blk 6 rfl⟩, ?_⟩
    refine wa_doneJ (by kernel_rfl) ?_
    replace hM := hM.pull 1 rfl
    replace hM := hM.pull 1 rfl
    replace hM := hM.pull 2 rfl
    exact ⟨g5, g6, ga'1, m2, m1, k1, k2, p1, p2, ka'2, pa'3, rfl, hM, ⟨q1, q2, q3, q4, q5, q6⟩, ⟨qa'4, qb'5, qe'6⟩⟩
    refine oa (some 9) hM [.slice none 0 0, .slice none 0 0] Z_impl_Shared ?_
    clear hM; intro g6 W8 hM
    refine ⟨⟨hM.below, hM.blk 7 rfl, hM.blk 6 rfl⟩, ?_⟩
    go_frame
    refine wn 4 ?_
    replace hM := hM.pull 2 rfl
    refine oC (some 83) #[.agg #[.slice (some ⟨m1, 0, none⟩) l.length k1, .slice (some ⟨m2, 0, none⟩) c.length k2], .int .i64 task, .agg (HD.cells h).toArray] (spec_l10Do l task h m1 k1 p1 _ _ _ _ _ _ hM q1 q2 q5 hl30 ht6 qnp qnc qnu qnx qnw) ?_
    rintro e W9 ⟨ga'1, ka'2, pa'3, rfl, ⟨qa'4, qb'5, qe'6⟩, hM2⟩
    clear hM; have hM := hM2; clear hM2
    refine ⟨_, rfl, wk ⟨hM.below, hM.blk 7 rfl, hM.blk 6 rfl⟩ fun hs => ?_⟩
    go_frame
    refine wt 5 (some 78) (.tuple #[.agg #[.slice (some ⟨ga'1, 0, none⟩) ((doR l task h).1.length) ka'2, .slice (some ⟨m2, 0, none⟩) c.length k2], .agg (HD.cells ((doR l task h).2)).toArray]) hs ?_
    refine wt 6 (some 84) (.agg #[.slice (some ⟨ga'1, 0, none⟩) ((doR l task h).1.length) ka'2, .slice (some ⟨m2, 0, none⟩) c.length k2]) hs ?_
    refine wt 7 (some 85) (.agg (HD.cells ((doR l task h).2)).toArray) hs ?_
    go_frame
    refine wn 10 ?_
    refine oS hM 1 rfl [.slice (some ⟨ga'1, 0, none⟩) ((doR l task h).1.length) ka'2, .slice (some ⟨m2, 0, none⟩) c.length k2] I_impl_Shared rfl ?_
    clear hM; intro W10 hM
    refine ⟨⟨hM.below, hM.blk 7 rfl, hM.blk 6 rfl⟩, ?_⟩
    refine wn 11 ?_
    refine oS hM 2 rfl (HD.cells ((doR l task h).2)) I_impl_Hand (hd_one' _) ?_
    clear hM; intro W11 hM
    refine ⟨⟨hM.below, hM.blk 7 rfl, hM.blk 6 rfl⟩, ?_⟩
    refine wa_doneJ (by kernel_rfl) ?_
    replace hM := hM.pull 0 rfl
    replace hM := hM.pull 1 rfl
    replace hM := hM.pull 2 rfl
    exact ⟨g5, g6, ga'1, m2, m1, k1, k2, p1, p2, ka'2, pa'3, rfl, hM, ⟨q1, q2, q3, q4, q5, q6⟩, ⟨qa'4, qb'5, qe'6⟩⟩
    refine oa (some 9) hM [.slice none 0 0, .slice none 0 0] Z_impl_Shared ?_
    clear hM; intro g5 W6 hM
    refine ⟨⟨hM.below, hM.blk 4 rfl, hM.blk 3 rfl⟩, ?_⟩
    go_frame
    refine wa_two 1 9 (by kernel_rfl) ?_ ?_
    refine oc (some 80) (spec_l7Copy (.slice (some ⟨b, off, none⟩) l.length cap) (.slice (some ⟨b2, off2, none⟩) c.length cap2) l c _ (H1.below hM.below) (H2.below hM.below) hl0 hc0 hl hc) ?_
    rintro e W7 ⟨m1, m2, k1, k2, p1, p2, rfl, ⟨q1, q2, q3, q4, q5, q6⟩, hMc⟩
    replace hM := hM.join hMc
    refine ⟨_, rfl, ⟨hM.below, hM.blk 6 rfl, hM.blk 5 rfl⟩, ?_⟩
    go_frame
    refine wa_two 4 9 (by kernel_rfl) ?_ ?_
    replace hM := hM.pull 0 rfl
    refine oC (some 83) #[.agg #[.slice (some ⟨m1, 0, none⟩) l.length k1, .slice (some ⟨m2, 0, none⟩) c.length k2], .int .i64 task, .agg (HD.cells h).toArray] (spec_l10Do l task h m1 k1 p1 _ _ _ _ _ _ hM q1 q2 q5 hl30 ht6 qnp qnc qnu qnx qnw) ?_
    rintro e W8 ⟨ga'1, ka'2, pa'3, rfl, ⟨qa'4, qb'5, qe'6⟩, hM2⟩
    clear hM; have hM := hM2; clear hM2
    refine ⟨_, rfl, wk ⟨hM.below, hM.blk 6 rfl, hM.blk 5 rfl⟩ fun hs => ?_⟩
    go_frame
    refine wt 5 (some 78) (.tuple #[.agg #[.slice (some ⟨ga'1, 0, none⟩) ((doR l task h).1.length) ka'2, .slice (some ⟨m2, 0, none⟩) c.length k2], .agg (HD.cells ((doR l task h).2)).toArray]) hs ?_
    refine wt 6 (some 84) (.agg #[.slice (some ⟨ga'1, 0, none⟩) ((doR l task h).1.length) ka'2, .slice (some ⟨m2, 0, none⟩) c.length k2]) hs ?_
    refine wt 7 (some 85) (.agg (HD.cells ((doR l task h).2)).toArray) hs ?_
    go_frame
    refine wn 9 ?_
    refine oa (some 10) hM (HD.cells HD.zero) Z_impl_Hand ?_
    clear hM; intro g6 W9 hM
    refine ⟨⟨hM.below, hM.blk 7 rfl, hM.blk 6 rfl⟩, ?_⟩
    go_frame
    refine wn 10 ?_
    refine oS hM 3 rfl [.slice (some ⟨ga'1, 0, none⟩) ((doR l task h).1.length) ka'2, .slice (some ⟨m2, 0, none⟩) c.length k2] I_impl_Shared rfl ?_
    clear hM; intro W10 hM
    refine ⟨⟨hM.below, hM.blk 7 rfl, hM.blk 6 rfl⟩, ?_⟩
    refine wn 11 ?_
    refine oS hM 0 rfl (HD.cells ((doR l task h).2)) I_impl_Hand (hd_one' _) ?_
    clear hM; intro W11 hM
    refine ⟨⟨hM.below, hM.blk 7 rfl, hM.blk 6 rfl⟩, ?_⟩
    refine wa_doneJ (by kernel_rfl) ?_
    replace hM := hM.pull 2 rfl
    replace hM := hM.pull 2 rfl
    replace hM := hM.pull 3 rfl
    replace hM := hM.pull 3 rfl
    exact ⟨g6, g5, ga'1, m2, m1, k1, k2, p1, p2, ka'2, pa'3, rfl, hM, ⟨q1, q2, q3, q4, q5, q6⟩, ⟨qa'4, qb'5, qe'6⟩⟩
    refine oa (some 10) hM (HD.cells HD.zero) Z_impl_Hand ?_
    clear hM; intro g6 W8 hM
    refine ⟨⟨hM.below, hM.blk 7 rfl, hM.blk 6 rfl⟩, ?_⟩
    go_frame
    refine wn 4 ?_
    replace hM := hM.pull 1 rfl
    refine oC (some 83) #[.agg #[.slice (some ⟨m1, 0, none⟩) l.length k1, .slice (some ⟨m2, 0, none⟩) c.length k2], .int .i64 task, .agg (HD.cells h).toArray] (spec_l10Do l task h m1 k1 p1 _ _ _ _ _ _ hM q1 q2 q5 hl30 ht6 qnp qnc qnu qnx qnw) ?_
    rintro e W9 ⟨ga'1, ka'2, pa'3, rfl, ⟨qa'4, qb'5, qe'6⟩, hM2⟩
    clear hM; have hM := hM2; clear hM2
    refine ⟨_, rfl, wk ⟨hM.below, hM.blk 7 rfl, hM.blk 6 rfl⟩ fun hs => ?_⟩
    go_frame
    refine wt 5 (some 78) (.tuple #[.agg #[.slice (some ⟨ga'1, 0, none⟩) ((doR l task h).1.length) ka'2, .slice (some ⟨m2, 0, none⟩) c.length k2], .agg (HD.cells ((doR l task h).2)).toArray]) hs ?_
    refine wt 6 (some 84) (.agg #[.slice (some ⟨ga'1, 0, none⟩) ((doR l task h).1.length) ka'2, .slice (some ⟨m2, 0, none⟩) c.length k2]) hs ?_
    refine wt 7 (some 85) (.agg (HD.cells ((doR l task h).2)).toArray) hs ?_
    go_frame
    refine wn 10 ?_
    refine oS hM 3 rfl [.slice (some ⟨ga'1, 0, none⟩) ((doR l task h).1.length) ka'2, .slice (some ⟨m2, 0, none⟩) c.length k2] I_impl_Shared rfl ?_
    clear hM; intro W10 hM
    refine ⟨⟨hM.below, hM.blk 7 rfl, hM.blk 6 rfl⟩, ?_⟩
    refine wn 11 ?_
    refine oS hM 1 rfl (HD.cells ((doR l task h).2)) I_impl_Hand (hd_one' _) ?_
    clear hM; intro W11 hM
    refine ⟨⟨hM.below, hM.blk 7 rfl, hM.blk 6 rfl⟩, ?_⟩
    refine wa_doneJ (by kernel_rfl) ?_
    replace hM := hM.pull 2 rfl
    replace hM := hM.pull 1 rfl
    replace hM := hM.pull 3 rfl
    replace hM := hM.pull 3 rfl
    exact ⟨g6, g5, ga'1, m2, m1, k1, k2, p1, p2, ka'2, pa'3, rfl, hM, ⟨q1, q2, q3, q4, q5, q6⟩, ⟨qa'4, qb'5, qe'6⟩⟩
    refine oa (some 10) hM (HD.cells HD.zero) Z_impl_Hand ?_
    clear hM; intro g6 W7 hM
    refine ⟨⟨hM.below, hM.blk 5 rfl, hM.blk 4 rfl⟩, ?_⟩
    go_frame
    refine wn 1 ?_
    refine oc (some 80) (spec_l7Copy (.slice (some ⟨b, off, none⟩) l.length cap) (.slice (some ⟨b2, off2, none⟩) c.length cap2) l c _ (H1.below hM.below) (H2.below hM.below) hl0 hc0 hl hc) ?_
    rintro e W8 ⟨m1, m2, k1, k2, p1, p2, rfl, ⟨q1, q2, q3, q4, q5, q6⟩, hMc⟩
    replace hM := hM.join hMc
    refine ⟨_, rfl, ⟨hM.below, hM.blk 7 rfl, hM.blk 6 rfl⟩, ?_⟩
    go_frame
    refine wn 4 ?_
    replace hM := hM.pull 0 rfl
    refine oC (some 83) #[.agg #[.slice (some ⟨m1, 0, none⟩) l.length k1, .slice (some ⟨m2, 0, none⟩) c.length k2], .int .i64 task, .agg (HD.cells h).toArray] (spec_l10Do l task h m1 k1 p1 _ _ _ _ _ _ hM q1 q2 q5 hl30 ht6 qnp qnc qnu qnx qnw) ?_
    rintro e W9 ⟨ga'1, ka'2, pa'3, rfl, ⟨qa'4, qb'5, qe'6⟩, hM2⟩
    clear hM; have hM := hM2; clear hM2
    refine ⟨_, rfl, wk ⟨hM.below, hM.blk 7 rfl, hM.blk 6 rfl⟩ fun hs => ?_⟩
    go_frame
    refine wt 5 (some 78) (.tuple #[.agg #[.slice (some ⟨ga'1, 0, none⟩) ((doR l task h).1.length) ka'2, .slice (some ⟨m2, 0, none⟩) c.length k2], .agg (HD.cells ((doR l task h).2)).toArray]) hs ?_
    refine wt 6 (some 84) (.agg #[.slice (some ⟨ga'1, 0, none⟩) ((doR l task h).1.length) ka'2, .slice (some ⟨m2, 0, none⟩) c.length k2]) hs ?_
    refine wt 7 (some 85) (.agg (HD.cells ((doR l task h).2)).toArray) hs ?_
    go_frame
    refine wn 10 ?_
    refine oS hM 3 rfl [.slice (some ⟨ga'1, 0, none⟩) ((doR l task h).1.length) ka'2, .slice (some ⟨m2, 0, none⟩) c.length k2] I_impl_Shared rfl ?_
    clear hM; intro W10 hM
    refine ⟨⟨hM.below, hM.blk 7 rfl, hM.blk 6 rfl⟩, ?_⟩
    refine wn 11 ?_
    refine oS hM 2 rfl (HD.cells ((doR l task h).2)) I_impl_Hand (hd_one' _) ?_
    clear hM; intro W11 hM
    refine ⟨⟨hM.below, hM.blk 7 rfl, hM.blk 6 rfl⟩, ?_⟩
    refine wa_doneJ (by kernel_rfl) ?_
    replace hM := hM.pull 1 rfl
    replace hM := hM.pull 1 rfl
    replace hM := hM.pull 3 rfl
    replace hM := hM.pull 3 rfl
    exact ⟨g6, g5, ga'1, m2, m1, k1, k2, p1, p2, ka'2, pa'3, rfl, hM, ⟨q1, q2, q3, q4, q5, q6⟩, ⟨qa'4, qb'5, qe'6⟩⟩
    refine oa (some 10) hM (HD.cells HD.zero) Z_impl_Hand ?_
    clear hM; intro g5 W6 hM
    refine ⟨⟨hM.below, hM.blk 4 rfl, hM.blk 3 rfl⟩, ?_⟩
    go_frame
    refine wa_two 1 8 (by kernel_rfl) ?_ ?_
    refine oc (some 80) (spec_l7Copy (.slice (some ⟨b, off, none⟩) l.length cap) (.slice (some ⟨b2, off2, none⟩) c.length cap2) l c _ (H1.below hM.below) (H2.below hM.below) hl0 hc0 hl hc) ?_
    rintro e W7 ⟨m1, m2, k1, k2, p1, p2, rfl, ⟨q1, q2, q3, q4, q5, q6⟩, hMc⟩
    replace hM := hM.join hMc
    refine ⟨_, rfl, ⟨hM.below, hM.blk 6 rfl, hM.blk 5 rfl⟩, ?_⟩
    go_frame
    refine wa_two 4 8 (by kernel_rfl) ?_ ?_
    replace hM := hM.pull 0 rfl
    refine oC (some 83) #[.agg #[.slice (some ⟨m1, 0, none⟩) l.length k1, .slice (some ⟨m2, 0, none⟩) c.length k2], .int .i64 task, .agg (HD.cells h).toArray] (spec_l10Do l task h m1 k1 p1 _ _ _ _ _ _ hM q1 q2 q5 hl30 ht6 qnp qnc qnu qnx qnw) ?_
    rintro e W8 ⟨ga'1, ka'2, pa'3, rfl, ⟨qa'4, qb'5, qe'6⟩, hM2⟩
    clear hM; have hM := hM2; clear hM2
    refine ⟨_, rfl, wk ⟨hM.below, hM.blk 6 rfl, hM.blk 5 rfl⟩ fun hs => ?_⟩
    go_frame
    refine wt 5 (some 78) (.tuple #[.agg #[.slice (some ⟨ga'1, 0, none⟩) ((doR l task h).1.length) ka'2, .slice (some ⟨m2, 0, none⟩) c.length k2], .agg (HD.cells ((doR l task h).2)).toArray]) hs ?_
    refine wt 6 (some 84) (.agg #[.slice (some ⟨ga'1, 0, none⟩) ((doR l task h).1.length) ka'2, .slice (some ⟨m2, 0, none⟩) c.length k2]) hs ?_
    refine wt 7 (some 85) (.agg (HD.cells ((doR l task h).2)).toArray) hs ?_
    go_frame
    refine wn 8 ?_
    refine oa (some 9) hM [.slice none 0 0, .slice none 0 0] Z_impl_Shared ?_
    clear hM; intro g6 W9 hM
    refine ⟨⟨hM.below, hM.blk 7 rfl, hM.blk 6 rfl⟩, ?_⟩
    go_frame
    refine wn 10 ?_
    refine oS hM 0 rfl [.slice (some ⟨ga'1, 0, none⟩) ((doR l task h).1.length) ka'2, .slice (some ⟨m2, 0, none⟩) c.length k2] I_impl_Shared rfl ?_
    clear hM; intro W10 hM
    refine ⟨⟨hM.below, hM.blk 7 rfl, hM.blk 6 rfl⟩, ?_⟩
    refine wn 11 ?_
    refine oS hM 3 rfl (HD.cells ((doR l task h).2)) I_impl_Hand (hd_one' _) ?_
    clear hM; intro W11 hM
    refine ⟨⟨hM.below, hM.blk 7 rfl, hM.blk 6 rfl⟩, ?_⟩
    refine wa_doneJ (by kernel_rfl) ?_
    replace hM := hM.pull 2 rfl
    replace hM := hM.pull 2 rfl
    replace hM := hM.pull 2 rfl
    replace hM := hM.pull 3 rfl
    exact ⟨g5, g6, ga'1, m2, m1, k1, k2, p1, p2, ka'2, pa'3, rfl, hM, ⟨q1, q2, q3, q4, q5, q6⟩, ⟨qa'4, qb'5, qe'6⟩⟩
    refine oa (some 9) hM [.slice none 0 0, .slice none 0 0] Z_impl_Shared ?_
    clear hM; intro g6 W8 hM
    refine ⟨⟨hM.below, hM.blk 7 rfl, hM.blk 6 rfl⟩, ?_⟩
    go_frame
    refine wn 4 ?_
    replace hM := hM.pull 1 rfl
    refine oC (some 83) #[.agg #[.slice (some ⟨m1, 0, none⟩) l.length k1, .slice (some ⟨m2, 0, none⟩) c.length k2], .int .i64 task, .agg (HD.cells h).toArray] (spec_l10Do l task h m1 k1 p1 _ _ _ _ _ _ hM q1 q2 q5 hl30 ht6 qnp qnc qnu qnx qnw) ?_
    rintro e W9 ⟨ga'1, ka'2, pa'3, rfl, ⟨qa'4, qb'5, qe'6⟩, hM2⟩
    clear hM; have hM := hM2; clear hM2
    refine ⟨_, rfl, wk ⟨hM.below, hM.blk 7 rfl, hM.blk 6 rfl⟩ fun hs => ?_⟩
    go_frame
    refine wt 5 (some 78) (.tuple #[.agg #[.slice (some ⟨ga'1, 0, none⟩) ((doR l task h).1.length) ka'2, .slice (some ⟨m2, 0, none⟩) c.length k2], .agg (HD.cells ((doR l task h).2)).toArray]) hs ?_
    refine wt 6 (some 84) (.agg #[.slice (some ⟨ga'1, 0, none⟩) ((doR l task h).1.length) ka'2, .slice (some ⟨m2, 0, none⟩) c.length k2]) hs ?_
    refine wt 7 (some 85) (.agg (HD.cells ((doR l task h).2)).toArray) hs ?_
    go_frame
    refine wn 10 ?_
    refine oS hM 1 rfl [.slice (some ⟨ga'1, 0, none⟩) ((doR l task h).1.length) ka'2, .slice (some ⟨m2, 0, none⟩) c.length k2] I_impl_Shared rfl ?_
    clear hM; intro W10 hM
    refine ⟨⟨hM.below, hM.blk 7 rfl, hM.blk 6 rfl⟩, ?_⟩
    refine wn 11 ?_
    refine oS hM 3 rfl (HD.cells ((doR l task h).2)) I_impl_Hand (hd_one' _) ?_
    clear hM; intro W11 hM
    refine ⟨⟨hM.below, hM.blk 7 rfl, hM.blk 6 rfl⟩, ?_⟩
    refine wa_doneJ (by kernel_rfl) ?_
    replace hM := hM.pull 2 rfl
    replace hM := hM.pull 1 rfl
    replace hM := hM.pull 2 rfl
    replace hM := hM.pull 3 rfl
    exact ⟨g5, g6, ga'1, m2, m1, k1, k2, p1, p2, ka'2, pa'3, rfl, hM, ⟨q1, q2, q3, q4, q5, q6⟩, ⟨qa'4, qb'5, qe'6⟩⟩
    refine oa (some 9) hM [.slice none 0 0, .slice none 0 0] Z_impl_Shared ?_
    clear hM; intro g6 W7 hM
    refine ⟨⟨hM.below, hM.blk 5 rfl, hM.blk 4 rfl⟩, ?_⟩
    go_frame
    refine wn 1 ?_
    refine oc (some 80) (spec_l7Copy (.slice (some ⟨b, off, none⟩) l.length cap) (.slice (some ⟨b2, off2, none⟩) c.length cap2) l c _ (H1.below hM.below) (H2.below hM.below) hl0 hc0 hl hc) ?_
    rintro e W8 ⟨m1, m2, k1, k2, p1, p2, rfl, ⟨q1, q2, q3, q4, q5, q6⟩, hMc⟩
    replace hM := hM.join hMc
    refine ⟨_, rfl, ⟨hM.below, hM.blk 7 rfl, hM.blk 6 rfl⟩, ?_⟩
    go_frame
    refine wn 4 ?_
    replace hM := hM.pull 0 rfl
    refine oC (some 83) #[.agg #[.slice (some ⟨m1, 0, none⟩) l.length k1, .slice (some ⟨m2, 0, none⟩) c.length k2], .int .i64 task, .agg (HD.cells h).toArray] (spec_l10Do l task h m1 k1 p1 _ _ _ _ _ _ hM q1 q2 q5 hl30 ht6 qnp qnc qnu qnx qnw) ?_
    rintro e W9 ⟨ga'1, ka'2, pa'3, rfl, ⟨qa'4, qb'5, qe'6⟩, hM2⟩
    clear hM; have hM := hM2; clear hM2
    refine ⟨_, rfl, wk ⟨hM.below, hM.blk 7 rfl, hM.blk 6 rfl⟩ fun hs => ?_⟩
    go_frame
    refine wt 5 (some 78) (.tuple #[.agg #[.slice (some ⟨ga'1, 0, none⟩) ((doR l task h).1.length) ka'2, .slice (some ⟨m2, 0, none⟩) c.length k2], .agg (HD.cells ((doR l task h).2)).toArray]) hs ?_
    refine wt 6 (some 84) (.agg #[.slice (some ⟨ga'1, 0, none⟩) ((doR l task h).1.length) ka'2, .slice (some ⟨m2, 0, none⟩) c.length k2]) hs ?_
    refine wt 7 (some 85) (.agg (HD.cells ((doR l task h).2)).toArray) hs ?_
    go_frame
    refine wn 10 ?_
    refine oS hM 2 rfl [.slice (some ⟨ga'1, 0, none⟩) ((doR l task h).1.length) ka'2, .slice (some ⟨m2, 0, none⟩) c.length k2] I_impl_Shared rfl ?_
    clear hM; intro W10 hM
    refine ⟨⟨hM.below, hM.blk 7 rfl, hM.blk 6 rfl⟩, ?_⟩
    refine wn 11 ?_
    refine oS hM 3 rfl (HD.cells ((doR l task h).2)) I_impl_Hand (hd_one' _) ?_
    clear hM; intro W11 hM
    refine ⟨⟨hM.below, hM.blk 7 rfl, hM.blk 6 rfl⟩, ?_⟩
    refine wa_doneJ (by kernel_rfl) ?_
    replace hM := hM.pull 1 rfl
    replace hM := hM.pull 1 rfl
    replace hM := hM.pull 2 rfl
    replace hM := hM.pull 3 rfl
    exact ⟨g5, g6, ga'1, m2, m1, k1, k2, p1, p2, ka'2, pa'3, rfl, hM, ⟨q1, q2, q3, q4, q5, q6⟩, ⟨qa'4, qb'5, qe'6⟩⟩
    refine wl_region ?_
    refine nl hM 3 rfl Tryz.underlying55 I_impl_Shared ?_
    refine np (.int .i64 task) ?_
    refine nl hM 2 rfl Tryz.underlying73 I_impl_Hand ?_
    refine nc (spec_l7Ok (.slice (some ⟨b, off, none⟩) l.length cap) (.slice (some ⟨b2, off2, none⟩) c.length cap2) l c task h 14 25 _ (H1.below hM.below) (H2.below hM.below) hl hc) ?_
    rintro e W6 ⟨rfl, hb⟩
    refine ⟨.bool true, rb hok, ?_⟩
    replace hM := hM.call hb
    go_frame
    refine np (.bool false) ?_
    refine np (.bool false) ?_
    refine np (.pointer (some ⟨g2, 0, none⟩)) ?_
    refine ng hM 2 rfl 0 Tryz.underlying2 rfl ?_
    refine np (.bool (h.at_ == 22)) ?_
    refine np (.bool (h.at_ == 22)) ?_
    refine np (.bool (h.at_ == 22)) ?_
    go_frame
    rcases tf ((h.at_ == 22)) with hx16 | hx16
    rw [hx16]
    iterate 4 refine ns ?_
    refine np (.bool true) ?_
    refine np (.bool true) ?_
    iterate 3 refine ns ?_
    refine np (.bool true) ?_
    refine np (.bool true) ?_
    iterate 8 refine ns ?_
    refine np (.bool true) ?_
    refine np (.bool true) ?_
    iterate 8 refine ns ?_
    refine np (.bool true) ?_
    go_frame
    refine wl_nil ?_
    exact ⟨(fun i => (([.agg #[.slice (some ⟨b, off, none⟩) l.length cap, .slice (some ⟨b2, off2, none⟩) c.length cap2], .int .i64 task, .agg (HD.cells h).toArray, .bool true, .bool false, .bool false, .pointer (some ⟨g2, 0, none⟩), .int .i64 h.at_, .bool true, .bool true, .bool true, undef, undef, undef, undef, .bool true, .bool true, undef, undef, undef, .bool true, .bool true, undef, undef, undef, undef, undef, undef, undef, undef, .bool true, .bool true, undef, undef, undef, undef, undef, undef, undef, undef] : List Value) ++ ([.bool true] : List Value)).getD i undef), rfl, congrArg Value.bool (show true = xg1 by rw [hxg1]; simp [hok, hx16]), hM⟩
    rw [hx16]
    refine np (.pointer (some ⟨g2, 1, none⟩)) ?_
    refine np (.pointer (some ⟨g2, 1, none⟩)) ?_
    refine ng hM 2 rfl 1 Tryz.underlying2 rfl ?_
    refine np (.bool (h.c != 3)) ?_
    refine np (.bool (h.c != 3)) ?_
    refine np (.bool (h.c != 3)) ?_
    go_frame
    rcases tf ((h.c != 3)) with hx17 | hx17
    rw [hx17]
    iterate 3 refine ns ?_
    refine np (.bool true) ?_
    refine np (.bool true) ?_
    iterate 8 refine ns ?_
    refine np (.bool true) ?_
    refine np (.bool true) ?_
    iterate 8 refine ns ?_
    refine np (.bool true) ?_
    go_frame
    refine wl_nil ?_
    exact ⟨(fun i => (([.agg #[.slice (some ⟨b, off, none⟩) l.length cap, .slice (some ⟨b2, off2, none⟩) c.length cap2], .int .i64 task, .agg (HD.cells h).toArray, .bool true, .bool false, .bool false, .pointer (some ⟨g2, 0, none⟩), .int .i64 h.at_, .bool false, .bool false, .bool false, .pointer (some ⟨g2, 1, none⟩), .pointer (some ⟨g2, 1, none⟩), .int .i64 h.c, .bool true, .bool true, .bool true, undef, undef, undef, .bool true, .bool true, undef, undef, undef, undef, undef, undef, undef, undef, .bool true, .bool true, undef, undef, undef, undef, undef, undef, undef, undef] : List Value) ++ ([.bool true] : List Value)).getD i undef), rfl, congrArg Value.bool (show true = xg1 by rw [hxg1]; simp [hok, hx16, hx17]), hM⟩
    rw [hx17]
    refine np (.pointer (some ⟨g2, 5, none⟩)) ?_
    refine ng hM 2 rfl 5 Tryz.underlying2 rfl ?_
    refine np (.bool (h.cur == 0)) ?_
    refine np (.bool (h.cur == 0)) ?_
    refine np (.bool (h.cur == 0)) ?_
    go_frame
    rcases tf ((h.cur == 0)) with hx18 | hx18
    rw [hx18]
    iterate 8 refine ns ?_
    refine np (.bool true) ?_
    refine np (.bool true) ?_
    iterate 8 refine ns ?_
    refine np (.bool true) ?_
    go_frame
    refine wl_nil ?_
    exact ⟨(fun i => (([.agg #[.slice (some ⟨b, off, none⟩) l.length cap, .slice (some ⟨b2, off2, none⟩) c.length cap2], .int .i64 task, .agg (HD.cells h).toArray, .bool true, .bool false, .bool false, .pointer (some ⟨g2, 0, none⟩), .int .i64 h.at_, .bool false, .bool false, .bool false, .pointer (some ⟨g2, 1, none⟩), .pointer (some ⟨g2, 1, none⟩), .int .i64 h.c, .bool false, .bool false, .bool false, .pointer (some ⟨g2, 5, none⟩), .int .i64 h.cur, .bool true, .bool true, .bool true, undef, undef, undef, undef, undef, undef, undef, undef, .bool true, .bool true, undef, undef, undef, undef, undef, undef, undef, undef] : List Value) ++ ([.bool true] : List Value)).getD i undef), rfl, congrArg Value.bool (show true = xg1 by rw [hxg1]; simp [hok, hx16, hx17, hx18]), hM⟩
    rw [hx18]
    refine np (.pointer (some ⟨g2, 0, none⟩)) ?_
    refine ng hM 2 rfl 0 Tryz.underlying2 rfl ?_
    refine np (.bool (h.at_ != 14)) ?_
    refine np (.bool (h.at_ != 14)) ?_
    go_frame
    rcases tf ((h.at_ != 14)) with hx19 | hx19
    rw [hx19]
    refine np (.pointer (some ⟨g2, 9, none⟩)) ?_
    refine ng hM 2 rfl 9 Tryz.underlying2 rfl ?_
    refine np (.bool (h.next == 0)) ?_
    refine np (.bool (h.next == 0)) ?_
    refine np (.bool (h.next == 0)) ?_
    refine np (.bool (h.next == 0)) ?_
    go_frame
    rcases tf ((h.next == 0)) with hx20 | hx20
    rw [hx20]
    iterate 8 refine ns ?_
    refine np (.bool true) ?_
    go_frame
    refine wl_nil ?_
    exact ⟨(fun i => (([.agg #[.slice (some ⟨b, off, none⟩) l.length cap, .slice (some ⟨b2, off2, none⟩) c.length cap2], .int .i64 task, .agg (HD.cells h).toArray, .bool true, .bool false, .bool false, .pointer (some ⟨g2, 0, none⟩), .int .i64 h.at_, .bool false, .bool false, .bool false, .pointer (some ⟨g2, 1, none⟩), .pointer (some ⟨g2, 1, none⟩), .int .i64 h.c, .bool false, .bool false, .bool false, .pointer (some ⟨g2, 5, none⟩), .int .i64 h.cur, .bool false, .bool false, .bool false, .pointer (some ⟨g2, 0, none⟩), .int .i64 h.at_, .bool true, .bool true, .pointer (some ⟨g2, 9, none⟩), .int .i64 h.next, .bool true, .bool true, .bool true, .bool true, undef, undef, undef, undef, undef, undef, undef, undef] : List Value) ++ ([.bool true] : List Value)).getD i undef), rfl, congrArg Value.bool (show true = xg1 by rw [hxg1]; simp [hok, hx16, hx17, hx18, hx19, hx20]), hM⟩
    rw [hx20]
    refine np (.pointer (some ⟨g2, 0, none⟩)) ?_
    refine ng hM 2 rfl 0 Tryz.underlying2 rfl ?_
    refine np (.bool (decide (h.at_ ≥ 21))) ?_
    refine np (.bool (decide (h.at_ ≥ 21))) ?_
    go_frame
    rcases tf (decide (h.at_ ≥ 21)) with hx21 | hx21
    rw [hx21]
    refine np (.pointer (some ⟨g2, 10, none⟩)) ?_
    refine ng hM 2 rfl 10 Tryz.underlying2 rfl ?_
    refine np (.bool (h.new == 0)) ?_
    refine np (.bool (h.new == 0)) ?_
    refine np (.bool (h.new == 0)) ?_
    go_frame
    refine wl_nil ?_
    exact ⟨(fun i => (([.agg #[.slice (some ⟨b, off, none⟩) l.length cap, .slice (some ⟨b2, off2, none⟩) c.length cap2], .int .i64 task, .agg (HD.cells h).toArray, .bool true, .bool false, .bool false, .pointer (some ⟨g2, 0, none⟩), .int .i64 h.at_, .bool false, .bool false, .bool false, .pointer (some ⟨g2, 1, none⟩), .pointer (some ⟨g2, 1, none⟩), .int .i64 h.c, .bool false, .bool false, .bool false, .pointer (some ⟨g2, 5, none⟩), .int .i64 h.cur, .bool false, .bool false, .bool false, .pointer (some ⟨g2, 0, none⟩), .int .i64 h.at_, .bool true, .bool true, .pointer (some ⟨g2, 9, none⟩), .int .i64 h.next, .bool false, .bool false, .bool false, .bool false, .pointer (some ⟨g2, 0, none⟩), .int .i64 h.at_, .bool true, .bool true, .pointer (some ⟨g2, 10, none⟩), .int .i64 h.new, .bool (h.new == 0), .bool (h.new == 0)] : List Value) ++ ([.bool (h.new == 0)] : List Value)).getD i undef), rfl, congrArg Value.bool (show (h.new == 0) = xg1 by rw [hxg1]; simp [hok, hx16, hx17, hx18, hx19, hx20, hx21]), hM⟩
    rw [hx21]
    iterate 3 refine ns ?_
    refine np (.bool false) ?_
    refine np (.bool false) ?_
    go_frame
    refine wl_nil ?_
    exact ⟨(fun i => (([.agg #[.slice (some ⟨b, off, none⟩) l.length cap, .slice (some ⟨b2, off2, none⟩) c.length cap2], .int .i64 task, .agg (HD.cells h).toArray, .bool true, .bool false, .bool false, .pointer (some ⟨g2, 0, none⟩), .int .i64 h.at_, .bool false, .bool false, .bool false, .pointer (some ⟨g2, 1, none⟩), .pointer (some ⟨g2, 1, none⟩), .int .i64 h.c, .bool false, .bool false, .bool false, .pointer (some ⟨g2, 5, none⟩), .int .i64 h.cur, .bool false, .bool false, .bool false, .pointer (some ⟨g2, 0, none⟩), .int .i64 h.at_, .bool true, .bool true, .pointer (some ⟨g2, 9, none⟩), .int .i64 h.next, .bool false, .bool false, .bool false, .bool false, .pointer (some ⟨g2, 0, none⟩), .int .i64 h.at_, .bool false, .bool false, undef, undef, undef, .bool false] : List Value) ++ ([.bool false] : List Value)).getD i undef), rfl, congrArg Value.bool (show false = xg1 by rw [hxg1]; simp [hok, hx16, hx17, hx18, hx19, hx20, hx21]), hM⟩
    rw [hx19]
    iterate 3 refine ns ?_
    refine np (.bool false) ?_
    refine np (.bool false) ?_
    refine np (.bool false) ?_
    refine np (.pointer (some ⟨g2, 0, none⟩)) ?_
    refine ng hM 2 rfl 0 Tryz.underlying2 rfl ?_
    refine np (.bool (decide (h.at_ ≥ 21))) ?_
    refine np (.bool (decide (h.at_ ≥ 21))) ?_
    go_frame
    rcases tf (decide (h.at_ ≥ 21)) with hx22 | hx22
    rw [hx22]
    refine np (.pointer (some ⟨g2, 10, none⟩)) ?_
    refine ng hM 2 rfl 10 Tryz.underlying2 rfl ?_
    refine np (.bool (h.new == 0)) ?_
    refine np (.bool (h.new == 0)) ?_
    refine np (.bool (h.new == 0)) ?_
    go_frame
    refine wl_nil ?_
    exact ⟨(fun i => (([.agg #[.slice (some ⟨b, off, none⟩) l.length cap, .slice (some ⟨b2, off2, none⟩) c.length cap2], .int .i64 task, .agg (HD.cells h).toArray, .bool true, .bool false, .bool false, .pointer (some ⟨g2, 0, none⟩), .int .i64 h.at_, .bool false, .bool false, .bool false, .pointer (some ⟨g2, 1, none⟩), .pointer (some ⟨g2, 1, none⟩), .int .i64 h.c, .bool false, .bool false, .bool false, .pointer (some ⟨g2, 5, none⟩), .int .i64 h.cur, .bool false, .bool false, .bool false, .pointer (some ⟨g2, 0, none⟩), .int .i64 h.at_, .bool false, .bool false, undef, undef, undef, .bool false, .bool false, .bool false, .pointer (some ⟨g2, 0, none⟩), .int .i64 h.at_, .bool true, .bool true, .pointer (some ⟨g2, 10, none⟩), .int .i64 h.new, .bool (h.new == 0), .bool (h.new == 0)] : List Value) ++ ([.bool (h.new == 0)] : List Value)).getD i undef), rfl, congrArg Value.bool (show (h.new == 0) = xg1 by rw [hxg1]; simp [hok, hx16, hx17, hx18, hx19, hx22]), hM⟩
    rw [hx22]
    iterate 3 refine ns ?_
    refine np (.bool false) ?_
    refine np (.bool false) ?_
    go_frame
    refine wl_nil ?_
    exact ⟨(fun i => (([.agg #[.slice (some ⟨b, off, none⟩) l.length cap, .slice (some ⟨b2, off2, none⟩) c.length cap2], .int .i64 task, .agg (HD.cells h).toArray, .bool true, .bool false, .bool false, .pointer (some ⟨g2, 0, none⟩), .int .i64 h.at_, .bool false, .bool false, .bool false, .pointer (some ⟨g2, 1, none⟩), .pointer (some ⟨g2, 1, none⟩), .int .i64 h.c, .bool false, .bool false, .bool false, .pointer (some ⟨g2, 5, none⟩), .int .i64 h.cur, .bool false, .bool false, .bool false, .pointer (some ⟨g2, 0, none⟩), .int .i64 h.at_, .bool false, .bool false, undef, undef, undef, .bool false, .bool false, .bool false, .pointer (some ⟨g2, 0, none⟩), .int .i64 h.at_, .bool false, .bool false, undef, undef, undef, .bool false] : List Value) ++ ([.bool false] : List Value)).getD i undef), rfl, congrArg Value.bool (show false = xg1 by rw [hxg1]; simp [hok, hx16, hx17, hx18, hx19, hx22]), hM⟩
  · obtain ⟨a1, j1, rfl, -⟩ := h1
    obtain ⟨a2, j2, rfl, -⟩ := h2
    go_enter Tryz.func94, Tryz.ntmps94
    refine wp_seq_k fun _ cn1 => wl_region ?_
    refine nx hM 55 [.slice a1 l.length j1, .slice a2 c.length j2] ?_
    clear hM; intro g1 W1 hM
    refine nx hM 73 (HD.cells h) ?_
    clear hM; intro g2 W2 hM
    refine na hM [.slice none 0 0, .slice none 0 0] Z_impl_Shared ?_
    clear hM; intro g3 W3 hM
    refine na hM (HD.cells HD.zero) Z_impl_Hand ?_
    clear hM; intro g4 W4 hM
    refine np (.bool false) ?_
    go_frame
    refine wl_nil (cn1 _ _ ?_)
    clear cn1
    refine wp_seq_k fun Kn2 cn2 => ?_
    refine wp_seq_k fun _ cn3 => wl_region ?_
    refine nl hM 3 rfl Tryz.underlying55 I_impl_Shared ?_
    refine np (.int .i64 task) ?_
    refine nl hM 2 rfl Tryz.underlying73 I_impl_Hand ?_
    refine nc (spec_l7Ok (.slice a1 l.length j1) (.slice a2 c.length j2) l c task h 14 25 _ (H1.below hM.below) (H2.below hM.below) hl hc) ?_
    rintro e W5 ⟨rfl, hb⟩
    refine ⟨.bool false, rb hok, ?_⟩
    replace hM := hM.call hb
    go_frame
    refine np (.bool true) ?_
    refine np (.bool true) ?_
    iterate 3 refine ns ?_
    refine np (.bool true) ?_
    refine np (.bool true) ?_
    iterate 4 refine ns ?_
    refine np (.bool true) ?_
    refine np (.bool true) ?_
    iterate 3 refine ns ?_
    refine np (.bool true) ?_
    refine np (.bool true) ?_
    iterate 8 refine ns ?_
    refine np (.bool true) ?_
    refine np (.bool true) ?_
    iterate 8 refine ns ?_
    refine np (.bool true) ?_
    go_frame
    refine wl_nil (cn3 _ _ ?_)
    clear cn3
    refine wp_cond_true rfl ?_
    refine wp_seq_k fun _ cn4 => wl_region ?_
    refine np (.agg #[.slice none 0 0, .slice none 0 0]) ?_
    refine np (.agg (HD.cells HD.zero).toArray) ?_
    refine nS hM 1 rfl [.slice none 0 0, .slice none 0 0] I_impl_Shared rfl ?_
    clear hM; intro W6 hM
    refine nS hM 0 rfl (HD.cells HD.zero) I_impl_Hand (hd_one' _) ?_
    clear hM; intro W7 hM
    refine np (.bool false) ?_
    go_frame
    refine wl_nil (cn4 _ _ ?_)
    clear cn4
    refine wp_ret ?_
    simp only [Exit.then, Exit.inBlock]
    have hR : mvR l c task h = ([], [], HD.zero, false) := by simp [mvR, doneR, noR, hok]
    rw [hR]
    exact bodyPost_ret (ret3 (p := 6) (q := 7) (u := 8) (v := .bool false) rfl hM 1 0 rfl rfl rfl rfl rfl) rfl ⟨_, _, rfl, own0, own0, hM.below⟩
end Go.Proofs.YtbfndoajchibbaaGreat
