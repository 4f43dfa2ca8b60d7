/- AddStep, CutStep of the model. -/
import Derived.Test.YtbfndoajchibbaaGreatShort
import Derived.Test.YtbfndoajchibbaaGreatStep13
namespace Go.Proofs.YtbfndoajchibbaaGreat
open Go.ChangeShapes Go.WideShapes Go.ChangeAt Go.RowKit
set_option linter.unusedVariables false
set_option maxRecDepth 100000
set_option maxHeartbeats 16000000
set_option linter.unusedSimpArgs false

theorem nslX {w : World} {g k n : Nat} {t : TypeId} {l : List ND} {p : List Value} (hb : Blk w g t (cellsOf l ++ p)) (hn : n = l.length) (h1 : n ≤ k) (h2 : k ≤ maxLen) : NSl w (.slice (some ⟨g, 0, none⟩) n k) l := by
  subst hn
  exact nsl_blk hb h1 h2
theorem own_nX {w : World} {B g k n : Nat} {l : List ND} {p : List Value} (hb : Blk w g 49 (cellsOf l ++ p)) (hn : n = l.length) (h1 : n ≤ k) (h2 : k ≤ maxLen) (hB : B ≤ g) (h0 : 0 < l.length) (hx : (cellsOf l ++ p).length = k * 8) : OwnR w B w.heap.size 49 8 l.length (cellsOf l) (.slice (some ⟨g, 0, none⟩) n k) := by
  subst hn
  exact own_nblk hb h1 h2 hB h0 hx
theorem liftR_len (l : List ND) (a s k : Int) : (liftR l a s k).1.length = l.length := by simp [liftR, setK]
theorem shared_pos {l : List ND} {c : List Int} {b : Bool} (h : (sharedB l c && b) = true) : 0 < l.length := by
  simp only [sharedB, Bool.and_eq_true] at h
  exact (nodes_some h.1.1).1
theorem has64 {l : List ND} {i : Int} (h : hasB l i = true) (hl : l.length ≤ 1048576) : In64 i := by
  obtain ⟨h0, h1⟩ := inB_t h
  unfold In64
  omega
theorem lockR_pos {l : List ND} {c : List Int} {task : Int} {h : HD} {at' then' : Int} (hl : l ≠ []) (hc : c ≠ []) : 0 < (lockR l c task h at' then').1.length ∧ 0 < (lockR l c task h at' then').2.1.length := by
  have h1 := List.length_pos_iff.2 hl
  have h2 := List.length_pos_iff.2 hc
  unfold lockR
  split
  · rename_i hk
    refine ⟨?_, h2⟩
    unfold lockB at hk ⊢
    split at hk
    · rename_i h3
      rw [if_pos h3]
      split at hk
      · rename_i h4
        rw [if_pos h4]
        show 0 < (giveO l at' (task + 1)).length
        rw [giveO_len]
        exact h1
      · simp at hk
    · simp at hk
  · exact ⟨h1, h2⟩
theorem makeR_len (l : List ND) (h : HD) : (makeR l h).1.length ≤ l.length + 1 := by
  unfold makeR
  split <;> simp
theorem moveR_len (l : List ND) (task : Int) (h : HD) : (moveR l task h).1.length ≤ l.length + 1 := by
  unfold moveR
  split <;> simp
theorem joinR_len (l : List ND) (h : HD) : (joinR l h).1.length = l.length := by
  unfold joinR
  split <;> exact liftR_len _ _ _ _
theorem doR_len (l : List ND) (task : Int) (h : HD) : (doR l task h).1.length ≤ l.length + 1 := by
  unfold doR
  have := moveR_len l task h
  have := joinR_len l h
  repeat' split
  all_goals first | omega | (simp [setK]; done) | (simp only []; omega)
theorem freeR_len (l : List ND) (task : Int) (h : HD) : (freeR l task h).1.length = l.length := by
  unfold freeR freeL
  simp only []
  split <;> simp [setK]
def addR (l : List ND) (c : List Int) (task : Int) (h : HD) : StepR :=
  if !l7okB l c task h 5 8 || h.c == 1 || (h.at_ != 5 && h.c != 2) then noR
  else if h.at_ == 5 then (if h.c == 3 then lockR l c task h h.prev 9 else lockR l c task h h.prev 6)
  else if h.at_ == 6 then (if (nd l h.prev).g || kidF h.side (nd l h.prev).l (nd l h.prev).r != 0 || kidF h.side (nd l h.prev).lt (nd l h.prev).rt != h.tag then doneR l c (againH h) else doneR l c { h with at_ := 7 })
  else if h.at_ == 7 then doneR (makeR l h).1 c (makeR l h).2
  else doneR (setK l h.prev fun n => withK n h.side h.new) c (endH h 1)
def cutKid (l : List ND) (h : HD) : Int := if (nd l h.cur).l == 0 then (nd l h.cur).r else (nd l h.cur).l
def cutR (l : List ND) (c : List Int) (task : Int) (h : HD) : StepR :=
  if !l7okB l c task h 9 13 || h.c != 3 || h.cur == 0 then noR
  else if h.at_ == 9 then lockR l c task h h.cur 10
  else if h.at_ == 10 then doneR l c (checkCutH l h)
  else if h.at_ == 11 then doneR (setK l h.cur goneN) c { h with at_ := 12 }
  else if h.at_ == 12 then (if (liftR l h.prev h.side (cutKid l h)).2 then doneR (liftR l h.prev h.side (cutKid l h)).1 c { h with at_ := 13 } else doneR (liftR l h.prev h.side (cutKid l h)).1 c (endH h 1))
  else doneR (setK l h.prev fun n => withT n h.side) c (endH h 1)

theorem spec_AddStep (u x : Value) (l : List ND) (c : List Int) (task : Int) (h : HD) (w0 : World) (h1 : NSl w0 u l) (h2 : SlI w0 x c) (hl : l.length ≤ 1048576) (hc : c.length ≤ 1048576) :
    Calls Tryz.prog 91 #[.agg #[u, x], .int .i64 task, h.val] w0 (Says3 (addR l c task h) w0) := by
  have H1 := h1
  have H2 := h2
  unfold HD.val
  have hM := Mem.start w0
  rcases tf (l7okB l c task h 5 8) with hok | hok
  · obtain ⟨hl0, hc0, hl1, hc1, hat, kt, hkt0, hkt, hcnt, hnodes, qnp, qnc, qnu, qnx, qnw⟩ := ok_facts hok
    obtain ⟨b, off, cap, rfl, kk1, mm1, s1, G1⟩ := h1.at hl0
    obtain ⟨b2, off2, cap2, rfl, kk2, mm2, s2, G2⟩ := h2.at hc0
    have ht : task.toNat = kt := by omega
    have hl30 := (nodes_some hnodes).2
    obtain ⟨knp, ⟨npk, npv, npl, npr, npo, npg, nplt, nprt⟩, hknp, npe, hlnp, hnnp⟩ := nd_at qnp
    have Anp := G1 knp _ hnnp
    have tnp : h.prev.toNat = knp := by omega
    have hmk := makeR_len l h
    go_enter Tryz.func91, Tryz.ntmps91
    refine wp_seq_k fun _ cn1 => wl_region ?_
    refine nx hM 55 [.slice (some ⟨b, off, none⟩) l.length cap, .slice (some ⟨b2, off2, none⟩) c.length cap2] ?_
    clear hM; intro g1 W1 hM
    refine nx hM 73 (HD.cells h) ?_
    clear hM; intro g2 W2 hM
    refine na hM [.slice none 0 0, .slice none 0 0] Z_impl_Shared ?_
    clear hM; intro g3 W3 hM
    refine na hM (HD.cells HD.zero) Z_impl_Hand ?_
    clear hM; intro g4 W4 hM
    refine np (.bool false) ?_
    go_frame
    refine wl_nil (cn1 _ _ ?_)
    clear cn1
    refine wp_seq_k fun Kn2 cn2 => ?_
    refine wp_seq_k fun Kn3 cn3 => ?_
    obtain ⟨xg1, hxg1⟩ : ∃ x : Bool, x = (((!l7okB l c task h 5 8) || (h.c == 1)) || ((h.at_ != 5) && (h.c != 2))) := ⟨_, rfl⟩
    refine wa_join (fun act W => ∃ (U1 : Nat → Value), act = ⟨#[.agg #[.slice (some ⟨b, off, none⟩) l.length cap, .slice (some ⟨b2, off2, none⟩) c.length cap2], .int .i64 task, .agg (HD.cells h).toArray, .pointer (some ⟨g1, 0, none⟩), undef, .pointer (some ⟨g2, 0, none⟩), .pointer (some ⟨g3, 0, none⟩), .pointer (some ⟨g4, 0, none⟩), .bool false, undef, undef, (U1 0), (U1 1), (U1 2), (U1 3), (U1 4), (U1 5), (U1 6), (U1 7), (U1 8), (U1 9), (U1 10), (U1 11), (U1 12), (U1 13), (U1 14), (U1 15), (U1 16), (U1 17), (U1 18), (U1 19), (U1 20), (U1 21), undef, undef, undef, undef, undef, undef, undef, undef, undef, undef, undef, undef, undef, undef, undef, undef, undef, undef, undef, undef, undef, undef, undef, undef, undef, undef, undef, undef, undef, undef, undef, undef, undef, undef, undef, undef, undef, undef, undef, undef, undef, undef, undef, undef, undef, undef, undef, undef, undef, undef, undef, undef, undef, undef, undef, undef, undef, undef, undef, undef, undef, undef, undef, undef, undef, undef, undef, undef, undef, undef, undef, undef, undef, undef, undef, undef, undef, undef, undef, undef, undef, undef, undef, undef, undef, undef, undef, undef, undef, undef, undef, undef, undef, undef, undef, undef, undef, undef], []⟩ ∧ U1 21 = .bool xg1 ∧ Mem w0 W [(g4, 73, (HD.cells HD.zero)), (g3, 55, [.slice none 0 0, .slice none 0 0]), (g2, 73, (HD.cells h)), (g1, 55, [.slice (some ⟨b, off, none⟩) l.length cap, .slice (some ⟨b2, off2, none⟩) c.length cap2])]) ?_ ?_
    clear hM
    rintro act W5 ⟨U1, rfl, hU1, hM⟩
    refine cn3 _ _ ?_
    clear cn3
    rcases tf ((((!l7okB l c task h 5 8) || (h.c == 1)) || ((h.at_ != 5) && (h.c != 2)))) with hx11 | hx11
    refine wp_cond_true (hU1.trans (congrArg Value.bool (hxg1.trans hx11))) ?_
    refine wp_seq_k fun _ cn4 => wl_region ?_
    refine np (.agg #[.slice none 0 0, .slice none 0 0]) ?_
    refine np (.agg (HD.cells HD.zero).toArray) ?_
    refine nS hM 1 rfl [.slice none 0 0, .slice none 0 0] I_impl_Shared rfl ?_
    clear hM; intro W6 hM
    refine nS hM 0 rfl (HD.cells HD.zero) I_impl_Hand (hd_one' _) ?_
    clear hM; intro W7 hM
    refine np (.bool false) ?_
    go_frame
    refine wl_nil (cn4 _ _ ?_)
    clear cn4
    refine wp_ret ?_
    simp only [Exit.then, Exit.inBlock]
    have hR : addR l c task h = ([], [], HD.zero, false) := by unfold addR; rw [if_pos hx11]; rfl
    rw [hR]
    exact bodyPost_ret (ret3 (p := 6) (q := 7) (u := 8) (v := .bool false) rfl hM 1 0 rfl rfl rfl rfl rfl) rfl ⟨_, _, rfl, own0, own0, hM.below⟩
    refine wp_cond_false (hU1.trans (congrArg Value.bool (hxg1.trans hx11))) ?_
    refine wp_skip ?_
    refine cn2 _ _ ?_
    clear cn2
    refine wp_seq_k fun _ cn4 => wl_region ?_
    refine nl hM 3 rfl Tryz.underlying55 I_impl_Shared ?_
    refine nc (spec_l7Copy (.slice (some ⟨b, off, none⟩) l.length cap) (.slice (some ⟨b2, off2, none⟩) c.length cap2) l c _ (H1.below hM.below) (H2.below hM.below) hl0 hc0 hl hc) ?_
    rintro e W6 ⟨m1, m2, k1, k2, p1, p2, rfl, ⟨q1, q2, q3, q4, q5, q6⟩, hMc⟩
    refine ⟨_, rfl, ?_⟩
    replace hM := hM.join hMc
    go_frame
    refine na hM [.slice none 0 0, .slice none 0 0] Z_impl_Shared ?_
    clear hM; intro g5 W7 hM
    refine nS hM 0 rfl [.slice (some ⟨m1, 0, none⟩) l.length k1, .slice (some ⟨m2, 0, none⟩) c.length k2] I_impl_Shared rfl ?_
    clear hM; intro W8 hM
    refine wl_nil (cn4 _ _ ?_)
    clear cn4
    refine wp_seq_k fun Kn5 cn5 => ?_
    refine wp_seq_k fun _ cn6 => wl_region ?_
    refine np (.pointer (some ⟨g2, 0, none⟩)) ?_
    refine ng hM 5 rfl 0 Tryz.underlying2 rfl ?_
    go_frame
    refine wl_nil (cn6 _ _ ?_)
    clear cn6
    refine wp_block ?_
    refine wp_seq_k fun _ cn7 => wl_region ?_
    refine np (.bool (h.at_ == 5)) ?_
    refine np (.bool (h.at_ == 5)) ?_
    go_frame
    refine wl_nil (cn7 _ _ ?_)
    clear cn7
    rcases tf ((h.at_ == 5)) with hx12 | hx12
    rw [hx12]
    refine wp_cond_true rfl ?_
    refine wp_seq_k fun Kn8 cn8 => ?_
    refine wp_seq_k fun _ cn9 => wl_region ?_
    refine np (.pointer (some ⟨g2, 1, none⟩)) ?_
    refine np (.pointer (some ⟨g2, 1, none⟩)) ?_
    refine ng hM 5 rfl 1 Tryz.underlying2 rfl ?_
    refine np (.bool (h.c == 3)) ?_
    go_frame
    refine wl_nil (cn9 _ _ ?_)
    clear cn9
    rcases tf ((h.c == 3)) with hx13 | hx13
    rw [hx13]
    refine wp_cond_true rfl ?_
    refine wp_seq_k fun _ cn10 => wl_region ?_
    refine nl hM 6 rfl Tryz.underlying55 I_impl_Shared ?_
    refine np (.int .i64 task) ?_
    refine nl hM 5 rfl Tryz.underlying73 I_impl_Hand ?_
    refine np (.pointer (some ⟨g2, 4, none⟩)) ?_
    refine ng hM 5 rfl 4 Tryz.underlying2 rfl ?_
    refine nc (spec_l8Lock (.slice (some ⟨b, off, none⟩) l.length cap) (.slice (some ⟨b2, off2, none⟩) c.length cap2) l c task h h.prev 9 _ (H1.below hM.below) (H2.below hM.below) hl0 hc0 hl hc (has64 qnp hl)) ?_
    rintro e W9 ⟨u', x', rfl, hO1, hO2, hb⟩
    obtain ⟨hr1, hr2⟩ := lockR_pos (task := task) (h := h) (at' := h.prev) (then' := 9) hl0 hc0
    obtain ⟨v1, j1, r1, rfl, s1', s2', s3', s4', s9'⟩ := own_blk hO1 hr1
    obtain ⟨v2, j2, r2, rfl, s5', s6', s7', s8', s0'⟩ := own_blk hO2 hr2
    replace hM := hM.join (Mem.two hb s4' s8' s3' s7' ne_types)
    refine ⟨_, rfl, ?_⟩
    go_frame
    refine np (.agg #[.slice (some ⟨v1, 0, none⟩) ((lockR l c task h h.prev 9).1.length) j1, .slice (some ⟨v2, 0, none⟩) ((lockR l c task h h.prev 9).2.1.length) j2]) ?_
    refine np (.agg (HD.cells ((lockR l c task h h.prev 9).2.2.1)).toArray) ?_
    refine np (.bool ((lockR l c task h h.prev 9).2.2.2)) ?_
    refine nS hM 6 rfl [.slice (some ⟨v1, 0, none⟩) ((lockR l c task h h.prev 9).1.length) j1, .slice (some ⟨v2, 0, none⟩) ((lockR l c task h h.prev 9).2.1.length) j2] I_impl_Shared rfl ?_
    clear hM; intro W10 hM
    refine nS hM 5 rfl (HD.cells ((lockR l c task h h.prev 9).2.2.1)) I_impl_Hand (hd_one' _) ?_
    clear hM; intro W11 hM
    refine np (.bool ((lockR l c task h h.prev 9).2.2.2)) ?_
    go_frame
    refine wl_nil (cn10 _ _ ?_)
    clear cn10
    refine wp_ret ?_
    simp only [Exit.then, Exit.inBlock]
    have hR : addR l c task h = ((lockR l c task h h.prev 9).1, (lockR l c task h h.prev 9).2.1, (lockR l c task h h.prev 9).2.2.1, (lockR l c task h h.prev 9).2.2.2) := by unfold addR; rw [if_neg (by rw [hx11]; exact Bool.false_ne_true)]; simp [doneR, noR, setK, withK, hok, hx12, hx13, ht, npe, tnp]
    rw [hR]
    exact bodyPost_ret (ret3 (p := 6) (q := 7) (u := 8) (v := .bool ((lockR l c task h h.prev 9).2.2.2)) rfl hM 6 5 rfl rfl rfl rfl rfl) rfl ⟨_, _, rfl, own_nX (hM.blk 0 rfl) rfl s1' s2' (hM.base 0 rfl) hr1 s9', own_iblk (hM.blk 1 rfl) s5' s6' (hM.base 1 rfl) hr2 s0', hM.below⟩
    rw [hx13]
    refine wp_cond_false rfl ?_
    refine wp_skip ?_
    refine cn8 _ _ ?_
    clear cn8
    refine wp_seq_k fun _ cn10 => wl_region ?_
    refine nl hM 6 rfl Tryz.underlying55 I_impl_Shared ?_
    refine np (.int .i64 task) ?_
    refine nl hM 5 rfl Tryz.underlying73 I_impl_Hand ?_
    refine np (.pointer (some ⟨g2, 4, none⟩)) ?_
    refine ng hM 5 rfl 4 Tryz.underlying2 rfl ?_
    refine nc (spec_l8Lock (.slice (some ⟨b, off, none⟩) l.length cap) (.slice (some ⟨b2, off2, none⟩) c.length cap2) l c task h h.prev 6 _ (H1.below hM.below) (H2.below hM.below) hl0 hc0 hl hc (has64 qnp hl)) ?_
    rintro e W9 ⟨u', x', rfl, hO1, hO2, hb⟩
    obtain ⟨hr1, hr2⟩ := lockR_pos (task := task) (h := h) (at' := h.prev) (then' := 6) hl0 hc0
    obtain ⟨v1, j1, r1, rfl, s1', s2', s3', s4', s9'⟩ := own_blk hO1 hr1
    obtain ⟨v2, j2, r2, rfl, s5', s6', s7', s8', s0'⟩ := own_blk hO2 hr2
    replace hM := hM.join (Mem.two hb s4' s8' s3' s7' ne_types)
    refine ⟨_, rfl, ?_⟩
    go_frame
    refine np (.agg #[.slice (some ⟨v1, 0, none⟩) ((lockR l c task h h.prev 6).1.length) j1, .slice (some ⟨v2, 0, none⟩) ((lockR l c task h h.prev 6).2.1.length) j2]) ?_
    refine np (.agg (HD.cells ((lockR l c task h h.prev 6).2.2.1)).toArray) ?_
    refine np (.bool ((lockR l c task h h.prev 6).2.2.2)) ?_
    refine nS hM 6 rfl [.slice (some ⟨v1, 0, none⟩) ((lockR l c task h h.prev 6).1.length) j1, .slice (some ⟨v2, 0, none⟩) ((lockR l c task h h.prev 6).2.1.length) j2] I_impl_Shared rfl ?_
    clear hM; intro W10 hM
    refine nS hM 5 rfl (HD.cells ((lockR l c task h h.prev 6).2.2.1)) I_impl_Hand (hd_one' _) ?_
    clear hM; intro W11 hM
    refine np (.bool ((lockR l c task h h.prev 6).2.2.2)) ?_
    go_frame
    refine wl_nil (cn10 _ _ ?_)
    clear cn10
    refine wp_ret ?_
    simp only [Exit.then, Exit.inBlock]
    have hR : addR l c task h = ((lockR l c task h h.prev 6).1, (lockR l c task h h.prev 6).2.1, (lockR l c task h h.prev 6).2.2.1, (lockR l c task h h.prev 6).2.2.2) := by unfold addR; rw [if_neg (by rw [hx11]; exact Bool.false_ne_true)]; simp [doneR, noR, setK, withK, hok, hx12, hx13, ht, npe, tnp]
    rw [hR]
    exact bodyPost_ret (ret3 (p := 6) (q := 7) (u := 8) (v := .bool ((lockR l c task h h.prev 6).2.2.2)) rfl hM 6 5 rfl rfl rfl rfl rfl) rfl ⟨_, _, rfl, own_nX (hM.blk 0 rfl) rfl s1' s2' (hM.base 0 rfl) hr1 s9', own_iblk (hM.blk 1 rfl) s5' s6' (hM.base 1 rfl) hr2 s0', hM.below⟩
    rw [hx12]
    refine wp_cond_false rfl ?_
    refine wp_seq_k fun _ cn8 => wl_region ?_
    refine np (.bool (h.at_ == 6)) ?_
    refine np (.bool (h.at_ == 6)) ?_
    go_frame
    refine wl_nil (cn8 _ _ ?_)
    clear cn8
    rcases tf ((h.at_ == 6)) with hx14 | hx14
    rw [hx14]
    refine wp_cond_true rfl ?_
    refine wp_seq_k fun _ cn9 => wl_region ?_
    refine np (.pointer (some ⟨g1, 0, none⟩)) ?_
    refine ng hM 6 rfl 0 Tryz.underlying24 rfl ?_
    refine np (.pointer (some ⟨g2, 4, none⟩)) ?_
    refine ng hM 5 rfl 4 Tryz.underlying2 rfl ?_
    go_frame
    refine wl_index (by kernel_rfl) 24 49 _ _ rfl b off l.length cap 8 knp rfl rfl hknp (by omega) Tryz.underlying24 I_impl_Node ?_
    go_frame
    refine wl_cells (by kernel_rfl) 49 _ rfl b (off + knp * 8) rfl Tryz.underlying49 (ND.cells ⟨npk, npv, npl, npr, npo, npg, nplt, nprt⟩) I_impl_Node (row_of hM s1 Anp) ?_
    go_frame
    refine na hM [.int .i64 0, .int .i64 0, .int .i64 0, .int .i64 0, .int .i64 0, .bool false, .int .i64 0, .int .i64 0] Z_impl_Node ?_
    clear hM; intro g6 W9 hM
    refine nS hM 0 rfl (ND.cells ⟨npk, npv, npl, npr, npo, npg, nplt, nprt⟩) I_impl_Node (nd_one _) ?_
    clear hM; intro W10 hM
    refine wl_nil (cn9 _ _ ?_)
    clear cn9
    refine wp_seq_k fun Kn10 cn10 => ?_
    refine wp_seq_k fun Kn11 cn11 => ?_
    cases npg
    rcases tf (((kidF h.side npl npr) != 0)) with hx15 | hx15
    refine wa_start (fun w => Below w0.heap.size w0 w ∧ Blk w g6 49 (ND.cells ⟨npk, npv, npl, npr, npo, false, nplt, nprt⟩) ∧ Blk w g2 73 (HD.cells h)) 18 rfl (by kernel_rfl) ?_
    replace hM := hM.drew
    refine wt 0 (some 71) (.pointer (some ⟨g6, 5, none⟩)) ⟨hM.below, hM.blk 0 rfl, hM.blk 6 rfl⟩ ?_
    go_frame
    refine wq 1 (some 72) (.bool false) ⟨hM.below, hM.blk 0 rfl, hM.blk 6 rfl⟩ rfl (fun w hS => r_loadc hS.2.1 4 _ rfl 5 rfl Tryz.underlying4 rfl rfl) ?_
    refine wt 2 (some 73) (.bool false) ⟨hM.below, hM.blk 0 rfl, hM.blk 6 rfl⟩ ?_
    go_frame
    refine wq 3 (some 74) (.agg (ND.cells ⟨npk, npv, npl, npr, npo, false, nplt, nprt⟩).toArray) ⟨hM.below, hM.blk 0 rfl, hM.blk 6 rfl⟩ rfl (fun w hS => r_load hS.2.1 49 _ rfl rfl Tryz.underlying49 I_impl_Node) ?_
    refine wt 4 (some 75) (.pointer (some ⟨g2, 6, none⟩)) ⟨hM.below, hM.blk 0 rfl, hM.blk 6 rfl⟩ ?_
    go_frame
    refine wq 5 (some 76) (.int .i64 h.side) ⟨hM.below, hM.blk 0 rfl, hM.blk 6 rfl⟩ rfl (fun w hS => r_loadc hS.2.2 2 _ rfl 6 rfl Tryz.underlying2 rfl rfl) ?_
    go_frame
    refine wn 6 ?_
    refine oc (some 77) (spec_KidOf npk npv npl npr npo false nplt nprt h.side _) ?_
    rintro e W11 ⟨rfl, hb⟩
    replace hM := hM.call hb
    refine ⟨_, rfl, wk ⟨hM.below, hM.blk 0 rfl, hM.blk 6 rfl⟩ fun hs => ?_⟩
    go_frame
    refine wq 7 (some 78) (.bool true) hs rfl (fun w hS => r_eq (v := .bool ((kidF h.side npl npr) != 0)) (by kernel_rfl) (congrArg Value.bool hx15)) ?_
    refine wt 8 (some 79) (.bool true) hs ?_
    refine wt 9 (some 80) (.bool true) hs ?_
    go_frame
    refine ws 10 (some 81) hs ?_
    go_frame
    refine ws 11 (some 82) hs ?_
    go_frame
    refine ws 12 (some 83) hs ?_
    go_frame
    refine ws 13 (some 84) hs ?_
    go_frame
    refine ws 14 (some 85) hs ?_
    go_frame
    refine ws 15 (some 86) hs ?_
    go_frame
    refine ws 16 (some 87) hs ?_
    go_frame
    refine wt 17 (some 88) (.bool true) hs ?_
    go_frame
    refine wa_done (by kernel_rfl) ?_
    refine cn11 _ _ ?_
    clear cn11
    refine wp_cond_true rfl ?_
    refine wp_seq_k fun Kn12 cn12 => ?_
    rcases tf ((sharedB l c && handB (againH h))) with hx16 | hx16
    refine wa_start (fun w => Below w0.heap.size w0 w ∧ Blk w g5 55 [.slice (some ⟨m1, 0, none⟩) l.length k1, .slice (some ⟨m2, 0, none⟩) c.length k2] ∧ Blk w g2 73 (HD.cells h)) 10 rfl (by kernel_rfl) ?_
    replace hM := hM.drew
    refine wq 0 (some 89) (.agg #[.slice (some ⟨m1, 0, none⟩) l.length k1, .slice (some ⟨m2, 0, none⟩) c.length k2]) ⟨hM.below, hM.blk 1 rfl, hM.blk 6 rfl⟩ rfl (fun w hS => r_load hS.2.1 55 _ rfl rfl Tryz.underlying55 I_impl_Shared) ?_
    go_frame
    refine wq 1 (some 90) (.agg (HD.cells h).toArray) ⟨hM.below, hM.blk 1 rfl, hM.blk 6 rfl⟩ rfl (fun w hS => r_load hS.2.2 73 _ rfl rfl Tryz.underlying73 I_impl_Hand) ?_
    go_frame
    refine wn 2 ?_
    refine oc (some 91) (spec_l8Again h _) ?_
    rintro e W12 ⟨rfl, hb⟩
    replace hM := hM.call hb
    refine ⟨_, rfl, ⟨hM.below, hM.blk 1 rfl, hM.blk 6 rfl⟩, ?_⟩
    go_frame
    refine wn 3 ?_
    refine oc (some 92) (spec_l7Done (.slice (some ⟨m1, 0, none⟩) l.length k1) (.slice (some ⟨m2, 0, none⟩) c.length k2) l c (againH h) _ (nslX (hM.blk 2 rfl) (by first | rfl | (simp; done) | (simp [liftR_len]; done)) q1 q2) (sli_blk (hM.blk 3 rfl) q3 q4) (by first | omega | (simp; omega) | (rw [liftR_len]; omega)) hc) ?_
    rintro e W13 ⟨rfl, hb⟩
    replace hM := hM.call hb
    refine ⟨.tuple #[.agg #[.slice (some ⟨m1, 0, none⟩) l.length k1, .slice (some ⟨m2, 0, none⟩) c.length k2], .agg (HD.cells (againH h)).toArray, .bool true], congrArg Ending.returned (by simp [doneV, HD.val, hx16]), wk ⟨hM.below, hM.blk 1 rfl, hM.blk 6 rfl⟩ fun hs => ?_⟩
    go_frame
    refine wt 4 (some 93) (.agg #[.slice (some ⟨m1, 0, none⟩) l.length k1, .slice (some ⟨m2, 0, none⟩) c.length k2]) hs ?_
    refine wt 5 (some 94) (.agg (HD.cells (againH h)).toArray) hs ?_
    refine wt 6 (some 95) (.bool true) hs ?_
    go_frame
    refine wn 7 ?_
    refine oS hM 5 rfl [.slice (some ⟨m1, 0, none⟩) l.length k1, .slice (some ⟨m2, 0, none⟩) c.length k2] I_impl_Shared rfl ?_
    clear hM; intro W14 hM
    refine ⟨⟨hM.below, hM.blk 1 rfl, hM.blk 6 rfl⟩, ?_⟩
    refine wn 8 ?_
    refine oS hM 4 rfl (HD.cells (againH h)) I_impl_Hand (hd_one' _) ?_
    clear hM; intro W15 hM
    refine wk ⟨hM.below, hM.blk 1 rfl, hM.blk 6 rfl⟩ fun hs => ?_
    refine wt 9 (some 8) (.bool true) hs ?_
    go_frame
    refine wa_done (by kernel_rfl) ?_
    refine cn12 _ _ ?_
    clear cn12
    refine wp_ret ?_
    simp only [Exit.then, Exit.inBlock]
    have hps : 0 < (l : List ND).length := hl1
    have hR : addR l c task h = (l, c, (againH h), true) := by unfold addR; rw [if_neg (by rw [hx11]; exact Bool.false_ne_true)]; simp [doneR, noR, setK, withK, hok, hx12, hx14, hx15, hx16, ht, npe, tnp]
    rw [hR]
    exact bodyPost_ret (ret3 (p := 6) (q := 7) (u := 8) (v := .bool true) rfl hM 5 4 rfl rfl rfl rfl rfl) rfl ⟨_, _, rfl, own_nX (hM.blk 2 rfl) (by first | rfl | (simp; done) | (simp [liftR_len]; done)) q1 q2 (hM.base 2 rfl) hps (by first | exact q5 | (simpa [cellsOf_len] using q5) | (simpa [cellsOf_len, liftR_len] using q5)), own_iblk (hM.blk 3 rfl) q3 q4 (hM.base 3 rfl) hc1 q6, hM.below⟩
    refine wa_start (fun w => Below w0.heap.size w0 w ∧ Blk w g5 55 [.slice (some ⟨m1, 0, none⟩) l.length k1, .slice (some ⟨m2, 0, none⟩) c.length k2] ∧ Blk w g2 73 (HD.cells h)) 10 rfl (by kernel_rfl) ?_
    replace hM := hM.drew
    refine wq 0 (some 89) (.agg #[.slice (some ⟨m1, 0, none⟩) l.length k1, .slice (some ⟨m2, 0, none⟩) c.length k2]) ⟨hM.below, hM.blk 1 rfl, hM.blk 6 rfl⟩ rfl (fun w hS => r_load hS.2.1 55 _ rfl rfl Tryz.underlying55 I_impl_Shared) ?_
    go_frame
    refine wq 1 (some 90) (.agg (HD.cells h).toArray) ⟨hM.below, hM.blk 1 rfl, hM.blk 6 rfl⟩ rfl (fun w hS => r_load hS.2.2 73 _ rfl rfl Tryz.underlying73 I_impl_Hand) ?_
    go_frame
    refine wn 2 ?_
    refine oc (some 91) (spec_l8Again h _) ?_
    rintro e W12 ⟨rfl, hb⟩
    replace hM := hM.call hb
    refine ⟨_, rfl, ⟨hM.below, hM.blk 1 rfl, hM.blk 6 rfl⟩, ?_⟩
    go_frame
    refine wn 3 ?_
    refine oc (some 92) (spec_l7Done (.slice (some ⟨m1, 0, none⟩) l.length k1) (.slice (some ⟨m2, 0, none⟩) c.length k2) l c (againH h) _ (nslX (hM.blk 2 rfl) (by first | rfl | (simp; done) | (simp [liftR_len]; done)) q1 q2) (sli_blk (hM.blk 3 rfl) q3 q4) (by first | omega | (simp; omega) | (rw [liftR_len]; omega)) hc) ?_
    rintro e W13 ⟨rfl, hb⟩
    replace hM := hM.call hb
    refine ⟨.tuple #[.agg #[.slice none 0 0, .slice none 0 0], .agg (HD.cells HD.zero).toArray, .bool false], congrArg Ending.returned (by simp [doneV, HD.val, hx16]), wk ⟨hM.below, hM.blk 1 rfl, hM.blk 6 rfl⟩ fun hs => ?_⟩
    go_frame
    refine wt 4 (some 93) (.agg #[.slice none 0 0, .slice none 0 0]) hs ?_
    refine wt 5 (some 94) (.agg (HD.cells HD.zero).toArray) hs ?_
    refine wt 6 (some 95) (.bool false) hs ?_
    go_frame
    refine wn 7 ?_
    refine oS hM 5 rfl [.slice none 0 0, .slice none 0 0] I_impl_Shared rfl ?_
    clear hM; intro W14 hM
    refine ⟨⟨hM.below, hM.blk 1 rfl, hM.blk 6 rfl⟩, ?_⟩
    refine wn 8 ?_
    refine oS hM 4 rfl (HD.cells HD.zero) I_impl_Hand (hd_one' _) ?_
    clear hM; intro W15 hM
    refine wk ⟨hM.below, hM.blk 1 rfl, hM.blk 6 rfl⟩ fun hs => ?_
    refine wt 9 (some 8) (.bool false) hs ?_
    go_frame
    refine wa_done (by kernel_rfl) ?_
    refine cn12 _ _ ?_
    clear cn12
    refine wp_ret ?_
    simp only [Exit.then, Exit.inBlock]
    have hR : addR l c task h = ([], [], HD.zero, false) := by unfold addR; rw [if_neg (by rw [hx11]; exact Bool.false_ne_true)]; simp [doneR, noR, setK, withK, hok, hx12, hx14, hx15, hx16, ht, npe, tnp]
    rw [hR]
    exact bodyPost_ret (ret3 (p := 6) (q := 7) (u := 8) (v := .bool false) rfl hM 5 4 rfl rfl rfl rfl rfl) rfl ⟨_, _, rfl, own0, own0, hM.below⟩
    refine wa_start (fun w => Below w0.heap.size w0 w ∧ Blk w g6 49 (ND.cells ⟨npk, npv, npl, npr, npo, false, nplt, nprt⟩) ∧ Blk w g2 73 (HD.cells h)) 18 rfl (by kernel_rfl) ?_
    replace hM := hM.drew
    refine wt 0 (some 71) (.pointer (some ⟨g6, 5, none⟩)) ⟨hM.below, hM.blk 0 rfl, hM.blk 6 rfl⟩ ?_
    go_frame
    refine wq 1 (some 72) (.bool false) ⟨hM.below, hM.blk 0 rfl, hM.blk 6 rfl⟩ rfl (fun w hS => r_loadc hS.2.1 4 _ rfl 5 rfl Tryz.underlying4 rfl rfl) ?_
    refine wt 2 (some 73) (.bool false) ⟨hM.below, hM.blk 0 rfl, hM.blk 6 rfl⟩ ?_
    go_frame
    refine wq 3 (some 74) (.agg (ND.cells ⟨npk, npv, npl, npr, npo, false, nplt, nprt⟩).toArray) ⟨hM.below, hM.blk 0 rfl, hM.blk 6 rfl⟩ rfl (fun w hS => r_load hS.2.1 49 _ rfl rfl Tryz.underlying49 I_impl_Node) ?_
    refine wt 4 (some 75) (.pointer (some ⟨g2, 6, none⟩)) ⟨hM.below, hM.blk 0 rfl, hM.blk 6 rfl⟩ ?_
    go_frame
    refine wq 5 (some 76) (.int .i64 h.side) ⟨hM.below, hM.blk 0 rfl, hM.blk 6 rfl⟩ rfl (fun w hS => r_loadc hS.2.2 2 _ rfl 6 rfl Tryz.underlying2 rfl rfl) ?_
    go_frame
    refine wn 6 ?_
    refine oc (some 77) (spec_KidOf npk npv npl npr npo false nplt nprt h.side _) ?_
    rintro e W11 ⟨rfl, hb⟩
    replace hM := hM.call hb
    refine ⟨_, rfl, wk ⟨hM.below, hM.blk 0 rfl, hM.blk 6 rfl⟩ fun hs => ?_⟩
    go_frame
    refine wq 7 (some 78) (.bool false) hs rfl (fun w hS => r_eq (v := .bool ((kidF h.side npl npr) != 0)) (by kernel_rfl) (congrArg Value.bool hx15)) ?_
    refine wt 8 (some 79) (.bool false) hs ?_
    refine wt 9 (some 80) (.bool false) hs ?_
    go_frame
    refine wq 10 (some 81) (.agg (ND.cells ⟨npk, npv, npl, npr, npo, false, nplt, nprt⟩).toArray) hs rfl (fun w hS => r_load hS.2.1 49 _ rfl rfl Tryz.underlying49 I_impl_Node) ?_
    refine wt 11 (some 82) (.pointer (some ⟨g2, 6, none⟩)) hs ?_
    go_frame
    refine wq 12 (some 83) (.int .i64 h.side) hs rfl (fun w hS => r_loadc hS.2.2 2 _ rfl 6 rfl Tryz.underlying2 rfl rfl) ?_
    refine wt 14 (some 85) (.pointer (some ⟨g2, 7, none⟩)) hs ?_
    go_frame
    refine wq 15 (some 86) (.int .i64 h.tag) hs rfl (fun w hS => r_loadc hS.2.2 2 _ rfl 7 rfl Tryz.underlying2 rfl rfl) ?_
    go_frame
    refine wn 13 ?_
    refine oc (some 84) (spec_TagAt npk npv npl npr npo false nplt nprt h.side _) ?_
    rintro e W12 ⟨rfl, hb⟩
    replace hM := hM.call hb
    refine ⟨_, rfl, wk ⟨hM.below, hM.blk 0 rfl, hM.blk 6 rfl⟩ fun hs => ?_⟩
    go_frame
    refine wt 16 (some 87) (.bool ((kidF h.side nplt nprt) != h.tag)) hs ?_
    refine wt 17 (some 88) (.bool ((kidF h.side nplt nprt) != h.tag)) hs ?_
    go_frame
    refine wa_done (by kernel_rfl) ?_
    refine cn11 _ _ ?_
    clear cn11
    rcases tf (((kidF h.side nplt nprt) != h.tag)) with hx17 | hx17
    rw [hx17]
    refine wp_cond_true rfl ?_
    refine wp_seq_k fun Kn12 cn12 => ?_
    rcases tf ((sharedB l c && handB (againH h))) with hx18 | hx18
    refine wa_start (fun w => Below w0.heap.size w0 w ∧ Blk w g5 55 [.slice (some ⟨m1, 0, none⟩) l.length k1, .slice (some ⟨m2, 0, none⟩) c.length k2] ∧ Blk w g2 73 (HD.cells h)) 10 rfl (by kernel_rfl) ?_
    replace hM := hM.drew
    refine wq 0 (some 89) (.agg #[.slice (some ⟨m1, 0, none⟩) l.length k1, .slice (some ⟨m2, 0, none⟩) c.length k2]) ⟨hM.below, hM.blk 1 rfl, hM.blk 6 rfl⟩ rfl (fun w hS => r_load hS.2.1 55 _ rfl rfl Tryz.underlying55 I_impl_Shared) ?_
    go_frame
    refine wq 1 (some 90) (.agg (HD.cells h).toArray) ⟨hM.below, hM.blk 1 rfl, hM.blk 6 rfl⟩ rfl (fun w hS => r_load hS.2.2 73 _ rfl rfl Tryz.underlying73 I_impl_Hand) ?_
    go_frame
    refine wn 2 ?_
    refine oc (some 91) (spec_l8Again h _) ?_
    rintro e W13 ⟨rfl, hb⟩
    replace hM := hM.call hb
    refine ⟨_, rfl, ⟨hM.below, hM.blk 1 rfl, hM.blk 6 rfl⟩, ?_⟩
    go_frame
    refine wn 3 ?_
    refine oc (some 92) (spec_l7Done (.slice (some ⟨m1, 0, none⟩) l.length k1) (.slice (some ⟨m2, 0, none⟩) c.length k2) l c (againH h) _ (nslX (hM.blk 2 rfl) (by first | rfl | (simp; done) | (simp [liftR_len]; done)) q1 q2) (sli_blk (hM.blk 3 rfl) q3 q4) (by first | omega | (simp; omega) | (rw [liftR_len]; omega)) hc) ?_
    rintro e W14 ⟨rfl, hb⟩
    replace hM := hM.call hb
    refine ⟨.tuple #[.agg #[.slice (some ⟨m1, 0, none⟩) l.length k1, .slice (some ⟨m2, 0, none⟩) c.length k2], .agg (HD.cells (againH h)).toArray, .bool true], congrArg Ending.returned (by simp [doneV, HD.val, hx18]), wk ⟨hM.below, hM.blk 1 rfl, hM.blk 6 rfl⟩ fun hs => ?_⟩
    go_frame
    refine wt 4 (some 93) (.agg #[.slice (some ⟨m1, 0, none⟩) l.length k1, .slice (some ⟨m2, 0, none⟩) c.length k2]) hs ?_
    refine wt 5 (some 94) (.agg (HD.cells (againH h)).toArray) hs ?_
    refine wt 6 (some 95) (.bool true) hs ?_
    go_frame
    refine wn 7 ?_
    refine oS hM 5 rfl [.slice (some ⟨m1, 0, none⟩) l.length k1, .slice (some ⟨m2, 0, none⟩) c.length k2] I_impl_Shared rfl ?_
    clear hM; intro W15 hM
    refine ⟨⟨hM.below, hM.blk 1 rfl, hM.blk 6 rfl⟩, ?_⟩
    refine wn 8 ?_
    refine oS hM 4 rfl (HD.cells (againH h)) I_impl_Hand (hd_one' _) ?_
    clear hM; intro W16 hM
    refine wk ⟨hM.below, hM.blk 1 rfl, hM.blk 6 rfl⟩ fun hs => ?_
    refine wt 9 (some 8) (.bool true) hs ?_
    go_frame
    refine wa_done (by kernel_rfl) ?_
    refine cn12 _ _ ?_
    clear cn12
    refine wp_ret ?_
    simp only [Exit.then, Exit.inBlock]
    have hps : 0 < (l : List ND).length := hl1
    have hR : addR l c task h = (l, c, (againH h), true) := by unfold addR; rw [if_neg (by rw [hx11]; exact Bool.false_ne_true)]; simp [doneR, noR, setK, withK, hok, hx12, hx14, hx15, hx17, hx18, ht, npe, tnp]
    rw [hR]
    exact bodyPost_ret (ret3 (p := 6) (q := 7) (u := 8) (v := .bool true) rfl hM 5 4 rfl rfl rfl rfl rfl) rfl ⟨_, _, rfl, own_nX (hM.blk 2 rfl) (by first | rfl | (simp; done) | (simp [liftR_len]; done)) q1 q2 (hM.base 2 rfl) hps (by first | exact q5 | (simpa [cellsOf_len] using q5) | (simpa [cellsOf_len, liftR_len] using q5)), own_iblk (hM.blk 3 rfl) q3 q4 (hM.base 3 rfl) hc1 q6, hM.below⟩
    refine wa_start (fun w => Below w0.heap.size w0 w ∧ Blk w g5 55 [.slice (some ⟨m1, 0, none⟩) l.length k1, .slice (some ⟨m2, 0, none⟩) c.length k2] ∧ Blk w g2 73 (HD.cells h)) 10 rfl (by kernel_rfl) ?_
    replace hM := hM.drew
    refine wq 0 (some 89) (.agg #[.slice (some ⟨m1, 0, none⟩) l.length k1, .slice (some ⟨m2, 0, none⟩) c.length k2]) ⟨hM.below, hM.blk 1 rfl, hM.blk 6 rfl⟩ rfl (fun w hS => r_load hS.2.1 55 _ rfl rfl Tryz.underlying55 I_impl_Shared) ?_
    go_frame
    refine wq 1 (some 90) (.agg (HD.cells h).toArray) ⟨hM.below, hM.blk 1 rfl, hM.blk 6 rfl⟩ rfl (fun w hS => r_load hS.2.2 73 _ rfl rfl Tryz.underlying73 I_impl_Hand) ?_
    go_frame
    refine wn 2 ?_
    refine oc (some 91) (spec_l8Again h _) ?_
    rintro e W13 ⟨rfl, hb⟩
    replace hM := hM.call hb
    refine ⟨_, rfl, ⟨hM.below, hM.blk 1 rfl, hM.blk 6 rfl⟩, ?_⟩
    go_frame
    refine wn 3 ?_
    refine oc (some 92) (spec_l7Done (.slice (some ⟨m1, 0, none⟩) l.length k1) (.slice (some ⟨m2, 0, none⟩) c.length k2) l c (againH h) _ (nslX (hM.blk 2 rfl) (by first | rfl | (simp; done) | (simp [liftR_len]; done)) q1 q2) (sli_blk (hM.blk 3 rfl) q3 q4) (by first | omega | (simp; omega) | (rw [liftR_len]; omega)) hc) ?_
    rintro e W14 ⟨rfl, hb⟩
    replace hM := hM.call hb
    refine ⟨.tuple #[.agg #[.slice none 0 0, .slice none 0 0], .agg (HD.cells HD.zero).toArray, .bool false], congrArg Ending.returned (by simp [doneV, HD.val, hx18]), wk ⟨hM.below, hM.blk 1 rfl, hM.blk 6 rfl⟩ fun hs => ?_⟩
    go_frame
    refine wt 4 (some 93) (.agg #[.slice none 0 0, .slice none 0 0]) hs ?_
    refine wt 5 (some 94) (.agg (HD.cells HD.zero).toArray) hs ?_
    refine wt 6 (some 95) (.bool false) hs ?_
    go_frame
    refine wn 7 ?_
    refine oS hM 5 rfl [.slice none 0 0, .slice none 0 0] I_impl_Shared rfl ?_
    clear hM; intro W15 hM
    refine ⟨⟨hM.below, hM.blk 1 rfl, hM.blk 6 rfl⟩, ?_⟩
    refine wn 8 ?_
    refine oS hM 4 rfl (HD.cells HD.zero) I_impl_Hand (hd_one' _) ?_
    clear hM; intro W16 hM
    refine wk ⟨hM.below, hM.blk 1 rfl, hM.blk 6 rfl⟩ fun hs => ?_
    refine wt 9 (some 8) (.bool false) hs ?_
    go_frame
    refine wa_done (by kernel_rfl) ?_
    refine cn12 _ _ ?_
    clear cn12
    refine wp_ret ?_
    simp only [Exit.then, Exit.inBlock]
    have hR : addR l c task h = ([], [], HD.zero, false) := by unfold addR; rw [if_neg (by rw [hx11]; exact Bool.false_ne_true)]; simp [doneR, noR, setK, withK, hok, hx12, hx14, hx15, hx17, hx18, ht, npe, tnp]
    rw [hR]
    exact bodyPost_ret (ret3 (p := 6) (q := 7) (u := 8) (v := .bool false) rfl hM 5 4 rfl rfl rfl rfl rfl) rfl ⟨_, _, rfl, own0, own0, hM.below⟩
    rw [hx17]
    refine wp_cond_false rfl ?_
    refine wp_skip ?_
    refine cn10 _ _ ?_
    clear cn10
    refine wl_region ?_
    refine np (.pointer (some ⟨g2, 0, none⟩)) ?_
    refine nk hM 6 rfl 0 (.int .i64 7) I_int64 (by simp [HD.cells, splice_len]) ?_
    clear hM; intro W13 hM
    refine wl_nil (cn5 _ _ ?_)
    clear cn5
    refine wp_seq_k fun _ cn12 => wl_region ?_
    refine nl hM 1 rfl Tryz.underlying55 I_impl_Shared ?_
    refine nl hM 6 rfl Tryz.underlying73 I_impl_Hand ?_
    go_frame
    rcases tf ((sharedB l c && handB ({ h with at_ := 7 }))) with hx20 | hx20
    refine nc (spec_l7Done (.slice (some ⟨m1, 0, none⟩) l.length k1) (.slice (some ⟨m2, 0, none⟩) c.length k2) l c ({ h with at_ := 7 }) _ (nslX (hM.blk 2 rfl) (by first | rfl | (simp; done) | (simp [liftR_len]; done)) q1 q2) (sli_blk (hM.blk 3 rfl) q3 q4) (by first | omega | (simp; omega) | (rw [liftR_len]; omega)) hc) ?_
    rintro e W14 ⟨rfl, hb⟩
    refine ⟨.tuple #[.agg #[.slice (some ⟨m1, 0, none⟩) l.length k1, .slice (some ⟨m2, 0, none⟩) c.length k2], .agg (HD.cells { h with at_ := 7 }).toArray, .bool true], congrArg Ending.returned (by simp [doneV, HD.val, hx20]), ?_⟩
    replace hM := hM.call hb
    go_frame
    refine np (.agg #[.slice (some ⟨m1, 0, none⟩) l.length k1, .slice (some ⟨m2, 0, none⟩) c.length k2]) ?_
    refine np (.agg (HD.cells { h with at_ := 7 }).toArray) ?_
    refine np (.bool true) ?_
    refine nS hM 5 rfl [.slice (some ⟨m1, 0, none⟩) l.length k1, .slice (some ⟨m2, 0, none⟩) c.length k2] I_impl_Shared rfl ?_
    clear hM; intro W15 hM
    refine nS hM 4 rfl (HD.cells { h with at_ := 7 }) I_impl_Hand (hd_one' _) ?_
    clear hM; intro W16 hM
    refine np (.bool true) ?_
    go_frame
    refine wl_nil (cn12 _ _ ?_)
    clear cn12
    refine wp_ret ?_
    have hps : 0 < (l : List ND).length := hl1
    have hR : addR l c task h = (l, c, { h with at_ := 7 }, true) := by unfold addR; rw [if_neg (by rw [hx11]; exact Bool.false_ne_true)]; simp [doneR, noR, setK, withK, hok, hx12, hx14, hx15, hx17, hx20, ht, npe, tnp]
    rw [hR]
    exact bodyPost_ret (ret3 (p := 6) (q := 7) (u := 8) (v := .bool true) rfl hM 5 4 rfl rfl rfl rfl rfl) rfl ⟨_, _, rfl, own_nX (hM.blk 2 rfl) (by first | rfl | (simp; done) | (simp [liftR_len]; done)) q1 q2 (hM.base 2 rfl) hps (by first | exact q5 | (simpa [cellsOf_len] using q5) | (simpa [cellsOf_len, liftR_len] using q5)), own_iblk (hM.blk 3 rfl) q3 q4 (hM.base 3 rfl) hc1 q6, hM.below⟩
    refine nc (spec_l7Done (.slice (some ⟨m1, 0, none⟩) l.length k1) (.slice (some ⟨m2, 0, none⟩) c.length k2) l c ({ h with at_ := 7 }) _ (nslX (hM.blk 2 rfl) (by first | rfl | (simp; done) | (simp [liftR_len]; done)) q1 q2) (sli_blk (hM.blk 3 rfl) q3 q4) (by first | omega | (simp; omega) | (rw [liftR_len]; omega)) hc) ?_
    rintro e W14 ⟨rfl, hb⟩
    refine ⟨.tuple #[.agg #[.slice none 0 0, .slice none 0 0], .agg (HD.cells HD.zero).toArray, .bool false], congrArg Ending.returned (by simp [doneV, HD.val, hx20]), ?_⟩
    replace hM := hM.call hb
    go_frame
    refine np (.agg #[.slice none 0 0, .slice none 0 0]) ?_
    refine np (.agg (HD.cells HD.zero).toArray) ?_
    refine np (.bool false) ?_
    refine nS hM 5 rfl [.slice none 0 0, .slice none 0 0] I_impl_Shared rfl ?_
    clear hM; intro W15 hM
    refine nS hM 4 rfl (HD.cells HD.zero) I_impl_Hand (hd_one' _) ?_
    clear hM; intro W16 hM
    refine np (.bool false) ?_
    go_frame
    refine wl_nil (cn12 _ _ ?_)
    clear cn12
    refine wp_ret ?_
    have hR : addR l c task h = ([], [], HD.zero, false) := by unfold addR; rw [if_neg (by rw [hx11]; exact Bool.false_ne_true)]; simp [doneR, noR, setK, withK, hok, hx12, hx14, hx15, hx17, hx20, ht, npe, tnp]
    rw [hR]
    exact bodyPost_ret (ret3 (p := 6) (q := 7) (u := 8) (v := .bool false) rfl hM 5 4 rfl rfl rfl rfl rfl) rfl ⟨_, _, rfl, own0, own0, hM.below⟩
    refine wa_start (fun w => Below w0.heap.size w0 w ∧ Blk w g6 49 (ND.cells ⟨npk, npv, npl, npr, npo, true, nplt, nprt⟩) ∧ Blk w g2 73 (HD.cells h)) 18 rfl (by kernel_rfl) ?_
    replace hM := hM.drew
    refine wt 0 (some 71) (.pointer (some ⟨g6, 5, none⟩)) ⟨hM.below, hM.blk 0 rfl, hM.blk 6 rfl⟩ ?_
    go_frame
    refine wq 1 (some 72) (.bool true) ⟨hM.below, hM.blk 0 rfl, hM.blk 6 rfl⟩ rfl (fun w hS => r_loadc hS.2.1 4 _ rfl 5 rfl Tryz.underlying4 rfl rfl) ?_
    refine wt 2 (some 73) (.bool true) ⟨hM.below, hM.blk 0 rfl, hM.blk 6 rfl⟩ ?_
    go_frame
    refine ws 3 (some 74) ⟨hM.below, hM.blk 0 rfl, hM.blk 6 rfl⟩ ?_
    go_frame
    refine ws 4 (some 75) ⟨hM.below, hM.blk 0 rfl, hM.blk 6 rfl⟩ ?_
    go_frame
    refine ws 5 (some 76) ⟨hM.below, hM.blk 0 rfl, hM.blk 6 rfl⟩ ?_
    go_frame
    refine ws 6 (some 77) ⟨hM.below, hM.blk 0 rfl, hM.blk 6 rfl⟩ ?_
    go_frame
    refine ws 7 (some 78) ⟨hM.below, hM.blk 0 rfl, hM.blk 6 rfl⟩ ?_
    go_frame
    refine wt 8 (some 79) (.bool true) ⟨hM.below, hM.blk 0 rfl, hM.blk 6 rfl⟩ ?_
    refine wt 9 (some 80) (.bool true) ⟨hM.below, hM.blk 0 rfl, hM.blk 6 rfl⟩ ?_
    go_frame
    refine ws 10 (some 81) ⟨hM.below, hM.blk 0 rfl, hM.blk 6 rfl⟩ ?_
    go_frame
    refine ws 11 (some 82) ⟨hM.below, hM.blk 0 rfl, hM.blk 6 rfl⟩ ?_
    go_frame
    refine ws 12 (some 83) ⟨hM.below, hM.blk 0 rfl, hM.blk 6 rfl⟩ ?_
    go_frame
    refine ws 13 (some 84) ⟨hM.below, hM.blk 0 rfl, hM.blk 6 rfl⟩ ?_
    go_frame
    refine ws 14 (some 85) ⟨hM.below, hM.blk 0 rfl, hM.blk 6 rfl⟩ ?_
    go_frame
    refine ws 15 (some 86) ⟨hM.below, hM.blk 0 rfl, hM.blk 6 rfl⟩ ?_
    go_frame
    refine ws 16 (some 87) ⟨hM.below, hM.blk 0 rfl, hM.blk 6 rfl⟩ ?_
    go_frame
    refine wt 17 (some 88) (.bool true) ⟨hM.below, hM.blk 0 rfl, hM.blk 6 rfl⟩ ?_
    go_frame
    refine wa_done (by kernel_rfl) ?_
    refine cn11 _ _ ?_
    clear cn11
    refine wp_cond_true rfl ?_
    refine wp_seq_k fun Kn12 cn12 => ?_
    rcases tf ((sharedB l c && handB (againH h))) with hx21 | hx21
    refine wa_start (fun w => Below w0.heap.size w0 w ∧ Blk w g5 55 [.slice (some ⟨m1, 0, none⟩) l.length k1, .slice (some ⟨m2, 0, none⟩) c.length k2] ∧ Blk w g2 73 (HD.cells h)) 10 rfl (by kernel_rfl) ?_
    replace hM := hM.drew
    refine wq 0 (some 89) (.agg #[.slice (some ⟨m1, 0, none⟩) l.length k1, .slice (some ⟨m2, 0, none⟩) c.length k2]) ⟨hM.below, hM.blk 1 rfl, hM.blk 6 rfl⟩ rfl (fun w hS => r_load hS.2.1 55 _ rfl rfl Tryz.underlying55 I_impl_Shared) ?_
    go_frame
    refine wq 1 (some 90) (.agg (HD.cells h).toArray) ⟨hM.below, hM.blk 1 rfl, hM.blk 6 rfl⟩ rfl (fun w hS => r_load hS.2.2 73 _ rfl rfl Tryz.underlying73 I_impl_Hand) ?_
    go_frame
    refine wn 2 ?_
    refine oc (some 91) (spec_l8Again h _) ?_
    rintro e W11 ⟨rfl, hb⟩
    replace hM := hM.call hb
    refine ⟨_, rfl, ⟨hM.below, hM.blk 1 rfl, hM.blk 6 rfl⟩, ?_⟩
    go_frame
    refine wn 3 ?_
    refine oc (some 92) (spec_l7Done (.slice (some ⟨m1, 0, none⟩) l.length k1) (.slice (some ⟨m2, 0, none⟩) c.length k2) l c (againH h) _ (nslX (hM.blk 2 rfl) (by first | rfl | (simp; done) | (simp [liftR_len]; done)) q1 q2) (sli_blk (hM.blk 3 rfl) q3 q4) (by first | omega | (simp; omega) | (rw [liftR_len]; omega)) hc) ?_
    rintro e W12 ⟨rfl, hb⟩
    replace hM := hM.call hb
    refine ⟨.tuple #[.agg #[.slice (some ⟨m1, 0, none⟩) l.length k1, .slice (some ⟨m2, 0, none⟩) c.length k2], .agg (HD.cells (againH h)).toArray, .bool true], congrArg Ending.returned (by simp [doneV, HD.val, hx21]), wk ⟨hM.below, hM.blk 1 rfl, hM.blk 6 rfl⟩ fun hs => ?_⟩
    go_frame
    refine wt 4 (some 93) (.agg #[.slice (some ⟨m1, 0, none⟩) l.length k1, .slice (some ⟨m2, 0, none⟩) c.length k2]) hs ?_
    refine wt 5 (some 94) (.agg (HD.cells (againH h)).toArray) hs ?_
    refine wt 6 (some 95) (.bool true) hs ?_
    go_frame
    refine wn 7 ?_
    refine oS hM 5 rfl [.slice (some ⟨m1, 0, none⟩) l.length k1, .slice (some ⟨m2, 0, none⟩) c.length k2] I_impl_Shared rfl ?_
    clear hM; intro W13 hM
    refine ⟨⟨hM.below, hM.blk 1 rfl, hM.blk 6 rfl⟩, ?_⟩
    refine wn 8 ?_
    refine oS hM 4 rfl (HD.cells (againH h)) I_impl_Hand (hd_one' _) ?_
    clear hM; intro W14 hM
    refine wk ⟨hM.below, hM.blk 1 rfl, hM.blk 6 rfl⟩ fun hs => ?_
    refine wt 9 (some 8) (.bool true) hs ?_
    go_frame
    refine wa_done (by kernel_rfl) ?_
    refine cn12 _ _ ?_
    clear cn12
    refine wp_ret ?_
    simp only [Exit.then, Exit.inBlock]
    have hps : 0 < (l : List ND).length := hl1
    have hR : addR l c task h = (l, c, (againH h), true) := by unfold addR; rw [if_neg (by rw [hx11]; exact Bool.false_ne_true)]; simp [doneR, noR, setK, withK, hok, hx12, hx14, hx21, ht, npe, tnp]
    rw [hR]
    exact bodyPost_ret (ret3 (p := 6) (q := 7) (u := 8) (v := .bool true) rfl hM 5 4 rfl rfl rfl rfl rfl) rfl ⟨_, _, rfl, own_nX (hM.blk 2 rfl) (by first | rfl | (simp; done) | (simp [liftR_len]; done)) q1 q2 (hM.base 2 rfl) hps (by first | exact q5 | (simpa [cellsOf_len] using q5) | (simpa [cellsOf_len, liftR_len] using q5)), own_iblk (hM.blk 3 rfl) q3 q4 (hM.base 3 rfl) hc1 q6, hM.below⟩
    refine wa_start (fun w => Below w0.heap.size w0 w ∧ Blk w g5 55 [.slice (some ⟨m1, 0, none⟩) l.length k1, .slice (some ⟨m2, 0, none⟩) c.length k2] ∧ Blk w g2 73 (HD.cells h)) 10 rfl (by kernel_rfl) ?_
    replace hM := hM.drew
    refine wq 0 (some 89) (.agg #[.slice (some ⟨m1, 0, none⟩) l.length k1, .slice (some ⟨m2, 0, none⟩) c.length k2]) ⟨hM.below, hM.blk 1 rfl, hM.blk 6 rfl⟩ rfl (fun w hS => r_load hS.2.1 55 _ rfl rfl Tryz.underlying55 I_impl_Shared) ?_
    go_frame
    refine wq 1 (some 90) (.agg (HD.cells h).toArray) ⟨hM.below, hM.blk 1 rfl, hM.blk 6 rfl⟩ rfl (fun w hS => r_load hS.2.2 73 _ rfl rfl Tryz.underlying73 I_impl_Hand) ?_
    go_frame
    refine wn 2 ?_
    refine oc (some 91) (spec_l8Again h _) ?_
    rintro e W11 ⟨rfl, hb⟩
    replace hM := hM.call hb
    refine ⟨_, rfl, ⟨hM.below, hM.blk 1 rfl, hM.blk 6 rfl⟩, ?_⟩
    go_frame
    refine wn 3 ?_
    refine oc (some 92) (spec_l7Done (.slice (some ⟨m1, 0, none⟩) l.length k1) (.slice (some ⟨m2, 0, none⟩) c.length k2) l c (againH h) _ (nslX (hM.blk 2 rfl) (by first | rfl | (simp; done) | (simp [liftR_len]; done)) q1 q2) (sli_blk (hM.blk 3 rfl) q3 q4) (by first | omega | (simp; omega) | (rw [liftR_len]; omega)) hc) ?_
    rintro e W12 ⟨rfl, hb⟩
    replace hM := hM.call hb
    refine ⟨.tuple #[.agg #[.slice none 0 0, .slice none 0 0], .agg (HD.cells HD.zero).toArray, .bool false], congrArg Ending.returned (by simp [doneV, HD.val, hx21]), wk ⟨hM.below, hM.blk 1 rfl, hM.blk 6 rfl⟩ fun hs => ?_⟩
    go_frame
    refine wt 4 (some 93) (.agg #[.slice none 0 0, .slice none 0 0]) hs ?_
    refine wt 5 (some 94) (.agg (HD.cells HD.zero).toArray) hs ?_
    refine wt 6 (some 95) (.bool false) hs ?_
    go_frame
    refine wn 7 ?_
    refine oS hM 5 rfl [.slice none 0 0, .slice none 0 0] I_impl_Shared rfl ?_
    clear hM; intro W13 hM
    refine ⟨⟨hM.below, hM.blk 1 rfl, hM.blk 6 rfl⟩, ?_⟩
    refine wn 8 ?_
    refine oS hM 4 rfl (HD.cells HD.zero) I_impl_Hand (hd_one' _) ?_
    clear hM; intro W14 hM
    refine wk ⟨hM.below, hM.blk 1 rfl, hM.blk 6 rfl⟩ fun hs => ?_
    refine wt 9 (some 8) (.bool false) hs ?_
    go_frame
    refine wa_done (by kernel_rfl) ?_
    refine cn12 _ _ ?_
    clear cn12
    refine wp_ret ?_
    simp only [Exit.then, Exit.inBlock]
    have hR : addR l c task h = ([], [], HD.zero, false) := by unfold addR; rw [if_neg (by rw [hx11]; exact Bool.false_ne_true)]; simp [doneR, noR, setK, withK, hok, hx12, hx14, hx21, ht, npe, tnp]
    rw [hR]
    exact bodyPost_ret (ret3 (p := 6) (q := 7) (u := 8) (v := .bool false) rfl hM 5 4 rfl rfl rfl rfl rfl) rfl ⟨_, _, rfl, own0, own0, hM.below⟩
    rw [hx14]
    refine wp_cond_false rfl ?_
    refine wp_seq_k fun _ cn9 => wl_region ?_
    refine np (.bool (h.at_ == 7)) ?_
    refine np (.bool (h.at_ == 7)) ?_
    go_frame
    refine wl_nil (cn9 _ _ ?_)
    clear cn9
    rcases tf ((h.at_ == 7)) with hx22 | hx22
    rw [hx22]
    refine wp_cond_true rfl ?_
    refine wl_region ?_
    refine nl hM 0 rfl Tryz.underlying55 I_impl_Shared ?_
    refine nl hM 5 rfl Tryz.underlying73 I_impl_Hand ?_
    go_frame
    replace hM := hM.pull 1 rfl
    refine nC #[.agg #[.slice (some ⟨m1, 0, none⟩) l.length k1, .slice (some ⟨m2, 0, none⟩) c.length k2], .agg (HD.cells h).toArray] (spec_l8Make l h m1 k1 p1 _ _ _ _ _ _ hM q1 q2 q5 hl30) ?_
    rintro e W9 ⟨ga'1, ka'2, pa'3, rfl, ⟨qa'4, qb'5, qe'6⟩, hM2⟩
    refine ⟨_, rfl, ?_⟩
    clear hM; have hM := hM2; clear hM2
    go_frame
    refine np (.tuple #[.agg #[.slice (some ⟨ga'1, 0, none⟩) ((makeR l h).1.length) ka'2, .slice (some ⟨m2, 0, none⟩) c.length k2], .agg (HD.cells ((makeR l h).2)).toArray]) ?_
    refine np (.agg #[.slice (some ⟨ga'1, 0, none⟩) ((makeR l h).1.length) ka'2, .slice (some ⟨m2, 0, none⟩) c.length k2]) ?_
    refine np (.agg (HD.cells ((makeR l h).2)).toArray) ?_
    refine nS hM 1 rfl [.slice (some ⟨ga'1, 0, none⟩) ((makeR l h).1.length) ka'2, .slice (some ⟨m2, 0, none⟩) c.length k2] I_impl_Shared rfl ?_
    clear hM; intro W10 hM
    refine nS hM 5 rfl (HD.cells ((makeR l h).2)) I_impl_Hand (hd_one' _) ?_
    clear hM; intro W11 hM
    refine wl_nil (cn5 _ _ ?_)
    clear cn5
    refine wp_seq_k fun _ cn10 => wl_region ?_
    refine nl hM 1 rfl Tryz.underlying55 I_impl_Shared ?_
    refine nl hM 5 rfl Tryz.underlying73 I_impl_Hand ?_
    go_frame
    rcases tf ((sharedB ((makeR l h).1) c && handB ((makeR l h).2))) with hx24 | hx24
    refine nc (spec_l7Done (.slice (some ⟨ga'1, 0, none⟩) ((makeR l h).1.length) ka'2) (.slice (some ⟨m2, 0, none⟩) c.length k2) ((makeR l h).1) c ((makeR l h).2) _ (nslX (hM.blk 0 rfl) (by first | rfl | (simp; done) | (simp [liftR_len]; done)) qa'4 qb'5) (sli_blk (hM.blk 2 rfl) q3 q4) (by first | omega | (simp; omega) | (rw [liftR_len]; omega)) hc) ?_
    rintro e W12 ⟨rfl, hb⟩
    refine ⟨.tuple #[.agg #[.slice (some ⟨ga'1, 0, none⟩) ((makeR l h).1.length) ka'2, .slice (some ⟨m2, 0, none⟩) c.length k2], .agg (HD.cells ((makeR l h).2)).toArray, .bool true], congrArg Ending.returned (by simp [doneV, HD.val, hx24]), ?_⟩
    replace hM := hM.call hb
    go_frame
    refine np (.agg #[.slice (some ⟨ga'1, 0, none⟩) ((makeR l h).1.length) ka'2, .slice (some ⟨m2, 0, none⟩) c.length k2]) ?_
    refine np (.agg (HD.cells ((makeR l h).2)).toArray) ?_
    refine np (.bool true) ?_
    refine nS hM 4 rfl [.slice (some ⟨ga'1, 0, none⟩) ((makeR l h).1.length) ka'2, .slice (some ⟨m2, 0, none⟩) c.length k2] I_impl_Shared rfl ?_
    clear hM; intro W13 hM
    refine nS hM 3 rfl (HD.cells ((makeR l h).2)) I_impl_Hand (hd_one' _) ?_
    clear hM; intro W14 hM
    refine np (.bool true) ?_
    go_frame
    refine wl_nil (cn10 _ _ ?_)
    clear cn10
    refine wp_ret ?_
    have hps : 0 < ((makeR l h).1 : List ND).length := shared_pos (by assumption)
    have hR : addR l c task h = ((makeR l h).1, c, (makeR l h).2, true) := by unfold addR; rw [if_neg (by rw [hx11]; exact Bool.false_ne_true)]; simp [doneR, noR, setK, withK, hok, hx12, hx14, hx22, hx24, ht, npe, tnp]
    rw [hR]
    exact bodyPost_ret (ret3 (p := 6) (q := 7) (u := 8) (v := .bool true) rfl hM 4 3 rfl rfl rfl rfl rfl) rfl ⟨_, _, rfl, own_nX (hM.blk 0 rfl) (by first | rfl | (simp; done) | (simp [liftR_len]; done)) qa'4 qb'5 (hM.base 0 rfl) hps (by first | exact qe'6 | (simpa [cellsOf_len] using qe'6) | (simpa [cellsOf_len, liftR_len] using qe'6)), own_iblk (hM.blk 2 rfl) q3 q4 (hM.base 2 rfl) hc1 q6, hM.below⟩
    refine nc (spec_l7Done (.slice (some ⟨ga'1, 0, none⟩) ((makeR l h).1.length) ka'2) (.slice (some ⟨m2, 0, none⟩) c.length k2) ((makeR l h).1) c ((makeR l h).2) _ (nslX (hM.blk 0 rfl) (by first | rfl | (simp; done) | (simp [liftR_len]; done)) qa'4 qb'5) (sli_blk (hM.blk 2 rfl) q3 q4) (by first | omega | (simp; omega) | (rw [liftR_len]; omega)) hc) ?_
    rintro e W12 ⟨rfl, hb⟩
    refine ⟨.tuple #[.agg #[.slice none 0 0, .slice none 0 0], .agg (HD.cells HD.zero).toArray, .bool false], congrArg Ending.returned (by simp [doneV, HD.val, hx24]), ?_⟩
    replace hM := hM.call hb
    go_frame
    refine np (.agg #[.slice none 0 0, .slice none 0 0]) ?_
    refine np (.agg (HD.cells HD.zero).toArray) ?_
    refine np (.bool false) ?_
    refine nS hM 4 rfl [.slice none 0 0, .slice none 0 0] I_impl_Shared rfl ?_
    clear hM; intro W13 hM
    refine nS hM 3 rfl (HD.cells HD.zero) I_impl_Hand (hd_one' _) ?_
    clear hM; intro W14 hM
    refine np (.bool false) ?_
    go_frame
    refine wl_nil (cn10 _ _ ?_)
    clear cn10
    refine wp_ret ?_
    have hR : addR l c task h = ([], [], HD.zero, false) := by unfold addR; rw [if_neg (by rw [hx11]; exact Bool.false_ne_true)]; simp [doneR, noR, setK, withK, hok, hx12, hx14, hx22, hx24, ht, npe, tnp]
    rw [hR]
    exact bodyPost_ret (ret3 (p := 6) (q := 7) (u := 8) (v := .bool false) rfl hM 4 3 rfl rfl rfl rfl rfl) rfl ⟨_, _, rfl, own0, own0, hM.below⟩
    rw [hx22]
    refine wp_cond_false rfl ?_
    refine wp_seq_k fun _ cn10 => wl_region ?_
    refine np (.bool (h.at_ == 8)) ?_
    refine np (.bool (h.at_ == 8)) ?_
    go_frame
    refine wl_nil (cn10 _ _ ?_)
    clear cn10
    rcases tf ((h.at_ == 8)) with hx25 | hx25
    rw [hx25]
    refine wp_cond_true rfl ?_
    refine wp_seq_k fun Kn11 cn11 => ?_
    refine wa_start (fun w => Below w0.heap.size w0 w ∧ Blk w g5 55 [.slice (some ⟨m1, 0, none⟩) l.length k1, .slice (some ⟨m2, 0, none⟩) c.length k2] ∧ Blk w g2 73 (HD.cells h)) 17 rfl (by kernel_rfl) ?_
    replace hM := hM.drew
    refine wt 0 (some 107) (.pointer (some ⟨g5, 0, none⟩)) ⟨hM.below, hM.blk 0 rfl, hM.blk 5 rfl⟩ ?_
    go_frame
    refine wq 1 (some 108) (.slice (some ⟨m1, 0, none⟩) l.length k1) ⟨hM.below, hM.blk 0 rfl, hM.blk 5 rfl⟩ rfl (fun w hS => r_loadc hS.2.1 24 _ rfl 0 rfl Tryz.underlying24 rfl rfl) ?_
    refine wt 2 (some 109) (.pointer (some ⟨g2, 4, none⟩)) ⟨hM.below, hM.blk 0 rfl, hM.blk 5 rfl⟩ ?_
    go_frame
    refine wq 3 (some 110) (.int .i64 h.prev) ⟨hM.below, hM.blk 0 rfl, hM.blk 5 rfl⟩ rfl (fun w hS => r_loadc hS.2.2 2 _ rfl 4 rfl Tryz.underlying2 rfl rfl) ?_
    refine wt 4 (some 111) (.pointer (some ⟨g5, 0, none⟩)) ⟨hM.below, hM.blk 0 rfl, hM.blk 5 rfl⟩ ?_
    go_frame
    refine wq 5 (some 112) (.slice (some ⟨m1, 0, none⟩) l.length k1) ⟨hM.below, hM.blk 0 rfl, hM.blk 5 rfl⟩ rfl (fun w hS => r_loadc hS.2.1 24 _ rfl 0 rfl Tryz.underlying24 rfl rfl) ?_
    refine wt 6 (some 113) (.pointer (some ⟨g2, 4, none⟩)) ⟨hM.below, hM.blk 0 rfl, hM.blk 5 rfl⟩ ?_
    go_frame
    refine wq 7 (some 114) (.int .i64 h.prev) ⟨hM.below, hM.blk 0 rfl, hM.blk 5 rfl⟩ rfl (fun w hS => r_loadc hS.2.2 2 _ rfl 4 rfl Tryz.underlying2 rfl rfl) ?_
    go_frame
    refine wq 8 (some 115) (.pointer (some ⟨m1, 0 + knp * 8, none⟩)) ⟨hM.below, hM.blk 0 rfl, hM.blk 5 rfl⟩ rfl (fun w hS => r_index 24 49 _ _ rfl m1 0 l.length k1 8 knp rfl rfl hknp (by omega) Tryz.underlying24 I_impl_Node) ?_
    refine wt 10 (some 117) (.pointer (some ⟨g2, 6, none⟩)) ⟨hM.below, hM.blk 0 rfl, hM.blk 5 rfl⟩ ?_
    go_frame
    refine wq 11 (some 118) (.int .i64 h.side) ⟨hM.below, hM.blk 0 rfl, hM.blk 5 rfl⟩ rfl (fun w hS => r_loadc hS.2.2 2 _ rfl 6 rfl Tryz.underlying2 rfl rfl) ?_
    refine wt 12 (some 119) (.pointer (some ⟨g2, 10, none⟩)) ⟨hM.below, hM.blk 0 rfl, hM.blk 5 rfl⟩ ?_
    go_frame
    refine wq 13 (some 120) (.int .i64 h.new) ⟨hM.below, hM.blk 0 rfl, hM.blk 5 rfl⟩ rfl (fun w hS => r_loadc hS.2.2 2 _ rfl 10 rfl Tryz.underlying2 rfl rfl) ?_
    go_frame
    refine wn 9 ?_
    refine oq (some 116) (.agg (ND.cells ⟨npk, npv, npl, npr, npo, npg, nplt, nprt⟩).toArray) ⟨hM.below, hM.blk 0 rfl, hM.blk 5 rfl⟩ rfl (r_part (hM.blk 1 rfl) 49 _ rfl (0 + knp * 8) rfl Tryz.underlying49 (ND.cells ⟨npk, npv, npl, npr, npo, npg, nplt, nprt⟩) I_impl_Node (node_part hnnp)) ?_
    go_frame
    refine wn 14 ?_
    refine oc (some 121) (spec_WithKid npk npv npl npr npo npg nplt nprt h.side h.new _) ?_
    rintro e W9 ⟨rfl, hb⟩
    replace hM := hM.call hb
    refine ⟨_, rfl, wk ⟨hM.below, hM.blk 0 rfl, hM.blk 5 rfl⟩ fun hs => ?_⟩
    go_frame
    refine wq 15 (some 122) (.pointer (some ⟨m1, 0 + knp * 8, none⟩)) hs rfl (fun w hS => r_index 24 49 _ _ rfl m1 0 l.length k1 8 knp rfl rfl hknp (by omega) Tryz.underlying24 I_impl_Node) ?_
    go_frame
    refine wn 16 ?_
    refine wo_storep rfl (by kernel_rfl) hM 1 rfl 49 _ _ rfl rfl (0 + knp * 8) (by kernel_rfl) (ND.cells ⟨npk, npv, (leftF h.side h.new npl), (rightF h.side h.new npr), npo, npg, nplt, nprt⟩) (by kernel_rfl) I_impl_Node (node_room hlnp) (nd_one _) ?_
    clear hM; intro W10 hM; rw [splice_node hlnp] at hM
    refine ⟨⟨hM.below, hM.blk 0 rfl, hM.blk 5 rfl⟩, ?_⟩
    refine wa_done (by kernel_rfl) ?_
    refine cn11 _ _ ?_
    clear cn11
    refine wl_region ?_
    refine nl hM 5 rfl Tryz.underlying73 I_impl_Hand ?_
    refine nc (spec_l8End h 1 _) ?_
    rintro e W11 ⟨rfl, hb⟩
    refine ⟨_, rfl, ?_⟩
    replace hM := hM.call hb
    go_frame
    refine nS hM 5 rfl (HD.cells (endH h 1)) I_impl_Hand (hd_one' _) ?_
    clear hM; intro W12 hM
    refine wl_nil (cn5 _ _ ?_)
    clear cn5
    refine wp_seq_k fun _ cn12 => wl_region ?_
    refine nl hM 0 rfl Tryz.underlying55 I_impl_Shared ?_
    refine nl hM 5 rfl Tryz.underlying73 I_impl_Hand ?_
    go_frame
    rcases tf ((sharedB (l.set knp ⟨npk, npv, (leftF h.side h.new npl), (rightF h.side h.new npr), npo, npg, nplt, nprt⟩) c && handB (endH h 1))) with hx27 | hx27
    refine nc (spec_l7Done (.slice (some ⟨m1, 0, none⟩) l.length k1) (.slice (some ⟨m2, 0, none⟩) c.length k2) (l.set knp ⟨npk, npv, (leftF h.side h.new npl), (rightF h.side h.new npr), npo, npg, nplt, nprt⟩) c (endH h 1) _ (nslX (hM.blk 1 rfl) (by first | rfl | (simp; done) | (simp [liftR_len]; done)) q1 q2) (sli_blk (hM.blk 2 rfl) q3 q4) (by first | omega | (simp; omega) | (rw [liftR_len]; omega)) hc) ?_
    rintro e W13 ⟨rfl, hb⟩
    refine ⟨.tuple #[.agg #[.slice (some ⟨m1, 0, none⟩) l.length k1, .slice (some ⟨m2, 0, none⟩) c.length k2], .agg (HD.cells (endH h 1)).toArray, .bool true], congrArg Ending.returned (by simp [doneV, HD.val, hx27]), ?_⟩
    replace hM := hM.call hb
    go_frame
    refine np (.agg #[.slice (some ⟨m1, 0, none⟩) l.length k1, .slice (some ⟨m2, 0, none⟩) c.length k2]) ?_
    refine np (.agg (HD.cells (endH h 1)).toArray) ?_
    refine np (.bool true) ?_
    refine nS hM 4 rfl [.slice (some ⟨m1, 0, none⟩) l.length k1, .slice (some ⟨m2, 0, none⟩) c.length k2] I_impl_Shared rfl ?_
    clear hM; intro W14 hM
    refine nS hM 3 rfl (HD.cells (endH h 1)) I_impl_Hand (hd_one' _) ?_
    clear hM; intro W15 hM
    refine np (.bool true) ?_
    go_frame
    refine wl_nil (cn12 _ _ ?_)
    clear cn12
    refine wp_ret ?_
    have hps : 0 < ((l.set knp ⟨npk, npv, (leftF h.side h.new npl), (rightF h.side h.new npr), npo, npg, nplt, nprt⟩) : List ND).length := shared_pos (by assumption)
    have hR : addR l c task h = ((l.set knp ⟨npk, npv, (leftF h.side h.new npl), (rightF h.side h.new npr), npo, npg, nplt, nprt⟩), c, (endH h 1), true) := by unfold addR; rw [if_neg (by rw [hx11]; exact Bool.false_ne_true)]; simp [doneR, noR, setK, withK, hok, hx12, hx14, hx22, hx25, hx27, ht, npe, tnp]
    rw [hR]
    exact bodyPost_ret (ret3 (p := 6) (q := 7) (u := 8) (v := .bool true) rfl hM 4 3 rfl rfl rfl rfl rfl) rfl ⟨_, _, rfl, own_nX (hM.blk 1 rfl) (by first | rfl | (simp; done) | (simp [liftR_len]; done)) q1 q2 (hM.base 1 rfl) hps (by first | exact q5 | (simpa [cellsOf_len] using q5) | (simpa [cellsOf_len, liftR_len] using q5)), own_iblk (hM.blk 2 rfl) q3 q4 (hM.base 2 rfl) hc1 q6, hM.below⟩
    refine nc (spec_l7Done (.slice (some ⟨m1, 0, none⟩) l.length k1) (.slice (some ⟨m2, 0, none⟩) c.length k2) (l.set knp ⟨npk, npv, (leftF h.side h.new npl), (rightF h.side h.new npr), npo, npg, nplt, nprt⟩) c (endH h 1) _ (nslX (hM.blk 1 rfl) (by first | rfl | (simp; done) | (simp [liftR_len]; done)) q1 q2) (sli_blk (hM.blk 2 rfl) q3 q4) (by first | omega | (simp; omega) | (rw [liftR_len]; omega)) hc) ?_
    rintro e W13 ⟨rfl, hb⟩
    refine ⟨.tuple #[.agg #[.slice none 0 0, .slice none 0 0], .agg (HD.cells HD.zero).toArray, .bool false], congrArg Ending.returned (by simp [doneV, HD.val, hx27]), ?_⟩
    replace hM := hM.call hb
    go_frame
    refine np (.agg #[.slice none 0 0, .slice none 0 0]) ?_
    refine np (.agg (HD.cells HD.zero).toArray) ?_
    refine np (.bool false) ?_
    refine nS hM 4 rfl [.slice none 0 0, .slice none 0 0] I_impl_Shared rfl ?_
    clear hM; intro W14 hM
    refine nS hM 3 rfl (HD.cells HD.zero) I_impl_Hand (hd_one' _) ?_
    clear hM; intro W15 hM
    refine np (.bool false) ?_
    go_frame
    refine wl_nil (cn12 _ _ ?_)
    clear cn12
    refine wp_ret ?_
    have hR : addR l c task h = ([], [], HD.zero, false) := by unfold addR; rw [if_neg (by rw [hx11]; exact Bool.false_ne_true)]; simp [doneR, noR, setK, withK, hok, hx12, hx14, hx22, hx25, hx27, ht, npe, tnp]
    rw [hR]
    exact bodyPost_ret (ret3 (p := 6) (q := 7) (u := 8) (v := .bool false) rfl hM 4 3 rfl rfl rfl rfl rfl) rfl ⟨_, _, rfl, own0, own0, hM.below⟩
    rw [hx25]
    exfalso
    simp only [beq_eq_false_iff_ne, ne_eq] at hx12 hx14 hx22 hx25
    omega
    refine wl_region ?_
    refine nl hM 3 rfl Tryz.underlying55 I_impl_Shared ?_
    refine np (.int .i64 task) ?_
    refine nl hM 2 rfl Tryz.underlying73 I_impl_Hand ?_
    refine nc (spec_l7Ok (.slice (some ⟨b, off, none⟩) l.length cap) (.slice (some ⟨b2, off2, none⟩) c.length cap2) l c task h 5 8 _ (H1.below hM.below) (H2.below hM.below) hl hc) ?_
    rintro e W6 ⟨rfl, hb⟩
    refine ⟨.bool true, rb hok, ?_⟩
    replace hM := hM.call hb
    go_frame
    refine np (.bool false) ?_
    refine np (.bool false) ?_
    refine np (.pointer (some ⟨g2, 1, none⟩)) ?_
    refine np (.pointer (some ⟨g2, 1, none⟩)) ?_
    refine ng hM 2 rfl 1 Tryz.underlying2 rfl ?_
    refine np (.bool (h.c == 1)) ?_
    refine np (.bool (h.c == 1)) ?_
    refine np (.bool (h.c == 1)) ?_
    go_frame
    rcases tf ((h.c == 1)) with hx28 | hx28
    rw [hx28]
    iterate 9 refine ns ?_
    refine np (.bool true) ?_
    go_frame
    refine wl_nil ?_
    exact ⟨(fun i => ([.agg #[.slice (some ⟨b, off, none⟩) l.length cap, .slice (some ⟨b2, off2, none⟩) c.length cap2], .int .i64 task, .agg (HD.cells h).toArray, .bool true, .bool false, .bool false, .pointer (some ⟨g2, 1, none⟩), .pointer (some ⟨g2, 1, none⟩), .int .i64 h.c, .bool true, .bool true, .bool true, undef, undef, undef, undef, undef, undef, undef, undef, undef, .bool true] : List Value).getD i undef), rfl, congrArg Value.bool (show true = xg1 by rw [hxg1]; simp [hok, hx28]), hM⟩
    rw [hx28]
    refine np (.pointer (some ⟨g2, 0, none⟩)) ?_
    refine ng hM 2 rfl 0 Tryz.underlying2 rfl ?_
    refine np (.bool (h.at_ != 5)) ?_
    refine np (.bool (h.at_ != 5)) ?_
    go_frame
    rcases tf ((h.at_ != 5)) with hx29 | hx29
    rw [hx29]
    refine np (.pointer (some ⟨g2, 1, none⟩)) ?_
    refine np (.pointer (some ⟨g2, 1, none⟩)) ?_
    refine ng hM 2 rfl 1 Tryz.underlying2 rfl ?_
    refine np (.bool (h.c != 2)) ?_
    refine np (.bool (h.c != 2)) ?_
    refine np (.bool (h.c != 2)) ?_
    go_frame
    refine wl_nil ?_
    exact ⟨(fun i => ([.agg #[.slice (some ⟨b, off, none⟩) l.length cap, .slice (some ⟨b2, off2, none⟩) c.length cap2], .int .i64 task, .agg (HD.cells h).toArray, .bool true, .bool false, .bool false, .pointer (some ⟨g2, 1, none⟩), .pointer (some ⟨g2, 1, none⟩), .int .i64 h.c, .bool false, .bool false, .bool false, .pointer (some ⟨g2, 0, none⟩), .int .i64 h.at_, .bool true, .bool true, .pointer (some ⟨g2, 1, none⟩), .pointer (some ⟨g2, 1, none⟩), .int .i64 h.c, .bool (h.c != 2), .bool (h.c != 2), .bool (h.c != 2)] : List Value).getD i undef), rfl, congrArg Value.bool (show (h.c != 2) = xg1 by rw [hxg1]; simp [hok, hx28, hx29]), hM⟩
    rw [hx29]
    iterate 4 refine ns ?_
    refine np (.bool false) ?_
    refine np (.bool false) ?_
    go_frame
    refine wl_nil ?_
    exact ⟨(fun i => ([.agg #[.slice (some ⟨b, off, none⟩) l.length cap, .slice (some ⟨b2, off2, none⟩) c.length cap2], .int .i64 task, .agg (HD.cells h).toArray, .bool true, .bool false, .bool false, .pointer (some ⟨g2, 1, none⟩), .pointer (some ⟨g2, 1, none⟩), .int .i64 h.c, .bool false, .bool false, .bool false, .pointer (some ⟨g2, 0, none⟩), .int .i64 h.at_, .bool false, .bool false, undef, undef, undef, undef, .bool false, .bool false] : List Value).getD i undef), rfl, congrArg Value.bool (show false = xg1 by rw [hxg1]; simp [hok, hx28, hx29]), hM⟩
  · obtain ⟨a1, j1, rfl, -⟩ := h1
    obtain ⟨a2, j2, rfl, -⟩ := h2
    go_enter Tryz.func91, Tryz.ntmps91
    refine wp_seq_k fun _ cn1 => wl_region ?_
    refine nx hM 55 [.slice a1 l.length j1, .slice a2 c.length j2] ?_
    clear hM; intro g1 W1 hM
    refine nx hM 73 (HD.cells h) ?_
    clear hM; intro g2 W2 hM
    refine na hM [.slice none 0 0, .slice none 0 0] Z_impl_Shared ?_
    clear hM; intro g3 W3 hM
    refine na hM (HD.cells HD.zero) Z_impl_Hand ?_
    clear hM; intro g4 W4 hM
    refine np (.bool false) ?_
    go_frame
    refine wl_nil (cn1 _ _ ?_)
    clear cn1
    refine wp_seq_k fun Kn2 cn2 => ?_
    refine wp_seq_k fun _ cn3 => wl_region ?_
    refine nl hM 3 rfl Tryz.underlying55 I_impl_Shared ?_
    refine np (.int .i64 task) ?_
    refine nl hM 2 rfl Tryz.underlying73 I_impl_Hand ?_
    refine nc (spec_l7Ok (.slice a1 l.length j1) (.slice a2 c.length j2) l c task h 5 8 _ (H1.below hM.below) (H2.below hM.below) hl hc) ?_
    rintro e W5 ⟨rfl, hb⟩
    refine ⟨.bool false, rb hok, ?_⟩
    replace hM := hM.call hb
    go_frame
    refine np (.bool true) ?_
    refine np (.bool true) ?_
    iterate 4 refine ns ?_
    refine np (.bool true) ?_
    refine np (.bool true) ?_
    iterate 9 refine ns ?_
    refine np (.bool true) ?_
    go_frame
    refine wl_nil (cn3 _ _ ?_)
    clear cn3
    refine wp_cond_true rfl ?_
    refine wp_seq_k fun _ cn4 => wl_region ?_
    refine np (.agg #[.slice none 0 0, .slice none 0 0]) ?_
    refine np (.agg (HD.cells HD.zero).toArray) ?_
    refine nS hM 1 rfl [.slice none 0 0, .slice none 0 0] I_impl_Shared rfl ?_
    clear hM; intro W6 hM
    refine nS hM 0 rfl (HD.cells HD.zero) I_impl_Hand (hd_one' _) ?_
    clear hM; intro W7 hM
    refine np (.bool false) ?_
    go_frame
    refine wl_nil (cn4 _ _ ?_)
    clear cn4
    refine wp_ret ?_
    simp only [Exit.then, Exit.inBlock]
    have hR : addR l c task h = ([], [], HD.zero, false) := by simp [addR, doneR, noR, setK, withK, hok]
    rw [hR]
    exact bodyPost_ret (ret3 (p := 6) (q := 7) (u := 8) (v := .bool false) rfl hM 1 0 rfl rfl rfl rfl rfl) rfl ⟨_, _, rfl, own0, own0, hM.below⟩

theorem spec_CutStep (u x : Value) (l : List ND) (c : List Int) (task : Int) (h : HD) (w0 : World) (h1 : NSl w0 u l) (h2 : SlI w0 x c) (hl : l.length ≤ 1048576) (hc : c.length ≤ 1048576) :
    Calls Tryz.prog 92 #[.agg #[u, x], .int .i64 task, h.val] w0 (Says3 (cutR l c task h) w0) := by
  have H1 := h1
  have H2 := h2
  unfold HD.val
  have hM := Mem.start w0
  rcases tf (l7okB l c task h 9 13) with hok | hok
  · obtain ⟨hl0, hc0, hl1, hc1, hat, kt, hkt0, hkt, hcnt, hnodes, qnp, qnc, qnu, qnx, qnw⟩ := ok_facts hok
    obtain ⟨b, off, cap, rfl, kk1, mm1, s1, G1⟩ := h1.at hl0
    obtain ⟨b2, off2, cap2, rfl, kk2, mm2, s2, G2⟩ := h2.at hc0
    have ht : task.toNat = kt := by omega
    have hl30 := (nodes_some hnodes).2
    obtain ⟨knp, ⟨npk, npv, npl, npr, npo, npg, nplt, nprt⟩, hknp, npe, hlnp, hnnp⟩ := nd_at qnp
    have Anp := G1 knp _ hnnp
    have tnp : h.prev.toNat = knp := by omega
    obtain ⟨knc, ⟨nck, ncv, ncl, ncr, nco, ncg, nclt, ncrt⟩, hknc, nce, hlnc, hnnc⟩ := nd_at qnc
    have Anc := G1 knc _ hnnc
    have tnc : h.cur.toNat = knc := by omega
    go_enter Tryz.func92, Tryz.ntmps92
    refine wp_seq_k fun _ cn1 => wl_region ?_
    refine nx hM 55 [.slice (some ⟨b, off, none⟩) l.length cap, .slice (some ⟨b2, off2, none⟩) c.length cap2] ?_
    clear hM; intro g1 W1 hM
    refine nx hM 73 (HD.cells h) ?_
    clear hM; intro g2 W2 hM
    refine na hM [.slice none 0 0, .slice none 0 0] Z_impl_Shared ?_
    clear hM; intro g3 W3 hM
    refine na hM (HD.cells HD.zero) Z_impl_Hand ?_
    clear hM; intro g4 W4 hM
    refine np (.bool false) ?_
    go_frame
    refine wl_nil (cn1 _ _ ?_)
    clear cn1
    refine wp_seq_k fun Kn2 cn2 => ?_
    refine wp_seq_k fun Kn3 cn3 => ?_
    obtain ⟨xg1, hxg1⟩ : ∃ x : Bool, x = (((!l7okB l c task h 9 13) || (h.c != 3)) || (h.cur == 0)) := ⟨_, rfl⟩
    refine wa_join (fun act W => ∃ (U1 : Nat → Value), act = ⟨#[.agg #[.slice (some ⟨b, off, none⟩) l.length cap, .slice (some ⟨b2, off2, none⟩) c.length cap2], .int .i64 task, .agg (HD.cells h).toArray, .pointer (some ⟨g1, 0, none⟩), undef, .pointer (some ⟨g2, 0, none⟩), .pointer (some ⟨g3, 0, none⟩), .pointer (some ⟨g4, 0, none⟩), .bool false, undef, undef, undef, undef, (U1 0), (U1 1), (U1 2), (U1 3), (U1 4), (U1 5), (U1 6), (U1 7), (U1 8), (U1 9), (U1 10), (U1 11), (U1 12), (U1 13), (U1 14), (U1 15), undef, undef, undef, undef, undef, undef, undef, undef, undef, undef, undef, undef, undef, undef, undef, undef, undef, undef, undef, undef, undef, undef, undef, undef, undef, undef, undef, undef, undef, undef, undef, undef, undef, undef, undef, undef, undef, undef, undef, undef, undef, undef, undef, undef, undef, undef, undef, undef, undef, undef, undef, undef, undef, undef, undef, undef, undef, undef, undef, undef, undef, undef, undef, undef, undef, undef, undef, undef, undef, undef, undef, undef, undef, undef, undef, undef, undef, undef, undef, undef, undef, undef, undef, undef, undef, undef, undef, undef], []⟩ ∧ U1 15 = .bool xg1 ∧ Mem w0 W [(g4, 73, (HD.cells HD.zero)), (g3, 55, [.slice none 0 0, .slice none 0 0]), (g2, 73, (HD.cells h)), (g1, 55, [.slice (some ⟨b, off, none⟩) l.length cap, .slice (some ⟨b2, off2, none⟩) c.length cap2])]) ?_ ?_
    clear hM
    rintro act W5 ⟨U1, rfl, hU1, hM⟩
    refine cn3 _ _ ?_
    clear cn3
    rcases tf ((((!l7okB l c task h 9 13) || (h.c != 3)) || (h.cur == 0))) with hx11 | hx11
    refine wp_cond_true (hU1.trans (congrArg Value.bool (hxg1.trans hx11))) ?_
    refine wp_seq_k fun _ cn4 => wl_region ?_
    refine np (.agg #[.slice none 0 0, .slice none 0 0]) ?_
    refine np (.agg (HD.cells HD.zero).toArray) ?_
    refine nS hM 1 rfl [.slice none 0 0, .slice none 0 0] I_impl_Shared rfl ?_
    clear hM; intro W6 hM
    refine nS hM 0 rfl (HD.cells HD.zero) I_impl_Hand (hd_one' _) ?_
    clear hM; intro W7 hM
    refine np (.bool false) ?_
    go_frame
    refine wl_nil (cn4 _ _ ?_)
    clear cn4
    refine wp_ret ?_
    simp only [Exit.then, Exit.inBlock]
    have hR : cutR l c task h = ([], [], HD.zero, false) := by unfold cutR; rw [if_pos hx11]; rfl
    rw [hR]
    exact bodyPost_ret (ret3 (p := 6) (q := 7) (u := 8) (v := .bool false) rfl hM 1 0 rfl rfl rfl rfl rfl) rfl ⟨_, _, rfl, own0, own0, hM.below⟩
    refine wp_cond_false (hU1.trans (congrArg Value.bool (hxg1.trans hx11))) ?_
    refine wp_skip ?_
    refine cn2 _ _ ?_
    clear cn2
    refine wp_seq_k fun _ cn4 => wl_region ?_
    refine nl hM 3 rfl Tryz.underlying55 I_impl_Shared ?_
    refine nc (spec_l7Copy (.slice (some ⟨b, off, none⟩) l.length cap) (.slice (some ⟨b2, off2, none⟩) c.length cap2) l c _ (H1.below hM.below) (H2.below hM.below) hl0 hc0 hl hc) ?_
    rintro e W6 ⟨m1, m2, k1, k2, p1, p2, rfl, ⟨q1, q2, q3, q4, q5, q6⟩, hMc⟩
    refine ⟨_, rfl, ?_⟩
    replace hM := hM.join hMc
    go_frame
    refine na hM [.slice none 0 0, .slice none 0 0] Z_impl_Shared ?_
    clear hM; intro g5 W7 hM
    refine nS hM 0 rfl [.slice (some ⟨m1, 0, none⟩) l.length k1, .slice (some ⟨m2, 0, none⟩) c.length k2] I_impl_Shared rfl ?_
    clear hM; intro W8 hM
    refine wl_nil (cn4 _ _ ?_)
    clear cn4
    refine wp_seq_k fun Kn5 cn5 => ?_
    refine wp_seq_k fun _ cn6 => wl_region ?_
    refine np (.pointer (some ⟨g2, 0, none⟩)) ?_
    refine ng hM 5 rfl 0 Tryz.underlying2 rfl ?_
    go_frame
    refine wl_nil (cn6 _ _ ?_)
    clear cn6
    refine wp_block ?_
    refine wp_seq_k fun _ cn7 => wl_region ?_
    refine np (.bool (h.at_ == 9)) ?_
    refine np (.bool (h.at_ == 9)) ?_
    go_frame
    refine wl_nil (cn7 _ _ ?_)
    clear cn7
    rcases tf ((h.at_ == 9)) with hx12 | hx12
    rw [hx12]
    refine wp_cond_true rfl ?_
    refine wp_seq_k fun _ cn8 => wl_region ?_
    refine nl hM 6 rfl Tryz.underlying55 I_impl_Shared ?_
    refine np (.int .i64 task) ?_
    refine nl hM 5 rfl Tryz.underlying73 I_impl_Hand ?_
    refine np (.pointer (some ⟨g2, 5, none⟩)) ?_
    refine ng hM 5 rfl 5 Tryz.underlying2 rfl ?_
    refine nc (spec_l8Lock (.slice (some ⟨b, off, none⟩) l.length cap) (.slice (some ⟨b2, off2, none⟩) c.length cap2) l c task h h.cur 10 _ (H1.below hM.below) (H2.below hM.below) hl0 hc0 hl hc (has64 qnc hl)) ?_
    rintro e W9 ⟨u', x', rfl, hO1, hO2, hb⟩
    obtain ⟨hr1, hr2⟩ := lockR_pos (task := task) (h := h) (at' := h.cur) (then' := 10) hl0 hc0
    obtain ⟨v1, j1, r1, rfl, s1', s2', s3', s4', s9'⟩ := own_blk hO1 hr1
    obtain ⟨v2, j2, r2, rfl, s5', s6', s7', s8', s0'⟩ := own_blk hO2 hr2
    replace hM := hM.join (Mem.two hb s4' s8' s3' s7' ne_types)
    refine ⟨_, rfl, ?_⟩
    go_frame
    refine np (.agg #[.slice (some ⟨v1, 0, none⟩) ((lockR l c task h h.cur 10).1.length) j1, .slice (some ⟨v2, 0, none⟩) ((lockR l c task h h.cur 10).2.1.length) j2]) ?_
    refine np (.agg (HD.cells ((lockR l c task h h.cur 10).2.2.1)).toArray) ?_
    refine np (.bool ((lockR l c task h h.cur 10).2.2.2)) ?_
    refine nS hM 6 rfl [.slice (some ⟨v1, 0, none⟩) ((lockR l c task h h.cur 10).1.length) j1, .slice (some ⟨v2, 0, none⟩) ((lockR l c task h h.cur 10).2.1.length) j2] I_impl_Shared rfl ?_
    clear hM; intro W10 hM
    refine nS hM 5 rfl (HD.cells ((lockR l c task h h.cur 10).2.2.1)) I_impl_Hand (hd_one' _) ?_
    clear hM; intro W11 hM
    refine np (.bool ((lockR l c task h h.cur 10).2.2.2)) ?_
    go_frame
    refine wl_nil (cn8 _ _ ?_)
    clear cn8
    refine wp_ret ?_
    simp only [Exit.then, Exit.inBlock]
    have hR : cutR l c task h = ((lockR l c task h h.cur 10).1, (lockR l c task h h.cur 10).2.1, (lockR l c task h h.cur 10).2.2.1, (lockR l c task h h.cur 10).2.2.2) := by unfold cutR; rw [if_neg (by rw [hx11]; exact Bool.false_ne_true)]; simp [cutKid, doneR, noR, setK, withT, goneN, hok, hx12, ht, npe, tnp, nce, tnc]
    rw [hR]
    exact bodyPost_ret (ret3 (p := 6) (q := 7) (u := 8) (v := .bool ((lockR l c task h h.cur 10).2.2.2)) rfl hM 6 5 rfl rfl rfl rfl rfl) rfl ⟨_, _, rfl, own_nX (hM.blk 0 rfl) rfl s1' s2' (hM.base 0 rfl) hr1 s9', own_iblk (hM.blk 1 rfl) s5' s6' (hM.base 1 rfl) hr2 s0', hM.below⟩
    rw [hx12]
    refine wp_cond_false rfl ?_
    refine wp_seq_k fun _ cn8 => wl_region ?_
    refine np (.bool (h.at_ == 10)) ?_
    refine np (.bool (h.at_ == 10)) ?_
    go_frame
    refine wl_nil (cn8 _ _ ?_)
    clear cn8
    rcases tf ((h.at_ == 10)) with hx13 | hx13
    rw [hx13]
    refine wp_cond_true rfl ?_
    refine wl_region ?_
    refine nl hM 6 rfl Tryz.underlying55 I_impl_Shared ?_
    refine nl hM 5 rfl Tryz.underlying73 I_impl_Hand ?_
    refine nc (spec_l9Check (.slice (some ⟨b, off, none⟩) l.length cap) (.slice (some ⟨b2, off2, none⟩) c.length cap2) l h _ (H1.below hM.below) qnp qnc) ?_
    rintro e W9 ⟨rfl, hb⟩
    refine ⟨_, rfl, ?_⟩
    replace hM := hM.call hb
    go_frame
    refine nS hM 5 rfl (HD.cells (checkCutH l h)) I_impl_Hand (hd_one' _) ?_
    clear hM; intro W10 hM
    refine wl_nil (cn5 _ _ ?_)
    clear cn5
    refine wp_seq_k fun _ cn9 => wl_region ?_
    refine nl hM 0 rfl Tryz.underlying55 I_impl_Shared ?_
    refine nl hM 5 rfl Tryz.underlying73 I_impl_Hand ?_
    go_frame
    rcases tf ((sharedB l c && handB (checkCutH l h))) with hx15 | hx15
    refine nc (spec_l7Done (.slice (some ⟨m1, 0, none⟩) l.length k1) (.slice (some ⟨m2, 0, none⟩) c.length k2) l c (checkCutH l h) _ (nslX (hM.blk 1 rfl) (by first | rfl | (simp; done) | (simp [liftR_len]; done)) q1 q2) (sli_blk (hM.blk 2 rfl) q3 q4) (by first | omega | (simp; omega) | (rw [liftR_len]; omega)) hc) ?_
    rintro e W11 ⟨rfl, hb⟩
    refine ⟨.tuple #[.agg #[.slice (some ⟨m1, 0, none⟩) l.length k1, .slice (some ⟨m2, 0, none⟩) c.length k2], .agg (HD.cells (checkCutH l h)).toArray, .bool true], congrArg Ending.returned (by simp [doneV, HD.val, hx15]), ?_⟩
    replace hM := hM.call hb
    go_frame
    refine np (.agg #[.slice (some ⟨m1, 0, none⟩) l.length k1, .slice (some ⟨m2, 0, none⟩) c.length k2]) ?_
    refine np (.agg (HD.cells (checkCutH l h)).toArray) ?_
    refine np (.bool true) ?_
    refine nS hM 4 rfl [.slice (some ⟨m1, 0, none⟩) l.length k1, .slice (some ⟨m2, 0, none⟩) c.length k2] I_impl_Shared rfl ?_
    clear hM; intro W12 hM
    refine nS hM 3 rfl (HD.cells (checkCutH l h)) I_impl_Hand (hd_one' _) ?_
    clear hM; intro W13 hM
    refine np (.bool true) ?_
    go_frame
    refine wl_nil (cn9 _ _ ?_)
    clear cn9
    refine wp_ret ?_
    have hps : 0 < (l : List ND).length := hl1
    have hR : cutR l c task h = (l, c, (checkCutH l h), true) := by unfold cutR; rw [if_neg (by rw [hx11]; exact Bool.false_ne_true)]; simp [cutKid, doneR, noR, setK, withT, goneN, hok, hx12, hx13, hx15, ht, npe, tnp, nce, tnc]
    rw [hR]
    exact bodyPost_ret (ret3 (p := 6) (q := 7) (u := 8) (v := .bool true) rfl hM 4 3 rfl rfl rfl rfl rfl) rfl ⟨_, _, rfl, own_nX (hM.blk 1 rfl) (by first | rfl | (simp; done) | (simp [liftR_len]; done)) q1 q2 (hM.base 1 rfl) hps (by first | exact q5 | (simpa [cellsOf_len] using q5) | (simpa [cellsOf_len, liftR_len] using q5)), own_iblk (hM.blk 2 rfl) q3 q4 (hM.base 2 rfl) hc1 q6, hM.below⟩
    refine nc (spec_l7Done (.slice (some ⟨m1, 0, none⟩) l.length k1) (.slice (some ⟨m2, 0, none⟩) c.length k2) l c (checkCutH l h) _ (nslX (hM.blk 1 rfl) (by first | rfl | (simp; done) | (simp [liftR_len]; done)) q1 q2) (sli_blk (hM.blk 2 rfl) q3 q4) (by first | omega | (simp; omega) | (rw [liftR_len]; omega)) hc) ?_
    rintro e W11 ⟨rfl, hb⟩
    refine ⟨.tuple #[.agg #[.slice none 0 0, .slice none 0 0], .agg (HD.cells HD.zero).toArray, .bool false], congrArg Ending.returned (by simp [doneV, HD.val, hx15]), ?_⟩
    replace hM := hM.call hb
    go_frame
    refine np (.agg #[.slice none 0 0, .slice none 0 0]) ?_
    refine np (.agg (HD.cells HD.zero).toArray) ?_
    refine np (.bool false) ?_
    refine nS hM 4 rfl [.slice none 0 0, .slice none 0 0] I_impl_Shared rfl ?_
    clear hM; intro W12 hM
    refine nS hM 3 rfl (HD.cells HD.zero) I_impl_Hand (hd_one' _) ?_
    clear hM; intro W13 hM
    refine np (.bool false) ?_
    go_frame
    refine wl_nil (cn9 _ _ ?_)
    clear cn9
    refine wp_ret ?_
    have hR : cutR l c task h = ([], [], HD.zero, false) := by unfold cutR; rw [if_neg (by rw [hx11]; exact Bool.false_ne_true)]; simp [cutKid, doneR, noR, setK, withT, goneN, hok, hx12, hx13, hx15, ht, npe, tnp, nce, tnc]
    rw [hR]
    exact bodyPost_ret (ret3 (p := 6) (q := 7) (u := 8) (v := .bool false) rfl hM 4 3 rfl rfl rfl rfl rfl) rfl ⟨_, _, rfl, own0, own0, hM.below⟩
    rw [hx13]
    refine wp_cond_false rfl ?_
    refine wp_seq_k fun _ cn9 => wl_region ?_
    refine np (.bool (h.at_ == 11)) ?_
    refine np (.bool (h.at_ == 11)) ?_
    go_frame
    refine wl_nil (cn9 _ _ ?_)
    clear cn9
    rcases tf ((h.at_ == 11)) with hx16 | hx16
    rw [hx16]
    refine wp_cond_true rfl ?_
    refine wp_seq_k fun _ cn10 => wl_region ?_
    refine np (.pointer (some ⟨g5, 0, none⟩)) ?_
    refine ng hM 0 rfl 0 Tryz.underlying24 rfl ?_
    refine np (.pointer (some ⟨g2, 5, none⟩)) ?_
    refine ng hM 5 rfl 5 Tryz.underlying2 rfl ?_
    go_frame
    refine wl_index (by kernel_rfl) 24 49 _ _ rfl m1 0 l.length k1 8 knc rfl rfl hknc (by omega) Tryz.underlying24 I_impl_Node ?_
    go_frame
    refine np (.pointer (some ⟨m1, 0 + knc * 8 + 5, none⟩)) ?_
    refine nk hM 1 rfl (0 + knc * 8 + 5) (.bool true) I_bool (node_room1 hlnc (by decide)) ?_
    clear hM; intro W9 hM; rw [node_set (j := 5) (n' := ⟨nck, ncv, ncl, ncr, nco, true, nclt, ncrt⟩) hnnc (by decide) rfl] at hM
    refine wl_nil (cn10 _ _ ?_)
    clear cn10
    refine wl_region ?_
    refine np (.pointer (some ⟨g2, 0, none⟩)) ?_
    refine nk hM 5 rfl 0 (.int .i64 12) I_int64 (by simp [HD.cells, splice_len]) ?_
    clear hM; intro W10 hM
    refine wl_nil (cn5 _ _ ?_)
    clear cn5
    refine wp_seq_k fun _ cn11 => wl_region ?_
    refine nl hM 0 rfl Tryz.underlying55 I_impl_Shared ?_
    refine nl hM 5 rfl Tryz.underlying73 I_impl_Hand ?_
    go_frame
    rcases tf ((sharedB (l.set knc ⟨nck, ncv, ncl, ncr, nco, true, nclt, ncrt⟩) c && handB ({ h with at_ := 12 }))) with hx18 | hx18
    refine nc (spec_l7Done (.slice (some ⟨m1, 0, none⟩) l.length k1) (.slice (some ⟨m2, 0, none⟩) c.length k2) (l.set knc ⟨nck, ncv, ncl, ncr, nco, true, nclt, ncrt⟩) c ({ h with at_ := 12 }) _ (nslX (hM.blk 1 rfl) (by first | rfl | (simp; done) | (simp [liftR_len]; done)) q1 q2) (sli_blk (hM.blk 2 rfl) q3 q4) (by first | omega | (simp; omega) | (rw [liftR_len]; omega)) hc) ?_
    rintro e W11 ⟨rfl, hb⟩
    refine ⟨.tuple #[.agg #[.slice (some ⟨m1, 0, none⟩) l.length k1, .slice (some ⟨m2, 0, none⟩) c.length k2], .agg (HD.cells { h with at_ := 12 }).toArray, .bool true], congrArg Ending.returned (by simp [doneV, HD.val, hx18]), ?_⟩
    replace hM := hM.call hb
    go_frame
    refine np (.agg #[.slice (some ⟨m1, 0, none⟩) l.length k1, .slice (some ⟨m2, 0, none⟩) c.length k2]) ?_
    refine np (.agg (HD.cells { h with at_ := 12 }).toArray) ?_
    refine np (.bool true) ?_
    refine nS hM 4 rfl [.slice (some ⟨m1, 0, none⟩) l.length k1, .slice (some ⟨m2, 0, none⟩) c.length k2] I_impl_Shared rfl ?_
    clear hM; intro W12 hM
    refine nS hM 3 rfl (HD.cells { h with at_ := 12 }) I_impl_Hand (hd_one' _) ?_
    clear hM; intro W13 hM
    refine np (.bool true) ?_
    go_frame
    refine wl_nil (cn11 _ _ ?_)
    clear cn11
    refine wp_ret ?_
    have hps : 0 < ((l.set knc ⟨nck, ncv, ncl, ncr, nco, true, nclt, ncrt⟩) : List ND).length := shared_pos (by assumption)
    have hR : cutR l c task h = ((l.set knc ⟨nck, ncv, ncl, ncr, nco, true, nclt, ncrt⟩), c, { h with at_ := 12 }, true) := by unfold cutR; rw [if_neg (by rw [hx11]; exact Bool.false_ne_true)]; simp [cutKid, doneR, noR, setK, withT, goneN, hok, hx12, hx13, hx16, hx18, ht, npe, tnp, nce, tnc]
    rw [hR]
    exact bodyPost_ret (ret3 (p := 6) (q := 7) (u := 8) (v := .bool true) rfl hM 4 3 rfl rfl rfl rfl rfl) rfl ⟨_, _, rfl, own_nX (hM.blk 1 rfl) (by first | rfl | (simp; done) | (simp [liftR_len]; done)) q1 q2 (hM.base 1 rfl) hps (by first | exact q5 | (simpa [cellsOf_len] using q5) | (simpa [cellsOf_len, liftR_len] using q5)), own_iblk (hM.blk 2 rfl) q3 q4 (hM.base 2 rfl) hc1 q6, hM.below⟩
    refine nc (spec_l7Done (.slice (some ⟨m1, 0, none⟩) l.length k1) (.slice (some ⟨m2, 0, none⟩) c.length k2) (l.set knc ⟨nck, ncv, ncl, ncr, nco, true, nclt, ncrt⟩) c ({ h with at_ := 12 }) _ (nslX (hM.blk 1 rfl) (by first | rfl | (simp; done) | (simp [liftR_len]; done)) q1 q2) (sli_blk (hM.blk 2 rfl) q3 q4) (by first | omega | (simp; omega) | (rw [liftR_len]; omega)) hc) ?_
    rintro e W11 ⟨rfl, hb⟩
    refine ⟨.tuple #[.agg #[.slice none 0 0, .slice none 0 0], .agg (HD.cells HD.zero).toArray, .bool false], congrArg Ending.returned (by simp [doneV, HD.val, hx18]), ?_⟩
    replace hM := hM.call hb
    go_frame
    refine np (.agg #[.slice none 0 0, .slice none 0 0]) ?_
    refine np (.agg (HD.cells HD.zero).toArray) ?_
    refine np (.bool false) ?_
    refine nS hM 4 rfl [.slice none 0 0, .slice none 0 0] I_impl_Shared rfl ?_
    clear hM; intro W12 hM
    refine nS hM 3 rfl (HD.cells HD.zero) I_impl_Hand (hd_one' _) ?_
    clear hM; intro W13 hM
    refine np (.bool false) ?_
    go_frame
    refine wl_nil (cn11 _ _ ?_)
    clear cn11
    refine wp_ret ?_
    have hR : cutR l c task h = ([], [], HD.zero, false) := by unfold cutR; rw [if_neg (by rw [hx11]; exact Bool.false_ne_true)]; simp [cutKid, doneR, noR, setK, withT, goneN, hok, hx12, hx13, hx16, hx18, ht, npe, tnp, nce, tnc]
    rw [hR]
    exact bodyPost_ret (ret3 (p := 6) (q := 7) (u := 8) (v := .bool false) rfl hM 4 3 rfl rfl rfl rfl rfl) rfl ⟨_, _, rfl, own0, own0, hM.below⟩
    rw [hx16]
    refine wp_cond_false rfl ?_
    refine wp_seq_k fun _ cn10 => wl_region ?_
    refine np (.bool (h.at_ == 12)) ?_
    refine np (.bool (h.at_ == 12)) ?_
    go_frame
    refine wl_nil (cn10 _ _ ?_)
    clear cn10
    rcases tf ((h.at_ == 12)) with hx19 | hx19
    rw [hx19]
    refine wp_cond_true rfl ?_
    refine wp_seq_k fun _ cn11 => wl_region ?_
    refine np (.pointer (some ⟨g1, 0, none⟩)) ?_
    refine ng hM 6 rfl 0 Tryz.underlying24 rfl ?_
    refine np (.pointer (some ⟨g2, 5, none⟩)) ?_
    refine ng hM 5 rfl 5 Tryz.underlying2 rfl ?_
    go_frame
    refine wl_index (by kernel_rfl) 24 49 _ _ rfl b off l.length cap 8 knc rfl rfl hknc (by omega) Tryz.underlying24 I_impl_Node ?_
    go_frame
    refine np (.pointer (some ⟨b, off + knc * 8 + 2, none⟩)) ?_
    go_frame
    refine wl_cell (by kernel_rfl) 2 _ rfl ⟨b, off + knc * 8 + 2, none⟩ rfl Tryz.underlying2 rfl (row_of hM s1 Anc 2 _ rfl) ?_
    go_frame
    refine np (.int .i64 ncl) ?_
    go_frame
    refine wl_nil (cn11 _ _ ?_)
    clear cn11
    refine wp_seq_k fun Kn12 cn12 => ?_
    refine wp_seq_k fun _ cn13 => wl_region ?_
    refine np (.int .i64 ncl) ?_
    refine np (.bool (ncl == 0)) ?_
    go_frame
    refine wl_nil (cn13 _ _ ?_)
    clear cn13
    rcases tf ((ncl == 0)) with hx20 | hx20
    rw [hx20]
    refine wp_cond_true rfl ?_
    refine wl_region ?_
    refine np (.pointer (some ⟨g1, 0, none⟩)) ?_
    refine ng hM 6 rfl 0 Tryz.underlying24 rfl ?_
    refine np (.pointer (some ⟨g2, 5, none⟩)) ?_
    refine ng hM 5 rfl 5 Tryz.underlying2 rfl ?_
    go_frame
    refine wl_index (by kernel_rfl) 24 49 _ _ rfl b off l.length cap 8 knc rfl rfl hknc (by omega) Tryz.underlying24 I_impl_Node ?_
    go_frame
    refine np (.pointer (some ⟨b, off + knc * 8 + 3, none⟩)) ?_
    go_frame
    refine wl_cell (by kernel_rfl) 2 _ rfl ⟨b, off + knc * 8 + 3, none⟩ rfl Tryz.underlying2 rfl (row_of hM s1 Anc 3 _ rfl) ?_
    go_frame
    refine np (.int .i64 ncr) ?_
    go_frame
    refine wl_nil (cn12 _ _ ?_)
    clear cn12
    refine wp_seq_k fun _ cn14 => wl_region ?_
    refine nl hM 0 rfl Tryz.underlying55 I_impl_Shared ?_
    refine np (.pointer (some ⟨g2, 4, none⟩)) ?_
    refine ng hM 5 rfl 4 Tryz.underlying2 rfl ?_
    refine np (.pointer (some ⟨g2, 6, none⟩)) ?_
    refine ng hM 5 rfl 6 Tryz.underlying2 rfl ?_
    refine np (.int .i64 ncr) ?_
    go_frame
    replace hM := hM.pull 1 rfl
    refine nC #[.agg #[.slice (some ⟨m1, 0, none⟩) l.length k1, .slice (some ⟨m2, 0, none⟩) c.length k2], .int .i64 h.prev, .int .i64 h.side, .int .i64 ncr] (spec_l9Lift l h.prev h.side ncr m1 k1 p1 _ _ _ _ _ _ hM q1 q2 q5 qnp) ?_
    rintro e W9 ⟨ga'1, ka'2, pa'3, rfl, ⟨qa'4, qb'5, qe'6⟩, hM2⟩
    refine ⟨_, rfl, ?_⟩
    clear hM; have hM := hM2; clear hM2
    go_frame
    refine np (.tuple #[.agg #[.slice (some ⟨ga'1, 0, none⟩) ((liftR l h.prev h.side ncr).1.length) ka'2, .slice (some ⟨m2, 0, none⟩) c.length k2], .bool ((liftR l h.prev h.side ncr).2)]) ?_
    refine np (.agg #[.slice (some ⟨ga'1, 0, none⟩) ((liftR l h.prev h.side ncr).1.length) ka'2, .slice (some ⟨m2, 0, none⟩) c.length k2]) ?_
    refine np (.bool ((liftR l h.prev h.side ncr).2)) ?_
    refine na hM [.slice none 0 0, .slice none 0 0] Z_impl_Shared ?_
    clear hM; intro g6 W10 hM
    refine nS hM 0 rfl [.slice (some ⟨ga'1, 0, none⟩) ((liftR l h.prev h.side ncr).1.length) ka'2, .slice (some ⟨m2, 0, none⟩) c.length k2] I_impl_Shared rfl ?_
    clear hM; intro W11 hM
    refine np (.bool ((liftR l h.prev h.side ncr).2)) ?_
    go_frame
    refine wl_nil (cn14 _ _ ?_)
    clear cn14
    refine wp_seq_k fun _ cn15 => wl_region ?_
    refine nl hM 0 rfl Tryz.underlying55 I_impl_Shared ?_
    refine nS hM 2 rfl [.slice (some ⟨ga'1, 0, none⟩) ((liftR l h.prev h.side ncr).1.length) ka'2, .slice (some ⟨m2, 0, none⟩) c.length k2] I_impl_Shared rfl ?_
    clear hM; intro W12 hM
    refine wl_nil (cn15 _ _ ?_)
    clear cn15
    refine wp_seq_k fun _ cn16 => wl_region ?_
    refine np (.bool ((liftR l h.prev h.side ncr).2)) ?_
    go_frame
    refine wl_nil (cn16 _ _ ?_)
    clear cn16
    rcases tf ((liftR l h.prev h.side ncr).2) with hx21 | hx21
    rw [hx21]
    refine wp_cond_true rfl ?_
    refine wl_region ?_
    refine np (.pointer (some ⟨g2, 0, none⟩)) ?_
    refine nk hM 6 rfl 0 (.int .i64 13) I_int64 (by simp [HD.cells, splice_len]) ?_
    clear hM; intro W13 hM
    refine wl_nil (cn5 _ _ ?_)
    clear cn5
    refine wp_seq_k fun _ cn17 => wl_region ?_
    refine nl hM 2 rfl Tryz.underlying55 I_impl_Shared ?_
    refine nl hM 6 rfl Tryz.underlying73 I_impl_Hand ?_
    go_frame
    rcases tf ((sharedB ((liftR l h.prev h.side ncr).1) c && handB ({ h with at_ := 13 }))) with hx23 | hx23
    refine nc (spec_l7Done (.slice (some ⟨ga'1, 0, none⟩) ((liftR l h.prev h.side ncr).1.length) ka'2) (.slice (some ⟨m2, 0, none⟩) c.length k2) ((liftR l h.prev h.side ncr).1) c ({ h with at_ := 13 }) _ (nslX (hM.blk 1 rfl) (by first | rfl | (simp; done) | (simp [liftR_len]; done)) qa'4 qb'5) (sli_blk (hM.blk 3 rfl) q3 q4) (by first | omega | (simp; omega) | (rw [liftR_len]; omega)) hc) ?_
    rintro e W14 ⟨rfl, hb⟩
    refine ⟨.tuple #[.agg #[.slice (some ⟨ga'1, 0, none⟩) ((liftR l h.prev h.side ncr).1.length) ka'2, .slice (some ⟨m2, 0, none⟩) c.length k2], .agg (HD.cells { h with at_ := 13 }).toArray, .bool true], congrArg Ending.returned (by simp [doneV, HD.val, hx23]), ?_⟩
    replace hM := hM.call hb
    go_frame
    refine np (.agg #[.slice (some ⟨ga'1, 0, none⟩) ((liftR l h.prev h.side ncr).1.length) ka'2, .slice (some ⟨m2, 0, none⟩) c.length k2]) ?_
    refine np (.agg (HD.cells { h with at_ := 13 }).toArray) ?_
    refine np (.bool true) ?_
    refine nS hM 5 rfl [.slice (some ⟨ga'1, 0, none⟩) ((liftR l h.prev h.side ncr).1.length) ka'2, .slice (some ⟨m2, 0, none⟩) c.length k2] I_impl_Shared rfl ?_
    clear hM; intro W15 hM
    refine nS hM 4 rfl (HD.cells { h with at_ := 13 }) I_impl_Hand (hd_one' _) ?_
    clear hM; intro W16 hM
    refine np (.bool true) ?_
    go_frame
    refine wl_nil (cn17 _ _ ?_)
    clear cn17
    refine wp_ret ?_
    have hps : 0 < ((liftR l h.prev h.side ncr).1 : List ND).length := shared_pos (by assumption)
    have hR : cutR l c task h = ((liftR l h.prev h.side ncr).1, c, { h with at_ := 13 }, true) := by unfold cutR; rw [if_neg (by rw [hx11]; exact Bool.false_ne_true)]; simp [cutKid, doneR, noR, setK, withT, goneN, hok, hx12, hx13, hx16, hx19, hx20, hx21, hx23, ht, npe, tnp, nce, tnc]
    rw [hR]
    exact bodyPost_ret (ret3 (p := 6) (q := 7) (u := 8) (v := .bool true) rfl hM 5 4 rfl rfl rfl rfl rfl) rfl ⟨_, _, rfl, own_nX (hM.blk 1 rfl) (by first | rfl | (simp; done) | (simp [liftR_len]; done)) qa'4 qb'5 (hM.base 1 rfl) hps (by first | exact qe'6 | (simpa [cellsOf_len] using qe'6) | (simpa [cellsOf_len, liftR_len] using qe'6)), own_iblk (hM.blk 3 rfl) q3 q4 (hM.base 3 rfl) hc1 q6, hM.below⟩
    refine nc (spec_l7Done (.slice (some ⟨ga'1, 0, none⟩) ((liftR l h.prev h.side ncr).1.length) ka'2) (.slice (some ⟨m2, 0, none⟩) c.length k2) ((liftR l h.prev h.side ncr).1) c ({ h with at_ := 13 }) _ (nslX (hM.blk 1 rfl) (by first | rfl | (simp; done) | (simp [liftR_len]; done)) qa'4 qb'5) (sli_blk (hM.blk 3 rfl) q3 q4) (by first | omega | (simp; omega) | (rw [liftR_len]; omega)) hc) ?_
    rintro e W14 ⟨rfl, hb⟩
    refine ⟨.tuple #[.agg #[.slice none 0 0, .slice none 0 0], .agg (HD.cells HD.zero).toArray, .bool false], congrArg Ending.returned (by simp [doneV, HD.val, hx23]), ?_⟩
    replace hM := hM.call hb
    go_frame
    refine np (.agg #[.slice none 0 0, .slice none 0 0]) ?_
    refine np (.agg (HD.cells HD.zero).toArray) ?_
    refine np (.bool false) ?_
    refine nS hM 5 rfl [.slice none 0 0, .slice none 0 0] I_impl_Shared rfl ?_
    clear hM; intro W15 hM
    refine nS hM 4 rfl (HD.cells HD.zero) I_impl_Hand (hd_one' _) ?_
    clear hM; intro W16 hM
    refine np (.bool false) ?_
    go_frame
    refine wl_nil (cn17 _ _ ?_)
    clear cn17
    refine wp_ret ?_
    have hR : cutR l c task h = ([], [], HD.zero, false) := by unfold cutR; rw [if_neg (by rw [hx11]; exact Bool.false_ne_true)]; simp [cutKid, doneR, noR, setK, withT, goneN, hok, hx12, hx13, hx16, hx19, hx20, hx21, hx23, ht, npe, tnp, nce, tnc]
    rw [hR]
    exact bodyPost_ret (ret3 (p := 6) (q := 7) (u := 8) (v := .bool false) rfl hM 5 4 rfl rfl rfl rfl rfl) rfl ⟨_, _, rfl, own0, own0, hM.below⟩
    rw [hx21]
    refine wp_cond_false rfl ?_
    refine wl_region ?_
    refine nl hM 6 rfl Tryz.underlying73 I_impl_Hand ?_
    refine nc (spec_l8End h 1 _) ?_
    rintro e W13 ⟨rfl, hb⟩
    refine ⟨_, rfl, ?_⟩
    replace hM := hM.call hb
    go_frame
    refine nS hM 6 rfl (HD.cells (endH h 1)) I_impl_Hand (hd_one' _) ?_
    clear hM; intro W14 hM
    refine wl_nil (cn5 _ _ ?_)
    clear cn5
    refine wp_seq_k fun _ cn17 => wl_region ?_
    refine nl hM 2 rfl Tryz.underlying55 I_impl_Shared ?_
    refine nl hM 6 rfl Tryz.underlying73 I_impl_Hand ?_
    go_frame
    rcases tf ((sharedB ((liftR l h.prev h.side ncr).1) c && handB (endH h 1))) with hx25 | hx25
    refine nc (spec_l7Done (.slice (some ⟨ga'1, 0, none⟩) ((liftR l h.prev h.side ncr).1.length) ka'2) (.slice (some ⟨m2, 0, none⟩) c.length k2) ((liftR l h.prev h.side ncr).1) c (endH h 1) _ (nslX (hM.blk 1 rfl) (by first | rfl | (simp; done) | (simp [liftR_len]; done)) qa'4 qb'5) (sli_blk (hM.blk 3 rfl) q3 q4) (by first | omega | (simp; omega) | (rw [liftR_len]; omega)) hc) ?_
    rintro e W15 ⟨rfl, hb⟩
    refine ⟨.tuple #[.agg #[.slice (some ⟨ga'1, 0, none⟩) ((liftR l h.prev h.side ncr).1.length) ka'2, .slice (some ⟨m2, 0, none⟩) c.length k2], .agg (HD.cells (endH h 1)).toArray, .bool true], congrArg Ending.returned (by simp [doneV, HD.val, hx25]), ?_⟩
    replace hM := hM.call hb
    go_frame
    refine np (.agg #[.slice (some ⟨ga'1, 0, none⟩) ((liftR l h.prev h.side ncr).1.length) ka'2, .slice (some ⟨m2, 0, none⟩) c.length k2]) ?_
    refine np (.agg (HD.cells (endH h 1)).toArray) ?_
    refine np (.bool true) ?_
    refine nS hM 5 rfl [.slice (some ⟨ga'1, 0, none⟩) ((liftR l h.prev h.side ncr).1.length) ka'2, .slice (some ⟨m2, 0, none⟩) c.length k2] I_impl_Shared rfl ?_
    clear hM; intro W16 hM
    refine nS hM 4 rfl (HD.cells (endH h 1)) I_impl_Hand (hd_one' _) ?_
    clear hM; intro W17 hM
    refine np (.bool true) ?_
    go_frame
    refine wl_nil (cn17 _ _ ?_)
    clear cn17
    refine wp_ret ?_
    have hps : 0 < ((liftR l h.prev h.side ncr).1 : List ND).length := shared_pos (by assumption)
    have hR : cutR l c task h = ((liftR l h.prev h.side ncr).1, c, (endH h 1), true) := by unfold cutR; rw [if_neg (by rw [hx11]; exact Bool.false_ne_true)]; simp [cutKid, doneR, noR, setK, withT, goneN, hok, hx12, hx13, hx16, hx19, hx20, hx21, hx25, ht, npe, tnp, nce, tnc]
    rw [hR]
    exact bodyPost_ret (ret3 (p := 6) (q := 7) (u := 8) (v := .bool true) rfl hM 5 4 rfl rfl rfl rfl rfl) rfl ⟨_, _, rfl, own_nX (hM.blk 1 rfl) (by first | rfl | (simp; done) | (simp [liftR_len]; done)) qa'4 qb'5 (hM.base 1 rfl) hps (by first | exact qe'6 | (simpa [cellsOf_len] using qe'6) | (simpa [cellsOf_len, liftR_len] using qe'6)), own_iblk (hM.blk 3 rfl) q3 q4 (hM.base 3 rfl) hc1 q6, hM.below⟩
    refine nc (spec_l7Done (.slice (some ⟨ga'1, 0, none⟩) ((liftR l h.prev h.side ncr).1.length) ka'2) (.slice (some ⟨m2, 0, none⟩) c.length k2) ((liftR l h.prev h.side ncr).1) c (endH h 1) _ (nslX (hM.blk 1 rfl) (by first | rfl | (simp; done) | (simp [liftR_len]; done)) qa'4 qb'5) (sli_blk (hM.blk 3 rfl) q3 q4) (by first | omega | (simp; omega) | (rw [liftR_len]; omega)) hc) ?_
    rintro e W15 ⟨rfl, hb⟩
    refine ⟨.tuple #[.agg #[.slice none 0 0, .slice none 0 0], .agg (HD.cells HD.zero).toArray, .bool false], congrArg Ending.returned (by simp [doneV, HD.val, hx25]), ?_⟩
    replace hM := hM.call hb
    go_frame
    refine np (.agg #[.slice none 0 0, .slice none 0 0]) ?_
    refine np (.agg (HD.cells HD.zero).toArray) ?_
    refine np (.bool false) ?_
    refine nS hM 5 rfl [.slice none 0 0, .slice none 0 0] I_impl_Shared rfl ?_
    clear hM; intro W16 hM
    refine nS hM 4 rfl (HD.cells HD.zero) I_impl_Hand (hd_one' _) ?_
    clear hM; intro W17 hM
    refine np (.bool false) ?_
    go_frame
    refine wl_nil (cn17 _ _ ?_)
    clear cn17
    refine wp_ret ?_
    have hR : cutR l c task h = ([], [], HD.zero, false) := by unfold cutR; rw [if_neg (by rw [hx11]; exact Bool.false_ne_true)]; simp [cutKid, doneR, noR, setK, withT, goneN, hok, hx12, hx13, hx16, hx19, hx20, hx21, hx25, ht, npe, tnp, nce, tnc]
    rw [hR]
    exact bodyPost_ret (ret3 (p := 6) (q := 7) (u := 8) (v := .bool false) rfl hM 5 4 rfl rfl rfl rfl rfl) rfl ⟨_, _, rfl, own0, own0, hM.below⟩
    rw [hx20]
    refine wp_cond_false rfl ?_
    refine wp_skip ?_
    refine cn12 _ _ ?_
    clear cn12
    refine wp_seq_k fun _ cn14 => wl_region ?_
    refine nl hM 0 rfl Tryz.underlying55 I_impl_Shared ?_
    refine np (.pointer (some ⟨g2, 4, none⟩)) ?_
    refine ng hM 5 rfl 4 Tryz.underlying2 rfl ?_
    refine np (.pointer (some ⟨g2, 6, none⟩)) ?_
    refine ng hM 5 rfl 6 Tryz.underlying2 rfl ?_
    refine np (.int .i64 ncl) ?_
    go_frame
    replace hM := hM.pull 1 rfl
    refine nC #[.agg #[.slice (some ⟨m1, 0, none⟩) l.length k1, .slice (some ⟨m2, 0, none⟩) c.length k2], .int .i64 h.prev, .int .i64 h.side, .int .i64 ncl] (spec_l9Lift l h.prev h.side ncl m1 k1 p1 _ _ _ _ _ _ hM q1 q2 q5 qnp) ?_
    rintro e W9 ⟨ga'1, ka'2, pa'3, rfl, ⟨qa'4, qb'5, qe'6⟩, hM2⟩
    refine ⟨_, rfl, ?_⟩
    clear hM; have hM := hM2; clear hM2
    go_frame
    refine np (.tuple #[.agg #[.slice (some ⟨ga'1, 0, none⟩) ((liftR l h.prev h.side ncl).1.length) ka'2, .slice (some ⟨m2, 0, none⟩) c.length k2], .bool ((liftR l h.prev h.side ncl).2)]) ?_
    refine np (.agg #[.slice (some ⟨ga'1, 0, none⟩) ((liftR l h.prev h.side ncl).1.length) ka'2, .slice (some ⟨m2, 0, none⟩) c.length k2]) ?_
    refine np (.bool ((liftR l h.prev h.side ncl).2)) ?_
    refine na hM [.slice none 0 0, .slice none 0 0] Z_impl_Shared ?_
    clear hM; intro g6 W10 hM
    refine nS hM 0 rfl [.slice (some ⟨ga'1, 0, none⟩) ((liftR l h.prev h.side ncl).1.length) ka'2, .slice (some ⟨m2, 0, none⟩) c.length k2] I_impl_Shared rfl ?_
    clear hM; intro W11 hM
    refine np (.bool ((liftR l h.prev h.side ncl).2)) ?_
    go_frame
    refine wl_nil (cn14 _ _ ?_)
    clear cn14
    refine wp_seq_k fun _ cn15 => wl_region ?_
    refine nl hM 0 rfl Tryz.underlying55 I_impl_Shared ?_
    refine nS hM 2 rfl [.slice (some ⟨ga'1, 0, none⟩) ((liftR l h.prev h.side ncl).1.length) ka'2, .slice (some ⟨m2, 0, none⟩) c.length k2] I_impl_Shared rfl ?_
    clear hM; intro W12 hM
    refine wl_nil (cn15 _ _ ?_)
    clear cn15
    refine wp_seq_k fun _ cn16 => wl_region ?_
    refine np (.bool ((liftR l h.prev h.side ncl).2)) ?_
    go_frame
    refine wl_nil (cn16 _ _ ?_)
    clear cn16
    rcases tf ((liftR l h.prev h.side ncl).2) with hx26 | hx26
    rw [hx26]
    refine wp_cond_true rfl ?_
    refine wl_region ?_
    refine np (.pointer (some ⟨g2, 0, none⟩)) ?_
    refine nk hM 6 rfl 0 (.int .i64 13) I_int64 (by simp [HD.cells, splice_len]) ?_
    clear hM; intro W13 hM
    refine wl_nil (cn5 _ _ ?_)
    clear cn5
    refine wp_seq_k fun _ cn17 => wl_region ?_
    refine nl hM 2 rfl Tryz.underlying55 I_impl_Shared ?_
    refine nl hM 6 rfl Tryz.underlying73 I_impl_Hand ?_
    go_frame
    rcases tf ((sharedB ((liftR l h.prev h.side ncl).1) c && handB ({ h with at_ := 13 }))) with hx28 | hx28
    refine nc (spec_l7Done (.slice (some ⟨ga'1, 0, none⟩) ((liftR l h.prev h.side ncl).1.length) ka'2) (.slice (some ⟨m2, 0, none⟩) c.length k2) ((liftR l h.prev h.side ncl).1) c ({ h with at_ := 13 }) _ (nslX (hM.blk 1 rfl) (by first | rfl | (simp; done) | (simp [liftR_len]; done)) qa'4 qb'5) (sli_blk (hM.blk 3 rfl) q3 q4) (by first | omega | (simp; omega) | (rw [liftR_len]; omega)) hc) ?_
    rintro e W14 ⟨rfl, hb⟩
    refine ⟨.tuple #[.agg #[.slice (some ⟨ga'1, 0, none⟩) ((liftR l h.prev h.side ncl).1.length) ka'2, .slice (some ⟨m2, 0, none⟩) c.length k2], .agg (HD.cells { h with at_ := 13 }).toArray, .bool true], congrArg Ending.returned (by simp [doneV, HD.val, hx28]), ?_⟩
    replace hM := hM.call hb
    go_frame
    refine np (.agg #[.slice (some ⟨ga'1, 0, none⟩) ((liftR l h.prev h.side ncl).1.length) ka'2, .slice (some ⟨m2, 0, none⟩) c.length k2]) ?_
    refine np (.agg (HD.cells { h with at_ := 13 }).toArray) ?_
    refine np (.bool true) ?_
    refine nS hM 5 rfl [.slice (some ⟨ga'1, 0, none⟩) ((liftR l h.prev h.side ncl).1.length) ka'2, .slice (some ⟨m2, 0, none⟩) c.length k2] I_impl_Shared rfl ?_
    clear hM; intro W15 hM
    refine nS hM 4 rfl (HD.cells { h with at_ := 13 }) I_impl_Hand (hd_one' _) ?_
    clear hM; intro W16 hM
    refine np (.bool true) ?_
    go_frame
    refine wl_nil (cn17 _ _ ?_)
    clear cn17
    refine wp_ret ?_
    have hps : 0 < ((liftR l h.prev h.side ncl).1 : List ND).length := shared_pos (by assumption)
    have hR : cutR l c task h = ((liftR l h.prev h.side ncl).1, c, { h with at_ := 13 }, true) := by unfold cutR; rw [if_neg (by rw [hx11]; exact Bool.false_ne_true)]; simp [cutKid, doneR, noR, setK, withT, goneN, hok, hx12, hx13, hx16, hx19, hx20, hx26, hx28, ht, npe, tnp, nce, tnc]
    rw [hR]
    exact bodyPost_ret (ret3 (p := 6) (q := 7) (u := 8) (v := .bool true) rfl hM 5 4 rfl rfl rfl rfl rfl) rfl ⟨_, _, rfl, own_nX (hM.blk 1 rfl) (by first | rfl | (simp; done) | (simp [liftR_len]; done)) qa'4 qb'5 (hM.base 1 rfl) hps (by first | exact qe'6 | (simpa [cellsOf_len] using qe'6) | (simpa [cellsOf_len, liftR_len] using qe'6)), own_iblk (hM.blk 3 rfl) q3 q4 (hM.base 3 rfl) hc1 q6, hM.below⟩
    refine nc (spec_l7Done (.slice (some ⟨ga'1, 0, none⟩) ((liftR l h.prev h.side ncl).1.length) ka'2) (.slice (some ⟨m2, 0, none⟩) c.length k2) ((liftR l h.prev h.side ncl).1) c ({ h with at_ := 13 }) _ (nslX (hM.blk 1 rfl) (by first | rfl | (simp; done) | (simp [liftR_len]; done)) qa'4 qb'5) (sli_blk (hM.blk 3 rfl) q3 q4) (by first | omega | (simp; omega) | (rw [liftR_len]; omega)) hc) ?_
    rintro e W14 ⟨rfl, hb⟩
    refine ⟨.tuple #[.agg #[.slice none 0 0, .slice none 0 0], .agg (HD.cells HD.zero).toArray, .bool false], congrArg Ending.returned (by simp [doneV, HD.val, hx28]), ?_⟩
    replace hM := hM.call hb
    go_frame
    refine np (.agg #[.slice none 0 0, .slice none 0 0]) ?_
    refine np (.agg (HD.cells HD.zero).toArray) ?_
    refine np (.bool false) ?_
    refine nS hM 5 rfl [.slice none 0 0, .slice none 0 0] I_impl_Shared rfl ?_
    clear hM; intro W15 hM
    refine nS hM 4 rfl (HD.cells HD.zero) I_impl_Hand (hd_one' _) ?_
    clear hM; intro W16 hM
    refine np (.bool false) ?_
    go_frame
    refine wl_nil (cn17 _ _ ?_)
    clear cn17
    refine wp_ret ?_
    have hR : cutR l c task h = ([], [], HD.zero, false) := by unfold cutR; rw [if_neg (by rw [hx11]; exact Bool.false_ne_true)]; simp [cutKid, doneR, noR, setK, withT, goneN, hok, hx12, hx13, hx16, hx19, hx20, hx26, hx28, ht, npe, tnp, nce, tnc]
    rw [hR]
    exact bodyPost_ret (ret3 (p := 6) (q := 7) (u := 8) (v := .bool false) rfl hM 5 4 rfl rfl rfl rfl rfl) rfl ⟨_, _, rfl, own0, own0, hM.below⟩
    rw [hx26]
    refine wp_cond_false rfl ?_
    refine wl_region ?_
    refine nl hM 6 rfl Tryz.underlying73 I_impl_Hand ?_
    refine nc (spec_l8End h 1 _) ?_
    rintro e W13 ⟨rfl, hb⟩
    refine ⟨_, rfl, ?_⟩
    replace hM := hM.call hb
    go_frame
    refine nS hM 6 rfl (HD.cells (endH h 1)) I_impl_Hand (hd_one' _) ?_
    clear hM; intro W14 hM
    refine wl_nil (cn5 _ _ ?_)
    clear cn5
    refine wp_seq_k fun _ cn17 => wl_region ?_
    refine nl hM 2 rfl Tryz.underlying55 I_impl_Shared ?_
    refine nl hM 6 rfl Tryz.underlying73 I_impl_Hand ?_
    go_frame
    rcases tf ((sharedB ((liftR l h.prev h.side ncl).1) c && handB (endH h 1))) with hx30 | hx30
    refine nc (spec_l7Done (.slice (some ⟨ga'1, 0, none⟩) ((liftR l h.prev h.side ncl).1.length) ka'2) (.slice (some ⟨m2, 0, none⟩) c.length k2) ((liftR l h.prev h.side ncl).1) c (endH h 1) _ (nslX (hM.blk 1 rfl) (by first | rfl | (simp; done) | (simp [liftR_len]; done)) qa'4 qb'5) (sli_blk (hM.blk 3 rfl) q3 q4) (by first | omega | (simp; omega) | (rw [liftR_len]; omega)) hc) ?_
    rintro e W15 ⟨rfl, hb⟩
    refine ⟨.tuple #[.agg #[.slice (some ⟨ga'1, 0, none⟩) ((liftR l h.prev h.side ncl).1.length) ka'2, .slice (some ⟨m2, 0, none⟩) c.length k2], .agg (HD.cells (endH h 1)).toArray, .bool true], congrArg Ending.returned (by simp [doneV, HD.val, hx30]), ?_⟩
    replace hM := hM.call hb
    go_frame
    refine np (.agg #[.slice (some ⟨ga'1, 0, none⟩) ((liftR l h.prev h.side ncl).1.length) ka'2, .slice (some ⟨m2, 0, none⟩) c.length k2]) ?_
    refine np (.agg (HD.cells (endH h 1)).toArray) ?_
    refine np (.bool true) ?_
    refine nS hM 5 rfl [.slice (some ⟨ga'1, 0, none⟩) ((liftR l h.prev h.side ncl).1.length) ka'2, .slice (some ⟨m2, 0, none⟩) c.length k2] I_impl_Shared rfl ?_
    clear hM; intro W16 hM
    refine nS hM 4 rfl (HD.cells (endH h 1)) I_impl_Hand (hd_one' _) ?_
    clear hM; intro W17 hM
    refine np (.bool true) ?_
    go_frame
    refine wl_nil (cn17 _ _ ?_)
    clear cn17
    refine wp_ret ?_
    have hps : 0 < ((liftR l h.prev h.side ncl).1 : List ND).length := shared_pos (by assumption)
    have hR : cutR l c task h = ((liftR l h.prev h.side ncl).1, c, (endH h 1), true) := by unfold cutR; rw [if_neg (by rw [hx11]; exact Bool.false_ne_true)]; simp [cutKid, doneR, noR, setK, withT, goneN, hok, hx12, hx13, hx16, hx19, hx20, hx26, hx30, ht, npe, tnp, nce, tnc]
    rw [hR]
    exact bodyPost_ret (ret3 (p := 6) (q := 7) (u := 8) (v := .bool true) rfl hM 5 4 rfl rfl rfl rfl rfl) rfl ⟨_, _, rfl, own_nX (hM.blk 1 rfl) (by first | rfl | (simp; done) | (simp [liftR_len]; done)) qa'4 qb'5 (hM.base 1 rfl) hps (by first | exact qe'6 | (simpa [cellsOf_len] using qe'6) | (simpa [cellsOf_len, liftR_len] using qe'6)), own_iblk (hM.blk 3 rfl) q3 q4 (hM.base 3 rfl) hc1 q6, hM.below⟩
    refine nc (spec_l7Done (.slice (some ⟨ga'1, 0, none⟩) ((liftR l h.prev h.side ncl).1.length) ka'2) (.slice (some ⟨m2, 0, none⟩) c.length k2) ((liftR l h.prev h.side ncl).1) c (endH h 1) _ (nslX (hM.blk 1 rfl) (by first | rfl | (simp; done) | (simp [liftR_len]; done)) qa'4 qb'5) (sli_blk (hM.blk 3 rfl) q3 q4) (by first | omega | (simp; omega) | (rw [liftR_len]; omega)) hc) ?_
    rintro e W15 ⟨rfl, hb⟩
    refine ⟨.tuple #[.agg #[.slice none 0 0, .slice none 0 0], .agg (HD.cells HD.zero).toArray, .bool false], congrArg Ending.returned (by simp [doneV, HD.val, hx30]), ?_⟩
    replace hM := hM.call hb
    go_frame
    refine np (.agg #[.slice none 0 0, .slice none 0 0]) ?_
    refine np (.agg (HD.cells HD.zero).toArray) ?_
    refine np (.bool false) ?_
    refine nS hM 5 rfl [.slice none 0 0, .slice none 0 0] I_impl_Shared rfl ?_
    clear hM; intro W16 hM
    refine nS hM 4 rfl (HD.cells HD.zero) I_impl_Hand (hd_one' _) ?_
    clear hM; intro W17 hM
    refine np (.bool false) ?_
    go_frame
    refine wl_nil (cn17 _ _ ?_)
    clear cn17
    refine wp_ret ?_
    have hR : cutR l c task h = ([], [], HD.zero, false) := by unfold cutR; rw [if_neg (by rw [hx11]; exact Bool.false_ne_true)]; simp [cutKid, doneR, noR, setK, withT, goneN, hok, hx12, hx13, hx16, hx19, hx20, hx26, hx30, ht, npe, tnp, nce, tnc]
    rw [hR]
    exact bodyPost_ret (ret3 (p := 6) (q := 7) (u := 8) (v := .bool false) rfl hM 5 4 rfl rfl rfl rfl rfl) rfl ⟨_, _, rfl, own0, own0, hM.below⟩
    rw [hx19]
    refine wp_cond_false rfl ?_
    refine wp_seq_k fun _ cn11 => wl_region ?_
    refine np (.bool (h.at_ == 13)) ?_
    refine np (.bool (h.at_ == 13)) ?_
    go_frame
    refine wl_nil (cn11 _ _ ?_)
    clear cn11
    rcases tf ((h.at_ == 13)) with hx31 | hx31
    rw [hx31]
    refine wp_cond_true rfl ?_
    refine wp_seq_k fun Kn12 cn12 => ?_
    refine wa_start (fun w => Below w0.heap.size w0 w ∧ Blk w g5 55 [.slice (some ⟨m1, 0, none⟩) l.length k1, .slice (some ⟨m2, 0, none⟩) c.length k2] ∧ Blk w g2 73 (HD.cells h)) 15 rfl (by kernel_rfl) ?_
    replace hM := hM.drew
    refine wt 0 (some 95) (.pointer (some ⟨g5, 0, none⟩)) ⟨hM.below, hM.blk 0 rfl, hM.blk 5 rfl⟩ ?_
    go_frame
    refine wq 1 (some 96) (.slice (some ⟨m1, 0, none⟩) l.length k1) ⟨hM.below, hM.blk 0 rfl, hM.blk 5 rfl⟩ rfl (fun w hS => r_loadc hS.2.1 24 _ rfl 0 rfl Tryz.underlying24 rfl rfl) ?_
    refine wt 2 (some 97) (.pointer (some ⟨g2, 4, none⟩)) ⟨hM.below, hM.blk 0 rfl, hM.blk 5 rfl⟩ ?_
    go_frame
    refine wq 3 (some 98) (.int .i64 h.prev) ⟨hM.below, hM.blk 0 rfl, hM.blk 5 rfl⟩ rfl (fun w hS => r_loadc hS.2.2 2 _ rfl 4 rfl Tryz.underlying2 rfl rfl) ?_
    refine wt 4 (some 99) (.pointer (some ⟨g5, 0, none⟩)) ⟨hM.below, hM.blk 0 rfl, hM.blk 5 rfl⟩ ?_
    go_frame
    refine wq 5 (some 100) (.slice (some ⟨m1, 0, none⟩) l.length k1) ⟨hM.below, hM.blk 0 rfl, hM.blk 5 rfl⟩ rfl (fun w hS => r_loadc hS.2.1 24 _ rfl 0 rfl Tryz.underlying24 rfl rfl) ?_
    refine wt 6 (some 101) (.pointer (some ⟨g2, 4, none⟩)) ⟨hM.below, hM.blk 0 rfl, hM.blk 5 rfl⟩ ?_
    go_frame
    refine wq 7 (some 102) (.int .i64 h.prev) ⟨hM.below, hM.blk 0 rfl, hM.blk 5 rfl⟩ rfl (fun w hS => r_loadc hS.2.2 2 _ rfl 4 rfl Tryz.underlying2 rfl rfl) ?_
    go_frame
    refine wq 8 (some 103) (.pointer (some ⟨m1, 0 + knp * 8, none⟩)) ⟨hM.below, hM.blk 0 rfl, hM.blk 5 rfl⟩ rfl (fun w hS => r_index 24 49 _ _ rfl m1 0 l.length k1 8 knp rfl rfl hknp (by omega) Tryz.underlying24 I_impl_Node) ?_
    refine wt 10 (some 105) (.pointer (some ⟨g2, 6, none⟩)) ⟨hM.below, hM.blk 0 rfl, hM.blk 5 rfl⟩ ?_
    go_frame
    refine wq 11 (some 106) (.int .i64 h.side) ⟨hM.below, hM.blk 0 rfl, hM.blk 5 rfl⟩ rfl (fun w hS => r_loadc hS.2.2 2 _ rfl 6 rfl Tryz.underlying2 rfl rfl) ?_
    go_frame
    refine wn 9 ?_
    refine oq (some 104) (.agg (ND.cells ⟨npk, npv, npl, npr, npo, npg, nplt, nprt⟩).toArray) ⟨hM.below, hM.blk 0 rfl, hM.blk 5 rfl⟩ rfl (r_part (hM.blk 1 rfl) 49 _ rfl (0 + knp * 8) rfl Tryz.underlying49 (ND.cells ⟨npk, npv, npl, npr, npo, npg, nplt, nprt⟩) I_impl_Node (node_part hnnp)) ?_
    go_frame
    refine wn 12 ?_
    refine oc (some 107) (spec_WithTag npk npv npl npr npo npg nplt nprt h.side _) ?_
    rintro e W9 ⟨rfl, hb⟩
    replace hM := hM.call hb
    refine ⟨_, rfl, wk ⟨hM.below, hM.blk 0 rfl, hM.blk 5 rfl⟩ fun hs => ?_⟩
    go_frame
    refine wq 13 (some 108) (.pointer (some ⟨m1, 0 + knp * 8, none⟩)) hs rfl (fun w hS => r_index 24 49 _ _ rfl m1 0 l.length k1 8 knp rfl rfl hknp (by omega) Tryz.underlying24 I_impl_Node) ?_
    go_frame
    refine wn 14 ?_
    refine wo_storep rfl (by kernel_rfl) hM 1 rfl 49 _ _ rfl rfl (0 + knp * 8) (by kernel_rfl) (ND.cells ⟨npk, npv, npl, npr, npo, npg, (leftF h.side (wrap64 (nplt + 1)) nplt), (rightF h.side (wrap64 (nprt + 1)) nprt)⟩) (by kernel_rfl) I_impl_Node (node_room hlnp) (nd_one _) ?_
    clear hM; intro W10 hM; rw [splice_node hlnp] at hM
    refine ⟨⟨hM.below, hM.blk 0 rfl, hM.blk 5 rfl⟩, ?_⟩
    refine wa_done (by kernel_rfl) ?_
    refine cn12 _ _ ?_
    clear cn12
    refine wl_region ?_
    refine nl hM 5 rfl Tryz.underlying73 I_impl_Hand ?_
    refine nc (spec_l8End h 1 _) ?_
    rintro e W11 ⟨rfl, hb⟩
    refine ⟨_, rfl, ?_⟩
    replace hM := hM.call hb
    go_frame
    refine nS hM 5 rfl (HD.cells (endH h 1)) I_impl_Hand (hd_one' _) ?_
    clear hM; intro W12 hM
    refine wl_nil (cn5 _ _ ?_)
    clear cn5
    refine wp_seq_k fun _ cn13 => wl_region ?_
    refine nl hM 0 rfl Tryz.underlying55 I_impl_Shared ?_
    refine nl hM 5 rfl Tryz.underlying73 I_impl_Hand ?_
    go_frame
    rcases tf ((sharedB (l.set knp ⟨npk, npv, npl, npr, npo, npg, (leftF h.side (wrap64 (nplt + 1)) nplt), (rightF h.side (wrap64 (nprt + 1)) nprt)⟩) c && handB (endH h 1))) with hx33 | hx33
    refine nc (spec_l7Done (.slice (some ⟨m1, 0, none⟩) l.length k1) (.slice (some ⟨m2, 0, none⟩) c.length k2) (l.set knp ⟨npk, npv, npl, npr, npo, npg, (leftF h.side (wrap64 (nplt + 1)) nplt), (rightF h.side (wrap64 (nprt + 1)) nprt)⟩) c (endH h 1) _ (nslX (hM.blk 1 rfl) (by first | rfl | (simp; done) | (simp [liftR_len]; done)) q1 q2) (sli_blk (hM.blk 2 rfl) q3 q4) (by first | omega | (simp; omega) | (rw [liftR_len]; omega)) hc) ?_
    rintro e W13 ⟨rfl, hb⟩
    refine ⟨.tuple #[.agg #[.slice (some ⟨m1, 0, none⟩) l.length k1, .slice (some ⟨m2, 0, none⟩) c.length k2], .agg (HD.cells (endH h 1)).toArray, .bool true], congrArg Ending.returned (by simp [doneV, HD.val, hx33]), ?_⟩
    replace hM := hM.call hb
    go_frame
    refine np (.agg #[.slice (some ⟨m1, 0, none⟩) l.length k1, .slice (some ⟨m2, 0, none⟩) c.length k2]) ?_
    refine np (.agg (HD.cells (endH h 1)).toArray) ?_
    refine np (.bool true) ?_
    refine nS hM 4 rfl [.slice (some ⟨m1, 0, none⟩) l.length k1, .slice (some ⟨m2, 0, none⟩) c.length k2] I_impl_Shared rfl ?_
    clear hM; intro W14 hM
    refine nS hM 3 rfl (HD.cells (endH h 1)) I_impl_Hand (hd_one' _) ?_
    clear hM; intro W15 hM
    refine np (.bool true) ?_
    go_frame
    refine wl_nil (cn13 _ _ ?_)
    clear cn13
    refine wp_ret ?_
    have hps : 0 < ((l.set knp ⟨npk, npv, npl, npr, npo, npg, (leftF h.side (wrap64 (nplt + 1)) nplt), (rightF h.side (wrap64 (nprt + 1)) nprt)⟩) : List ND).length := shared_pos (by assumption)
    have hR : cutR l c task h = ((l.set knp ⟨npk, npv, npl, npr, npo, npg, (leftF h.side (wrap64 (nplt + 1)) nplt), (rightF h.side (wrap64 (nprt + 1)) nprt)⟩), c, (endH h 1), true) := by unfold cutR; rw [if_neg (by rw [hx11]; exact Bool.false_ne_true)]; simp [cutKid, doneR, noR, setK, withT, goneN, hok, hx12, hx13, hx16, hx19, hx31, hx33, ht, npe, tnp, nce, tnc]
    rw [hR]
    exact bodyPost_ret (ret3 (p := 6) (q := 7) (u := 8) (v := .bool true) rfl hM 4 3 rfl rfl rfl rfl rfl) rfl ⟨_, _, rfl, own_nX (hM.blk 1 rfl) (by first | rfl | (simp; done) | (simp [liftR_len]; done)) q1 q2 (hM.base 1 rfl) hps (by first | exact q5 | (simpa [cellsOf_len] using q5) | (simpa [cellsOf_len, liftR_len] using q5)), own_iblk (hM.blk 2 rfl) q3 q4 (hM.base 2 rfl) hc1 q6, hM.below⟩
    refine nc (spec_l7Done (.slice (some ⟨m1, 0, none⟩) l.length k1) (.slice (some ⟨m2, 0, none⟩) c.length k2) (l.set knp ⟨npk, npv, npl, npr, npo, npg, (leftF h.side (wrap64 (nplt + 1)) nplt), (rightF h.side (wrap64 (nprt + 1)) nprt)⟩) c (endH h 1) _ (nslX (hM.blk 1 rfl) (by first | rfl | (simp; done) | (simp [liftR_len]; done)) q1 q2) (sli_blk (hM.blk 2 rfl) q3 q4) (by first | omega | (simp; omega) | (rw [liftR_len]; omega)) hc) ?_
    rintro e W13 ⟨rfl, hb⟩
    refine ⟨.tuple #[.agg #[.slice none 0 0, .slice none 0 0], .agg (HD.cells HD.zero).toArray, .bool false], congrArg Ending.returned (by simp [doneV, HD.val, hx33]), ?_⟩
    replace hM := hM.call hb
    go_frame
    refine np (.agg #[.slice none 0 0, .slice none 0 0]) ?_
    refine np (.agg (HD.cells HD.zero).toArray) ?_
    refine np (.bool false) ?_
    refine nS hM 4 rfl [.slice none 0 0, .slice none 0 0] I_impl_Shared rfl ?_
    clear hM; intro W14 hM
    refine nS hM 3 rfl (HD.cells HD.zero) I_impl_Hand (hd_one' _) ?_
    clear hM; intro W15 hM
    refine np (.bool false) ?_
    go_frame
    refine wl_nil (cn13 _ _ ?_)
    clear cn13
    refine wp_ret ?_
    have hR : cutR l c task h = ([], [], HD.zero, false) := by unfold cutR; rw [if_neg (by rw [hx11]; exact Bool.false_ne_true)]; simp [cutKid, doneR, noR, setK, withT, goneN, hok, hx12, hx13, hx16, hx19, hx31, hx33, ht, npe, tnp, nce, tnc]
    rw [hR]
    exact bodyPost_ret (ret3 (p := 6) (q := 7) (u := 8) (v := .bool false) rfl hM 4 3 rfl rfl rfl rfl rfl) rfl ⟨_, _, rfl, own0, own0, hM.below⟩
    rw [hx31]
    exfalso
    simp only [beq_eq_false_iff_ne, ne_eq] at hx12 hx13 hx16 hx19 hx31
    omega
    refine wl_region ?_
    refine nl hM 3 rfl Tryz.underlying55 I_impl_Shared ?_
    refine np (.int .i64 task) ?_
    refine nl hM 2 rfl Tryz.underlying73 I_impl_Hand ?_
    refine nc (spec_l7Ok (.slice (some ⟨b, off, none⟩) l.length cap) (.slice (some ⟨b2, off2, none⟩) c.length cap2) l c task h 9 13 _ (H1.below hM.below) (H2.below hM.below) hl hc) ?_
    rintro e W6 ⟨rfl, hb⟩
    refine ⟨.bool true, rb hok, ?_⟩
    replace hM := hM.call hb
    go_frame
    refine np (.bool false) ?_
    refine np (.bool false) ?_
    refine np (.pointer (some ⟨g2, 1, none⟩)) ?_
    refine np (.pointer (some ⟨g2, 1, none⟩)) ?_
    refine ng hM 2 rfl 1 Tryz.underlying2 rfl ?_
    refine np (.bool (h.c != 3)) ?_
    refine np (.bool (h.c != 3)) ?_
    refine np (.bool (h.c != 3)) ?_
    go_frame
    rcases tf ((h.c != 3)) with hx34 | hx34
    rw [hx34]
    iterate 3 refine ns ?_
    refine np (.bool true) ?_
    go_frame
    refine wl_nil ?_
    exact ⟨(fun i => ([.agg #[.slice (some ⟨b, off, none⟩) l.length cap, .slice (some ⟨b2, off2, none⟩) c.length cap2], .int .i64 task, .agg (HD.cells h).toArray, .bool true, .bool false, .bool false, .pointer (some ⟨g2, 1, none⟩), .pointer (some ⟨g2, 1, none⟩), .int .i64 h.c, .bool true, .bool true, .bool true, undef, undef, undef, .bool true] : List Value).getD i undef), rfl, congrArg Value.bool (show true = xg1 by rw [hxg1]; simp [hok, hx34]), hM⟩
    rw [hx34]
    refine np (.pointer (some ⟨g2, 5, none⟩)) ?_
    refine ng hM 2 rfl 5 Tryz.underlying2 rfl ?_
    refine np (.bool (h.cur == 0)) ?_
    refine np (.bool (h.cur == 0)) ?_
    go_frame
    refine wl_nil ?_
    exact ⟨(fun i => ([.agg #[.slice (some ⟨b, off, none⟩) l.length cap, .slice (some ⟨b2, off2, none⟩) c.length cap2], .int .i64 task, .agg (HD.cells h).toArray, .bool true, .bool false, .bool false, .pointer (some ⟨g2, 1, none⟩), .pointer (some ⟨g2, 1, none⟩), .int .i64 h.c, .bool false, .bool false, .bool false, .pointer (some ⟨g2, 5, none⟩), .int .i64 h.cur, .bool (h.cur == 0), .bool (h.cur == 0)] : List Value).getD i undef), rfl, congrArg Value.bool (show (h.cur == 0) = xg1 by rw [hxg1]; simp [hok, hx34]), hM⟩
  · obtain ⟨a1, j1, rfl, -⟩ := h1
    obtain ⟨a2, j2, rfl, -⟩ := h2
    go_enter Tryz.func92, Tryz.ntmps92
    refine wp_seq_k fun _ cn1 => wl_region ?_
    refine nx hM 55 [.slice a1 l.length j1, .slice a2 c.length j2] ?_
    clear hM; intro g1 W1 hM
    refine nx hM 73 (HD.cells h) ?_
    clear hM; intro g2 W2 hM
    refine na hM [.slice none 0 0, .slice none 0 0] Z_impl_Shared ?_
    clear hM; intro g3 W3 hM
    refine na hM (HD.cells HD.zero) Z_impl_Hand ?_
    clear hM; intro g4 W4 hM
    refine np (.bool false) ?_
    go_frame
    refine wl_nil (cn1 _ _ ?_)
    clear cn1
    refine wp_seq_k fun Kn2 cn2 => ?_
    refine wp_seq_k fun _ cn3 => wl_region ?_
    refine nl hM 3 rfl Tryz.underlying55 I_impl_Shared ?_
    refine np (.int .i64 task) ?_
    refine nl hM 2 rfl Tryz.underlying73 I_impl_Hand ?_
    refine nc (spec_l7Ok (.slice a1 l.length j1) (.slice a2 c.length j2) l c task h 9 13 _ (H1.below hM.below) (H2.below hM.below) hl hc) ?_
    rintro e W5 ⟨rfl, hb⟩
    refine ⟨.bool false, rb hok, ?_⟩
    replace hM := hM.call hb
    go_frame
    refine np (.bool true) ?_
    refine np (.bool true) ?_
    iterate 4 refine ns ?_
    refine np (.bool true) ?_
    refine np (.bool true) ?_
    iterate 3 refine ns ?_
    refine np (.bool true) ?_
    go_frame
    refine wl_nil (cn3 _ _ ?_)
    clear cn3
    refine wp_cond_true rfl ?_
    refine wp_seq_k fun _ cn4 => wl_region ?_
    refine np (.agg #[.slice none 0 0, .slice none 0 0]) ?_
    refine np (.agg (HD.cells HD.zero).toArray) ?_
    refine nS hM 1 rfl [.slice none 0 0, .slice none 0 0] I_impl_Shared rfl ?_
    clear hM; intro W6 hM
    refine nS hM 0 rfl (HD.cells HD.zero) I_impl_Hand (hd_one' _) ?_
    clear hM; intro W7 hM
    refine np (.bool false) ?_
    go_frame
    refine wl_nil (cn4 _ _ ?_)
    clear cn4
    refine wp_ret ?_
    simp only [Exit.then, Exit.inBlock]
    have hR : cutR l c task h = ([], [], HD.zero, false) := by simp [cutR, cutKid, doneR, noR, setK, withT, goneN, hok]
    rw [hR]
    exact bodyPost_ret (ret3 (p := 6) (q := 7) (u := 8) (v := .bool false) rfl hM 1 0 rfl rfl rfl rfl rfl) rfl ⟨_, _, rfl, own0, own0, hM.below⟩
end Go.Proofs.YtbfndoajchibbaaGreat
