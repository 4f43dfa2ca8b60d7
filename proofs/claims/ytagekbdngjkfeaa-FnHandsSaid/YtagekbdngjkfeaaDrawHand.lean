/- Drawn hands: the model. -/
import Derived.Test.YtagekbdngjkfeaaShort
import Derived.Test.YtagekbdngjkfeaaShort2
import Derived.Test.YtagekbdngjkfeaaDrawW
namespace Go.Proofs.Ytagekbdngjkfeaa
open Go.ChangeShapes Go.WideShapes Go.ChangeAt Go.RowKit
set_option linter.unusedVariables false
set_option maxRecDepth 100000
set_option maxHeartbeats 16000000
set_option linter.unusedSimpArgs false

/-- A hand that is drawn. -/
def DrewHd (w00 : World) (gc : Nat) (v : Value) (lb : List Int) (L : List Bk) (e : Ending) (w' : World) : Prop :=
  ∃ (h : HD) (ci : Nat) (ch : Int), e = .returned h.val ∧ CurI lb ci ch ∧ Mem w00 w' ((gc, 52, [v, .int .i64 (ci : Int), .int .i64 ch]) :: L)
theorem curw_start {w : World} {v : Value} {lb : List Int} (h : Bts w.heap.size w v lb) (hl : lb.length ≤ 4096) : CurW w w.heap.size v lb := ⟨Nat.le_refl _, hl, h⟩

theorem spec_l6DrawAny (B gc : Nat) (va : Option Addr) (vc : Nat) (lb : List Int) (ci0 : Nat) (ch0 : Int) (L : List Bk) (w00 w0 : World) (hM0 : Mem w00 w0 ((gc, 52, [(.slice va lb.length vc), .int .i64 (ci0 : Int), .int .i64 ch0]) :: L)) (hcur : CurW w00 B (.slice va lb.length vc) lb) (hci0 : CurI lb ci0 ch0) :
    Calls Try.prog 15 #[.pointer (some ⟨gc, 0, none⟩)] w0 (DrewHd w00 gc (.slice va lb.length vc) lb L) := by
  have hlb := hcur.2.1
  have hM := hM0
  go_enter Try.func15, Try.ntmps15
  refine wp_seq_k fun _ cn1 => wl_region ?_
  refine na hM (HD.cells HD.zero) Z_impl_Hand ?_
  clear hM; intro g1 W1 hM
  go_frame
  refine wl_nil (cn1 _ _ ?_)
  clear cn1
  refine wp_seq_k fun _ cn2 => wl_region ?_
  refine np (.pointer (some ⟨gc, 0, none⟩)) ?_
  go_frame
  replace hM := hM.pull 1 rfl
  refine nC #[.pointer (some ⟨gc, 0, none⟩)] (spec_l13Draw B gc va vc lb ci0 ch0 _ _ _ hM hcur hci0) ?_
  rintro e W2 ⟨dj, Ed, ua, xa, ya, za, ci'1, ch'2, rfl, hWB, hWI, hc'3, hM2⟩
  replace hM : Mem w00 W2 (((gc, 52, [.slice va lb.length vc, .int .i64 (ci'1 : Int), .int .i64 ch'2]) :: Ed) ++ ([(g1, 27, (HD.cells HD.zero))] ++ L)) := hM2
  clear hM2
  replace hM := Mem.mid hM
  obtain ⟨hLj, hCj, hHj, hnj⟩ := world_ne hWB
  have hHp : 0 < dj.hs.length := List.length_pos_iff.2 hHj
  have hRm := worldB_room hWB
  unfold Room at hRm
  obtain ⟨g3e, k3e, p3e, rfl, c3a, c3b, hE3⟩ := hWI.2.2.1.open hHp
  obtain ⟨a1e, k1e, rfl⟩ := hWI.1.slice
  obtain ⟨a2e, k2e, rfl⟩ := hWI.2.1.slice
  obtain ⟨a4e, k4e, rfl⟩ := hWI.2.2.2.slice
  refine ⟨_, rfl, ?_⟩
  go_frame
  refine na hM [.slice none 0 0, .slice none 0 0, .slice none 0 0, .slice none 0 0, .int .i64 0] Z_impl_World ?_
  clear hM; intro g2 W3 hM
  refine nS hM 0 rfl [.slice a1e dj.l.length k1e, .slice a2e dj.c.length k2e, .slice (some ⟨g3e, 0, none⟩) dj.hs.length k3e, .slice a4e dj.ds.length k4e, .int .i64 dj.now] I_impl_World rfl ?_
  clear hM; intro W4 hM
  refine wl_nil (cn2 _ _ ?_)
  clear cn2
  refine wp_seq_k fun Kn3 cn3 => ?_
  refine wa_join (fun act W => ∃ (g3 : Nat) (ci'7 : Nat) (ch'8 : Int) (rr'4 : Int) (kr_6 : Nat) (hkr_6 : HD), act = ⟨#[.pointer (some ⟨gc, 0, none⟩), undef, .pointer (some ⟨g1, 0, none⟩), .pointer (some ⟨g2, 0, none⟩), .pointer (some ⟨g3, 0, none⟩), .pointer (some ⟨gc, 0, none⟩), .agg #[.slice a1e dj.l.length k1e, .slice a2e dj.c.length k2e, .slice (some ⟨g3e, 0, none⟩) dj.hs.length k3e, .slice a4e dj.ds.length k4e, .int .i64 dj.now], .pointer (some ⟨g2, 2, none⟩), .slice (some ⟨g3e, 0, none⟩) dj.hs.length k3e, .pointer (some ⟨gc, 0, none⟩), .pointer (some ⟨g2, 2, none⟩), .slice (some ⟨g3e, 0, none⟩) dj.hs.length k3e, .int .i64 (dj.hs.length : Int), .int .i64 rr'4, .pointer (some ⟨g3e, 0 + kr_6 * 17, none⟩), .agg (HD.cells hkr_6).toArray, undef, undef, undef, undef, undef, undef, undef, undef, undef, undef, undef, undef, undef, undef, undef, undef, undef, undef, undef, undef, undef, undef, undef, undef, undef, undef, undef, undef, undef, undef, undef, undef, undef, undef, undef, undef, undef, undef, undef, undef, undef, undef, undef, undef, undef, undef, undef, undef, undef, undef, undef, undef, undef, undef, undef], []⟩ ∧ Mem w00 W ((g3, 27, (HD.cells hkr_6)) :: (g2, 59, [.slice a1e dj.l.length k1e, .slice a2e dj.c.length k2e, .slice (some ⟨g3e, 0, none⟩) dj.hs.length k3e, .slice a4e dj.ds.length k4e, .int .i64 dj.now]) :: (g1, 27, (HD.cells HD.zero)) :: (gc, 52, [.slice va lb.length vc, .int .i64 (ci'7 : Int), .int .i64 ch'8]) :: (Ed ++ L)) ∧ CurI lb ci'7 ch'8 ∧ (0 ≤ rr'4 ∧ (rr'4 < (dj.hs.length : Int) ∨ rr'4 = 0)) ∧ (rr'4 = (kr_6 : Int) ∧ kr_6 < dj.hs.length) ∧ dj.hs[kr_6]? = some hkr_6) ?_ ?_
  clear hM
  rintro act W8 ⟨g3, ci'7, ch'8, rr'4, kr_6, hkr_6, rfl, hM, hc'9, hr'5, ⟨hkkr_6, hlkr_6⟩, hhkr_6⟩
  refine cn3 _ _ ?_
  clear cn3
  refine wp_seq_k fun Kn4 cn4 => ?_
  refine wp_seq_k fun _ cn5 => wl_region ?_
  refine np (.pointer (some ⟨gc, 0, none⟩)) ?_
  refine nc (l1Once_any B gc (.slice va lb.length vc) lb 3 _ (cur_at hM (i := 3) rfl hcur hc'9) (by omega)) ?_
  rintro e W9 ⟨bb'10, rfl, hcA, hcB⟩
  obtain ⟨ci'11, ch'12, hc'13, hM3⟩ := cur_back hM (i := 3) rfl hcA hcB
  clear hM hcA hcB; have hM := hM3; clear hM3
  refine ⟨_, rfl, ?_⟩
  go_frame
  refine wl_nil (cn5 _ _ ?_)
  clear cn5
  rcases tf (bb'10) with hx1 | hx1
  rw [hx1]
  refine wp_cond_true rfl ?_
  refine wp_seq_k fun _ cn6 => wl_region ?_
  refine np (.pointer (some ⟨gc, 0, none⟩)) ?_
  refine nc (l1Below_any B gc (.slice va lb.length vc) lb 10 _ (cur_at hM (i := 3) rfl hcur hc'13) (by omega)) ?_
  rintro e W10 ⟨rr'14, rfl, hr'15, hcA, hcB⟩
  obtain ⟨ci'16, ch'17, hc'18, hM3⟩ := cur_back hM (i := 3) rfl hcA hcB
  clear hM hcA hcB; have hM := hM3; clear hM3
  replace hr'15 : (0 ≤ rr'14 ∧ (rr'14 < 10 ∨ rr'14 = 0)) := hr'15
  refine ⟨_, rfl, ?_⟩
  go_frame
  refine wl_nil (cn6 _ _ ?_)
  clear cn6
  refine wp_block ?_
  refine wp_seq_k fun _ cn7 => wl_region ?_
  refine np (.bool (rr'14 == 0)) ?_
  refine np (.bool (rr'14 == 0)) ?_
  go_frame
  refine wl_nil (cn7 _ _ ?_)
  clear cn7
  rcases tf ((rr'14 == 0)) with hx2 | hx2
  rw [hx2]
  refine wp_cond_true rfl ?_
  refine wl_region ?_
  refine np (.pointer (some ⟨gc, 0, none⟩)) ?_
  refine nc (l1From_any B gc (.slice va lb.length vc) lb (-1) 27 _ (cur_at hM (i := 3) rfl hcur hc'18) (by omega) (by omega) (by omega) (by omega)) ?_
  rintro e W11 ⟨rr'19, rfl, hr'20, hcA, hcB⟩
  obtain ⟨ci'21, ch'22, hc'23, hM3⟩ := cur_back hM (i := 3) rfl hcA hcB
  clear hM hcA hcB; have hM := hM3; clear hM3
  replace hr'20 : ((-1) ≤ rr'19 ∧ (rr'19 ≤ 27 ∨ rr'19 = (-1))) := hr'20
  refine ⟨_, rfl, ?_⟩
  go_frame
  refine np (.pointer (some ⟨g3, 0, none⟩)) ?_
  refine nk hM 0 rfl 0 (.int .i64 rr'19) I_int64 (by simp [HD.cells, splice_len]) ?_
  clear hM; intro W12 hM
  refine wl_nil (cn4 _ _ ?_)
  clear cn4
  refine wp_seq_k fun _ cn8 => wl_region ?_
  refine nl hM 0 rfl Try.underlying27 I_impl_Hand ?_
  refine nS hM 2 rfl (HD.cells { hkr_6 with at_ := rr'19 }) I_impl_Hand (hd_one' _) ?_
  clear hM; intro W13 hM
  refine wl_nil (cn8 _ _ ?_)
  clear cn8
  refine wp_ret ?_
  refine bodyPost_ret (ret_row rfl hM 2 rfl rfl Try.underlying27 I_impl_Hand) rfl ⟨{ hkr_6 with at_ := rr'19 }, ci'21, ch'22, rfl, hc'23, ?_⟩
  replace hM := hM.pull 3 rfl
  exact Mem.keep1 (A := Ed) (Mem.keep1 (A := [(g3, 27, (HD.cells { hkr_6 with at_ := rr'19 })), (g2, 59, [.slice a1e dj.l.length k1e, .slice a2e dj.c.length k2e, .slice (some ⟨g3e, 0, none⟩) dj.hs.length k3e, .slice a4e dj.ds.length k4e, .int .i64 dj.now]), (g1, 27, (HD.cells { hkr_6 with at_ := rr'19 }))]) hM)
  rw [hx2]
  refine wp_cond_false rfl ?_
  refine wp_seq_k fun _ cn8 => wl_region ?_
  refine np (.bool (rr'14 == 1)) ?_
  refine np (.bool (rr'14 == 1)) ?_
  go_frame
  refine wl_nil (cn8 _ _ ?_)
  clear cn8
  rcases tf ((rr'14 == 1)) with hx3 | hx3
  rw [hx3]
  refine wp_cond_true rfl ?_
  refine wl_region ?_
  refine np (.pointer (some ⟨gc, 0, none⟩)) ?_
  refine nc (l5DrawAny_any B gc (.slice va lb.length vc) lb _ (cur_at hM (i := 3) rfl hcur hc'18)) ?_
  rintro e W11 ⟨cc'19, kk'20, yy'21, rfl, hp'22, hcA, hcB⟩
  obtain ⟨ci'23, ch'24, hc'25, hM3⟩ := cur_back hM (i := 3) rfl hcA hcB
  clear hM hcA hcB; have hM := hM3; clear hM3
  refine ⟨_, rfl, ?_⟩
  go_frame
  refine np (.pointer (some ⟨g3, 1, none⟩)) ?_
  go_frame
  refine wl_storep (by kernel_rfl) hM 0 rfl 25 _ _ rfl rfl 1 rfl [.int .i64 cc'19, .int .i64 kk'20, .int .i64 yy'21] rfl I_impl_Call (by simp [HD.cells]) rfl ?_
  clear hM; intro W12 hM
  refine wl_nil (cn4 _ _ ?_)
  clear cn4
  refine wp_seq_k fun _ cn9 => wl_region ?_
  refine nl hM 0 rfl Try.underlying27 I_impl_Hand ?_
  refine nS hM 2 rfl (HD.cells { hkr_6 with c := cc'19, k := kk'20, v := yy'21 }) I_impl_Hand (hd_one' _) ?_
  clear hM; intro W13 hM
  refine wl_nil (cn9 _ _ ?_)
  clear cn9
  refine wp_ret ?_
  refine bodyPost_ret (ret_row rfl hM 2 rfl rfl Try.underlying27 I_impl_Hand) rfl ⟨{ hkr_6 with c := cc'19, k := kk'20, v := yy'21 }, ci'23, ch'24, rfl, hc'25, ?_⟩
  replace hM := hM.pull 3 rfl
  exact Mem.keep1 (A := Ed) (Mem.keep1 (A := [(g3, 27, (HD.cells { hkr_6 with c := cc'19, k := kk'20, v := yy'21 })), (g2, 59, [.slice a1e dj.l.length k1e, .slice a2e dj.c.length k2e, .slice (some ⟨g3e, 0, none⟩) dj.hs.length k3e, .slice a4e dj.ds.length k4e, .int .i64 dj.now]), (g1, 27, (HD.cells { hkr_6 with c := cc'19, k := kk'20, v := yy'21 }))]) hM)
  rw [hx3]
  refine wp_cond_false rfl ?_
  refine wp_seq_k fun _ cn9 => wl_region ?_
  refine np (.bool (rr'14 == 2)) ?_
  refine np (.bool (rr'14 == 2)) ?_
  go_frame
  refine wl_nil (cn9 _ _ ?_)
  clear cn9
  rcases tf ((rr'14 == 2)) with hx4 | hx4
  rw [hx4]
  refine wp_cond_true rfl ?_
  refine wl_region ?_
  refine np (.pointer (some ⟨gc, 0, none⟩)) ?_
  refine nc (l1From_any B gc (.slice va lb.length vc) lb (-1) 30 _ (cur_at hM (i := 3) rfl hcur hc'18) (by omega) (by omega) (by omega) (by omega)) ?_
  rintro e W11 ⟨rr'19, rfl, hr'20, hcA, hcB⟩
  obtain ⟨ci'21, ch'22, hc'23, hM3⟩ := cur_back hM (i := 3) rfl hcA hcB
  clear hM hcA hcB; have hM := hM3; clear hM3
  replace hr'20 : ((-1) ≤ rr'19 ∧ (rr'19 ≤ 30 ∨ rr'19 = (-1))) := hr'20
  refine ⟨_, rfl, ?_⟩
  go_frame
  refine np (.pointer (some ⟨g3, 4, none⟩)) ?_
  refine nk hM 0 rfl 4 (.int .i64 rr'19) I_int64 (by simp [HD.cells, splice_len]) ?_
  clear hM; intro W12 hM
  refine wl_nil (cn4 _ _ ?_)
  clear cn4
  refine wp_seq_k fun _ cn10 => wl_region ?_
  refine nl hM 0 rfl Try.underlying27 I_impl_Hand ?_
  refine nS hM 2 rfl (HD.cells { hkr_6 with prev := rr'19 }) I_impl_Hand (hd_one' _) ?_
  clear hM; intro W13 hM
  refine wl_nil (cn10 _ _ ?_)
  clear cn10
  refine wp_ret ?_
  refine bodyPost_ret (ret_row rfl hM 2 rfl rfl Try.underlying27 I_impl_Hand) rfl ⟨{ hkr_6 with prev := rr'19 }, ci'21, ch'22, rfl, hc'23, ?_⟩
  replace hM := hM.pull 3 rfl
  exact Mem.keep1 (A := Ed) (Mem.keep1 (A := [(g3, 27, (HD.cells { hkr_6 with prev := rr'19 })), (g2, 59, [.slice a1e dj.l.length k1e, .slice a2e dj.c.length k2e, .slice (some ⟨g3e, 0, none⟩) dj.hs.length k3e, .slice a4e dj.ds.length k4e, .int .i64 dj.now]), (g1, 27, (HD.cells { hkr_6 with prev := rr'19 }))]) hM)
  rw [hx4]
  refine wp_cond_false rfl ?_
  refine wp_seq_k fun _ cn10 => wl_region ?_
  refine np (.bool (rr'14 == 3)) ?_
  refine np (.bool (rr'14 == 3)) ?_
  go_frame
  refine wl_nil (cn10 _ _ ?_)
  clear cn10
  rcases tf ((rr'14 == 3)) with hx5 | hx5
  rw [hx5]
  refine wp_cond_true rfl ?_
  refine wl_region ?_
  refine np (.pointer (some ⟨gc, 0, none⟩)) ?_
  refine nc (l1From_any B gc (.slice va lb.length vc) lb (-1) 2 _ (cur_at hM (i := 3) rfl hcur hc'18) (by omega) (by omega) (by omega) (by omega)) ?_
  rintro e W11 ⟨rr'19, rfl, hr'20, hcA, hcB⟩
  obtain ⟨ci'21, ch'22, hc'23, hM3⟩ := cur_back hM (i := 3) rfl hcA hcB
  clear hM hcA hcB; have hM := hM3; clear hM3
  replace hr'20 : ((-1) ≤ rr'19 ∧ (rr'19 ≤ 2 ∨ rr'19 = (-1))) := hr'20
  refine ⟨_, rfl, ?_⟩
  go_frame
  refine np (.pointer (some ⟨g3, 6, none⟩)) ?_
  refine nk hM 0 rfl 6 (.int .i64 rr'19) I_int64 (by simp [HD.cells, splice_len]) ?_
  clear hM; intro W12 hM
  refine wl_nil (cn4 _ _ ?_)
  clear cn4
  refine wp_seq_k fun _ cn11 => wl_region ?_
  refine nl hM 0 rfl Try.underlying27 I_impl_Hand ?_
  refine nS hM 2 rfl (HD.cells { hkr_6 with side := rr'19 }) I_impl_Hand (hd_one' _) ?_
  clear hM; intro W13 hM
  refine wl_nil (cn11 _ _ ?_)
  clear cn11
  refine wp_ret ?_
  refine bodyPost_ret (ret_row rfl hM 2 rfl rfl Try.underlying27 I_impl_Hand) rfl ⟨{ hkr_6 with side := rr'19 }, ci'21, ch'22, rfl, hc'23, ?_⟩
  replace hM := hM.pull 3 rfl
  exact Mem.keep1 (A := Ed) (Mem.keep1 (A := [(g3, 27, (HD.cells { hkr_6 with side := rr'19 })), (g2, 59, [.slice a1e dj.l.length k1e, .slice a2e dj.c.length k2e, .slice (some ⟨g3e, 0, none⟩) dj.hs.length k3e, .slice a4e dj.ds.length k4e, .int .i64 dj.now]), (g1, 27, (HD.cells { hkr_6 with side := rr'19 }))]) hM)
  rw [hx5]
  refine wp_cond_false rfl ?_
  refine wp_seq_k fun _ cn11 => wl_region ?_
  refine np (.bool (rr'14 == 4)) ?_
  refine np (.bool (rr'14 == 4)) ?_
  go_frame
  refine wl_nil (cn11 _ _ ?_)
  clear cn11
  rcases tf ((rr'14 == 4)) with hx6 | hx6
  rw [hx6]
  refine wp_cond_true rfl ?_
  refine wl_region ?_
  refine np (.pointer (some ⟨gc, 0, none⟩)) ?_
  refine nc (l1Num_any B gc (.slice va lb.length vc) lb 10000 _ (cur_at hM (i := 3) rfl hcur hc'18) (by omega) (by omega)) ?_
  rintro e W11 ⟨rr'19, rfl, hr'20, hcA, hcB⟩
  obtain ⟨ci'21, ch'22, hc'23, hM3⟩ := cur_back hM (i := 3) rfl hcA hcB
  clear hM hcA hcB; have hM := hM3; clear hM3
  replace hr'20 : In64 rr'19 := hr'20
  refine ⟨_, rfl, ?_⟩
  go_frame
  refine np (.pointer (some ⟨g3, 7, none⟩)) ?_
  refine nk hM 0 rfl 7 (.int .i64 rr'19) I_int64 (by simp [HD.cells, splice_len]) ?_
  clear hM; intro W12 hM
  refine wl_nil (cn4 _ _ ?_)
  clear cn4
  refine wp_seq_k fun _ cn12 => wl_region ?_
  refine nl hM 0 rfl Try.underlying27 I_impl_Hand ?_
  refine nS hM 2 rfl (HD.cells { hkr_6 with tag := rr'19 }) I_impl_Hand (hd_one' _) ?_
  clear hM; intro W13 hM
  refine wl_nil (cn12 _ _ ?_)
  clear cn12
  refine wp_ret ?_
  refine bodyPost_ret (ret_row rfl hM 2 rfl rfl Try.underlying27 I_impl_Hand) rfl ⟨{ hkr_6 with tag := rr'19 }, ci'21, ch'22, rfl, hc'23, ?_⟩
  replace hM := hM.pull 3 rfl
  exact Mem.keep1 (A := Ed) (Mem.keep1 (A := [(g3, 27, (HD.cells { hkr_6 with tag := rr'19 })), (g2, 59, [.slice a1e dj.l.length k1e, .slice a2e dj.c.length k2e, .slice (some ⟨g3e, 0, none⟩) dj.hs.length k3e, .slice a4e dj.ds.length k4e, .int .i64 dj.now]), (g1, 27, (HD.cells { hkr_6 with tag := rr'19 }))]) hM)
  rw [hx6]
  refine wp_cond_false rfl ?_
  refine wp_seq_k fun _ cn12 => wl_region ?_
  refine np (.bool (rr'14 == 5)) ?_
  refine np (.bool (rr'14 == 5)) ?_
  go_frame
  refine wl_nil (cn12 _ _ ?_)
  clear cn12
  rcases tf ((rr'14 == 5)) with hx7 | hx7
  rw [hx7]
  refine wp_cond_true rfl ?_
  refine wl_region ?_
  refine np (.pointer (some ⟨gc, 0, none⟩)) ?_
  refine nc (l1From_any B gc (.slice va lb.length vc) lb (-1) 30 _ (cur_at hM (i := 3) rfl hcur hc'18) (by omega) (by omega) (by omega) (by omega)) ?_
  rintro e W11 ⟨rr'19, rfl, hr'20, hcA, hcB⟩
  obtain ⟨ci'21, ch'22, hc'23, hM3⟩ := cur_back hM (i := 3) rfl hcA hcB
  clear hM hcA hcB; have hM := hM3; clear hM3
  replace hr'20 : ((-1) ≤ rr'19 ∧ (rr'19 ≤ 30 ∨ rr'19 = (-1))) := hr'20
  refine ⟨_, rfl, ?_⟩
  go_frame
  refine np (.pointer (some ⟨g3, 10, none⟩)) ?_
  refine nk hM 0 rfl 10 (.int .i64 rr'19) I_int64 (by simp [HD.cells, splice_len]) ?_
  clear hM; intro W12 hM
  refine wl_nil (cn4 _ _ ?_)
  clear cn4
  refine wp_seq_k fun _ cn13 => wl_region ?_
  refine nl hM 0 rfl Try.underlying27 I_impl_Hand ?_
  refine nS hM 2 rfl (HD.cells { hkr_6 with new := rr'19 }) I_impl_Hand (hd_one' _) ?_
  clear hM; intro W13 hM
  refine wl_nil (cn13 _ _ ?_)
  clear cn13
  refine wp_ret ?_
  refine bodyPost_ret (ret_row rfl hM 2 rfl rfl Try.underlying27 I_impl_Hand) rfl ⟨{ hkr_6 with new := rr'19 }, ci'21, ch'22, rfl, hc'23, ?_⟩
  replace hM := hM.pull 3 rfl
  exact Mem.keep1 (A := Ed) (Mem.keep1 (A := [(g3, 27, (HD.cells { hkr_6 with new := rr'19 })), (g2, 59, [.slice a1e dj.l.length k1e, .slice a2e dj.c.length k2e, .slice (some ⟨g3e, 0, none⟩) dj.hs.length k3e, .slice a4e dj.ds.length k4e, .int .i64 dj.now]), (g1, 27, (HD.cells { hkr_6 with new := rr'19 }))]) hM)
  rw [hx7]
  refine wp_cond_false rfl ?_
  refine wp_seq_k fun _ cn13 => wl_region ?_
  refine np (.bool (rr'14 == 6)) ?_
  refine np (.bool (rr'14 == 6)) ?_
  go_frame
  refine wl_nil (cn13 _ _ ?_)
  clear cn13
  rcases tf ((rr'14 == 6)) with hx8 | hx8
  rw [hx8]
  refine wp_cond_true rfl ?_
  refine wl_region ?_
  refine np (.pointer (some ⟨gc, 0, none⟩)) ?_
  refine nc (l1From_any B gc (.slice va lb.length vc) lb (-1) 7 _ (cur_at hM (i := 3) rfl hcur hc'18) (by omega) (by omega) (by omega) (by omega)) ?_
  rintro e W11 ⟨rr'19, rfl, hr'20, hcA, hcB⟩
  obtain ⟨ci'21, ch'22, hc'23, hM3⟩ := cur_back hM (i := 3) rfl hcA hcB
  clear hM hcA hcB; have hM := hM3; clear hM3
  replace hr'20 : ((-1) ≤ rr'19 ∧ (rr'19 ≤ 7 ∨ rr'19 = (-1))) := hr'20
  refine ⟨_, rfl, ?_⟩
  go_frame
  refine np (.pointer (some ⟨g3, 11, none⟩)) ?_
  refine nk hM 0 rfl 11 (.int .i64 rr'19) I_int64 (by simp [HD.cells, splice_len]) ?_
  clear hM; intro W12 hM
  refine wl_nil (cn4 _ _ ?_)
  clear cn4
  refine wp_seq_k fun _ cn14 => wl_region ?_
  refine nl hM 0 rfl Try.underlying27 I_impl_Hand ?_
  refine nS hM 2 rfl (HD.cells { hkr_6 with index := rr'19 }) I_impl_Hand (hd_one' _) ?_
  clear hM; intro W13 hM
  refine wl_nil (cn14 _ _ ?_)
  clear cn14
  refine wp_ret ?_
  refine bodyPost_ret (ret_row rfl hM 2 rfl rfl Try.underlying27 I_impl_Hand) rfl ⟨{ hkr_6 with index := rr'19 }, ci'21, ch'22, rfl, hc'23, ?_⟩
  replace hM := hM.pull 3 rfl
  exact Mem.keep1 (A := Ed) (Mem.keep1 (A := [(g3, 27, (HD.cells { hkr_6 with index := rr'19 })), (g2, 59, [.slice a1e dj.l.length k1e, .slice a2e dj.c.length k2e, .slice (some ⟨g3e, 0, none⟩) dj.hs.length k3e, .slice a4e dj.ds.length k4e, .int .i64 dj.now]), (g1, 27, (HD.cells { hkr_6 with index := rr'19 }))]) hM)
  rw [hx8]
  refine wp_cond_false rfl ?_
  refine wp_seq_k fun _ cn14 => wl_region ?_
  refine np (.bool (rr'14 == 7)) ?_
  refine np (.bool (rr'14 == 7)) ?_
  go_frame
  refine wl_nil (cn14 _ _ ?_)
  clear cn14
  rcases tf ((rr'14 == 7)) with hx9 | hx9
  rw [hx9]
  refine wp_cond_true rfl ?_
  refine wl_region ?_
  refine np (.pointer (some ⟨gc, 0, none⟩)) ?_
  refine nc (l1From_any B gc (.slice va lb.length vc) lb (-2) 5 _ (cur_at hM (i := 3) rfl hcur hc'18) (by omega) (by omega) (by omega) (by omega)) ?_
  rintro e W11 ⟨rr'19, rfl, hr'20, hcA, hcB⟩
  obtain ⟨ci'21, ch'22, hc'23, hM3⟩ := cur_back hM (i := 3) rfl hcA hcB
  clear hM hcA hcB; have hM := hM3; clear hM3
  replace hr'20 : ((-2) ≤ rr'19 ∧ (rr'19 ≤ 5 ∨ rr'19 = (-2))) := hr'20
  refine ⟨_, rfl, ?_⟩
  go_frame
  refine np (.pointer (some ⟨g3, 12, none⟩)) ?_
  refine nk hM 0 rfl 12 (.int .i64 rr'19) I_int64 (by simp [HD.cells, splice_len]) ?_
  clear hM; intro W12 hM
  refine wl_nil (cn4 _ _ ?_)
  clear cn4
  refine wp_seq_k fun _ cn15 => wl_region ?_
  refine nl hM 0 rfl Try.underlying27 I_impl_Hand ?_
  refine nS hM 2 rfl (HD.cells { hkr_6 with seen := rr'19 }) I_impl_Hand (hd_one' _) ?_
  clear hM; intro W13 hM
  refine wl_nil (cn15 _ _ ?_)
  clear cn15
  refine wp_ret ?_
  refine bodyPost_ret (ret_row rfl hM 2 rfl rfl Try.underlying27 I_impl_Hand) rfl ⟨{ hkr_6 with seen := rr'19 }, ci'21, ch'22, rfl, hc'23, ?_⟩
  replace hM := hM.pull 3 rfl
  exact Mem.keep1 (A := Ed) (Mem.keep1 (A := [(g3, 27, (HD.cells { hkr_6 with seen := rr'19 })), (g2, 59, [.slice a1e dj.l.length k1e, .slice a2e dj.c.length k2e, .slice (some ⟨g3e, 0, none⟩) dj.hs.length k3e, .slice a4e dj.ds.length k4e, .int .i64 dj.now]), (g1, 27, (HD.cells { hkr_6 with seen := rr'19 }))]) hM)
  rw [hx9]
  refine wp_cond_false rfl ?_
  refine wp_seq_k fun _ cn15 => wl_region ?_
  refine np (.bool (rr'14 == 8)) ?_
  refine np (.bool (rr'14 == 8)) ?_
  go_frame
  refine wl_nil (cn15 _ _ ?_)
  clear cn15
  rcases tf ((rr'14 == 8)) with hx10 | hx10
  rw [hx10]
  refine wp_cond_true rfl ?_
  refine wl_region ?_
  refine np (.pointer (some ⟨gc, 0, none⟩)) ?_
  refine nc (l1Num_any B gc (.slice va lb.length vc) lb 20000 _ (cur_at hM (i := 3) rfl hcur hc'18) (by omega) (by omega)) ?_
  rintro e W11 ⟨rr'19, rfl, hr'20, hcA, hcB⟩
  obtain ⟨ci'21, ch'22, hc'23, hM3⟩ := cur_back hM (i := 3) rfl hcA hcB
  clear hM hcA hcB; have hM := hM3; clear hM3
  replace hr'20 : In64 rr'19 := hr'20
  refine ⟨_, rfl, ?_⟩
  go_frame
  refine np (.pointer (some ⟨g3, 14, none⟩)) ?_
  refine nk hM 0 rfl 14 (.int .i64 rr'19) I_int64 (by simp [HD.cells, splice_len]) ?_
  clear hM; intro W12 hM
  refine wl_nil (cn4 _ _ ?_)
  clear cn4
  refine wp_seq_k fun _ cn16 => wl_region ?_
  refine nl hM 0 rfl Try.underlying27 I_impl_Hand ?_
  refine nS hM 2 rfl (HD.cells { hkr_6 with begin_ := rr'19 }) I_impl_Hand (hd_one' _) ?_
  clear hM; intro W13 hM
  refine wl_nil (cn16 _ _ ?_)
  clear cn16
  refine wp_ret ?_
  refine bodyPost_ret (ret_row rfl hM 2 rfl rfl Try.underlying27 I_impl_Hand) rfl ⟨{ hkr_6 with begin_ := rr'19 }, ci'21, ch'22, rfl, hc'23, ?_⟩
  replace hM := hM.pull 3 rfl
  exact Mem.keep1 (A := Ed) (Mem.keep1 (A := [(g3, 27, (HD.cells { hkr_6 with begin_ := rr'19 })), (g2, 59, [.slice a1e dj.l.length k1e, .slice a2e dj.c.length k2e, .slice (some ⟨g3e, 0, none⟩) dj.hs.length k3e, .slice a4e dj.ds.length k4e, .int .i64 dj.now]), (g1, 27, (HD.cells { hkr_6 with begin_ := rr'19 }))]) hM)
  rw [hx10]
  refine wp_cond_false rfl ?_
  refine wp_seq_k fun _ cn16 => wl_region ?_
  refine np (.bool (rr'14 == 9)) ?_
  refine np (.bool (rr'14 == 9)) ?_
  go_frame
  refine wl_nil (cn16 _ _ ?_)
  clear cn16
  rcases tf ((rr'14 == 9)) with hx11 | hx11
  rw [hx11]
  refine wp_cond_true rfl ?_
  refine wl_region ?_
  refine np (.pointer (some ⟨gc, 0, none⟩)) ?_
  refine nc (l1From_any B gc (.slice va lb.length vc) lb (-1) 4 _ (cur_at hM (i := 3) rfl hcur hc'18) (by omega) (by omega) (by omega) (by omega)) ?_
  rintro e W11 ⟨rr'19, rfl, hr'20, hcA, hcB⟩
  obtain ⟨ci'21, ch'22, hc'23, hM3⟩ := cur_back hM (i := 3) rfl hcA hcB
  clear hM hcA hcB; have hM := hM3; clear hM3
  replace hr'20 : ((-1) ≤ rr'19 ∧ (rr'19 ≤ 4 ∨ rr'19 = (-1))) := hr'20
  refine ⟨_, rfl, ?_⟩
  go_frame
  refine np (.pointer (some ⟨g3, 15, none⟩)) ?_
  refine nk hM 0 rfl 15 (.int .i64 rr'19) I_int64 (by simp [HD.cells, splice_len]) ?_
  clear hM; intro W12 hM
  refine wl_nil (cn4 _ _ ?_)
  clear cn4
  refine wp_seq_k fun _ cn17 => wl_region ?_
  refine nl hM 0 rfl Try.underlying27 I_impl_Hand ?_
  refine nS hM 2 rfl (HD.cells { hkr_6 with reply := rr'19 }) I_impl_Hand (hd_one' _) ?_
  clear hM; intro W13 hM
  refine wl_nil (cn17 _ _ ?_)
  clear cn17
  refine wp_ret ?_
  refine bodyPost_ret (ret_row rfl hM 2 rfl rfl Try.underlying27 I_impl_Hand) rfl ⟨{ hkr_6 with reply := rr'19 }, ci'21, ch'22, rfl, hc'23, ?_⟩
  replace hM := hM.pull 3 rfl
  exact Mem.keep1 (A := Ed) (Mem.keep1 (A := [(g3, 27, (HD.cells { hkr_6 with reply := rr'19 })), (g2, 59, [.slice a1e dj.l.length k1e, .slice a2e dj.c.length k2e, .slice (some ⟨g3e, 0, none⟩) dj.hs.length k3e, .slice a4e dj.ds.length k4e, .int .i64 dj.now]), (g1, 27, (HD.cells { hkr_6 with reply := rr'19 }))]) hM)
  rw [hx11]
  refine wp_cond_false rfl ?_
  refine wp_skip ?_
  refine cn4 _ _ ?_
  clear cn4
  refine wp_seq_k fun _ cn17 => wl_region ?_
  refine nl hM 0 rfl Try.underlying27 I_impl_Hand ?_
  refine nS hM 2 rfl (HD.cells hkr_6) I_impl_Hand (hd_one' _) ?_
  clear hM; intro W11 hM
  refine wl_nil (cn17 _ _ ?_)
  clear cn17
  refine wp_ret ?_
  refine bodyPost_ret (ret_row rfl hM 2 rfl rfl Try.underlying27 I_impl_Hand) rfl ⟨hkr_6, ci'16, ch'17, rfl, hc'18, ?_⟩
  replace hM := hM.pull 3 rfl
  exact Mem.keep1 (A := Ed) (Mem.keep1 (A := [(g3, 27, (HD.cells hkr_6)), (g2, 59, [.slice a1e dj.l.length k1e, .slice a2e dj.c.length k2e, .slice (some ⟨g3e, 0, none⟩) dj.hs.length k3e, .slice a4e dj.ds.length k4e, .int .i64 dj.now]), (g1, 27, (HD.cells hkr_6))]) hM)
  rw [hx1]
  refine wp_cond_false rfl ?_
  refine wp_skip ?_
  refine cn4 _ _ ?_
  clear cn4
  refine wp_seq_k fun _ cn6 => wl_region ?_
  refine nl hM 0 rfl Try.underlying27 I_impl_Hand ?_
  refine nS hM 2 rfl (HD.cells hkr_6) I_impl_Hand (hd_one' _) ?_
  clear hM; intro W10 hM
  refine wl_nil (cn6 _ _ ?_)
  clear cn6
  refine wp_ret ?_
  refine bodyPost_ret (ret_row rfl hM 2 rfl rfl Try.underlying27 I_impl_Hand) rfl ⟨hkr_6, ci'11, ch'12, rfl, hc'13, ?_⟩
  replace hM := hM.pull 3 rfl
  exact Mem.keep1 (A := Ed) (Mem.keep1 (A := [(g3, 27, (HD.cells hkr_6)), (g2, 59, [.slice a1e dj.l.length k1e, .slice a2e dj.c.length k2e, .slice (some ⟨g3e, 0, none⟩) dj.hs.length k3e, .slice a4e dj.ds.length k4e, .int .i64 dj.now]), (g1, 27, (HD.cells hkr_6))]) hM)
  refine wa_start (fun w => Below w00.heap.size w00 w ∧ Blk w g2 59 [.slice a1e dj.l.length k1e, .slice a2e dj.c.length k2e, .slice (some ⟨g3e, 0, none⟩) dj.hs.length k3e, .slice a4e dj.ds.length k4e, .int .i64 dj.now]) 11 rfl (by kernel_rfl) ?_
  replace hM := hM.drew
  refine wt 0 (some 7) (.pointer (some ⟨g2, 2, none⟩)) ⟨hM.below, hM.blk 0 rfl⟩ ?_
  go_frame
  refine wq 1 (some 8) (.slice (some ⟨g3e, 0, none⟩) dj.hs.length k3e) ⟨hM.below, hM.blk 0 rfl⟩ rfl (fun w hS => r_loadc hS.2 56 _ rfl 2 rfl Try.underlying56 rfl rfl) ?_
  refine wt 2 (some 9) (.pointer (some ⟨gc, 0, none⟩)) ⟨hM.below, hM.blk 0 rfl⟩ ?_
  refine wt 3 (some 10) (.pointer (some ⟨g2, 2, none⟩)) ⟨hM.below, hM.blk 0 rfl⟩ ?_
  go_frame
  refine wq 4 (some 11) (.slice (some ⟨g3e, 0, none⟩) dj.hs.length k3e) ⟨hM.below, hM.blk 0 rfl⟩ rfl (fun w hS => r_loadc hS.2 56 _ rfl 2 rfl Try.underlying56 rfl rfl) ?_
  refine wt 5 (some 12) (.int .i64 (dj.hs.length : Int)) ⟨hM.below, hM.blk 0 rfl⟩ ?_
  go_frame
  refine w2 6 9 ?_ ?_
  refine oc (some 13) (l1Below_any B gc (.slice va lb.length vc) lb (dj.hs.length : Int) _ (cur_at hM (i := 2) rfl hcur hc'3) (by omega)) ?_
  rintro e W5 ⟨rr'4, rfl, hr'5, hcA, hcB⟩
  obtain ⟨ci'7, ch'8, hc'9, hM3⟩ := cur_back hM (i := 2) rfl hcA hcB
  clear hM hcA hcB; have hM := hM3; clear hM3
  replace hr'5 : (0 ≤ rr'4 ∧ (rr'4 < (dj.hs.length : Int) ∨ rr'4 = 0)) := hr'5
  obtain ⟨kr_6, hkkr_6, hlkr_6⟩ : ∃ k : Nat, rr'4 = (k : Int) ∧ k < dj.hs.length := ⟨(rr'4).toNat, by omega, by omega⟩
  obtain ⟨hkr_6, hhkr_6⟩ : ∃ h, dj.hs[kr_6]? = some h := ⟨_, List.getElem?_eq_getElem hlkr_6⟩
  refine ⟨_, rfl, wk ⟨hM.below, hM.blk 0 rfl⟩ fun hs => ?_⟩
  go_frame
  refine wq 7 (some 14) (.pointer (some ⟨g3e, 0 + kr_6 * 17, none⟩)) hs rfl (fun w hS => r_index 56 27 _ _ rfl g3e 0 dj.hs.length k3e 17 kr_6 rfl rfl hkkr_6 (by omega) Try.underlying56 I_impl_Hand) ?_
  go_frame
  refine w2 8 9 ?_ ?_
  refine oq (some 15) (.agg (HD.cells hkr_6).toArray) ⟨hM.below, hM.blk 0 rfl⟩ rfl (r_cells 27 _ rfl g3e (0 + kr_6 * 17) rfl Try.underlying27 (HD.cells hkr_6) I_impl_Hand (e_row hM (List.mem_append_right [_, _, _] (List.mem_append_left _ hE3)) hhkr_6)) ?_
  go_frame
  refine wn 9 ?_
  refine oa (some 4) hM (HD.cells HD.zero) Z_impl_Hand ?_
  clear hM; intro g3 W6 hM
  refine ⟨⟨hM.below, hM.blk 1 rfl⟩, ?_⟩
  go_frame
  refine wn 10 ?_
  refine oS hM 0 rfl (HD.cells hkr_6) I_impl_Hand (hd_one' _) ?_
  clear hM; intro W7 hM
  refine ⟨⟨hM.below, hM.blk 1 rfl⟩, ?_⟩
  refine wJ ?_
  exact ⟨g3, ci'7, ch'8, rr'4, kr_6, hkr_6, rfl, hM, hc'9, hr'5, ⟨hkkr_6, hlkr_6⟩, hhkr_6⟩
  refine oa (some 4) hM (HD.cells HD.zero) Z_impl_Hand ?_
  clear hM; intro g3 W6 hM
  refine wk ⟨hM.below, hM.blk 1 rfl⟩ fun hs => ?_
  go_frame
  refine wn 8 ?_
  refine oq (some 15) (.agg (HD.cells hkr_6).toArray) hs rfl (r_cells 27 _ rfl g3e (0 + kr_6 * 17) rfl Try.underlying27 (HD.cells hkr_6) I_impl_Hand (e_row hM (List.mem_append_right [_, _, _, _] (List.mem_append_left _ hE3)) hhkr_6)) ?_
  go_frame
  refine wn 10 ?_
  refine oS hM 0 rfl (HD.cells hkr_6) I_impl_Hand (hd_one' _) ?_
  clear hM; intro W7 hM
  refine ⟨⟨hM.below, hM.blk 1 rfl⟩, ?_⟩
  refine wJ ?_
  exact ⟨g3, ci'7, ch'8, rr'4, kr_6, hkr_6, rfl, hM, hc'9, hr'5, ⟨hkkr_6, hlkr_6⟩, hhkr_6⟩
  refine oa (some 4) hM (HD.cells HD.zero) Z_impl_Hand ?_
  clear hM; intro g3 W5 hM
  refine ⟨⟨hM.below, hM.blk 1 rfl⟩, ?_⟩
  go_frame
  refine wn 6 ?_
  refine oc (some 13) (l1Below_any B gc (.slice va lb.length vc) lb (dj.hs.length : Int) _ (cur_at hM (i := 3) rfl hcur hc'3) (by omega)) ?_
  rintro e W6 ⟨rr'4, rfl, hr'5, hcA, hcB⟩
  obtain ⟨ci'7, ch'8, hc'9, hM3⟩ := cur_back hM (i := 3) rfl hcA hcB
  clear hM hcA hcB; have hM := hM3; clear hM3
  replace hr'5 : (0 ≤ rr'4 ∧ (rr'4 < (dj.hs.length : Int) ∨ rr'4 = 0)) := hr'5
  obtain ⟨kr_6, hkkr_6, hlkr_6⟩ : ∃ k : Nat, rr'4 = (k : Int) ∧ k < dj.hs.length := ⟨(rr'4).toNat, by omega, by omega⟩
  obtain ⟨hkr_6, hhkr_6⟩ : ∃ h, dj.hs[kr_6]? = some h := ⟨_, List.getElem?_eq_getElem hlkr_6⟩
  refine ⟨_, rfl, wk ⟨hM.below, hM.blk 1 rfl⟩ fun hs => ?_⟩
  go_frame
  refine wq 7 (some 14) (.pointer (some ⟨g3e, 0 + kr_6 * 17, none⟩)) hs rfl (fun w hS => r_index 56 27 _ _ rfl g3e 0 dj.hs.length k3e 17 kr_6 rfl rfl hkkr_6 (by omega) Try.underlying56 I_impl_Hand) ?_
  go_frame
  refine wn 8 ?_
  refine oq (some 15) (.agg (HD.cells hkr_6).toArray) hs rfl (r_cells 27 _ rfl g3e (0 + kr_6 * 17) rfl Try.underlying27 (HD.cells hkr_6) I_impl_Hand (e_row hM (List.mem_append_right [_, _, _, _] (List.mem_append_left _ hE3)) hhkr_6)) ?_
  go_frame
  refine wn 10 ?_
  refine oS hM 0 rfl (HD.cells hkr_6) I_impl_Hand (hd_one' _) ?_
  clear hM; intro W7 hM
  refine ⟨⟨hM.below, hM.blk 1 rfl⟩, ?_⟩
  refine wJ ?_
  exact ⟨g3, ci'7, ch'8, rr'4, kr_6, hkr_6, rfl, hM, hc'9, hr'5, ⟨hkkr_6, hlkr_6⟩, hhkr_6⟩

theorem spec_DrawHandOk (va : Option Addr) (vc : Nat) (lb : List Int) (w0 : World) (hb : Bts w0.heap.size w0 (.slice va lb.length vc) lb) (hl : lb.length ≤ 4096) :
    Calls Try.prog 5 #[(.slice va lb.length vc)] w0 fun e w' => (∃ h : HD, e = .returned h.val) ∧ Below w0.heap.size w0 w' := by
  obtain ⟨B, hcur⟩ : ∃ B, CurW w0 B (.slice va lb.length vc) lb := ⟨_, curw_start hb hl⟩
  have hM := Mem.start w0
  go_enter Try.func5, Try.ntmps5
  refine wp_seq_k fun _ cn1 => wl_region ?_
  refine na hM (HD.cells HD.zero) Z_impl_Hand ?_
  clear hM; intro g1 W1 hM
  go_frame
  refine wl_nil (cn1 _ _ ?_)
  clear cn1
  refine wp_seq_k fun _ cn2 => wl_region ?_
  refine np (.slice va lb.length vc) ?_
  refine nc (l1New_any B (.slice va lb.length vc) lb _ (hcur.2.2.below hM.below) hcur.2.1 (Nat.le_trans hcur.1 hM.size)) ?_
  rintro e W2 ⟨gc, rfl, hcg, hcA, hcb⟩
  obtain ⟨-, -, -, ci0, ch0, hi0, hi1, hcB⟩ := hcA
  have hci0 : CurI lb ci0 ch0 := ⟨hi0, hi1⟩
  replace hM := hM.got hcb hcg hcB
  refine ⟨_, rfl, ?_⟩
  go_frame
  refine np (.pointer (some ⟨gc, 0, none⟩)) ?_
  go_frame
  refine wl_nil (cn2 _ _ ?_)
  clear cn2
  refine wp_seq_k fun _ cn3 => wl_region ?_
  refine np (.pointer (some ⟨gc, 0, none⟩)) ?_
  go_frame
  refine nC #[.pointer (some ⟨gc, 0, none⟩)] (spec_l6DrawAny B gc va vc lb ci0 ch0 _ _ _ hM hcur hci0) ?_
  rintro e W3 ⟨hd_4, ci'1, ch'2, rfl, hc'3, hM2⟩
  replace hM := hM2; clear hM2
  refine ⟨_, rfl, ?_⟩
  go_frame
  refine nS hM 1 rfl (HD.cells hd_4) I_impl_Hand (hd_one' _) ?_
  clear hM; intro W4 hM
  refine wl_nil (cn3 _ _ ?_)
  clear cn3
  refine wp_ret ?_
  exact bodyPost_ret (ret_row rfl hM 1 rfl rfl Try.underlying27 I_impl_Hand) rfl ⟨⟨hd_4, rfl⟩, hM.below⟩
theorem ret_tt {fn : Func} {p q : Tmp} (h : fn.results = #[.tmp p, .tmp q]) {tmps : Array Value} {w : World} {v v' : Value} (hp : tmps.getD p undef = v) (hq : tmps.getD q undef = v') : (results fn tmps).run Try.prog w = .ok (.tuple #[v, v']) w := by
  have hp' : tmps[p]?.getD undef = v := by simpa using hp
  have hq' : tmps[q]?.getD undef = v' := by simpa using hq
  simp [results, h, hp', hq', Sem.run_bind, Result.andThen]

theorem spec_DrawResting (va : Option Addr) (vc : Nat) (lb : List Int) (w0 : World) (hb : Bts w0.heap.size w0 (.slice va lb.length vc) lb) (hl : lb.length ≤ 4096) :
    Calls Try.prog 6 #[(.slice va lb.length vc)] w0 fun e w' => (∃ n m : Int, e = .returned (.tuple #[.int .i64 n, .int .i64 m])) ∧ Below w0.heap.size w0 w' := by
  obtain ⟨B, hcur⟩ : ∃ B, CurW w0 B (.slice va lb.length vc) lb := ⟨_, curw_start hb hl⟩
  have hM := Mem.start w0
  go_enter Try.func6, Try.ntmps6
  refine wp_seq_k fun _ cn1 => wl_region ?_
  refine np (.int .i64 0) ?_
  refine np (.int .i64 0) ?_
  go_frame
  refine wl_nil (cn1 _ _ ?_)
  clear cn1
  refine wp_seq_k fun _ cn2 => wl_region ?_
  refine np (.slice va lb.length vc) ?_
  refine nc (l1New_any B (.slice va lb.length vc) lb _ (hcur.2.2.below hM.below) hcur.2.1 (Nat.le_trans hcur.1 hM.size)) ?_
  rintro e W1 ⟨gc, rfl, hcg, hcA, hcb⟩
  obtain ⟨-, -, -, ci0, ch0, hi0, hi1, hcB⟩ := hcA
  have hci0 : CurI lb ci0 ch0 := ⟨hi0, hi1⟩
  replace hM := hM.got hcb hcg hcB
  refine ⟨_, rfl, ?_⟩
  go_frame
  refine np (.pointer (some ⟨gc, 0, none⟩)) ?_
  go_frame
  refine wl_nil (cn2 _ _ ?_)
  clear cn2
  refine wp_seq_k fun _ cn3 => wl_region ?_
  refine np (.pointer (some ⟨gc, 0, none⟩)) ?_
  refine nc (l1Below_any B gc (.slice va lb.length vc) lb 4 _ (cur_at hM (i := 0) rfl hcur hci0) (by omega)) ?_
  rintro e W2 ⟨rr'1, rfl, hr'2, hcA, hcB⟩
  obtain ⟨ci'3, ch'4, hc'5, hM3⟩ := cur_back hM (i := 0) rfl hcA hcB
  clear hM hcA hcB; have hM := hM3; clear hM3
  replace hr'2 : (0 ≤ rr'1 ∧ (rr'1 < 4 ∨ rr'1 = 0)) := hr'2
  refine ⟨_, rfl, ?_⟩
  go_frame
  refine np (.int .i64 rr'1) ?_
  go_frame
  refine wl_nil (cn3 _ _ ?_)
  clear cn3
  refine wp_seq_k fun _ cn4 => wl_region ?_
  refine np (.int .i64 rr'1) ?_
  refine np (.pointer (some ⟨gc, 0, none⟩)) ?_
  refine nc (l1Below_any B gc (.slice va lb.length vc) lb 100 _ (cur_at hM (i := 0) rfl hcur hc'5) (by omega)) ?_
  rintro e W3 ⟨rr'6, rfl, hr'7, hcA, hcB⟩
  obtain ⟨ci'8, ch'9, hc'10, hM3⟩ := cur_back hM (i := 0) rfl hcA hcB
  clear hM hcA hcB; have hM := hM3; clear hM3
  replace hr'7 : (0 ≤ rr'6 ∧ (rr'6 < 100 ∨ rr'6 = 0)) := hr'7
  refine ⟨_, rfl, ?_⟩
  go_frame
  refine np (.int .i64 rr'1) ?_
  refine np (.int .i64 rr'6) ?_
  go_frame
  refine wl_nil (cn4 _ _ ?_)
  clear cn4
  refine wp_ret ?_
  exact bodyPost_ret (ret_tt (p := 2) (q := 3) rfl rfl rfl) rfl ⟨⟨rr'1, rr'6, rfl⟩, hM.below⟩

theorem spec_DrawCalled (va : Option Addr) (vc : Nat) (lb : List Int) (w0 : World) (hb : Bts w0.heap.size w0 (.slice va lb.length vc) lb) (hl : lb.length ≤ 4096) :
    Calls Try.prog 7 #[(.slice va lb.length vc)] w0 fun e w' => (∃ (h : HD) (c k v : Int), e = .returned (.tuple #[h.val, .agg #[.int .i64 c, .int .i64 k, .int .i64 v]])) ∧ Below w0.heap.size w0 w' := by
  obtain ⟨B, hcur⟩ : ∃ B, CurW w0 B (.slice va lb.length vc) lb := ⟨_, curw_start hb hl⟩
  have hM := Mem.start w0
  go_enter Try.func7, Try.ntmps7
  refine wp_seq_k fun _ cn1 => wl_region ?_
  refine na hM (HD.cells HD.zero) Z_impl_Hand ?_
  clear hM; intro g1 W1 hM
  refine na hM [.int .i64 0, .int .i64 0, .int .i64 0] Z_impl_Call ?_
  clear hM; intro g2 W2 hM
  go_frame
  refine wl_nil (cn1 _ _ ?_)
  clear cn1
  refine wp_seq_k fun _ cn2 => wl_region ?_
  refine np (.slice va lb.length vc) ?_
  refine nc (l1New_any B (.slice va lb.length vc) lb _ (hcur.2.2.below hM.below) hcur.2.1 (Nat.le_trans hcur.1 hM.size)) ?_
  rintro e W3 ⟨gc, rfl, hcg, hcA, hcb⟩
  obtain ⟨-, -, -, ci0, ch0, hi0, hi1, hcB⟩ := hcA
  have hci0 : CurI lb ci0 ch0 := ⟨hi0, hi1⟩
  replace hM := hM.got hcb hcg hcB
  refine ⟨_, rfl, ?_⟩
  go_frame
  refine np (.pointer (some ⟨gc, 0, none⟩)) ?_
  go_frame
  refine wl_nil (cn2 _ _ ?_)
  clear cn2
  refine wp_seq_k fun _ cn3 => wl_region ?_
  refine np (.pointer (some ⟨gc, 0, none⟩)) ?_
  go_frame
  refine nC #[.pointer (some ⟨gc, 0, none⟩)] (spec_l6DrawAny B gc va vc lb ci0 ch0 _ _ _ hM hcur hci0) ?_
  rintro e W4 ⟨hd_4, ci'1, ch'2, rfl, hc'3, hM2⟩
  replace hM := hM2; clear hM2
  refine ⟨_, rfl, ?_⟩
  go_frame
  refine na hM (HD.cells HD.zero) Z_impl_Hand ?_
  clear hM; intro g3 W5 hM
  refine nS hM 0 rfl (HD.cells hd_4) I_impl_Hand (hd_one' _) ?_
  clear hM; intro W6 hM
  refine wl_nil (cn3 _ _ ?_)
  clear cn3
  refine wp_seq_k fun Kn4 cn4 => ?_
  refine wp_seq_k fun _ cn5 => wl_region ?_
  refine np (.pointer (some ⟨gc, 0, none⟩)) ?_
  refine nc (l1Once_any B gc (.slice va lb.length vc) lb 2 _ (cur_at hM (i := 1) rfl hcur hc'3) (by omega)) ?_
  rintro e W7 ⟨bb'5, rfl, hcA, hcB⟩
  obtain ⟨ci'6, ch'7, hc'8, hM3⟩ := cur_back hM (i := 1) rfl hcA hcB
  clear hM hcA hcB; have hM := hM3; clear hM3
  refine ⟨_, rfl, ?_⟩
  go_frame
  refine wl_nil (cn5 _ _ ?_)
  clear cn5
  rcases tf (bb'5) with hx1 | hx1
  rw [hx1]
  refine wp_cond_true rfl ?_
  refine wl_region ?_
  refine np (.pointer (some ⟨gc, 0, none⟩)) ?_
  refine nc (l1Below_any B gc (.slice va lb.length vc) lb 3 _ (cur_at hM (i := 1) rfl hcur hc'8) (by omega)) ?_
  rintro e W8 ⟨rr'9, rfl, hr'10, hcA, hcB⟩
  obtain ⟨ci'11, ch'12, hc'13, hM3⟩ := cur_back hM (i := 1) rfl hcA hcB
  clear hM hcA hcB; have hM := hM3; clear hM3
  replace hr'10 : (0 ≤ rr'9 ∧ (rr'9 < 3 ∨ rr'9 = 0)) := hr'10
  refine ⟨_, rfl, ?_⟩
  go_frame
  refine nc (spec_Resting rr'9 0 _) ?_
  rintro e W9 ⟨rfl, hb⟩
  refine ⟨_, rfl, ?_⟩
  replace hM := hM.call hb
  go_frame
  refine nS hM 0 rfl (HD.cells (restH rr'9 0)) I_impl_Hand (hd_one' _) ?_
  clear hM; intro W10 hM
  refine wl_nil (cn4 _ _ ?_)
  clear cn4
  refine wp_seq_k fun Kn6 cn6 => ?_
  refine wa_start (fun w => Below w0.heap.size w0 w ∧ Blk w g3 27 (HD.cells (restH rr'9 0))) 5 rfl (by kernel_rfl) ?_
  replace hM := hM.drew
  refine wq 0 (some 15) (.agg (HD.cells (restH rr'9 0)).toArray) ⟨hM.below, hM.blk 0 rfl⟩ rfl (fun w hS => r_load hS.2 27 _ rfl rfl Try.underlying27 I_impl_Hand) ?_
  refine wt 1 (some 16) (.pointer (some ⟨gc, 0, none⟩)) ⟨hM.below, hM.blk 0 rfl⟩ ?_
  go_frame
  refine wn 2 ?_
  refine oc (some 17) (l5DrawAny_any B gc (.slice va lb.length vc) lb _ (cur_at hM (i := 1) rfl hcur hc'13)) ?_
  rintro e W11 ⟨cc'14, kk'15, yy'16, rfl, hp'17, hcA, hcB⟩
  obtain ⟨ci'18, ch'19, hc'20, hM3⟩ := cur_back hM (i := 1) rfl hcA hcB
  clear hM hcA hcB; have hM := hM3; clear hM3
  refine ⟨_, rfl, ⟨hM.below, hM.blk 0 rfl⟩, ?_⟩
  go_frame
  refine wn 3 ?_
  refine oS hM 3 rfl (HD.cells (restH rr'9 0)) I_impl_Hand (hd_one' _) ?_
  clear hM; intro W12 hM
  refine ⟨⟨hM.below, hM.blk 0 rfl⟩, ?_⟩
  refine wn 4 ?_
  refine oS hM 2 rfl [.int .i64 cc'14, .int .i64 kk'15, .int .i64 yy'16] I_impl_Call rfl ?_
  clear hM; intro W13 hM
  refine ⟨⟨hM.below, hM.blk 0 rfl⟩, ?_⟩
  refine wa_done (by kernel_rfl) ?_
  refine cn6 _ _ ?_
  clear cn6
  refine wp_ret ?_
  exact bodyPost_ret (ret_cc (p := 2) (q := 3) rfl hM 3 2 rfl rfl rfl rfl Try.underlying27 Try.underlying25 I_impl_Hand I_impl_Call) rfl ⟨⟨(restH rr'9 0), cc'14, kk'15, yy'16, rfl⟩, hM.below⟩
  rw [hx1]
  refine wp_cond_false rfl ?_
  refine wp_skip ?_
  refine cn4 _ _ ?_
  clear cn4
  refine wp_seq_k fun Kn6 cn6 => ?_
  refine wa_start (fun w => Below w0.heap.size w0 w ∧ Blk w g3 27 (HD.cells hd_4)) 5 rfl (by kernel_rfl) ?_
  replace hM := hM.drew
  refine wq 0 (some 15) (.agg (HD.cells hd_4).toArray) ⟨hM.below, hM.blk 0 rfl⟩ rfl (fun w hS => r_load hS.2 27 _ rfl rfl Try.underlying27 I_impl_Hand) ?_
  refine wt 1 (some 16) (.pointer (some ⟨gc, 0, none⟩)) ⟨hM.below, hM.blk 0 rfl⟩ ?_
  go_frame
  refine wn 2 ?_
  refine oc (some 17) (l5DrawAny_any B gc (.slice va lb.length vc) lb _ (cur_at hM (i := 1) rfl hcur hc'8)) ?_
  rintro e W8 ⟨cc'9, kk'10, yy'11, rfl, hp'12, hcA, hcB⟩
  obtain ⟨ci'13, ch'14, hc'15, hM3⟩ := cur_back hM (i := 1) rfl hcA hcB
  clear hM hcA hcB; have hM := hM3; clear hM3
  refine ⟨_, rfl, ⟨hM.below, hM.blk 0 rfl⟩, ?_⟩
  go_frame
  refine wn 3 ?_
  refine oS hM 3 rfl (HD.cells hd_4) I_impl_Hand (hd_one' _) ?_
  clear hM; intro W9 hM
  refine ⟨⟨hM.below, hM.blk 0 rfl⟩, ?_⟩
  refine wn 4 ?_
  refine oS hM 2 rfl [.int .i64 cc'9, .int .i64 kk'10, .int .i64 yy'11] I_impl_Call rfl ?_
  clear hM; intro W10 hM
  refine ⟨⟨hM.below, hM.blk 0 rfl⟩, ?_⟩
  refine wa_done (by kernel_rfl) ?_
  refine cn6 _ _ ?_
  clear cn6
  refine wp_ret ?_
  exact bodyPost_ret (ret_cc (p := 2) (q := 3) rfl hM 3 2 rfl rfl rfl rfl Try.underlying27 Try.underlying25 I_impl_Hand I_impl_Call) rfl ⟨⟨hd_4, cc'9, kk'10, yy'11, rfl⟩, hM.below⟩
end Go.Proofs.Ytagekbdngjkfeaa
