/- Hands: what the program answers. -/
import Derived.Test.YthllpgjggmdmmaaStructEq
import Derived.Test.YthllpgjggmdmmaaCallImpl
import Derived.Test.YthllpgjggmdmmaaHand2
import Derived.Test.YthllpgjggmdmmaaReads
namespace Go.Proofs.Ythllpgjggmdmmaa
open Go.ChangeShapes Go.WideShapes Go.ChangeAt Go.RowKit
set_option linter.unusedVariables false
set_option linter.unusedSimpArgs false

def clampI (n lo hi : Int) : Int := min (max n lo) hi
theorem clampI_eq {n lo hi : Int} (h : lo ≤ hi) : (n == clampI n lo hi) = inB n lo hi := by
  unfold clampI inB
  rw [Bool.eq_iff_iff]
  simp only [beq_iff_eq, Bool.and_eq_true, decide_eq_true_eq]
  omega
def clampH (h : HD) : HD := { h with at_ := clampI h.at_ 0 26, prev := clampI h.prev 0 29, cur := clampI h.cur 0 29, side := clampI h.side 0 1, tag := clampI h.tag 0 10000, up := clampI h.up 0 29, next := clampI h.next 0 29, new := clampI h.new 0 29, index := clampI h.index 0 6, seen := clampI h.seen (-1) 100000, begin_ := clampI h.begin_ 0 20000, reply := clampI h.reply 0 3, out := clampI h.out 0 999 }
theorem handB_clamp (h : HD) : (hdEq h (clampH h) && (callB h.c h.k h.v || (h.at_ == 0 && noneB h.c h.k h.v))) = handB h := by
  simp only [hdEq, clampH, clampI_eq (n := h.at_) (lo := 0) (hi := 26) (by omega), clampI_eq (lo := 0) (hi := 29) (by omega), clampI_eq (lo := 0) (hi := 1) (by omega), clampI_eq (lo := 0) (hi := 10000) (by omega), clampI_eq (lo := 0) (hi := 6) (by omega), clampI_eq (lo := -1) (hi := 100000) (by omega), clampI_eq (lo := 0) (hi := 20000) (by omega), clampI_eq (lo := 0) (hi := 3) (by omega), clampI_eq (lo := 0) (hi := 999) (by omega), beq_self_eq_true, Bool.and_true, Bool.true_and, handB, headB, five, handL, List.all_cons, List.all_nil]
  rw [Bool.eq_iff_iff]
  simp only [Bool.and_eq_true, Bool.or_eq_true]
  constructor
  · intro hh
    simp_all
  · intro hh
    simp_all
theorem handB_no {h : HD} (e : hdEq h (clampH h) = false) : handB h = false := by rw [← handB_clamp, e]; rfl
theorem handB_yes {h : HD} (e : hdEq h (clampH h) = true) : handB h = (callB h.c h.k h.v || (h.at_ == 0 && noneB h.c h.k h.v)) := by rw [← handB_clamp, e]; rfl

set_option maxHeartbeats 1000000 in
theorem impl_drawn (n lo hi : Int) (w : World) :
    Calls Try.prog 86 #[.int .i64 n, .int .i64 lo, .int .i64 hi] w fun e w' => e = .returned (.int .i64 (clampI n lo hi)) ∧ w = w' := by
  go_enter Try.func86, Try.ntmps86
  go_wp2
  go_ret
  exact ⟨rfl, rfl⟩
set_option maxHeartbeats 1000000 in
theorem impl_drawnToNode (n : Int) (w : World) :
    Calls Try.prog 87 #[.int .i64 n] w fun e w' => e = .returned (.int .i64 (clampI n 0 29)) ∧ w = w' := by
  go_enter Try.func87, Try.ntmps87
  go_wp2_with fail
  refine (impl_drawn _ _ _ _).mono ?_
  rintro e w1 ⟨rfl, rfl⟩
  go_wp2
  go_ret
  exact ⟨rfl, rfl⟩

set_option maxRecDepth 100000 in
set_option maxHeartbeats 4000000 in
theorem impl_withinLimits (h : HD) (w0 : World) :
    Calls Try.prog 78 #[h.val] w0 fun e w' => e = .returned (clampH h).val ∧ Below w0.heap.size w0 w' := by
  unfold HD.val
  have hM := Mem.start w0
  go_enter Try.func78, Try.ntmps78
  refine wp_seq_k fun Kn1 cn1 => ?_
  refine wl_region ?_
  refine wl_box (by kernel_rfl) hM 36 _ rfl (HD.cells h) rfl ?_
  clear hM; intro g1 W1 hM
  go_frame
  refine wl_alloc (by kernel_rfl) hM 36 rfl (HD.cells HD.zero) Z_impl_Hand ?_
  clear hM; intro g2 W2 hM
  go_frame
  refine wl_nil ?_
  refine cn1 _ _ ?_
  clear cn1
  refine wp_seq_k fun Kn2 cn2 => ?_
  refine wl_region ?_
  refine wl_pure (by kernel_rfl) (.pointer (some ⟨g1, 0, none⟩)) (by kernel_rfl) ?_
  go_frame
  refine wl_loadc (by kernel_rfl) hM 1 rfl 2 _ rfl 0 rfl Try.underlying2 rfl rfl ?_
  go_frame
  refine wl_call (by kernel_rfl) 86 #[.int .i64 h.at_, .int .i64 0, .int .i64 26] (by kernel_rfl) (impl_drawn h.at_ 0 26 _) ?_
  rintro e W3 ⟨rfl, rfl⟩
  refine ⟨_, rfl, ?_⟩
  go_frame
  refine wl_pure (by kernel_rfl) (.pointer (some ⟨g1, 0, none⟩)) (by kernel_rfl) ?_
  go_frame
  refine wl_storec (by kernel_rfl) hM 1 rfl 2 _ _ rfl rfl 0 rfl (.int .i64 (clampI h.at_ 0 26)) rfl rfl rfl I_int64 (by simp [HD.cells]) ?_
  clear hM; intro W4 hM; replace hM : Mem w0 W4 [(g2, 36, (HD.cells HD.zero)), (g1, 36, (HD.cells { h with at_ := (clampI h.at_ 0 26) }))] := hM
  refine wl_nil ?_
  refine cn2 _ _ ?_
  clear cn2
  refine wp_seq_k fun Kn3 cn3 => ?_
  refine wl_region ?_
  refine wl_pure (by kernel_rfl) (.pointer (some ⟨g1, 4, none⟩)) (by kernel_rfl) ?_
  go_frame
  refine wl_loadc (by kernel_rfl) hM 1 rfl 2 _ rfl 4 rfl Try.underlying2 rfl rfl ?_
  go_frame
  refine wl_call (by kernel_rfl) 87 #[.int .i64 h.prev] (by kernel_rfl) (impl_drawnToNode h.prev _) ?_
  rintro e W5 ⟨rfl, rfl⟩
  refine ⟨_, rfl, ?_⟩
  go_frame
  refine wl_pure (by kernel_rfl) (.pointer (some ⟨g1, 4, none⟩)) (by kernel_rfl) ?_
  go_frame
  refine wl_storec (by kernel_rfl) hM 1 rfl 2 _ _ rfl rfl 4 rfl (.int .i64 (clampI h.prev 0 29)) rfl rfl rfl I_int64 (by simp [HD.cells]) ?_
  clear hM; intro W6 hM; replace hM : Mem w0 W6 [(g2, 36, (HD.cells HD.zero)), (g1, 36, (HD.cells { h with at_ := (clampI h.at_ 0 26), prev := (clampI h.prev 0 29) }))] := hM
  refine wl_nil ?_
  refine cn3 _ _ ?_
  clear cn3
  refine wp_seq_k fun Kn4 cn4 => ?_
  refine wl_region ?_
  refine wl_pure (by kernel_rfl) (.pointer (some ⟨g1, 5, none⟩)) (by kernel_rfl) ?_
  go_frame
  refine wl_loadc (by kernel_rfl) hM 1 rfl 2 _ rfl 5 rfl Try.underlying2 rfl rfl ?_
  go_frame
  refine wl_call (by kernel_rfl) 87 #[.int .i64 h.cur] (by kernel_rfl) (impl_drawnToNode h.cur _) ?_
  rintro e W7 ⟨rfl, rfl⟩
  refine ⟨_, rfl, ?_⟩
  go_frame
  refine wl_pure (by kernel_rfl) (.pointer (some ⟨g1, 5, none⟩)) (by kernel_rfl) ?_
  go_frame
  refine wl_storec (by kernel_rfl) hM 1 rfl 2 _ _ rfl rfl 5 rfl (.int .i64 (clampI h.cur 0 29)) rfl rfl rfl I_int64 (by simp [HD.cells]) ?_
  clear hM; intro W8 hM; replace hM : Mem w0 W8 [(g2, 36, (HD.cells HD.zero)), (g1, 36, (HD.cells { h with at_ := (clampI h.at_ 0 26), prev := (clampI h.prev 0 29), cur := (clampI h.cur 0 29) }))] := hM
  refine wl_nil ?_
  refine cn4 _ _ ?_
  clear cn4
  refine wp_seq_k fun Kn5 cn5 => ?_
  refine wl_region ?_
  refine wl_pure (by kernel_rfl) (.pointer (some ⟨g1, 6, none⟩)) (by kernel_rfl) ?_
  go_frame
  refine wl_loadc (by kernel_rfl) hM 1 rfl 2 _ rfl 6 rfl Try.underlying2 rfl rfl ?_
  go_frame
  refine wl_call (by kernel_rfl) 86 #[.int .i64 h.side, .int .i64 0, .int .i64 1] (by kernel_rfl) (impl_drawn h.side 0 1 _) ?_
  rintro e W9 ⟨rfl, rfl⟩
  refine ⟨_, rfl, ?_⟩
  go_frame
  refine wl_pure (by kernel_rfl) (.pointer (some ⟨g1, 6, none⟩)) (by kernel_rfl) ?_
  go_frame
  refine wl_storec (by kernel_rfl) hM 1 rfl 2 _ _ rfl rfl 6 rfl (.int .i64 (clampI h.side 0 1)) rfl rfl rfl I_int64 (by simp [HD.cells]) ?_
  clear hM; intro W10 hM; replace hM : Mem w0 W10 [(g2, 36, (HD.cells HD.zero)), (g1, 36, (HD.cells { h with at_ := (clampI h.at_ 0 26), prev := (clampI h.prev 0 29), cur := (clampI h.cur 0 29), side := (clampI h.side 0 1) }))] := hM
  refine wl_nil ?_
  refine cn5 _ _ ?_
  clear cn5
  refine wp_seq_k fun Kn6 cn6 => ?_
  refine wl_region ?_
  refine wl_pure (by kernel_rfl) (.pointer (some ⟨g1, 7, none⟩)) (by kernel_rfl) ?_
  go_frame
  refine wl_loadc (by kernel_rfl) hM 1 rfl 2 _ rfl 7 rfl Try.underlying2 rfl rfl ?_
  go_frame
  refine wl_call (by kernel_rfl) 86 #[.int .i64 h.tag, .int .i64 0, .int .i64 10000] (by kernel_rfl) (impl_drawn h.tag 0 10000 _) ?_
  rintro e W11 ⟨rfl, rfl⟩
  refine ⟨_, rfl, ?_⟩
  go_frame
  refine wl_pure (by kernel_rfl) (.pointer (some ⟨g1, 7, none⟩)) (by kernel_rfl) ?_
  go_frame
  refine wl_storec (by kernel_rfl) hM 1 rfl 2 _ _ rfl rfl 7 rfl (.int .i64 (clampI h.tag 0 10000)) rfl rfl rfl I_int64 (by simp [HD.cells]) ?_
  clear hM; intro W12 hM; replace hM : Mem w0 W12 [(g2, 36, (HD.cells HD.zero)), (g1, 36, (HD.cells { h with at_ := (clampI h.at_ 0 26), prev := (clampI h.prev 0 29), cur := (clampI h.cur 0 29), side := (clampI h.side 0 1), tag := (clampI h.tag 0 10000) }))] := hM
  refine wl_nil ?_
  refine cn6 _ _ ?_
  clear cn6
  refine wp_seq_k fun Kn7 cn7 => ?_
  refine wl_region ?_
  refine wl_pure (by kernel_rfl) (.pointer (some ⟨g1, 8, none⟩)) (by kernel_rfl) ?_
  go_frame
  refine wl_loadc (by kernel_rfl) hM 1 rfl 2 _ rfl 8 rfl Try.underlying2 rfl rfl ?_
  go_frame
  refine wl_call (by kernel_rfl) 87 #[.int .i64 h.up] (by kernel_rfl) (impl_drawnToNode h.up _) ?_
  rintro e W13 ⟨rfl, rfl⟩
  refine ⟨_, rfl, ?_⟩
  go_frame
  refine wl_pure (by kernel_rfl) (.pointer (some ⟨g1, 8, none⟩)) (by kernel_rfl) ?_
  go_frame
  refine wl_storec (by kernel_rfl) hM 1 rfl 2 _ _ rfl rfl 8 rfl (.int .i64 (clampI h.up 0 29)) rfl rfl rfl I_int64 (by simp [HD.cells]) ?_
  clear hM; intro W14 hM; replace hM : Mem w0 W14 [(g2, 36, (HD.cells HD.zero)), (g1, 36, (HD.cells { h with at_ := (clampI h.at_ 0 26), prev := (clampI h.prev 0 29), cur := (clampI h.cur 0 29), side := (clampI h.side 0 1), tag := (clampI h.tag 0 10000), up := (clampI h.up 0 29) }))] := hM
  refine wl_nil ?_
  refine cn7 _ _ ?_
  clear cn7
  refine wp_seq_k fun Kn8 cn8 => ?_
  refine wl_region ?_
  refine wl_pure (by kernel_rfl) (.pointer (some ⟨g1, 9, none⟩)) (by kernel_rfl) ?_
  go_frame
  refine wl_loadc (by kernel_rfl) hM 1 rfl 2 _ rfl 9 rfl Try.underlying2 rfl rfl ?_
  go_frame
  refine wl_call (by kernel_rfl) 87 #[.int .i64 h.next] (by kernel_rfl) (impl_drawnToNode h.next _) ?_
  rintro e W15 ⟨rfl, rfl⟩
  refine ⟨_, rfl, ?_⟩
  go_frame
  refine wl_pure (by kernel_rfl) (.pointer (some ⟨g1, 9, none⟩)) (by kernel_rfl) ?_
  go_frame
  refine wl_storec (by kernel_rfl) hM 1 rfl 2 _ _ rfl rfl 9 rfl (.int .i64 (clampI h.next 0 29)) rfl rfl rfl I_int64 (by simp [HD.cells]) ?_
  clear hM; intro W16 hM; replace hM : Mem w0 W16 [(g2, 36, (HD.cells HD.zero)), (g1, 36, (HD.cells { h with at_ := (clampI h.at_ 0 26), prev := (clampI h.prev 0 29), cur := (clampI h.cur 0 29), side := (clampI h.side 0 1), tag := (clampI h.tag 0 10000), up := (clampI h.up 0 29), next := (clampI h.next 0 29) }))] := hM
  refine wl_nil ?_
  refine cn8 _ _ ?_
  clear cn8
  refine wp_seq_k fun Kn9 cn9 => ?_
  refine wl_region ?_
  refine wl_pure (by kernel_rfl) (.pointer (some ⟨g1, 10, none⟩)) (by kernel_rfl) ?_
  go_frame
  refine wl_loadc (by kernel_rfl) hM 1 rfl 2 _ rfl 10 rfl Try.underlying2 rfl rfl ?_
  go_frame
  refine wl_call (by kernel_rfl) 87 #[.int .i64 h.new] (by kernel_rfl) (impl_drawnToNode h.new _) ?_
  rintro e W17 ⟨rfl, rfl⟩
  refine ⟨_, rfl, ?_⟩
  go_frame
  refine wl_pure (by kernel_rfl) (.pointer (some ⟨g1, 10, none⟩)) (by kernel_rfl) ?_
  go_frame
  refine wl_storec (by kernel_rfl) hM 1 rfl 2 _ _ rfl rfl 10 rfl (.int .i64 (clampI h.new 0 29)) rfl rfl rfl I_int64 (by simp [HD.cells]) ?_
  clear hM; intro W18 hM; replace hM : Mem w0 W18 [(g2, 36, (HD.cells HD.zero)), (g1, 36, (HD.cells { h with at_ := (clampI h.at_ 0 26), prev := (clampI h.prev 0 29), cur := (clampI h.cur 0 29), side := (clampI h.side 0 1), tag := (clampI h.tag 0 10000), up := (clampI h.up 0 29), next := (clampI h.next 0 29), new := (clampI h.new 0 29) }))] := hM
  refine wl_nil ?_
  refine cn9 _ _ ?_
  clear cn9
  refine wp_seq_k fun Kn10 cn10 => ?_
  refine wl_region ?_
  refine wl_pure (by kernel_rfl) (.pointer (some ⟨g1, 11, none⟩)) (by kernel_rfl) ?_
  go_frame
  refine wl_loadc (by kernel_rfl) hM 1 rfl 2 _ rfl 11 rfl Try.underlying2 rfl rfl ?_
  go_frame
  refine wl_call (by kernel_rfl) 86 #[.int .i64 h.index, .int .i64 0, .int .i64 6] (by kernel_rfl) (impl_drawn h.index 0 6 _) ?_
  rintro e W19 ⟨rfl, rfl⟩
  refine ⟨_, rfl, ?_⟩
  go_frame
  refine wl_pure (by kernel_rfl) (.pointer (some ⟨g1, 11, none⟩)) (by kernel_rfl) ?_
  go_frame
  refine wl_storec (by kernel_rfl) hM 1 rfl 2 _ _ rfl rfl 11 rfl (.int .i64 (clampI h.index 0 6)) rfl rfl rfl I_int64 (by simp [HD.cells]) ?_
  clear hM; intro W20 hM; replace hM : Mem w0 W20 [(g2, 36, (HD.cells HD.zero)), (g1, 36, (HD.cells { h with at_ := (clampI h.at_ 0 26), prev := (clampI h.prev 0 29), cur := (clampI h.cur 0 29), side := (clampI h.side 0 1), tag := (clampI h.tag 0 10000), up := (clampI h.up 0 29), next := (clampI h.next 0 29), new := (clampI h.new 0 29), index := (clampI h.index 0 6) }))] := hM
  refine wl_nil ?_
  refine cn10 _ _ ?_
  clear cn10
  refine wp_seq_k fun Kn11 cn11 => ?_
  refine wl_region ?_
  refine wl_pure (by kernel_rfl) (.pointer (some ⟨g1, 12, none⟩)) (by kernel_rfl) ?_
  go_frame
  refine wl_loadc (by kernel_rfl) hM 1 rfl 2 _ rfl 12 rfl Try.underlying2 rfl rfl ?_
  go_frame
  refine wl_call (by kernel_rfl) 86 #[.int .i64 h.seen, .int .i64 (-1), .int .i64 100000] (by kernel_rfl) (impl_drawn h.seen (-1) 100000 _) ?_
  rintro e W21 ⟨rfl, rfl⟩
  refine ⟨_, rfl, ?_⟩
  go_frame
  refine wl_pure (by kernel_rfl) (.pointer (some ⟨g1, 12, none⟩)) (by kernel_rfl) ?_
  go_frame
  refine wl_storec (by kernel_rfl) hM 1 rfl 2 _ _ rfl rfl 12 rfl (.int .i64 (clampI h.seen (-1) 100000)) rfl rfl rfl I_int64 (by simp [HD.cells]) ?_
  clear hM; intro W22 hM; replace hM : Mem w0 W22 [(g2, 36, (HD.cells HD.zero)), (g1, 36, (HD.cells { h with at_ := (clampI h.at_ 0 26), prev := (clampI h.prev 0 29), cur := (clampI h.cur 0 29), side := (clampI h.side 0 1), tag := (clampI h.tag 0 10000), up := (clampI h.up 0 29), next := (clampI h.next 0 29), new := (clampI h.new 0 29), index := (clampI h.index 0 6), seen := (clampI h.seen (-1) 100000) }))] := hM
  refine wl_nil ?_
  refine cn11 _ _ ?_
  clear cn11
  refine wp_seq_k fun Kn12 cn12 => ?_
  refine wl_region ?_
  refine wl_pure (by kernel_rfl) (.pointer (some ⟨g1, 14, none⟩)) (by kernel_rfl) ?_
  go_frame
  refine wl_loadc (by kernel_rfl) hM 1 rfl 2 _ rfl 14 rfl Try.underlying2 rfl rfl ?_
  go_frame
  refine wl_call (by kernel_rfl) 86 #[.int .i64 h.begin_, .int .i64 0, .int .i64 20000] (by kernel_rfl) (impl_drawn h.begin_ 0 20000 _) ?_
  rintro e W23 ⟨rfl, rfl⟩
  refine ⟨_, rfl, ?_⟩
  go_frame
  refine wl_pure (by kernel_rfl) (.pointer (some ⟨g1, 14, none⟩)) (by kernel_rfl) ?_
  go_frame
  refine wl_storec (by kernel_rfl) hM 1 rfl 2 _ _ rfl rfl 14 rfl (.int .i64 (clampI h.begin_ 0 20000)) rfl rfl rfl I_int64 (by simp [HD.cells]) ?_
  clear hM; intro W24 hM; replace hM : Mem w0 W24 [(g2, 36, (HD.cells HD.zero)), (g1, 36, (HD.cells { h with at_ := (clampI h.at_ 0 26), prev := (clampI h.prev 0 29), cur := (clampI h.cur 0 29), side := (clampI h.side 0 1), tag := (clampI h.tag 0 10000), up := (clampI h.up 0 29), next := (clampI h.next 0 29), new := (clampI h.new 0 29), index := (clampI h.index 0 6), seen := (clampI h.seen (-1) 100000), begin_ := (clampI h.begin_ 0 20000) }))] := hM
  refine wl_nil ?_
  refine cn12 _ _ ?_
  clear cn12
  refine wp_seq_k fun Kn13 cn13 => ?_
  refine wl_region ?_
  refine wl_pure (by kernel_rfl) (.pointer (some ⟨g1, 15, none⟩)) (by kernel_rfl) ?_
  go_frame
  refine wl_loadc (by kernel_rfl) hM 1 rfl 2 _ rfl 15 rfl Try.underlying2 rfl rfl ?_
  go_frame
  refine wl_call (by kernel_rfl) 86 #[.int .i64 h.reply, .int .i64 0, .int .i64 3] (by kernel_rfl) (impl_drawn h.reply 0 3 _) ?_
  rintro e W25 ⟨rfl, rfl⟩
  refine ⟨_, rfl, ?_⟩
  go_frame
  refine wl_pure (by kernel_rfl) (.pointer (some ⟨g1, 15, none⟩)) (by kernel_rfl) ?_
  go_frame
  refine wl_storec (by kernel_rfl) hM 1 rfl 2 _ _ rfl rfl 15 rfl (.int .i64 (clampI h.reply 0 3)) rfl rfl rfl I_int64 (by simp [HD.cells]) ?_
  clear hM; intro W26 hM; replace hM : Mem w0 W26 [(g2, 36, (HD.cells HD.zero)), (g1, 36, (HD.cells { h with at_ := (clampI h.at_ 0 26), prev := (clampI h.prev 0 29), cur := (clampI h.cur 0 29), side := (clampI h.side 0 1), tag := (clampI h.tag 0 10000), up := (clampI h.up 0 29), next := (clampI h.next 0 29), new := (clampI h.new 0 29), index := (clampI h.index 0 6), seen := (clampI h.seen (-1) 100000), begin_ := (clampI h.begin_ 0 20000), reply := (clampI h.reply 0 3) }))] := hM
  refine wl_nil ?_
  refine cn13 _ _ ?_
  clear cn13
  refine wp_seq_k fun Kn14 cn14 => ?_
  refine wl_region ?_
  refine wl_pure (by kernel_rfl) (.pointer (some ⟨g1, 16, none⟩)) (by kernel_rfl) ?_
  go_frame
  refine wl_loadc (by kernel_rfl) hM 1 rfl 2 _ rfl 16 rfl Try.underlying2 rfl rfl ?_
  go_frame
  refine wl_call (by kernel_rfl) 86 #[.int .i64 h.out, .int .i64 0, .int .i64 999] (by kernel_rfl) (impl_drawn h.out 0 999 _) ?_
  rintro e W27 ⟨rfl, rfl⟩
  refine ⟨_, rfl, ?_⟩
  go_frame
  refine wl_pure (by kernel_rfl) (.pointer (some ⟨g1, 16, none⟩)) (by kernel_rfl) ?_
  go_frame
  refine wl_storec (by kernel_rfl) hM 1 rfl 2 _ _ rfl rfl 16 rfl (.int .i64 (clampI h.out 0 999)) rfl rfl rfl I_int64 (by simp [HD.cells]) ?_
  clear hM; intro W28 hM; replace hM : Mem w0 W28 [(g2, 36, (HD.cells HD.zero)), (g1, 36, (HD.cells { h with at_ := (clampI h.at_ 0 26), prev := (clampI h.prev 0 29), cur := (clampI h.cur 0 29), side := (clampI h.side 0 1), tag := (clampI h.tag 0 10000), up := (clampI h.up 0 29), next := (clampI h.next 0 29), new := (clampI h.new 0 29), index := (clampI h.index 0 6), seen := (clampI h.seen (-1) 100000), begin_ := (clampI h.begin_ 0 20000), reply := (clampI h.reply 0 3), out := (clampI h.out 0 999) }))] := hM
  refine wl_nil ?_
  refine cn14 _ _ ?_
  clear cn14
  refine wp_seq_k fun Kn15 cn15 => ?_
  refine wl_region ?_
  refine wl_load (by kernel_rfl) hM 1 rfl 36 _ rfl rfl Try.underlying36 I_impl_Hand ?_
  go_frame
  refine wl_store (by kernel_rfl) hM 0 rfl 36 _ _ rfl rfl rfl (HD.cells { h with at_ := (clampI h.at_ 0 26), prev := (clampI h.prev 0 29), cur := (clampI h.cur 0 29), side := (clampI h.side 0 1), tag := (clampI h.tag 0 10000), up := (clampI h.up 0 29), next := (clampI h.next 0 29), new := (clampI h.new 0 29), index := (clampI h.index 0 6), seen := (clampI h.seen (-1) 100000), begin_ := (clampI h.begin_ 0 20000), reply := (clampI h.reply 0 3), out := (clampI h.out 0 999) }) rfl I_impl_Hand rfl (hd_one' _) ?_
  clear hM; intro W29 hM; replace hM : Mem w0 W29 [(g2, 36, (HD.cells { h with at_ := (clampI h.at_ 0 26), prev := (clampI h.prev 0 29), cur := (clampI h.cur 0 29), side := (clampI h.side 0 1), tag := (clampI h.tag 0 10000), up := (clampI h.up 0 29), next := (clampI h.next 0 29), new := (clampI h.new 0 29), index := (clampI h.index 0 6), seen := (clampI h.seen (-1) 100000), begin_ := (clampI h.begin_ 0 20000), reply := (clampI h.reply 0 3), out := (clampI h.out 0 999) })), (g1, 36, (HD.cells { h with at_ := (clampI h.at_ 0 26), prev := (clampI h.prev 0 29), cur := (clampI h.cur 0 29), side := (clampI h.side 0 1), tag := (clampI h.tag 0 10000), up := (clampI h.up 0 29), next := (clampI h.next 0 29), new := (clampI h.new 0 29), index := (clampI h.index 0 6), seen := (clampI h.seen (-1) 100000), begin_ := (clampI h.begin_ 0 20000), reply := (clampI h.reply 0 3), out := (clampI h.out 0 999) }))] := hM
  refine wl_nil ?_
  refine cn15 _ _ ?_
  clear cn15
  refine wp_ret ?_
  exact bodyPost_ret (ret_row rfl hM 0 rfl rfl Try.underlying36 I_impl_Hand) rfl ⟨congrArg (fun z => Ending.returned (Value.agg (HD.cells z).toArray)) (show { h with at_ := (clampI h.at_ 0 26), prev := (clampI h.prev 0 29), cur := (clampI h.cur 0 29), side := (clampI h.side 0 1), tag := (clampI h.tag 0 10000), up := (clampI h.up 0 29), next := (clampI h.next 0 29), new := (clampI h.new 0 29), index := (clampI h.index 0 6), seen := (clampI h.seen (-1) 100000), begin_ := (clampI h.begin_ 0 20000), reply := (clampI h.reply 0 3), out := (clampI h.out 0 999) } = clampH h from by simp [clampH]), hM.below⟩

set_option maxRecDepth 100000 in
set_option maxHeartbeats 4000000 in
theorem impl_hasRightCall (h : HD) (w0 : World) :
    Calls Try.prog 79 #[h.val] w0 fun e w' => e = .returned (.bool (callB h.c h.k h.v || (h.at_ == 0 && noneB h.c h.k h.v))) ∧ Below w0.heap.size w0 w' := by
  unfold HD.val
  have hM := Mem.start w0
  go_enter Try.func79, Try.ntmps79
  refine wp_seq_k fun Kn1 cn1 => ?_
  refine wl_region ?_
  refine wl_box (by kernel_rfl) hM 36 _ rfl (HD.cells h) rfl ?_
  clear hM; intro g1 W1 hM
  go_frame
  refine wl_pure (by kernel_rfl) (.bool false) (by kernel_rfl) ?_
  go_frame
  refine wl_nil ?_
  refine cn1 _ _ ?_
  clear cn1
  refine wp_seq_k fun Kn2 cn2 => ?_
  rcases Bool.eq_false_or_eq_true ((callB h.c h.k h.v)) with hx1 | hx1
  · refine wl_region ?_
    refine wl_pure (by kernel_rfl) (.pointer (some ⟨g1, 1, none⟩)) (by kernel_rfl) ?_
    go_frame
    refine wl_part (by kernel_rfl) hM 0 rfl 34 _ rfl 1 rfl Try.underlying34 [.int .i64 h.c, .int .i64 h.k, .int .i64 h.v] I_impl_Call rfl ?_
    go_frame
    refine wl_call (by kernel_rfl) 88 #[.agg #[.int .i64 h.c, .int .i64 h.k, .int .i64 h.v]] (by kernel_rfl) (impl_CallOk h.c h.k h.v _) ?_
    rintro e W2 ⟨rfl, hb⟩
    refine ⟨.bool true, congrArg (fun b => Ending.returned (.bool b)) hx1, ?_⟩
    replace hM := hM.call hb
    go_frame
    refine wl_pure (by kernel_rfl) (.bool true) (by kernel_rfl) ?_
    go_frame
    refine wl_skip (by kernel_rfl) ?_
    go_frame
    refine wl_skip (by kernel_rfl) ?_
    go_frame
    refine wl_skip (by kernel_rfl) ?_
    go_frame
    refine wl_skip (by kernel_rfl) ?_
    go_frame
    refine wl_skip (by kernel_rfl) ?_
    go_frame
    refine wl_skip (by kernel_rfl) ?_
    go_frame
    refine wl_skip (by kernel_rfl) ?_
    go_frame
    refine wl_skip (by kernel_rfl) ?_
    go_frame
    refine wl_skip (by kernel_rfl) ?_
    go_frame
    refine wl_pure (by kernel_rfl) (.bool true) (by kernel_rfl) ?_
    go_frame
    refine wl_pure (by kernel_rfl) (.bool true) (by kernel_rfl) ?_
    go_frame
    refine wl_nil ?_
    refine cn2 _ _ ?_
    clear cn2
    refine wp_ret ?_
    exact bodyPost_ret (v := .bool true) (ret_tmp 2 rfl rfl) rfl ⟨ret_b (show true = (callB h.c h.k h.v || (h.at_ == 0 && noneB h.c h.k h.v)) from by simp [noneB, clEq, Bool.and_assoc, hx1]), hM.below⟩
  · rcases Bool.eq_false_or_eq_true ((h.at_ == 0)) with hx2 | hx2
    · refine wl_region ?_
      refine wl_pure (by kernel_rfl) (.pointer (some ⟨g1, 1, none⟩)) (by kernel_rfl) ?_
      go_frame
      refine wl_part (by kernel_rfl) hM 0 rfl 34 _ rfl 1 rfl Try.underlying34 [.int .i64 h.c, .int .i64 h.k, .int .i64 h.v] I_impl_Call rfl ?_
      go_frame
      refine wl_call (by kernel_rfl) 88 #[.agg #[.int .i64 h.c, .int .i64 h.k, .int .i64 h.v]] (by kernel_rfl) (impl_CallOk h.c h.k h.v _) ?_
      rintro e W2 ⟨rfl, hb⟩
      refine ⟨.bool false, congrArg (fun b => Ending.returned (.bool b)) hx1, ?_⟩
      replace hM := hM.call hb
      go_frame
      refine wl_pure (by kernel_rfl) (.bool false) (by kernel_rfl) ?_
      go_frame
      refine wl_pure (by kernel_rfl) (.pointer (some ⟨g1, 0, none⟩)) (by kernel_rfl) ?_
      go_frame
      refine wl_loadc (by kernel_rfl) hM 0 rfl 2 _ rfl 0 rfl Try.underlying2 rfl rfl ?_
      go_frame
      refine wl_pureB (by kernel_rfl) (b := (h.at_ == 0)) (by kernel_rfl) (hx2) ?_
      go_frame
      refine wl_pure (by kernel_rfl) (.bool true) (by kernel_rfl) ?_
      go_frame
      refine wl_pure (by kernel_rfl) (.pointer (some ⟨g1, 1, none⟩)) (by kernel_rfl) ?_
      go_frame
      refine wl_part (by kernel_rfl) hM 0 rfl 34 _ rfl 1 rfl Try.underlying34 [.int .i64 h.c, .int .i64 h.k, .int .i64 h.v] I_impl_Call rfl ?_
      go_frame
      refine wl_pure (by kernel_rfl) (.agg #[.int .i64 0, .int .i64 0, .int .i64 0]) (by kernel_rfl) ?_
      go_frame
      refine wl_pure (by kernel_rfl) (.bool (clEq h.c h.k h.v 0 0 0)) (cl_eql h.c h.k h.v 0 0 0 rfl rfl rfl) ?_
      go_frame
      refine wl_pure (by kernel_rfl) (.bool (clEq h.c h.k h.v 0 0 0)) (by kernel_rfl) ?_
      go_frame
      refine wl_pure (by kernel_rfl) (.bool (clEq h.c h.k h.v 0 0 0)) (by kernel_rfl) ?_
      go_frame
      refine wl_pure (by kernel_rfl) (.bool (clEq h.c h.k h.v 0 0 0)) (by kernel_rfl) ?_
      go_frame
      refine wl_nil ?_
      refine cn2 _ _ ?_
      clear cn2
      refine wp_ret ?_
      exact bodyPost_ret (v := .bool (clEq h.c h.k h.v 0 0 0)) (ret_tmp 2 rfl rfl) rfl ⟨ret_b (show (clEq h.c h.k h.v 0 0 0) = (callB h.c h.k h.v || (h.at_ == 0 && noneB h.c h.k h.v)) from by simp [noneB, clEq, Bool.and_assoc, hx1, hx2]), hM.below⟩
    · refine wl_region ?_
      refine wl_pure (by kernel_rfl) (.pointer (some ⟨g1, 1, none⟩)) (by kernel_rfl) ?_
      go_frame
      refine wl_part (by kernel_rfl) hM 0 rfl 34 _ rfl 1 rfl Try.underlying34 [.int .i64 h.c, .int .i64 h.k, .int .i64 h.v] I_impl_Call rfl ?_
      go_frame
      refine wl_call (by kernel_rfl) 88 #[.agg #[.int .i64 h.c, .int .i64 h.k, .int .i64 h.v]] (by kernel_rfl) (impl_CallOk h.c h.k h.v _) ?_
      rintro e W2 ⟨rfl, hb⟩
      refine ⟨.bool false, congrArg (fun b => Ending.returned (.bool b)) hx1, ?_⟩
      replace hM := hM.call hb
      go_frame
      refine wl_pure (by kernel_rfl) (.bool false) (by kernel_rfl) ?_
      go_frame
      refine wl_pure (by kernel_rfl) (.pointer (some ⟨g1, 0, none⟩)) (by kernel_rfl) ?_
      go_frame
      refine wl_loadc (by kernel_rfl) hM 0 rfl 2 _ rfl 0 rfl Try.underlying2 rfl rfl ?_
      go_frame
      refine wl_pureB (by kernel_rfl) (b := (h.at_ == 0)) (by kernel_rfl) (hx2) ?_
      go_frame
      refine wl_pure (by kernel_rfl) (.bool false) (by kernel_rfl) ?_
      go_frame
      refine wl_skip (by kernel_rfl) ?_
      go_frame
      refine wl_skip (by kernel_rfl) ?_
      go_frame
      refine wl_skip (by kernel_rfl) ?_
      go_frame
      refine wl_skip (by kernel_rfl) ?_
      go_frame
      refine wl_pure (by kernel_rfl) (.bool false) (by kernel_rfl) ?_
      go_frame
      refine wl_pure (by kernel_rfl) (.bool false) (by kernel_rfl) ?_
      go_frame
      refine wl_pure (by kernel_rfl) (.bool false) (by kernel_rfl) ?_
      go_frame
      refine wl_nil ?_
      refine cn2 _ _ ?_
      clear cn2
      refine wp_ret ?_
      exact bodyPost_ret (v := .bool false) (ret_tmp 2 rfl rfl) rfl ⟨ret_b (show false = (callB h.c h.k h.v || (h.at_ == 0 && noneB h.c h.k h.v)) from by simp [noneB, clEq, Bool.and_assoc, hx1, hx2]), hM.below⟩

set_option maxRecDepth 100000 in
set_option maxHeartbeats 4000000 in
theorem impl_HandOk (h : HD) (w0 : World) :
    Calls Try.prog 67 #[h.val] w0 fun e w' => e = .returned (.bool (handB h)) ∧ Below w0.heap.size w0 w' := by
  unfold HD.val
  have hM := Mem.start w0
  go_enter Try.func67, Try.ntmps67
  refine wp_seq_k fun Kn1 cn1 => ?_
  refine wl_region ?_
  refine wl_box (by kernel_rfl) hM 36 _ rfl (HD.cells h) rfl ?_
  clear hM; intro g1 W1 hM
  go_frame
  refine wl_pure (by kernel_rfl) (.bool false) (by kernel_rfl) ?_
  go_frame
  refine wl_nil ?_
  refine cn1 _ _ ?_
  clear cn1
  refine wp_seq_k fun Kn2 cn2 => ?_
  rcases Bool.eq_false_or_eq_true ((hdEq h (clampH h))) with hx1 | hx1
  · -- region 1, drawn: 8, then 1
    refine wp_region_vals 8 (fun f => ⟨#[.agg (HD.cells h).toArray, .pointer (some ⟨g1, 0, none⟩), .bool false, f 0, f 1, f 2, f 3, f 4, f 5, f 6, f 7], []⟩) [.agg (HD.cells h).toArray, .agg (HD.cells h).toArray, .agg (HD.cells (clampH h)).toArray, .bool true, .bool true, .agg (HD.cells h).toArray, .bool (callB h.c h.k h.v || (h.at_ == 0 && noneB h.c h.k h.v)), .bool (callB h.c h.k h.v || (h.at_ == 0 && noneB h.c h.k h.v))] (fun f w => Mem w0 w [(g1, 36, (HD.cells h))]) ⟨#[.agg (HD.cells h).toArray, .pointer (some ⟨g1, 0, none⟩), .bool false, .agg (HD.cells h).toArray, .agg (HD.cells h).toArray, .agg (HD.cells (clampH h)).toArray, .bool true, .bool true, .agg (HD.cells h).toArray, .bool (callB h.c h.k h.v || (h.at_ == 0 && noneB h.c h.k h.v)), .bool (callB h.c h.k h.v || (h.at_ == 0 && noneB h.c h.k h.v))], []⟩ (fun _ => undef) (by kernel_rfl) (by kernel_rfl) (by kernel_rfl) (by kernel_rfl) rfl (fun f => rfl) hM.drew ⟨
      step_same [] (.agg (HD.cells h).toArray) (by kernel_rfl) rfl (fun f => by kernel_rfl) (fun f w K hM hK => m_load hM 0 rfl 36 _ rfl rfl Try.underlying36 I_impl_Hand (hK)) (fun f => rfl) (fun f w h => h),
      step_same [] (.agg (HD.cells h).toArray) (by kernel_rfl) rfl (fun f => by kernel_rfl) (fun f w K hM hK => m_load hM 0 rfl 36 _ rfl rfl Try.underlying36 I_impl_Hand (hK)) (fun f => rfl) (fun f w h => h),
      step_call [1] (.agg (HD.cells (clampH h)).toArray) (by kernel_rfl) rfl (fun f => by kernel_rfl) (fun f w K hM hK => m_call 78 #[.agg (HD.cells h).toArray] (by kernel_rfl) (impl_withinLimits h _) (fun e w' hs => by obtain ⟨rfl, hb⟩ := hs; exact ⟨_, rfl, hK _ (Mem.call hM hb)⟩)) (fun f => rfl) (fun f w h => h),
      step_same [0, 2] (.bool true) (by kernel_rfl) rfl (fun f => by kernel_rfl) (fun f w K hM hK => m_pureB (b := (hdEq h (clampH h))) (hd_eql h (clampH h) rfl rfl rfl) (hx1) (hK)) (fun f => rfl) (fun f w h => h),
      step_same [2, 3] (.bool true) (by kernel_rfl) rfl (fun f => by kernel_rfl) (fun f w K hM hK => m_pure (.bool true) (by kernel_rfl) (hK)) (fun f => rfl) (fun f w h => h),
      step_same [4] (.agg (HD.cells h).toArray) (by kernel_rfl) rfl (fun f => by kernel_rfl) (fun f w K hM hK => m_load hM 0 rfl 36 _ rfl rfl Try.underlying36 I_impl_Hand (hK)) (fun f => rfl) (fun f w h => h),
      step_call [4, 5] (.bool (callB h.c h.k h.v || (h.at_ == 0 && noneB h.c h.k h.v))) (by kernel_rfl) rfl (fun f => by kernel_rfl) (fun f w K hM hK => m_call 79 #[.agg (HD.cells h).toArray] (by kernel_rfl) (impl_hasRightCall h _) (fun e w' hs => by obtain ⟨rfl, hb⟩ := hs; exact ⟨_, rfl, hK _ (Mem.call hM hb)⟩)) (fun f => rfl) (fun f w h => h),
      step_same [4, 6] (.bool (callB h.c h.k h.v || (h.at_ == 0 && noneB h.c h.k h.v))) (by kernel_rfl) rfl (fun f => by kernel_rfl) (fun f w K hM hK => m_pure (.bool (callB h.c h.k h.v || (h.at_ == 0 && noneB h.c h.k h.v))) (by kernel_rfl) (hK)) (fun f => rfl) (fun f w h => h),
      trivial⟩ ?_
    clear hM; intro f w' hM
    replace hM : Mem w0 w' [(g1, 36, (HD.cells h))] := hM
    clear f
    refine WL.out ?_
    simp only [List.drop_succ_cons, List.drop_zero]
    refine wl_pure (by kernel_rfl) (.bool (callB h.c h.k h.v || (h.at_ == 0 && noneB h.c h.k h.v))) (by kernel_rfl) ?_
    go_frame
    refine wl_nil ?_
    refine cn2 _ _ ?_
    clear cn2
    refine wp_ret ?_
    exact bodyPost_ret (v := .bool (callB h.c h.k h.v || (h.at_ == 0 && noneB h.c h.k h.v))) (ret_tmp 2 rfl rfl) rfl ⟨ret_b (by first | exact (handB_no (by assumption)).symm | exact (handB_yes (by assumption)).symm), hM.below⟩
  · -- region 1, drawn: 8, then 1
    refine wp_region_vals 8 (fun f => ⟨#[.agg (HD.cells h).toArray, .pointer (some ⟨g1, 0, none⟩), .bool false, f 0, f 1, f 2, f 3, f 4, f 5, f 6, f 7], []⟩) [.agg (HD.cells h).toArray, .agg (HD.cells h).toArray, .agg (HD.cells (clampH h)).toArray, .bool false, .bool false, undef, undef, .bool false] (fun f w => Mem w0 w [(g1, 36, (HD.cells h))]) ⟨#[.agg (HD.cells h).toArray, .pointer (some ⟨g1, 0, none⟩), .bool false, .agg (HD.cells h).toArray, .agg (HD.cells h).toArray, .agg (HD.cells (clampH h)).toArray, .bool false, .bool false, undef, undef, .bool false], []⟩ (fun _ => undef) (by kernel_rfl) (by kernel_rfl) (by kernel_rfl) (by kernel_rfl) rfl (fun f => rfl) hM.drew ⟨
      step_same [] (.agg (HD.cells h).toArray) (by kernel_rfl) rfl (fun f => by kernel_rfl) (fun f w K hM hK => m_load hM 0 rfl 36 _ rfl rfl Try.underlying36 I_impl_Hand (hK)) (fun f => rfl) (fun f w h => h),
      step_same [] (.agg (HD.cells h).toArray) (by kernel_rfl) rfl (fun f => by kernel_rfl) (fun f w K hM hK => m_load hM 0 rfl 36 _ rfl rfl Try.underlying36 I_impl_Hand (hK)) (fun f => rfl) (fun f w h => h),
      step_call [1] (.agg (HD.cells (clampH h)).toArray) (by kernel_rfl) rfl (fun f => by kernel_rfl) (fun f w K hM hK => m_call 78 #[.agg (HD.cells h).toArray] (by kernel_rfl) (impl_withinLimits h _) (fun e w' hs => by obtain ⟨rfl, hb⟩ := hs; exact ⟨_, rfl, hK _ (Mem.call hM hb)⟩)) (fun f => rfl) (fun f w h => h),
      step_same [0, 2] (.bool false) (by kernel_rfl) rfl (fun f => by kernel_rfl) (fun f w K hM hK => m_pureB (b := (hdEq h (clampH h))) (hd_eql h (clampH h) rfl rfl rfl) (hx1) (hK)) (fun f => rfl) (fun f w h => h),
      step_same [2, 3] (.bool false) (by kernel_rfl) rfl (fun f => by kernel_rfl) (fun f w K hM hK => m_pure (.bool false) (by kernel_rfl) (hK)) (fun f => rfl) (fun f w h => h),
      step_none [4] undef (by kernel_rfl) rfl (fun f => by kernel_rfl) (fun f => rfl) (fun f w h => h),
      step_none [4, 5] undef (by kernel_rfl) rfl (fun f => by kernel_rfl) (fun f => rfl) (fun f w h => h),
      step_same [4, 6] (.bool false) (by kernel_rfl) rfl (fun f => by kernel_rfl) (fun f w K hM hK => m_pure (.bool false) (by kernel_rfl) (hK)) (fun f => rfl) (fun f w h => h),
      trivial⟩ ?_
    clear hM; intro f w' hM
    replace hM : Mem w0 w' [(g1, 36, (HD.cells h))] := hM
    clear f
    refine WL.out ?_
    simp only [List.drop_succ_cons, List.drop_zero]
    refine wl_pure (by kernel_rfl) (.bool false) (by kernel_rfl) ?_
    go_frame
    refine wl_nil ?_
    refine cn2 _ _ ?_
    clear cn2
    refine wp_ret ?_
    exact bodyPost_ret (v := .bool false) (ret_tmp 2 rfl rfl) rfl ⟨ret_b (by first | exact (handB_no (by assumption)).symm | exact (handB_yes (by assumption)).symm), hM.below⟩

end Go.Proofs.Ythllpgjggmdmmaa
