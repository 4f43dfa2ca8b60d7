/- Hands: what the program answers. -/
import Derived.Test.YtagekbdngjkfeaaShort
import Derived.Test.YtagekbdngjkfeaaStructEq
import Derived.Test.YtagekbdngjkfeaaCallImpl
import Derived.Test.YtagekbdngjkfeaaHand2
import Derived.Test.YtagekbdngjkfeaaReads
namespace Go.Proofs.Ytagekbdngjkfeaa
open Go.ChangeShapes Go.WideShapes Go.ChangeAt Go.RowKit
set_option linter.unusedVariables false
set_option maxRecDepth 100000
set_option maxHeartbeats 16000000
set_option linter.unusedSimpArgs false

def clampI (n lo hi : Int) : Int := min (max n lo) hi
theorem clampI_eq {n lo hi : Int} (h : lo ≤ hi) : (n == clampI n lo hi) = inB n lo hi := by
  unfold clampI inB
  rw [Bool.eq_iff_iff]
  simp only [beq_iff_eq, Bool.and_eq_true, decide_eq_true_eq]
  omega
def clampH (h : HD) : HD := { h with at_ := clampI h.at_ 0 26, prev := clampI h.prev 0 29, cur := clampI h.cur 0 29, side := clampI h.side 0 1, tag := clampI h.tag 0 10000, up := clampI h.up 0 29, next := clampI h.next 0 29, new := clampI h.new 0 29, index := clampI h.index 0 6, seen := clampI h.seen (-1) 100000, begin_ := clampI h.begin_ 0 20000, reply := clampI h.reply 0 3, out := clampI h.out 0 999 }
theorem handB_clamp (h : HD) : (hdEq h (clampH h) && (callB h.c h.k h.v || (h.at_ == 0 && noneB h.c h.k h.v))) = handB h := by
  simp only [hdEq, clampH, clampI_eq (n := h.at_) (lo := 0) (hi := 26) (by omega), clampI_eq (lo := 0) (hi := 29) (by omega), clampI_eq (lo := 0) (hi := 1) (by omega), clampI_eq (lo := 0) (hi := 10000) (by omega), clampI_eq (lo := 0) (hi := 6) (by omega), clampI_eq (lo := -1) (hi := 100000) (by omega), clampI_eq (lo := 0) (hi := 20000) (by omega), clampI_eq (lo := 0) (hi := 3) (by omega), clampI_eq (lo := 0) (hi := 999) (by omega), beq_self_eq_true, Bool.and_true, Bool.true_and, handB, headB, five, handL, List.all_cons, List.all_nil]
  rw [Bool.eq_iff_iff]
  simp only [Bool.and_eq_true, Bool.or_eq_true]
  constructor
  · intro hh
    simp_all
  · intro hh
    simp_all
theorem handB_no {h : HD} (e : hdEq h (clampH h) = false) : handB h = false := by rw [← handB_clamp, e]; rfl
theorem handB_yes {h : HD} (e : hdEq h (clampH h) = true) : handB h = (callB h.c h.k h.v || (h.at_ == 0 && noneB h.c h.k h.v)) := by rw [← handB_clamp, e]; rfl

theorem impl_drawn (n lo hi : Int) (w : World) :
    Calls Try.prog 35 #[.int .i64 n, .int .i64 lo, .int .i64 hi] w fun e w' => e = .returned (.int .i64 (clampI n lo hi)) ∧ w = w' := by
  go_enter Try.func35, Try.ntmps35
  go_wp2
  go_ret
  exact ⟨rfl, rfl⟩
theorem impl_drawnToNode (n : Int) (w : World) :
    Calls Try.prog 36 #[.int .i64 n] w fun e w' => e = .returned (.int .i64 (clampI n 0 29)) ∧ w = w' := by
  go_enter Try.func36, Try.ntmps36
  go_wp2_with fail
  refine (impl_drawn _ _ _ _).mono ?_
  rintro e w1 ⟨rfl, rfl⟩
  go_wp2
  go_ret
  exact ⟨rfl, rfl⟩

theorem impl_withinLimits (h : HD) (w0 : World) :
    Calls Try.prog 22 #[h.val] w0 fun e w' => e = .returned (clampH h).val ∧ Below w0.heap.size w0 w' := by
  unfold HD.val
  have hM := Mem.start w0
  go_enter Try.func22, Try.ntmps22
  refine wp_seq_k fun _ cn1 => wl_region ?_
  refine nx hM 27 (HD.cells h) ?_
  clear hM; intro g1 W1 hM
  refine na hM (HD.cells HD.zero) Z_impl_Hand ?_
  clear hM; intro g2 W2 hM
  go_frame
  refine wl_nil (cn1 _ _ ?_)
  clear cn1
  refine wp_seq_k fun _ cn2 => wl_region ?_
  refine np (.pointer (some ⟨g1, 0, none⟩)) ?_
  refine ng hM 1 rfl 0 Try.underlying2 rfl ?_
  refine nc (impl_drawn h.at_ 0 26 _) ?_
  rintro e W3 ⟨rfl, rfl⟩
  refine ⟨_, rfl, ?_⟩
  go_frame
  refine np (.pointer (some ⟨g1, 0, none⟩)) ?_
  refine nk hM 1 rfl 0 (.int .i64 (clampI h.at_ 0 26)) I_int64 (by simp [HD.cells, splice_len]) ?_
  clear hM; intro W4 hM
  refine wl_nil (cn2 _ _ ?_)
  clear cn2
  refine wp_seq_k fun _ cn3 => wl_region ?_
  refine np (.pointer (some ⟨g1, 4, none⟩)) ?_
  refine ng hM 1 rfl 4 Try.underlying2 rfl ?_
  refine nc (impl_drawnToNode h.prev _) ?_
  rintro e W5 ⟨rfl, rfl⟩
  refine ⟨_, rfl, ?_⟩
  go_frame
  refine np (.pointer (some ⟨g1, 4, none⟩)) ?_
  refine nk hM 1 rfl 4 (.int .i64 (clampI h.prev 0 29)) I_int64 (by simp [HD.cells, splice_len]) ?_
  clear hM; intro W6 hM
  refine wl_nil (cn3 _ _ ?_)
  clear cn3
  refine wp_seq_k fun _ cn4 => wl_region ?_
  refine np (.pointer (some ⟨g1, 5, none⟩)) ?_
  refine ng hM 1 rfl 5 Try.underlying2 rfl ?_
  refine nc (impl_drawnToNode h.cur _) ?_
  rintro e W7 ⟨rfl, rfl⟩
  refine ⟨_, rfl, ?_⟩
  go_frame
  refine np (.pointer (some ⟨g1, 5, none⟩)) ?_
  refine nk hM 1 rfl 5 (.int .i64 (clampI h.cur 0 29)) I_int64 (by simp [HD.cells, splice_len]) ?_
  clear hM; intro W8 hM
  refine wl_nil (cn4 _ _ ?_)
  clear cn4
  refine wp_seq_k fun _ cn5 => wl_region ?_
  refine np (.pointer (some ⟨g1, 6, none⟩)) ?_
  refine ng hM 1 rfl 6 Try.underlying2 rfl ?_
  refine nc (impl_drawn h.side 0 1 _) ?_
  rintro e W9 ⟨rfl, rfl⟩
  refine ⟨_, rfl, ?_⟩
  go_frame
  refine np (.pointer (some ⟨g1, 6, none⟩)) ?_
  refine nk hM 1 rfl 6 (.int .i64 (clampI h.side 0 1)) I_int64 (by simp [HD.cells, splice_len]) ?_
  clear hM; intro W10 hM
  refine wl_nil (cn5 _ _ ?_)
  clear cn5
  refine wp_seq_k fun _ cn6 => wl_region ?_
  refine np (.pointer (some ⟨g1, 7, none⟩)) ?_
  refine ng hM 1 rfl 7 Try.underlying2 rfl ?_
  refine nc (impl_drawn h.tag 0 10000 _) ?_
  rintro e W11 ⟨rfl, rfl⟩
  refine ⟨_, rfl, ?_⟩
  go_frame
  refine np (.pointer (some ⟨g1, 7, none⟩)) ?_
  refine nk hM 1 rfl 7 (.int .i64 (clampI h.tag 0 10000)) I_int64 (by simp [HD.cells, splice_len]) ?_
  clear hM; intro W12 hM
  refine wl_nil (cn6 _ _ ?_)
  clear cn6
  refine wp_seq_k fun _ cn7 => wl_region ?_
  refine np (.pointer (some ⟨g1, 8, none⟩)) ?_
  refine ng hM 1 rfl 8 Try.underlying2 rfl ?_
  refine nc (impl_drawnToNode h.up _) ?_
  rintro e W13 ⟨rfl, rfl⟩
  refine ⟨_, rfl, ?_⟩
  go_frame
  refine np (.pointer (some ⟨g1, 8, none⟩)) ?_
  refine nk hM 1 rfl 8 (.int .i64 (clampI h.up 0 29)) I_int64 (by simp [HD.cells, splice_len]) ?_
  clear hM; intro W14 hM
  refine wl_nil (cn7 _ _ ?_)
  clear cn7
  refine wp_seq_k fun _ cn8 => wl_region ?_
  refine np (.pointer (some ⟨g1, 9, none⟩)) ?_
  refine ng hM 1 rfl 9 Try.underlying2 rfl ?_
  refine nc (impl_drawnToNode h.next _) ?_
  rintro e W15 ⟨rfl, rfl⟩
  refine ⟨_, rfl, ?_⟩
  go_frame
  refine np (.pointer (some ⟨g1, 9, none⟩)) ?_
  refine nk hM 1 rfl 9 (.int .i64 (clampI h.next 0 29)) I_int64 (by simp [HD.cells, splice_len]) ?_
  clear hM; intro W16 hM
  refine wl_nil (cn8 _ _ ?_)
  clear cn8
  refine wp_seq_k fun _ cn9 => wl_region ?_
  refine np (.pointer (some ⟨g1, 10, none⟩)) ?_
  refine ng hM 1 rfl 10 Try.underlying2 rfl ?_
  refine nc (impl_drawnToNode h.new _) ?_
  rintro e W17 ⟨rfl, rfl⟩
  refine ⟨_, rfl, ?_⟩
  go_frame
  refine np (.pointer (some ⟨g1, 10, none⟩)) ?_
  refine nk hM 1 rfl 10 (.int .i64 (clampI h.new 0 29)) I_int64 (by simp [HD.cells, splice_len]) ?_
  clear hM; intro W18 hM
  refine wl_nil (cn9 _ _ ?_)
  clear cn9
  refine wp_seq_k fun _ cn10 => wl_region ?_
  refine np (.pointer (some ⟨g1, 11, none⟩)) ?_
  refine ng hM 1 rfl 11 Try.underlying2 rfl ?_
  refine nc (impl_drawn h.index 0 6 _) ?_
  rintro e W19 ⟨rfl, rfl⟩
  refine ⟨_, rfl, ?_⟩
  go_frame
  refine np (.pointer (some ⟨g1, 11, none⟩)) ?_
  refine nk hM 1 rfl 11 (.int .i64 (clampI h.index 0 6)) I_int64 (by simp [HD.cells, splice_len]) ?_
  clear hM; intro W20 hM
  refine wl_nil (cn10 _ _ ?_)
  clear cn10
  refine wp_seq_k fun _ cn11 => wl_region ?_
  refine np (.pointer (some ⟨g1, 12, none⟩)) ?_
  refine ng hM 1 rfl 12 Try.underlying2 rfl ?_
  refine nc (impl_drawn h.seen (-1) 100000 _) ?_
  rintro e W21 ⟨rfl, rfl⟩
  refine ⟨_, rfl, ?_⟩
  go_frame
  refine np (.pointer (some ⟨g1, 12, none⟩)) ?_
  refine nk hM 1 rfl 12 (.int .i64 (clampI h.seen (-1) 100000)) I_int64 (by simp [HD.cells, splice_len]) ?_
  clear hM; intro W22 hM
  refine wl_nil (cn11 _ _ ?_)
  clear cn11
  refine wp_seq_k fun _ cn12 => wl_region ?_
  refine np (.pointer (some ⟨g1, 14, none⟩)) ?_
  refine ng hM 1 rfl 14 Try.underlying2 rfl ?_
  refine nc (impl_drawn h.begin_ 0 20000 _) ?_
  rintro e W23 ⟨rfl, rfl⟩
  refine ⟨_, rfl, ?_⟩
  go_frame
  refine np (.pointer (some ⟨g1, 14, none⟩)) ?_
  refine nk hM 1 rfl 14 (.int .i64 (clampI h.begin_ 0 20000)) I_int64 (by simp [HD.cells, splice_len]) ?_
  clear hM; intro W24 hM
  refine wl_nil (cn12 _ _ ?_)
  clear cn12
  refine wp_seq_k fun _ cn13 => wl_region ?_
  refine np (.pointer (some ⟨g1, 15, none⟩)) ?_
  refine ng hM 1 rfl 15 Try.underlying2 rfl ?_
  refine nc (impl_drawn h.reply 0 3 _) ?_
  rintro e W25 ⟨rfl, rfl⟩
  refine ⟨_, rfl, ?_⟩
  go_frame
  refine np (.pointer (some ⟨g1, 15, none⟩)) ?_
  refine nk hM 1 rfl 15 (.int .i64 (clampI h.reply 0 3)) I_int64 (by simp [HD.cells, splice_len]) ?_
  clear hM; intro W26 hM
  refine wl_nil (cn13 _ _ ?_)
  clear cn13
  refine wp_seq_k fun _ cn14 => wl_region ?_
  refine np (.pointer (some ⟨g1, 16, none⟩)) ?_
  refine ng hM 1 rfl 16 Try.underlying2 rfl ?_
  refine nc (impl_drawn h.out 0 999 _) ?_
  rintro e W27 ⟨rfl, rfl⟩
  refine ⟨_, rfl, ?_⟩
  go_frame
  refine np (.pointer (some ⟨g1, 16, none⟩)) ?_
  refine nk hM 1 rfl 16 (.int .i64 (clampI h.out 0 999)) I_int64 (by simp [HD.cells, splice_len]) ?_
  clear hM; intro W28 hM
  refine wl_nil (cn14 _ _ ?_)
  clear cn14
  refine wp_seq_k fun _ cn15 => wl_region ?_
  refine nl hM 1 rfl Try.underlying27 I_impl_Hand ?_
  refine nS hM 0 rfl (HD.cells { h with at_ := (clampI h.at_ 0 26), prev := (clampI h.prev 0 29), cur := (clampI h.cur 0 29), side := (clampI h.side 0 1), tag := (clampI h.tag 0 10000), up := (clampI h.up 0 29), next := (clampI h.next 0 29), new := (clampI h.new 0 29), index := (clampI h.index 0 6), seen := (clampI h.seen (-1) 100000), begin_ := (clampI h.begin_ 0 20000), reply := (clampI h.reply 0 3), out := (clampI h.out 0 999) }) I_impl_Hand (hd_one' _) ?_
  clear hM; intro W29 hM
  refine wl_nil (cn15 _ _ ?_)
  clear cn15
  refine wp_ret ?_
  exact bodyPost_ret (ret_row rfl hM 0 rfl rfl Try.underlying27 I_impl_Hand) rfl ⟨congrArg (fun z => Ending.returned (Value.agg (HD.cells z).toArray)) (show { h with at_ := (clampI h.at_ 0 26), prev := (clampI h.prev 0 29), cur := (clampI h.cur 0 29), side := (clampI h.side 0 1), tag := (clampI h.tag 0 10000), up := (clampI h.up 0 29), next := (clampI h.next 0 29), new := (clampI h.new 0 29), index := (clampI h.index 0 6), seen := (clampI h.seen (-1) 100000), begin_ := (clampI h.begin_ 0 20000), reply := (clampI h.reply 0 3), out := (clampI h.out 0 999) } = clampH h from by simp [clampH]), hM.below⟩

theorem impl_Resting (r o : Int) (w0 : World) :
    Calls Try.prog 12 #[.int .i64 r, .int .i64 o] w0 fun e w' => e = .returned (restH r o).val ∧ Below w0.heap.size w0 w' := by
  unfold HD.val
  have hM := Mem.start w0
  go_enter Try.func12, Try.ntmps12
  refine wp_seq_k fun _ cn1 => wl_region ?_
  refine na hM (HD.cells HD.zero) Z_impl_Hand ?_
  clear hM; intro g1 W1 hM
  go_frame
  refine wl_nil (cn1 _ _ ?_)
  clear cn1
  refine wp_seq_k fun _ cn2 => wl_region ?_
  refine np (.int .i64 r) ?_
  refine np (.int .i64 o) ?_
  refine np (.agg (HD.cells { HD.zero with seen := (-1), reply := r, out := o }).toArray) ?_
  refine nS hM 0 rfl (HD.cells { HD.zero with seen := (-1), reply := r, out := o }) I_impl_Hand (hd_one' _) ?_
  clear hM; intro W2 hM
  refine wl_nil (cn2 _ _ ?_)
  clear cn2
  refine wp_ret ?_
  exact bodyPost_ret (ret_row rfl hM 0 rfl rfl Try.underlying27 I_impl_Hand) rfl ⟨congrArg (fun z => Ending.returned (Value.agg (HD.cells z).toArray)) (show { HD.zero with seen := (-1), reply := r, out := o } = restH r o from by simp [restH, HD.zero]), hM.below⟩

theorem impl_entering (c k v : Int) (w0 : World) :
    Calls Try.prog 20 #[.agg #[.int .i64 c, .int .i64 k, .int .i64 v]] w0 fun e w' => e = .returned (askH c k v).val ∧ Below w0.heap.size w0 w' := by
  unfold HD.val
  have hM := Mem.start w0
  go_enter Try.func20, Try.ntmps20
  refine wp_seq_k fun _ cn1 => wl_region ?_
  refine nx hM 25 [.int .i64 c, .int .i64 k, .int .i64 v] ?_
  clear hM; intro g1 W1 hM
  refine na hM (HD.cells HD.zero) Z_impl_Hand ?_
  clear hM; intro g2 W2 hM
  go_frame
  refine wl_nil (cn1 _ _ ?_)
  clear cn1
  refine wp_seq_k fun _ cn2 => wl_region ?_
  refine nc (impl_Resting 0 0 _) ?_
  rintro e W3 ⟨rfl, hb⟩
  refine ⟨_, rfl, ?_⟩
  replace hM := hM.call hb
  go_frame
  refine na hM (HD.cells HD.zero) Z_impl_Hand ?_
  clear hM; intro g3 W4 hM
  refine nS hM 0 rfl (HD.cells (restH 0 0)) I_impl_Hand (hd_one' _) ?_
  clear hM; intro W5 hM
  refine wl_nil (cn2 _ _ ?_)
  clear cn2
  refine wp_seq_k fun _ cn3 => wl_region ?_
  refine np (.pointer (some ⟨g3, 0, none⟩)) ?_
  refine nk hM 0 rfl 0 (.int .i64 1) I_int64 (by simp [HD.cells, splice_len]) ?_
  clear hM; intro W6 hM
  refine wl_nil (cn3 _ _ ?_)
  clear cn3
  refine wp_seq_k fun _ cn4 => wl_region ?_
  refine nl hM 2 rfl Try.underlying25 I_impl_Call ?_
  refine np (.pointer (some ⟨g3, 1, none⟩)) ?_
  go_frame
  refine wl_storep (by kernel_rfl) hM 0 rfl 25 _ _ rfl rfl 1 rfl [.int .i64 c, .int .i64 k, .int .i64 v] rfl I_impl_Call (by simp [HD.cells]) rfl ?_
  clear hM; intro W7 hM
  refine wl_nil (cn4 _ _ ?_)
  clear cn4
  refine wp_seq_k fun _ cn5 => wl_region ?_
  refine nl hM 0 rfl Try.underlying27 I_impl_Hand ?_
  refine nS hM 1 rfl (HD.cells { (restH 0 0) with at_ := 1, c := c, k := k, v := v }) I_impl_Hand (hd_one' _) ?_
  clear hM; intro W8 hM
  refine wl_nil (cn5 _ _ ?_)
  clear cn5
  refine wp_ret ?_
  exact bodyPost_ret (ret_row rfl hM 1 rfl rfl Try.underlying27 I_impl_Hand) rfl ⟨congrArg (fun z => Ending.returned (Value.agg (HD.cells z).toArray)) (show { (restH 0 0) with at_ := 1, c := c, k := k, v := v } = askH c k v from by simp [restH, askH]), hM.below⟩

theorem impl_hasRightCall (h : HD) (w0 : World) :
    Calls Try.prog 23 #[h.val] w0 fun e w' => e = .returned (.bool (callB h.c h.k h.v || (h.at_ == 0 && noneB h.c h.k h.v))) ∧ Below w0.heap.size w0 w' := by
  unfold HD.val
  have hM := Mem.start w0
  go_enter Try.func23, Try.ntmps23
  refine wp_seq_k fun _ cn1 => wl_region ?_
  refine nx hM 27 (HD.cells h) ?_
  clear hM; intro g1 W1 hM
  refine np (.bool false) ?_
  go_frame
  refine wl_nil (cn1 _ _ ?_)
  clear cn1
  refine wp_seq_k fun Kn2 cn2 => ?_
  rcases tf ((callB h.c h.k h.v)) with hx1 | hx1
  · refine wl_region ?_
    refine np (.pointer (some ⟨g1, 1, none⟩)) ?_
    go_frame
    refine wl_part (by kernel_rfl) hM 0 rfl 25 _ rfl 1 rfl Try.underlying25 [.int .i64 h.c, .int .i64 h.k, .int .i64 h.v] I_impl_Call rfl ?_
    go_frame
    refine nc (impl_CallOk h.c h.k h.v _) ?_
    rintro e W2 ⟨rfl, hb⟩
    refine ⟨.bool true, rb hx1, ?_⟩
    replace hM := hM.call hb
    go_frame
    refine np (.bool true) ?_
    iterate 9 refine ns ?_
    refine np (.bool true) ?_
    refine np (.bool true) ?_
    go_frame
    refine wl_nil (cn2 _ _ ?_)
    clear cn2
    refine wp_ret ?_
    exact bodyPost_ret (v := .bool true) (ret_tmp 2 rfl rfl) rfl ⟨ret_b (show true = (callB h.c h.k h.v || (h.at_ == 0 && noneB h.c h.k h.v)) from by simp [noneB, clEq, Bool.and_assoc, hx1]), hM.below⟩
  · rcases tf ((h.at_ == 0)) with hx2 | hx2
    · refine wl_region ?_
      refine np (.pointer (some ⟨g1, 1, none⟩)) ?_
      go_frame
      refine wl_part (by kernel_rfl) hM 0 rfl 25 _ rfl 1 rfl Try.underlying25 [.int .i64 h.c, .int .i64 h.k, .int .i64 h.v] I_impl_Call rfl ?_
      go_frame
      refine nc (impl_CallOk h.c h.k h.v _) ?_
      rintro e W2 ⟨rfl, hb⟩
      refine ⟨.bool false, rb hx1, ?_⟩
      replace hM := hM.call hb
      go_frame
      refine np (.bool false) ?_
      refine np (.pointer (some ⟨g1, 0, none⟩)) ?_
      refine ng hM 0 rfl 0 Try.underlying2 rfl ?_
      refine nB (hx2) ?_
      refine np (.bool true) ?_
      refine np (.pointer (some ⟨g1, 1, none⟩)) ?_
      go_frame
      refine wl_part (by kernel_rfl) hM 0 rfl 25 _ rfl 1 rfl Try.underlying25 [.int .i64 h.c, .int .i64 h.k, .int .i64 h.v] I_impl_Call rfl ?_
      go_frame
      refine np (.agg #[.int .i64 0, .int .i64 0, .int .i64 0]) ?_
      go_frame
      refine wl_pure (by kernel_rfl) (.bool (clEq h.c h.k h.v 0 0 0)) (cl_eql h.c h.k h.v 0 0 0 rfl rfl rfl) ?_
      go_frame
      refine np (.bool (clEq h.c h.k h.v 0 0 0)) ?_
      refine np (.bool (clEq h.c h.k h.v 0 0 0)) ?_
      refine np (.bool (clEq h.c h.k h.v 0 0 0)) ?_
      go_frame
      refine wl_nil (cn2 _ _ ?_)
      clear cn2
      refine wp_ret ?_
      exact bodyPost_ret (v := .bool (clEq h.c h.k h.v 0 0 0)) (ret_tmp 2 rfl rfl) rfl ⟨ret_b (show (clEq h.c h.k h.v 0 0 0) = (callB h.c h.k h.v || (h.at_ == 0 && noneB h.c h.k h.v)) from by simp [noneB, clEq, Bool.and_assoc, hx1, hx2]), hM.below⟩
    · refine wl_region ?_
      refine np (.pointer (some ⟨g1, 1, none⟩)) ?_
      go_frame
      refine wl_part (by kernel_rfl) hM 0 rfl 25 _ rfl 1 rfl Try.underlying25 [.int .i64 h.c, .int .i64 h.k, .int .i64 h.v] I_impl_Call rfl ?_
      go_frame
      refine nc (impl_CallOk h.c h.k h.v _) ?_
      rintro e W2 ⟨rfl, hb⟩
      refine ⟨.bool false, rb hx1, ?_⟩
      replace hM := hM.call hb
      go_frame
      refine np (.bool false) ?_
      refine np (.pointer (some ⟨g1, 0, none⟩)) ?_
      refine ng hM 0 rfl 0 Try.underlying2 rfl ?_
      refine nB (hx2) ?_
      refine np (.bool false) ?_
      iterate 4 refine ns ?_
      refine np (.bool false) ?_
      refine np (.bool false) ?_
      refine np (.bool false) ?_
      go_frame
      refine wl_nil (cn2 _ _ ?_)
      clear cn2
      refine wp_ret ?_
      exact bodyPost_ret (v := .bool false) (ret_tmp 2 rfl rfl) rfl ⟨ret_b (show false = (callB h.c h.k h.v || (h.at_ == 0 && noneB h.c h.k h.v)) from by simp [noneB, clEq, Bool.and_assoc, hx1, hx2]), hM.below⟩

theorem impl_HandOk (h : HD) (w0 : World) :
    Calls Try.prog 10 #[h.val] w0 fun e w' => e = .returned (.bool (handB h)) ∧ Below w0.heap.size w0 w' := by
  unfold HD.val
  have hM := Mem.start w0
  go_enter Try.func10, Try.ntmps10
  refine wp_seq_k fun _ cn1 => wl_region ?_
  refine nx hM 27 (HD.cells h) ?_
  clear hM; intro g1 W1 hM
  refine np (.bool false) ?_
  go_frame
  refine wl_nil (cn1 _ _ ?_)
  clear cn1
  refine wp_seq_k fun Kn2 cn2 => ?_
  rcases tf ((hdEq h (clampH h))) with hx1 | hx1
  · -- region 1, drawn: 8, then 1
    refine wp_region_vals 8 (fun f => ⟨#[.agg (HD.cells h).toArray, .pointer (some ⟨g1, 0, none⟩), .bool false, f 0, f 1, f 2, f 3, f 4, f 5, f 6, f 7], []⟩) [.agg (HD.cells h).toArray, .agg (HD.cells h).toArray, .agg (HD.cells (clampH h)).toArray, .bool true, .bool true, .agg (HD.cells h).toArray, .bool (callB h.c h.k h.v || (h.at_ == 0 && noneB h.c h.k h.v)), .bool (callB h.c h.k h.v || (h.at_ == 0 && noneB h.c h.k h.v))] (fun f w => Mem w0 w [(g1, 27, (HD.cells h))]) ⟨#[.agg (HD.cells h).toArray, .pointer (some ⟨g1, 0, none⟩), .bool false, .agg (HD.cells h).toArray, .agg (HD.cells h).toArray, .agg (HD.cells (clampH h)).toArray, .bool true, .bool true, .agg (HD.cells h).toArray, .bool (callB h.c h.k h.v || (h.at_ == 0 && noneB h.c h.k h.v)), .bool (callB h.c h.k h.v || (h.at_ == 0 && noneB h.c h.k h.v))], []⟩ (fun _ => undef) (by kernel_rfl) (by kernel_rfl) (by kernel_rfl) (by kernel_rfl) rfl (fun f => rfl) hM.drew ⟨
      step_same [] (.agg (HD.cells h).toArray) (by kernel_rfl) rfl (fun f => by kernel_rfl) (fun f w K hM hK => m_load hM 0 rfl 27 _ rfl rfl Try.underlying27 I_impl_Hand (hK)) (fun f => rfl) (fun f w h => h),
      step_same [] (.agg (HD.cells h).toArray) (by kernel_rfl) rfl (fun f => by kernel_rfl) (fun f w K hM hK => m_load hM 0 rfl 27 _ rfl rfl Try.underlying27 I_impl_Hand (hK)) (fun f => rfl) (fun f w h => h),
      step_call [1] (.agg (HD.cells (clampH h)).toArray) (by kernel_rfl) rfl (fun f => by kernel_rfl) (fun f w K hM hK => m_call 22 #[.agg (HD.cells h).toArray] (by kernel_rfl) (impl_withinLimits h _) (fun e w' hs => by obtain ⟨rfl, hb⟩ := hs; exact ⟨_, rfl, hK _ (Mem.call hM hb)⟩)) (fun f => rfl) (fun f w h => h),
      step_same [0, 2] (.bool true) (by kernel_rfl) rfl (fun f => by kernel_rfl) (fun f w K hM hK => m_pureB (b := (hdEq h (clampH h))) (hd_eql h (clampH h) rfl rfl rfl) (hx1) (hK)) (fun f => rfl) (fun f w h => h),
      step_same [2, 3] (.bool true) (by kernel_rfl) rfl (fun f => by kernel_rfl) (fun f w K hM hK => m_pure (.bool true) (by kernel_rfl) (hK)) (fun f => rfl) (fun f w h => h),
      step_same [4] (.agg (HD.cells h).toArray) (by kernel_rfl) rfl (fun f => by kernel_rfl) (fun f w K hM hK => m_load hM 0 rfl 27 _ rfl rfl Try.underlying27 I_impl_Hand (hK)) (fun f => rfl) (fun f w h => h),
      step_call [4, 5] (.bool (callB h.c h.k h.v || (h.at_ == 0 && noneB h.c h.k h.v))) (by kernel_rfl) rfl (fun f => by kernel_rfl) (fun f w K hM hK => m_call 23 #[.agg (HD.cells h).toArray] (by kernel_rfl) (impl_hasRightCall h _) (fun e w' hs => by obtain ⟨rfl, hb⟩ := hs; exact ⟨_, rfl, hK _ (Mem.call hM hb)⟩)) (fun f => rfl) (fun f w h => h),
      step_same [4, 6] (.bool (callB h.c h.k h.v || (h.at_ == 0 && noneB h.c h.k h.v))) (by kernel_rfl) rfl (fun f => by kernel_rfl) (fun f w K hM hK => m_pure (.bool (callB h.c h.k h.v || (h.at_ == 0 && noneB h.c h.k h.v))) (by kernel_rfl) (hK)) (fun f => rfl) (fun f w h => h),
      trivial⟩ ?_
    clear hM; intro f w' hM
    clear f
    refine WL.out ?_
    simp only [List.drop_succ_cons, List.drop_zero]
    refine np (.bool (callB h.c h.k h.v || (h.at_ == 0 && noneB h.c h.k h.v))) ?_
    go_frame
    refine wl_nil (cn2 _ _ ?_)
    clear cn2
    refine wp_ret ?_
    exact bodyPost_ret (v := .bool (callB h.c h.k h.v || (h.at_ == 0 && noneB h.c h.k h.v))) (ret_tmp 2 rfl rfl) rfl ⟨ret_b (by first | exact (handB_no (by assumption)).symm | exact (handB_yes (by assumption)).symm), hM.below⟩
  · -- region 1, drawn: 8, then 1
    refine wp_region_vals 8 (fun f => ⟨#[.agg (HD.cells h).toArray, .pointer (some ⟨g1, 0, none⟩), .bool false, f 0, f 1, f 2, f 3, f 4, f 5, f 6, f 7], []⟩) [.agg (HD.cells h).toArray, .agg (HD.cells h).toArray, .agg (HD.cells (clampH h)).toArray, .bool false, .bool false, undef, undef, .bool false] (fun f w => Mem w0 w [(g1, 27, (HD.cells h))]) ⟨#[.agg (HD.cells h).toArray, .pointer (some ⟨g1, 0, none⟩), .bool false, .agg (HD.cells h).toArray, .agg (HD.cells h).toArray, .agg (HD.cells (clampH h)).toArray, .bool false, .bool false, undef, undef, .bool false], []⟩ (fun _ => undef) (by kernel_rfl) (by kernel_rfl) (by kernel_rfl) (by kernel_rfl) rfl (fun f => rfl) hM.drew ⟨
      step_same [] (.agg (HD.cells h).toArray) (by kernel_rfl) rfl (fun f => by kernel_rfl) (fun f w K hM hK => m_load hM 0 rfl 27 _ rfl rfl Try.underlying27 I_impl_Hand (hK)) (fun f => rfl) (fun f w h => h),
      step_same [] (.agg (HD.cells h).toArray) (by kernel_rfl) rfl (fun f => by kernel_rfl) (fun f w K hM hK => m_load hM 0 rfl 27 _ rfl rfl Try.underlying27 I_impl_Hand (hK)) (fun f => rfl) (fun f w h => h),
      step_call [1] (.agg (HD.cells (clampH h)).toArray) (by kernel_rfl) rfl (fun f => by kernel_rfl) (fun f w K hM hK => m_call 22 #[.agg (HD.cells h).toArray] (by kernel_rfl) (impl_withinLimits h _) (fun e w' hs => by obtain ⟨rfl, hb⟩ := hs; exact ⟨_, rfl, hK _ (Mem.call hM hb)⟩)) (fun f => rfl) (fun f w h => h),
      step_same [0, 2] (.bool false) (by kernel_rfl) rfl (fun f => by kernel_rfl) (fun f w K hM hK => m_pureB (b := (hdEq h (clampH h))) (hd_eql h (clampH h) rfl rfl rfl) (hx1) (hK)) (fun f => rfl) (fun f w h => h),
      step_same [2, 3] (.bool false) (by kernel_rfl) rfl (fun f => by kernel_rfl) (fun f w K hM hK => m_pure (.bool false) (by kernel_rfl) (hK)) (fun f => rfl) (fun f w h => h),
      step_none [4] undef (by kernel_rfl) rfl (fun f => by kernel_rfl) (fun f => rfl) (fun f w h => h),
      step_none [4, 5] undef (by kernel_rfl) rfl (fun f => by kernel_rfl) (fun f => rfl) (fun f w h => h),
      step_same [4, 6] (.bool false) (by kernel_rfl) rfl (fun f => by kernel_rfl) (fun f w K hM hK => m_pure (.bool false) (by kernel_rfl) (hK)) (fun f => rfl) (fun f w h => h),
      trivial⟩ ?_
    clear hM; intro f w' hM
    clear f
    refine WL.out ?_
    simp only [List.drop_succ_cons, List.drop_zero]
    refine np (.bool false) ?_
    go_frame
    refine wl_nil (cn2 _ _ ?_)
    clear cn2
    refine wp_ret ?_
    exact bodyPost_ret (v := .bool false) (ret_tmp 2 rfl rfl) rfl ⟨ret_b (by first | exact (handB_no (by assumption)).symm | exact (handB_yes (by assumption)).symm), hM.below⟩

theorem impl_Called (h : HD) (c k v : Int) (w0 : World) :
    Calls Try.prog 8 #[h.val, .agg #[.int .i64 c, .int .i64 k, .int .i64 v]] w0 fun e w' => e = .returned (.tuple #[(calledR h c k v).1.val, .int .i64 (calledR h c k v).2]) ∧ Below w0.heap.size w0 w' := by
  unfold HD.val
  have hM := Mem.start w0
  go_enter Try.func8, Try.ntmps8
  refine wp_seq_k fun _ cn1 => wl_region ?_
  refine nx hM 27 (HD.cells h) ?_
  clear hM; intro g1 W1 hM
  refine nx hM 25 [.int .i64 c, .int .i64 k, .int .i64 v] ?_
  clear hM; intro g2 W2 hM
  refine na hM (HD.cells HD.zero) Z_impl_Hand ?_
  clear hM; intro g3 W3 hM
  refine np (.int .i64 0) ?_
  go_frame
  refine wl_nil (cn1 _ _ ?_)
  clear cn1
  refine wp_seq_k fun Kn2 cn2 => ?_
  refine wp_block ?_
  refine wp_seq_k fun Kn3 cn3 => ?_
  rcases tf ((handB h)) with hx1 | hx1
  · refine wl_region ?_
    refine nl hM 2 rfl Try.underlying27 I_impl_Hand ?_
    refine nc (impl_HandOk h _) ?_
    rintro e W4 ⟨rfl, hb⟩
    refine ⟨.bool true, rb hx1, ?_⟩
    replace hM := hM.call hb
    go_frame
    refine np (.bool false) ?_
    refine np (.bool false) ?_
    go_frame
    refine wl_nil (cn3 _ _ ?_)
    clear cn3
    refine wp_cond_false rfl ?_
    refine wp_seq_k fun _ cn4 => wl_region ?_
    refine np (.pointer (some ⟨g1, 0, none⟩)) ?_
    refine ng hM 2 rfl 0 Try.underlying2 rfl ?_
    refine np (.bool (h.at_ != 0)) ?_
    refine np (.bool (h.at_ != 0)) ?_
    go_frame
    refine wl_nil (cn4 _ _ ?_)
    clear cn4
    rcases tf ((h.at_ != 0)) with hx2 | hx2
    · rw [hx2]
      refine wp_cond_true rfl ?_
      refine wp_seq_k fun _ cn5 => wl_region ?_
      refine nl hM 2 rfl Try.underlying27 I_impl_Hand ?_
      refine nS hM 0 rfl (HD.cells h) I_impl_Hand (hd_one' _) ?_
      clear hM; intro W5 hM
      refine np (.int .i64 1) ?_
      go_frame
      refine wl_nil (cn5 _ _ ?_)
      clear cn5
      refine wp_ret ?_
      simp only [Exit.then, Exit.inBlock]
      have hR : calledR h c k v = (h, 1) := by simp [calledR, hx1, hx2]
      rw [hR]
      exact bodyPost_ret (ret_two (p := 4) (u := 5) (v := .int .i64 1) rfl hM 0 rfl rfl rfl Try.underlying27 I_impl_Hand) rfl ⟨rfl, hM.below⟩
    · rw [hx2]
      refine wp_cond_false rfl ?_
      refine wp_seq_k fun Kn5 cn5 => ?_
      rcases tf ((callB c k v)) with hx3 | hx3
      · refine wl_region ?_
        refine nl hM 1 rfl Try.underlying25 I_impl_Call ?_
        refine nc (impl_CallOk c k v _) ?_
        rintro e W5 ⟨rfl, hb⟩
        refine ⟨.bool true, rb hx3, ?_⟩
        replace hM := hM.call hb
        go_frame
        refine np (.bool false) ?_
        refine np (.bool false) ?_
        go_frame
        refine wl_nil (cn5 _ _ ?_)
        clear cn5
        refine wp_cond_false rfl ?_
        refine wp_skip ?_
        refine cn2 _ _ ?_
        clear cn2
        refine wp_seq_k fun _ cn6 => wl_region ?_
        refine nl hM 1 rfl Try.underlying25 I_impl_Call ?_
        refine nc (impl_entering c k v _) ?_
        rintro e W6 ⟨rfl, hb⟩
        refine ⟨_, rfl, ?_⟩
        replace hM := hM.call hb
        go_frame
        refine nS hM 0 rfl (HD.cells (askH c k v)) I_impl_Hand (hd_one' _) ?_
        clear hM; intro W7 hM
        refine np (.int .i64 0) ?_
        go_frame
        refine wl_nil (cn6 _ _ ?_)
        clear cn6
        refine wp_ret ?_
        have hR : calledR h c k v = ((askH c k v), 0) := by simp [calledR, hx1, hx2, hx3]
        rw [hR]
        exact bodyPost_ret (ret_two (p := 4) (u := 5) (v := .int .i64 0) rfl hM 0 rfl rfl rfl Try.underlying27 I_impl_Hand) rfl ⟨rfl, hM.below⟩
      · refine wl_region ?_
        refine nl hM 1 rfl Try.underlying25 I_impl_Call ?_
        refine nc (impl_CallOk c k v _) ?_
        rintro e W5 ⟨rfl, hb⟩
        refine ⟨.bool false, rb hx3, ?_⟩
        replace hM := hM.call hb
        go_frame
        refine np (.bool true) ?_
        refine np (.bool true) ?_
        go_frame
        refine wl_nil (cn5 _ _ ?_)
        clear cn5
        refine wp_cond_true rfl ?_
        refine wp_seq_k fun _ cn6 => wl_region ?_
        refine nl hM 2 rfl Try.underlying27 I_impl_Hand ?_
        refine nS hM 0 rfl (HD.cells h) I_impl_Hand (hd_one' _) ?_
        clear hM; intro W6 hM
        refine np (.int .i64 2) ?_
        go_frame
        refine wl_nil (cn6 _ _ ?_)
        clear cn6
        refine wp_ret ?_
        simp only [Exit.then, Exit.inBlock]
        have hR : calledR h c k v = (h, 2) := by simp [calledR, hx1, hx2, hx3]
        rw [hR]
        exact bodyPost_ret (ret_two (p := 4) (u := 5) (v := .int .i64 2) rfl hM 0 rfl rfl rfl Try.underlying27 I_impl_Hand) rfl ⟨rfl, hM.below⟩
  · refine wl_region ?_
    refine nl hM 2 rfl Try.underlying27 I_impl_Hand ?_
    refine nc (impl_HandOk h _) ?_
    rintro e W4 ⟨rfl, hb⟩
    refine ⟨.bool false, rb hx1, ?_⟩
    replace hM := hM.call hb
    go_frame
    refine np (.bool true) ?_
    refine np (.bool true) ?_
    go_frame
    refine wl_nil (cn3 _ _ ?_)
    clear cn3
    refine wp_cond_true rfl ?_
    refine wp_seq_k fun _ cn4 => wl_region ?_
    refine np (.agg (HD.cells HD.zero).toArray) ?_
    refine nS hM 0 rfl (HD.cells HD.zero) I_impl_Hand (hd_one' _) ?_
    clear hM; intro W5 hM
    refine np (.int .i64 3) ?_
    go_frame
    refine wl_nil (cn4 _ _ ?_)
    clear cn4
    refine wp_ret ?_
    simp only [Exit.then, Exit.inBlock]
    have hR : calledR h c k v = (HD.zero, 3) := by simp [calledR, hx1]
    rw [hR]
    exact bodyPost_ret (ret_two (p := 4) (u := 5) (v := .int .i64 3) rfl hM 0 rfl rfl rfl Try.underlying27 I_impl_Hand) rfl ⟨rfl, hM.below⟩
end Go.Proofs.Ytagekbdngjkfeaa
