/- Functions of the model that answer a hand. -/
import Derived.Test.YtbfndoajchibbaaGreatShort
import Derived.Test.YtbfndoajchibbaaGreatStep7
import Derived.Test.YtbfndoajchibbaaGreatMem4
namespace Go.Proofs.YtbfndoajchibbaaGreat
open Go.ChangeShapes Go.WideShapes Go.ChangeAt Go.RowKit
set_option linter.unusedVariables false
set_option maxRecDepth 100000
set_option maxHeartbeats 16000000
set_option linter.unusedSimpArgs false

def nd (l : List ND) (i : Int) : ND := (l[i.toNat]?).getD ⟨0, 0, 0, 0, 0, false, 0, 0⟩
theorem nd_at {l : List ND} {i : Int} (h : hasB l i = true) : ∃ (k : Nat) (n : ND), i = (k : Int) ∧ nd l i = n ∧ k < l.length ∧ l[k]? = some n := by
  obtain ⟨h0, h1⟩ := inB_t h
  obtain ⟨k, rfl⟩ := Int.eq_ofNat_of_zero_le h0
  have hk : k < l.length := by omega
  exact ⟨k, l[k], rfl, by simp [nd, List.getElem?_eq_getElem hk], hk, List.getElem?_eq_getElem hk⟩
def endH (h : HD) (r : Int) : HD := { h with at_ := 26, reply := r }
def againH (h : HD) : HD := { h with at_ := 26, again := true }
def exitH (l : List ND) (h : HD) : HD :=
  if h.c == 1 && h.cur != 0 then restH 1 (nd l h.cur).v else if h.c == 1 || (h.c == 2 && h.cur != 0) || (h.c == 3 && !(h.cur != 0)) then restH 2 0 else { h with at_ := 5 }

theorem spec_l8End (h : HD) (r : Int) (w0 : World) :
    Calls Tryz.prog 105 #[h.val, .int .i64 r] w0 fun e w' => e = .returned (endH h r).val ∧ Below w0.heap.size w0 w' := by
  unfold HD.val
  have hM := Mem.start w0
  go_enter Tryz.func105, Tryz.ntmps105
  refine wp_seq_k fun _ cn1 => wl_region ?_
  refine nx hM 73 (HD.cells h) ?_
  clear hM; intro g1 W1 hM
  refine na hM (HD.cells HD.zero) Z_impl_Hand ?_
  clear hM; intro g2 W2 hM
  go_frame
  refine wl_nil (cn1 _ _ ?_)
  clear cn1
  refine wp_seq_k fun _ cn2 => wl_region ?_
  refine np (.int .i64 r) ?_
  refine np (.pointer (some ⟨g1, 15, none⟩)) ?_
  refine nk hM 1 rfl 15 (.int .i64 r) I_int64 (by simp [HD.cells, splice_len]) ?_
  clear hM; intro W3 hM
  refine wl_nil (cn2 _ _ ?_)
  clear cn2
  refine wp_seq_k fun _ cn3 => wl_region ?_
  refine np (.pointer (some ⟨g1, 0, none⟩)) ?_
  refine nk hM 1 rfl 0 (.int .i64 26) I_int64 (by simp [HD.cells, splice_len]) ?_
  clear hM; intro W4 hM
  refine wl_nil (cn3 _ _ ?_)
  clear cn3
  refine wp_seq_k fun _ cn4 => wl_region ?_
  refine nl hM 1 rfl Tryz.underlying73 I_impl_Hand ?_
  refine nS hM 0 rfl (HD.cells { h with reply := r, at_ := 26 }) I_impl_Hand (hd_one' _) ?_
  clear hM; intro W5 hM
  refine wl_nil (cn4 _ _ ?_)
  clear cn4
  refine wp_ret ?_
  exact bodyPost_ret (ret_row rfl hM 0 rfl rfl Tryz.underlying73 I_impl_Hand) rfl ⟨congrArg (fun z => Ending.returned (Value.agg (HD.cells z).toArray)) (show { h with reply := r, at_ := 26 } = endH h r from by simp [endH]), hM.below⟩

theorem spec_l8Again (h : HD) (w0 : World) :
    Calls Tryz.prog 102 #[h.val] w0 fun e w' => e = .returned (againH h).val ∧ Below w0.heap.size w0 w' := by
  unfold HD.val
  have hM := Mem.start w0
  go_enter Tryz.func102, Tryz.ntmps102
  refine wp_seq_k fun _ cn1 => wl_region ?_
  refine nx hM 73 (HD.cells h) ?_
  clear hM; intro g1 W1 hM
  refine na hM (HD.cells HD.zero) Z_impl_Hand ?_
  clear hM; intro g2 W2 hM
  go_frame
  refine wl_nil (cn1 _ _ ?_)
  clear cn1
  refine wp_seq_k fun _ cn2 => wl_region ?_
  refine np (.pointer (some ⟨g1, 13, none⟩)) ?_
  refine nk hM 1 rfl 13 (.bool true) I_bool (by simp [HD.cells, splice_len]) ?_
  clear hM; intro W3 hM
  refine wl_nil (cn2 _ _ ?_)
  clear cn2
  refine wp_seq_k fun _ cn3 => wl_region ?_
  refine np (.pointer (some ⟨g1, 0, none⟩)) ?_
  refine nk hM 1 rfl 0 (.int .i64 26) I_int64 (by simp [HD.cells, splice_len]) ?_
  clear hM; intro W4 hM
  refine wl_nil (cn3 _ _ ?_)
  clear cn3
  refine wp_seq_k fun _ cn4 => wl_region ?_
  refine nl hM 1 rfl Tryz.underlying73 I_impl_Hand ?_
  refine nS hM 0 rfl (HD.cells { h with again := true, at_ := 26 }) I_impl_Hand (hd_one' _) ?_
  clear hM; intro W5 hM
  refine wl_nil (cn4 _ _ ?_)
  clear cn4
  refine wp_ret ?_
  exact bodyPost_ret (ret_row rfl hM 0 rfl rfl Tryz.underlying73 I_impl_Hand) rfl ⟨congrArg (fun z => Ending.returned (Value.agg (HD.cells z).toArray)) (show { h with again := true, at_ := 26 } = againH h from by simp [againH]), hM.below⟩

theorem spec_l7Exit (u x : Value) (l : List ND) (h : HD) (w0 : World) (h1 : NSl w0 u l) (qnc : hasB l h.cur = true) :
    Calls Tryz.prog 98 #[.agg #[u, x], h.val] w0 fun e w' => e = .returned (exitH l h).val ∧ Below w0.heap.size w0 w' := by
  unfold HD.val
  obtain ⟨b, off, cap, rfl, kk1, mm1, s1, H1⟩ := h1.at (fun e => by subst e; simp [hasB, inB] at qnc; omega)
  obtain ⟨knc, ⟨nck, ncv, ncl, ncr, nco, ncg, nclt, ncrt⟩, hknc, nce, hlnc, hnnc⟩ := nd_at qnc
  have Anc := H1 knc _ hnnc
  have hM := Mem.start w0
  go_enter Tryz.func98, Tryz.ntmps98
  refine wp_seq_k fun _ cn1 => wl_region ?_
  refine nx hM 55 [.slice (some ⟨b, off, none⟩) l.length cap, x] ?_
  clear hM; intro g1 W1 hM
  refine nx hM 73 (HD.cells h) ?_
  clear hM; intro g2 W2 hM
  refine na hM (HD.cells HD.zero) Z_impl_Hand ?_
  clear hM; intro g3 W3 hM
  go_frame
  refine wl_nil (cn1 _ _ ?_)
  clear cn1
  refine wp_seq_k fun _ cn2 => wl_region ?_
  refine np (.pointer (some ⟨g2, 5, none⟩)) ?_
  refine ng hM 1 rfl 5 Tryz.underlying2 rfl ?_
  refine np (.bool (h.cur != 0)) ?_
  refine np (.bool (h.cur != 0)) ?_
  go_frame
  refine wl_nil (cn2 _ _ ?_)
  clear cn2
  refine wp_seq_k fun Kn3 cn3 => ?_
  refine wp_block ?_
  refine wp_seq_k fun _ cn4 => wl_region ?_
  refine np (.pointer (some ⟨g2, 1, none⟩)) ?_
  refine np (.pointer (some ⟨g2, 1, none⟩)) ?_
  refine ng hM 1 rfl 1 Tryz.underlying2 rfl ?_
  refine np (.bool (h.c == 1)) ?_
  refine np (.bool (h.c == 1)) ?_
  go_frame
  rcases tf ((h.c == 1)) with hx2 | hx2
  rw [hx2]
  refine np (.bool (h.cur != 0)) ?_
  refine np (.bool (h.cur != 0)) ?_
  refine np (.bool (h.cur != 0)) ?_
  go_frame
  refine wl_nil (cn4 _ _ ?_)
  clear cn4
  rcases tf ((h.cur != 0)) with hx3 | hx3
  rw [hx3]
  refine wp_cond_true rfl ?_
  refine wp_seq_k fun _ cn5 => wl_region ?_
  refine np (.pointer (some ⟨g1, 0, none⟩)) ?_
  refine ng hM 2 rfl 0 Tryz.underlying24 rfl ?_
  refine np (.pointer (some ⟨g2, 5, none⟩)) ?_
  refine ng hM 1 rfl 5 Tryz.underlying2 rfl ?_
  go_frame
  refine wl_index (by kernel_rfl) 24 49 _ _ rfl b off l.length cap 8 knc rfl rfl hknc (by omega) Tryz.underlying24 I_impl_Node ?_
  go_frame
  refine np (.pointer (some ⟨b, off + knc * 8 + 1, none⟩)) ?_
  go_frame
  refine wl_cell (by kernel_rfl) 2 _ rfl ⟨b, off + knc * 8 + 1, none⟩ rfl Tryz.underlying2 rfl (row_of hM s1 Anc 1 _ rfl) ?_
  go_frame
  refine nc (spec_Resting 1 ncv _) ?_
  rintro e W4 ⟨rfl, hb⟩
  refine ⟨_, rfl, ?_⟩
  replace hM := hM.call hb
  go_frame
  refine nS hM 0 rfl (HD.cells (restH 1 ncv)) I_impl_Hand (hd_one' _) ?_
  clear hM; intro W5 hM
  refine wl_nil (cn5 _ _ ?_)
  clear cn5
  refine wp_ret ?_
  simp only [Exit.then, Exit.inBlock]
  exact bodyPost_ret (ret_row rfl hM 0 rfl rfl Tryz.underlying73 I_impl_Hand) rfl ⟨congrArg (fun z => Ending.returned (Value.agg (HD.cells z).toArray)) (show (restH 1 ncv) = exitH l h from by simp [exitH, hx2, hx3, nce]), hM.below⟩
  rw [hx3]
  refine wp_cond_false rfl ?_
  refine wp_seq_k fun _ cn5 => wl_region ?_
  refine np (.pointer (some ⟨g2, 1, none⟩)) ?_
  refine np (.pointer (some ⟨g2, 1, none⟩)) ?_
  refine ng hM 1 rfl 1 Tryz.underlying2 rfl ?_
  refine nB (hx2) ?_
  refine np (.bool true) ?_
  iterate 7 refine ns ?_
  refine np (.bool true) ?_
  refine np (.bool true) ?_
  iterate 8 refine ns ?_
  refine np (.bool true) ?_
  refine np (.bool true) ?_
  go_frame
  refine wl_nil (cn5 _ _ ?_)
  clear cn5
  refine wp_cond_true rfl ?_
  refine wp_seq_k fun _ cn6 => wl_region ?_
  refine nc (spec_Resting 2 0 _) ?_
  rintro e W4 ⟨rfl, hb⟩
  refine ⟨_, rfl, ?_⟩
  replace hM := hM.call hb
  go_frame
  refine nS hM 0 rfl (HD.cells (restH 2 0)) I_impl_Hand (hd_one' _) ?_
  clear hM; intro W5 hM
  refine wl_nil (cn6 _ _ ?_)
  clear cn6
  refine wp_ret ?_
  simp only [Exit.then, Exit.inBlock]
  exact bodyPost_ret (ret_row rfl hM 0 rfl rfl Tryz.underlying73 I_impl_Hand) rfl ⟨congrArg (fun z => Ending.returned (Value.agg (HD.cells z).toArray)) (show (restH 2 0) = exitH l h from by simp [exitH, hx2, hx3, nce]), hM.below⟩
  rw [hx2]
  refine ns ?_
  refine np (.bool false) ?_
  refine np (.bool false) ?_
  go_frame
  refine wl_nil (cn4 _ _ ?_)
  clear cn4
  refine wp_cond_false rfl ?_
  refine wp_seq_k fun _ cn5 => wl_region ?_
  refine np (.pointer (some ⟨g2, 1, none⟩)) ?_
  refine np (.pointer (some ⟨g2, 1, none⟩)) ?_
  refine ng hM 1 rfl 1 Tryz.underlying2 rfl ?_
  refine nB (hx2) ?_
  refine np (.bool false) ?_
  refine np (.pointer (some ⟨g2, 1, none⟩)) ?_
  refine np (.pointer (some ⟨g2, 1, none⟩)) ?_
  refine ng hM 1 rfl 1 Tryz.underlying2 rfl ?_
  refine np (.bool (h.c == 2)) ?_
  refine np (.bool (h.c == 2)) ?_
  go_frame
  rcases tf ((h.c == 2)) with hx9 | hx9
  rw [hx9]
  refine np (.bool (h.cur != 0)) ?_
  refine np (.bool (h.cur != 0)) ?_
  refine np (.bool (h.cur != 0)) ?_
  refine np (.bool (h.cur != 0)) ?_
  go_frame
  rcases tf ((h.cur != 0)) with hx10 | hx10
  rw [hx10]
  iterate 8 refine ns ?_
  refine np (.bool true) ?_
  refine np (.bool true) ?_
  go_frame
  refine wl_nil (cn5 _ _ ?_)
  clear cn5
  refine wp_cond_true rfl ?_
  refine wp_seq_k fun _ cn6 => wl_region ?_
  refine nc (spec_Resting 2 0 _) ?_
  rintro e W4 ⟨rfl, hb⟩
  refine ⟨_, rfl, ?_⟩
  replace hM := hM.call hb
  go_frame
  refine nS hM 0 rfl (HD.cells (restH 2 0)) I_impl_Hand (hd_one' _) ?_
  clear hM; intro W5 hM
  refine wl_nil (cn6 _ _ ?_)
  clear cn6
  refine wp_ret ?_
  simp only [Exit.then, Exit.inBlock]
  exact bodyPost_ret (ret_row rfl hM 0 rfl rfl Tryz.underlying73 I_impl_Hand) rfl ⟨congrArg (fun z => Ending.returned (Value.agg (HD.cells z).toArray)) (show (restH 2 0) = exitH l h from by simp [exitH, hx2, hx9, hx10, nce]), hM.below⟩
  rw [hx10]
  refine np (.pointer (some ⟨g2, 1, none⟩)) ?_
  refine np (.pointer (some ⟨g2, 1, none⟩)) ?_
  refine ng hM 1 rfl 1 Tryz.underlying2 rfl ?_
  refine np (.bool (h.c == 3)) ?_
  refine np (.bool (h.c == 3)) ?_
  go_frame
  rcases tf ((h.c == 3)) with hx11 | hx11
  rw [hx11]
  refine np (.bool false) ?_
  refine np (.bool true) ?_
  refine np (.bool true) ?_
  refine np (.bool true) ?_
  refine np (.bool true) ?_
  go_frame
  refine wl_nil (cn5 _ _ ?_)
  clear cn5
  refine wp_cond_true rfl ?_
  refine wp_seq_k fun _ cn6 => wl_region ?_
  refine nc (spec_Resting 2 0 _) ?_
  rintro e W4 ⟨rfl, hb⟩
  refine ⟨_, rfl, ?_⟩
  replace hM := hM.call hb
  go_frame
  refine nS hM 0 rfl (HD.cells (restH 2 0)) I_impl_Hand (hd_one' _) ?_
  clear hM; intro W5 hM
  refine wl_nil (cn6 _ _ ?_)
  clear cn6
  refine wp_ret ?_
  simp only [Exit.then, Exit.inBlock]
  exact bodyPost_ret (ret_row rfl hM 0 rfl rfl Tryz.underlying73 I_impl_Hand) rfl ⟨congrArg (fun z => Ending.returned (Value.agg (HD.cells z).toArray)) (show (restH 2 0) = exitH l h from by simp [exitH, hx2, hx9, hx10, hx11, nce]), hM.below⟩
  rw [hx11]
  iterate 2 refine ns ?_
  refine np (.bool false) ?_
  refine np (.bool false) ?_
  refine np (.bool false) ?_
  go_frame
  refine wl_nil (cn5 _ _ ?_)
  clear cn5
  refine wp_cond_false rfl ?_
  refine wp_skip ?_
  refine cn3 _ _ ?_
  clear cn3
  refine wp_seq_k fun _ cn6 => wl_region ?_
  refine np (.pointer (some ⟨g2, 0, none⟩)) ?_
  refine nk hM 1 rfl 0 (.int .i64 5) I_int64 (by simp [HD.cells, splice_len]) ?_
  clear hM; intro W4 hM
  refine wl_nil (cn6 _ _ ?_)
  clear cn6
  refine wp_seq_k fun _ cn7 => wl_region ?_
  refine nl hM 1 rfl Tryz.underlying73 I_impl_Hand ?_
  refine nS hM 0 rfl (HD.cells { h with at_ := 5 }) I_impl_Hand (hd_one' _) ?_
  clear hM; intro W5 hM
  refine wl_nil (cn7 _ _ ?_)
  clear cn7
  refine wp_ret ?_
  exact bodyPost_ret (ret_row rfl hM 0 rfl rfl Tryz.underlying73 I_impl_Hand) rfl ⟨congrArg (fun z => Ending.returned (Value.agg (HD.cells z).toArray)) (show { h with at_ := 5 } = exitH l h from by simp [exitH, hx2, hx9, hx10, hx11, nce]), hM.below⟩
  rw [hx9]
  refine ns ?_
  refine np (.bool false) ?_
  refine np (.bool false) ?_
  refine np (.bool false) ?_
  refine np (.pointer (some ⟨g2, 1, none⟩)) ?_
  refine np (.pointer (some ⟨g2, 1, none⟩)) ?_
  refine ng hM 1 rfl 1 Tryz.underlying2 rfl ?_
  refine np (.bool (h.c == 3)) ?_
  refine np (.bool (h.c == 3)) ?_
  go_frame
  rcases tf ((h.c == 3)) with hx12 | hx12
  rw [hx12]
  refine np (.bool (h.cur != 0)) ?_
  go_frame
  rcases tf ((h.cur != 0)) with hx13 | hx13
  rw [hx13]
  refine np (.bool false) ?_
  refine np (.bool false) ?_
  refine np (.bool false) ?_
  refine np (.bool false) ?_
  go_frame
  refine wl_nil (cn5 _ _ ?_)
  clear cn5
  refine wp_cond_false rfl ?_
  refine wp_skip ?_
  refine cn3 _ _ ?_
  clear cn3
  refine wp_seq_k fun _ cn6 => wl_region ?_
  refine np (.pointer (some ⟨g2, 0, none⟩)) ?_
  refine nk hM 1 rfl 0 (.int .i64 5) I_int64 (by simp [HD.cells, splice_len]) ?_
  clear hM; intro W4 hM
  refine wl_nil (cn6 _ _ ?_)
  clear cn6
  refine wp_seq_k fun _ cn7 => wl_region ?_
  refine nl hM 1 rfl Tryz.underlying73 I_impl_Hand ?_
  refine nS hM 0 rfl (HD.cells { h with at_ := 5 }) I_impl_Hand (hd_one' _) ?_
  clear hM; intro W5 hM
  refine wl_nil (cn7 _ _ ?_)
  clear cn7
  refine wp_ret ?_
  exact bodyPost_ret (ret_row rfl hM 0 rfl rfl Tryz.underlying73 I_impl_Hand) rfl ⟨congrArg (fun z => Ending.returned (Value.agg (HD.cells z).toArray)) (show { h with at_ := 5 } = exitH l h from by simp [exitH, hx2, hx9, hx12, hx13, nce]), hM.below⟩
  rw [hx13]
  refine np (.bool true) ?_
  refine np (.bool true) ?_
  refine np (.bool true) ?_
  refine np (.bool true) ?_
  go_frame
  refine wl_nil (cn5 _ _ ?_)
  clear cn5
  refine wp_cond_true rfl ?_
  refine wp_seq_k fun _ cn6 => wl_region ?_
  refine nc (spec_Resting 2 0 _) ?_
  rintro e W4 ⟨rfl, hb⟩
  refine ⟨_, rfl, ?_⟩
  replace hM := hM.call hb
  go_frame
  refine nS hM 0 rfl (HD.cells (restH 2 0)) I_impl_Hand (hd_one' _) ?_
  clear hM; intro W5 hM
  refine wl_nil (cn6 _ _ ?_)
  clear cn6
  refine wp_ret ?_
  simp only [Exit.then, Exit.inBlock]
  exact bodyPost_ret (ret_row rfl hM 0 rfl rfl Tryz.underlying73 I_impl_Hand) rfl ⟨congrArg (fun z => Ending.returned (Value.agg (HD.cells z).toArray)) (show (restH 2 0) = exitH l h from by simp [exitH, hx2, hx9, hx12, hx13, nce]), hM.below⟩
  rw [hx12]
  iterate 2 refine ns ?_
  refine np (.bool false) ?_
  refine np (.bool false) ?_
  refine np (.bool false) ?_
  go_frame
  refine wl_nil (cn5 _ _ ?_)
  clear cn5
  refine wp_cond_false rfl ?_
  refine wp_skip ?_
  refine cn3 _ _ ?_
  clear cn3
  refine wp_seq_k fun _ cn6 => wl_region ?_
  refine np (.pointer (some ⟨g2, 0, none⟩)) ?_
  refine nk hM 1 rfl 0 (.int .i64 5) I_int64 (by simp [HD.cells, splice_len]) ?_
  clear hM; intro W4 hM
  refine wl_nil (cn6 _ _ ?_)
  clear cn6
  refine wp_seq_k fun _ cn7 => wl_region ?_
  refine nl hM 1 rfl Tryz.underlying73 I_impl_Hand ?_
  refine nS hM 0 rfl (HD.cells { h with at_ := 5 }) I_impl_Hand (hd_one' _) ?_
  clear hM; intro W5 hM
  refine wl_nil (cn7 _ _ ?_)
  clear cn7
  refine wp_ret ?_
  exact bodyPost_ret (ret_row rfl hM 0 rfl rfl Tryz.underlying73 I_impl_Hand) rfl ⟨congrArg (fun z => Ending.returned (Value.agg (HD.cells z).toArray)) (show { h with at_ := 5 } = exitH l h from by simp [exitH, hx2, hx9, hx12, nce]), hM.below⟩
def sideUp (h : HD) : Int := if h.up == h.cur then 1 else 0
def whereUp (h : HD) : Int := if h.up == h.cur then h.new else h.up
def downH (l : List ND) (h : HD) : HD :=
  let cur := kidF h.side (nd l h.prev).l (nd l h.prev).r
  if cur == 0 || (nd l cur).k == h.k then { h with at_ := 3, cur := cur } else { h with prev := cur, cur := cur, side := sideF h.k (nd l cur).k }
def checkCutH (l : List ND) (h : HD) : HD :=
  if (nd l h.prev).g || (nd l h.cur).g || kidF h.side (nd l h.prev).l (nd l h.prev).r != h.cur then againH h
  else if (nd l h.cur).l == 0 || (nd l h.cur).r == 0 then { h with at_ := 11 } else { h with at_ := 14 }
def leftUpH (l : List ND) (h : HD) : HD :=
  if (nd l h.next).l != 0 then { h with up := h.next, next := (nd l h.next).l } else if h.up == h.cur then { h with at_ := 17 } else { h with at_ := 16 }
def checkUpH (l : List ND) (h : HD) : HD :=
  if kidF (sideUp h) (nd l h.up).l (nd l h.up).r != h.next || (nd l h.up).g || (nd l h.next).g || (nd l h.next).l != 0 then againH h else { h with at_ := 19 }

theorem spec_l10Side (h : HD) (w0 : World) :
    Calls Tryz.prog 118 #[h.val] w0 fun e w' => e = .returned (.int .i64 (sideUp h)) ∧ Below w0.heap.size w0 w' := by
  unfold HD.val
  have hM := Mem.start w0
  go_enter Tryz.func118, Tryz.ntmps118
  refine wp_seq_k fun _ cn1 => wl_region ?_
  refine nx hM 73 (HD.cells h) ?_
  clear hM; intro g1 W1 hM
  refine np (.int .i64 0) ?_
  go_frame
  refine wl_nil (cn1 _ _ ?_)
  clear cn1
  refine wp_seq_k fun Kn2 cn2 => ?_
  refine wp_seq_k fun _ cn3 => wl_region ?_
  refine np (.pointer (some ⟨g1, 8, none⟩)) ?_
  refine ng hM 0 rfl 8 Tryz.underlying2 rfl ?_
  refine np (.pointer (some ⟨g1, 5, none⟩)) ?_
  refine ng hM 0 rfl 5 Tryz.underlying2 rfl ?_
  refine np (.bool (h.up == h.cur)) ?_
  go_frame
  refine wl_nil (cn3 _ _ ?_)
  clear cn3
  rcases tf ((h.up == h.cur)) with hx1 | hx1
  rw [hx1]
  refine wp_cond_true rfl ?_
  refine wp_seq_k fun _ cn4 => wl_region ?_
  refine np (.int .i64 1) ?_
  go_frame
  refine wl_nil (cn4 _ _ ?_)
  clear cn4
  refine wp_ret ?_
  simp only [Exit.then, Exit.inBlock]
  exact bodyPost_ret (v := .int .i64 1) (ret_tmp 2 rfl rfl) rfl ⟨congrArg (fun z => Ending.returned (Value.int .i64 z)) (show 1 = sideUp h from by simp [sideUp, hx1]), hM.below⟩
  rw [hx1]
  refine wp_cond_false rfl ?_
  refine wp_skip ?_
  refine cn2 _ _ ?_
  clear cn2
  refine wp_seq_k fun _ cn4 => wl_region ?_
  refine np (.int .i64 0) ?_
  go_frame
  refine wl_nil (cn4 _ _ ?_)
  clear cn4
  refine wp_ret ?_
  exact bodyPost_ret (v := .int .i64 0) (ret_tmp 2 rfl rfl) rfl ⟨congrArg (fun z => Ending.returned (Value.int .i64 z)) (show 0 = sideUp h from by simp [sideUp, hx1]), hM.below⟩

theorem spec_l10Where (h : HD) (w0 : World) :
    Calls Tryz.prog 117 #[h.val] w0 fun e w' => e = .returned (.int .i64 (whereUp h)) ∧ Below w0.heap.size w0 w' := by
  unfold HD.val
  have hM := Mem.start w0
  go_enter Tryz.func117, Tryz.ntmps117
  refine wp_seq_k fun _ cn1 => wl_region ?_
  refine nx hM 73 (HD.cells h) ?_
  clear hM; intro g1 W1 hM
  refine np (.int .i64 0) ?_
  go_frame
  refine wl_nil (cn1 _ _ ?_)
  clear cn1
  refine wp_seq_k fun Kn2 cn2 => ?_
  refine wp_seq_k fun _ cn3 => wl_region ?_
  refine np (.pointer (some ⟨g1, 8, none⟩)) ?_
  refine ng hM 0 rfl 8 Tryz.underlying2 rfl ?_
  refine np (.pointer (some ⟨g1, 5, none⟩)) ?_
  refine ng hM 0 rfl 5 Tryz.underlying2 rfl ?_
  refine np (.bool (h.up == h.cur)) ?_
  go_frame
  refine wl_nil (cn3 _ _ ?_)
  clear cn3
  rcases tf ((h.up == h.cur)) with hx1 | hx1
  rw [hx1]
  refine wp_cond_true rfl ?_
  refine wp_seq_k fun _ cn4 => wl_region ?_
  refine np (.pointer (some ⟨g1, 10, none⟩)) ?_
  refine ng hM 0 rfl 10 Tryz.underlying2 rfl ?_
  refine np (.int .i64 h.new) ?_
  go_frame
  refine wl_nil (cn4 _ _ ?_)
  clear cn4
  refine wp_ret ?_
  simp only [Exit.then, Exit.inBlock]
  exact bodyPost_ret (v := .int .i64 h.new) (ret_tmp 2 rfl rfl) rfl ⟨congrArg (fun z => Ending.returned (Value.int .i64 z)) (show h.new = whereUp h from by simp [whereUp, hx1]), hM.below⟩
  rw [hx1]
  refine wp_cond_false rfl ?_
  refine wp_skip ?_
  refine cn2 _ _ ?_
  clear cn2
  refine wp_seq_k fun _ cn4 => wl_region ?_
  refine np (.pointer (some ⟨g1, 8, none⟩)) ?_
  refine ng hM 0 rfl 8 Tryz.underlying2 rfl ?_
  refine np (.int .i64 h.up) ?_
  go_frame
  refine wl_nil (cn4 _ _ ?_)
  clear cn4
  refine wp_ret ?_
  exact bodyPost_ret (v := .int .i64 h.up) (ret_tmp 2 rfl rfl) rfl ⟨congrArg (fun z => Ending.returned (Value.int .i64 z)) (show h.up = whereUp h from by simp [whereUp, hx1]), hM.below⟩

theorem spec_l9Check (u x : Value) (l : List ND) (h : HD) (w0 : World) (h1 : NSl w0 u l) (qnp : hasB l h.prev = true) (qnc : hasB l h.cur = true) :
    Calls Tryz.prog 106 #[.agg #[u, x], h.val] w0 fun e w' => e = .returned (checkCutH l h).val ∧ Below w0.heap.size w0 w' := by
  unfold HD.val
  obtain ⟨b, off, cap, rfl, kk1, mm1, s1, H1⟩ := h1.at (fun e => by subst e; simp [hasB, inB] at qnp; omega)
  obtain ⟨knp, ⟨npk, npv, npl, npr, npo, npg, nplt, nprt⟩, hknp, npe, hlnp, hnnp⟩ := nd_at qnp
  have Anp := H1 knp _ hnnp
  obtain ⟨knc, ⟨nck, ncv, ncl, ncr, nco, ncg, nclt, ncrt⟩, hknc, nce, hlnc, hnnc⟩ := nd_at qnc
  have Anc := H1 knc _ hnnc
  have hM := Mem.start w0
  go_enter Tryz.func106, Tryz.ntmps106
  refine wp_seq_k fun _ cn1 => wl_region ?_
  refine nx hM 55 [.slice (some ⟨b, off, none⟩) l.length cap, x] ?_
  clear hM; intro g1 W1 hM
  refine nx hM 73 (HD.cells h) ?_
  clear hM; intro g2 W2 hM
  refine na hM (HD.cells HD.zero) Z_impl_Hand ?_
  clear hM; intro g3 W3 hM
  go_frame
  refine wl_nil (cn1 _ _ ?_)
  clear cn1
  refine wp_seq_k fun _ cn2 => wl_region ?_
  refine np (.pointer (some ⟨g1, 0, none⟩)) ?_
  refine ng hM 2 rfl 0 Tryz.underlying24 rfl ?_
  refine np (.pointer (some ⟨g2, 4, none⟩)) ?_
  refine ng hM 1 rfl 4 Tryz.underlying2 rfl ?_
  go_frame
  refine wl_index (by kernel_rfl) 24 49 _ _ rfl b off l.length cap 8 knp rfl rfl hknp (by omega) Tryz.underlying24 I_impl_Node ?_
  go_frame
  refine wl_cells (by kernel_rfl) 49 _ rfl b (off + knp * 8) rfl Tryz.underlying49 (ND.cells ⟨npk, npv, npl, npr, npo, npg, nplt, nprt⟩) I_impl_Node (row_of hM s1 Anp) ?_
  go_frame
  refine na hM [.int .i64 0, .int .i64 0, .int .i64 0, .int .i64 0, .int .i64 0, .bool false, .int .i64 0, .int .i64 0] Z_impl_Node ?_
  clear hM; intro g4 W4 hM
  refine nS hM 0 rfl (ND.cells ⟨npk, npv, npl, npr, npo, npg, nplt, nprt⟩) I_impl_Node (nd_one _) ?_
  clear hM; intro W5 hM
  refine wl_nil (cn2 _ _ ?_)
  clear cn2
  refine wp_seq_k fun _ cn3 => wl_region ?_
  refine np (.pointer (some ⟨g1, 0, none⟩)) ?_
  refine ng hM 3 rfl 0 Tryz.underlying24 rfl ?_
  refine np (.pointer (some ⟨g2, 5, none⟩)) ?_
  refine ng hM 2 rfl 5 Tryz.underlying2 rfl ?_
  go_frame
  refine wl_index (by kernel_rfl) 24 49 _ _ rfl b off l.length cap 8 knc rfl rfl hknc (by omega) Tryz.underlying24 I_impl_Node ?_
  go_frame
  refine wl_cells (by kernel_rfl) 49 _ rfl b (off + knc * 8) rfl Tryz.underlying49 (ND.cells ⟨nck, ncv, ncl, ncr, nco, ncg, nclt, ncrt⟩) I_impl_Node (row_of hM s1 Anc) ?_
  go_frame
  refine na hM [.int .i64 0, .int .i64 0, .int .i64 0, .int .i64 0, .int .i64 0, .bool false, .int .i64 0, .int .i64 0] Z_impl_Node ?_
  clear hM; intro g5 W6 hM
  refine nS hM 0 rfl (ND.cells ⟨nck, ncv, ncl, ncr, nco, ncg, nclt, ncrt⟩) I_impl_Node (nd_one _) ?_
  clear hM; intro W7 hM
  refine wl_nil (cn3 _ _ ?_)
  clear cn3
  refine wp_seq_k fun Kn4 cn4 => ?_
  refine wp_seq_k fun Kn5 cn5 => ?_
  cases npg
  cases ncg
  refine wa_start (fun w => Below w0.heap.size w0 w ∧ Blk w g4 49 (ND.cells ⟨npk, npv, npl, npr, npo, false, nplt, nprt⟩) ∧ Blk w g5 49 (ND.cells ⟨nck, ncv, ncl, ncr, nco, false, nclt, ncrt⟩) ∧ Blk w g2 73 (HD.cells h)) 15 rfl (by kernel_rfl) ?_
  replace hM := hM.drew
  refine wt 0 (some 19) (.pointer (some ⟨g4, 5, none⟩)) ⟨hM.below, hM.blk 1 rfl, hM.blk 0 rfl, hM.blk 3 rfl⟩ ?_
  go_frame
  refine wq 1 (some 20) (.bool false) ⟨hM.below, hM.blk 1 rfl, hM.blk 0 rfl, hM.blk 3 rfl⟩ rfl (fun w hS => r_loadc hS.2.1 4 _ rfl 5 rfl Tryz.underlying4 rfl rfl) ?_
  refine wt 2 (some 21) (.bool false) ⟨hM.below, hM.blk 1 rfl, hM.blk 0 rfl, hM.blk 3 rfl⟩ ?_
  refine wt 3 (some 22) (.pointer (some ⟨g5, 5, none⟩)) ⟨hM.below, hM.blk 1 rfl, hM.blk 0 rfl, hM.blk 3 rfl⟩ ?_
  go_frame
  refine wq 4 (some 23) (.bool false) ⟨hM.below, hM.blk 1 rfl, hM.blk 0 rfl, hM.blk 3 rfl⟩ rfl (fun w hS => r_loadc hS.2.2.1 4 _ rfl 5 rfl Tryz.underlying4 rfl rfl) ?_
  refine wt 5 (some 24) (.bool false) ⟨hM.below, hM.blk 1 rfl, hM.blk 0 rfl, hM.blk 3 rfl⟩ ?_
  refine wt 6 (some 25) (.bool false) ⟨hM.below, hM.blk 1 rfl, hM.blk 0 rfl, hM.blk 3 rfl⟩ ?_
  go_frame
  refine wq 7 (some 26) (.agg (ND.cells ⟨npk, npv, npl, npr, npo, false, nplt, nprt⟩).toArray) ⟨hM.below, hM.blk 1 rfl, hM.blk 0 rfl, hM.blk 3 rfl⟩ rfl (fun w hS => r_load hS.2.1 49 _ rfl rfl Tryz.underlying49 I_impl_Node) ?_
  refine wt 8 (some 27) (.pointer (some ⟨g2, 6, none⟩)) ⟨hM.below, hM.blk 1 rfl, hM.blk 0 rfl, hM.blk 3 rfl⟩ ?_
  go_frame
  refine wq 9 (some 28) (.int .i64 h.side) ⟨hM.below, hM.blk 1 rfl, hM.blk 0 rfl, hM.blk 3 rfl⟩ rfl (fun w hS => r_loadc hS.2.2.2 2 _ rfl 6 rfl Tryz.underlying2 rfl rfl) ?_
  refine wt 11 (some 30) (.pointer (some ⟨g2, 5, none⟩)) ⟨hM.below, hM.blk 1 rfl, hM.blk 0 rfl, hM.blk 3 rfl⟩ ?_
  go_frame
  refine wq 12 (some 31) (.int .i64 h.cur) ⟨hM.below, hM.blk 1 rfl, hM.blk 0 rfl, hM.blk 3 rfl⟩ rfl (fun w hS => r_loadc hS.2.2.2 2 _ rfl 5 rfl Tryz.underlying2 rfl rfl) ?_
  go_frame
  refine wn 10 ?_
  refine oc (some 29) (spec_KidOf npk npv npl npr npo false nplt nprt h.side _) ?_
  rintro e W8 ⟨rfl, hb⟩
  replace hM := hM.call hb
  refine ⟨_, rfl, wk ⟨hM.below, hM.blk 1 rfl, hM.blk 0 rfl, hM.blk 3 rfl⟩ fun hs => ?_⟩
  go_frame
  refine wt 13 (some 32) (.bool ((kidF h.side npl npr) != h.cur)) hs ?_
  refine wt 14 (some 33) (.bool ((kidF h.side npl npr) != h.cur)) hs ?_
  go_frame
  refine wa_done (by kernel_rfl) ?_
  refine cn5 _ _ ?_
  clear cn5
  rcases tf (((kidF h.side npl npr) != h.cur)) with hx1 | hx1
  rw [hx1]
  refine wp_cond_true rfl ?_
  refine wp_seq_k fun _ cn6 => wl_region ?_
  refine nl hM 3 rfl Tryz.underlying73 I_impl_Hand ?_
  refine nc (spec_l8Again h _) ?_
  rintro e W9 ⟨rfl, hb⟩
  refine ⟨_, rfl, ?_⟩
  replace hM := hM.call hb
  go_frame
  refine nS hM 2 rfl (HD.cells (againH h)) I_impl_Hand (hd_one' _) ?_
  clear hM; intro W10 hM
  refine wl_nil (cn6 _ _ ?_)
  clear cn6
  refine wp_ret ?_
  simp only [Exit.then, Exit.inBlock]
  exact bodyPost_ret (ret_row rfl hM 2 rfl rfl Tryz.underlying73 I_impl_Hand) rfl ⟨congrArg (fun z => Ending.returned (Value.agg (HD.cells z).toArray)) (show (againH h) = checkCutH l h from by simp [checkCutH, hx1, npe, nce]), hM.below⟩
  rw [hx1]
  refine wp_cond_false rfl ?_
  refine wp_skip ?_
  refine cn4 _ _ ?_
  clear cn4
  refine wp_seq_k fun _ cn6 => wl_region ?_
  refine np (.pointer (some ⟨g2, 0, none⟩)) ?_
  refine nk hM 3 rfl 0 (.int .i64 14) I_int64 (by simp [HD.cells, splice_len]) ?_
  clear hM; intro W9 hM
  refine wl_nil (cn6 _ _ ?_)
  clear cn6
  refine wp_seq_k fun Kn7 cn7 => ?_
  refine wp_seq_k fun _ cn8 => wl_region ?_
  refine np (.pointer (some ⟨g5, 2, none⟩)) ?_
  refine ng hM 0 rfl 2 Tryz.underlying2 rfl ?_
  refine np (.bool (ncl == 0)) ?_
  refine np (.bool (ncl == 0)) ?_
  go_frame
  rcases tf ((ncl == 0)) with hx3 | hx3
  rw [hx3]
  iterate 3 refine ns ?_
  refine np (.bool true) ?_
  go_frame
  refine wl_nil (cn8 _ _ ?_)
  clear cn8
  refine wp_cond_true rfl ?_
  refine wl_region ?_
  refine np (.pointer (some ⟨g2, 0, none⟩)) ?_
  refine nk hM 3 rfl 0 (.int .i64 11) I_int64 (by simp [HD.cells, splice_len]) ?_
  clear hM; intro W10 hM
  refine wl_nil (cn7 _ _ ?_)
  clear cn7
  refine wp_seq_k fun _ cn9 => wl_region ?_
  refine nl hM 3 rfl Tryz.underlying73 I_impl_Hand ?_
  refine nS hM 2 rfl (HD.cells { h with at_ := 11 }) I_impl_Hand (hd_one' _) ?_
  clear hM; intro W11 hM
  refine wl_nil (cn9 _ _ ?_)
  clear cn9
  refine wp_ret ?_
  exact bodyPost_ret (ret_row rfl hM 2 rfl rfl Tryz.underlying73 I_impl_Hand) rfl ⟨congrArg (fun z => Ending.returned (Value.agg (HD.cells z).toArray)) (show { h with at_ := 11 } = checkCutH l h from by simp [checkCutH, hx1, hx3, npe, nce]), hM.below⟩
  rw [hx3]
  refine np (.pointer (some ⟨g5, 3, none⟩)) ?_
  refine ng hM 0 rfl 3 Tryz.underlying2 rfl ?_
  refine np (.bool (ncr == 0)) ?_
  refine np (.bool (ncr == 0)) ?_
  go_frame
  refine wl_nil (cn8 _ _ ?_)
  clear cn8
  rcases tf ((ncr == 0)) with hx4 | hx4
  rw [hx4]
  refine wp_cond_true rfl ?_
  refine wl_region ?_
  refine np (.pointer (some ⟨g2, 0, none⟩)) ?_
  refine nk hM 3 rfl 0 (.int .i64 11) I_int64 (by simp [HD.cells, splice_len]) ?_
  clear hM; intro W10 hM
  refine wl_nil (cn7 _ _ ?_)
  clear cn7
  refine wp_seq_k fun _ cn9 => wl_region ?_
  refine nl hM 3 rfl Tryz.underlying73 I_impl_Hand ?_
  refine nS hM 2 rfl (HD.cells { h with at_ := 11 }) I_impl_Hand (hd_one' _) ?_
  clear hM; intro W11 hM
  refine wl_nil (cn9 _ _ ?_)
  clear cn9
  refine wp_ret ?_
  exact bodyPost_ret (ret_row rfl hM 2 rfl rfl Tryz.underlying73 I_impl_Hand) rfl ⟨congrArg (fun z => Ending.returned (Value.agg (HD.cells z).toArray)) (show { h with at_ := 11 } = checkCutH l h from by simp [checkCutH, hx1, hx3, hx4, npe, nce]), hM.below⟩
  rw [hx4]
  refine wp_cond_false rfl ?_
  refine wp_skip ?_
  refine cn7 _ _ ?_
  clear cn7
  refine wp_seq_k fun _ cn9 => wl_region ?_
  refine nl hM 3 rfl Tryz.underlying73 I_impl_Hand ?_
  refine nS hM 2 rfl (HD.cells { h with at_ := 14 }) I_impl_Hand (hd_one' _) ?_
  clear hM; intro W10 hM
  refine wl_nil (cn9 _ _ ?_)
  clear cn9
  refine wp_ret ?_
  exact bodyPost_ret (ret_row rfl hM 2 rfl rfl Tryz.underlying73 I_impl_Hand) rfl ⟨congrArg (fun z => Ending.returned (Value.agg (HD.cells z).toArray)) (show { h with at_ := 14 } = checkCutH l h from by simp [checkCutH, hx1, hx3, hx4, npe, nce]), hM.below⟩
  refine wa_start (fun w => Below w0.heap.size w0 w ∧ Blk w g4 49 (ND.cells ⟨npk, npv, npl, npr, npo, false, nplt, nprt⟩) ∧ Blk w g5 49 (ND.cells ⟨nck, ncv, ncl, ncr, nco, true, nclt, ncrt⟩) ∧ Blk w g2 73 (HD.cells h)) 15 rfl (by kernel_rfl) ?_
  replace hM := hM.drew
  refine wt 0 (some 19) (.pointer (some ⟨g4, 5, none⟩)) ⟨hM.below, hM.blk 1 rfl, hM.blk 0 rfl, hM.blk 3 rfl⟩ ?_
  go_frame
  refine wq 1 (some 20) (.bool false) ⟨hM.below, hM.blk 1 rfl, hM.blk 0 rfl, hM.blk 3 rfl⟩ rfl (fun w hS => r_loadc hS.2.1 4 _ rfl 5 rfl Tryz.underlying4 rfl rfl) ?_
  refine wt 2 (some 21) (.bool false) ⟨hM.below, hM.blk 1 rfl, hM.blk 0 rfl, hM.blk 3 rfl⟩ ?_
  refine wt 3 (some 22) (.pointer (some ⟨g5, 5, none⟩)) ⟨hM.below, hM.blk 1 rfl, hM.blk 0 rfl, hM.blk 3 rfl⟩ ?_
  go_frame
  refine wq 4 (some 23) (.bool true) ⟨hM.below, hM.blk 1 rfl, hM.blk 0 rfl, hM.blk 3 rfl⟩ rfl (fun w hS => r_loadc hS.2.2.1 4 _ rfl 5 rfl Tryz.underlying4 rfl rfl) ?_
  refine wt 5 (some 24) (.bool true) ⟨hM.below, hM.blk 1 rfl, hM.blk 0 rfl, hM.blk 3 rfl⟩ ?_
  refine wt 6 (some 25) (.bool true) ⟨hM.below, hM.blk 1 rfl, hM.blk 0 rfl, hM.blk 3 rfl⟩ ?_
  go_frame
  refine ws 7 (some 26) ⟨hM.below, hM.blk 1 rfl, hM.blk 0 rfl, hM.blk 3 rfl⟩ ?_
  go_frame
  refine ws 8 (some 27) ⟨hM.below, hM.blk 1 rfl, hM.blk 0 rfl, hM.blk 3 rfl⟩ ?_
  go_frame
  refine ws 9 (some 28) ⟨hM.below, hM.blk 1 rfl, hM.blk 0 rfl, hM.blk 3 rfl⟩ ?_
  go_frame
  refine ws 10 (some 29) ⟨hM.below, hM.blk 1 rfl, hM.blk 0 rfl, hM.blk 3 rfl⟩ ?_
  go_frame
  refine ws 11 (some 30) ⟨hM.below, hM.blk 1 rfl, hM.blk 0 rfl, hM.blk 3 rfl⟩ ?_
  go_frame
  refine ws 12 (some 31) ⟨hM.below, hM.blk 1 rfl, hM.blk 0 rfl, hM.blk 3 rfl⟩ ?_
  go_frame
  refine ws 13 (some 32) ⟨hM.below, hM.blk 1 rfl, hM.blk 0 rfl, hM.blk 3 rfl⟩ ?_
  go_frame
  refine wt 14 (some 33) (.bool true) ⟨hM.below, hM.blk 1 rfl, hM.blk 0 rfl, hM.blk 3 rfl⟩ ?_
  go_frame
  refine wa_done (by kernel_rfl) ?_
  refine cn5 _ _ ?_
  clear cn5
  refine wp_cond_true rfl ?_
  refine wp_seq_k fun _ cn6 => wl_region ?_
  refine nl hM 3 rfl Tryz.underlying73 I_impl_Hand ?_
  refine nc (spec_l8Again h _) ?_
  rintro e W8 ⟨rfl, hb⟩
  refine ⟨_, rfl, ?_⟩
  replace hM := hM.call hb
  go_frame
  refine nS hM 2 rfl (HD.cells (againH h)) I_impl_Hand (hd_one' _) ?_
  clear hM; intro W9 hM
  refine wl_nil (cn6 _ _ ?_)
  clear cn6
  refine wp_ret ?_
  simp only [Exit.then, Exit.inBlock]
  exact bodyPost_ret (ret_row rfl hM 2 rfl rfl Tryz.underlying73 I_impl_Hand) rfl ⟨congrArg (fun z => Ending.returned (Value.agg (HD.cells z).toArray)) (show (againH h) = checkCutH l h from by simp [checkCutH, npe, nce]), hM.below⟩
  refine wa_start (fun w => Below w0.heap.size w0 w ∧ Blk w g4 49 (ND.cells ⟨npk, npv, npl, npr, npo, true, nplt, nprt⟩) ∧ Blk w g5 49 (ND.cells ⟨nck, ncv, ncl, ncr, nco, ncg, nclt, ncrt⟩) ∧ Blk w g2 73 (HD.cells h)) 15 rfl (by kernel_rfl) ?_
  replace hM := hM.drew
  refine wt 0 (some 19) (.pointer (some ⟨g4, 5, none⟩)) ⟨hM.below, hM.blk 1 rfl, hM.blk 0 rfl, hM.blk 3 rfl⟩ ?_
  go_frame
  refine wq 1 (some 20) (.bool true) ⟨hM.below, hM.blk 1 rfl, hM.blk 0 rfl, hM.blk 3 rfl⟩ rfl (fun w hS => r_loadc hS.2.1 4 _ rfl 5 rfl Tryz.underlying4 rfl rfl) ?_
  refine wt 2 (some 21) (.bool true) ⟨hM.below, hM.blk 1 rfl, hM.blk 0 rfl, hM.blk 3 rfl⟩ ?_
  go_frame
  refine ws 3 (some 22) ⟨hM.below, hM.blk 1 rfl, hM.blk 0 rfl, hM.blk 3 rfl⟩ ?_
  go_frame
  refine ws 4 (some 23) ⟨hM.below, hM.blk 1 rfl, hM.blk 0 rfl, hM.blk 3 rfl⟩ ?_
  go_frame
  refine wt 5 (some 24) (.bool true) ⟨hM.below, hM.blk 1 rfl, hM.blk 0 rfl, hM.blk 3 rfl⟩ ?_
  refine wt 6 (some 25) (.bool true) ⟨hM.below, hM.blk 1 rfl, hM.blk 0 rfl, hM.blk 3 rfl⟩ ?_
  go_frame
  refine ws 7 (some 26) ⟨hM.below, hM.blk 1 rfl, hM.blk 0 rfl, hM.blk 3 rfl⟩ ?_
  go_frame
  refine ws 8 (some 27) ⟨hM.below, hM.blk 1 rfl, hM.blk 0 rfl, hM.blk 3 rfl⟩ ?_
  go_frame
  refine ws 9 (some 28) ⟨hM.below, hM.blk 1 rfl, hM.blk 0 rfl, hM.blk 3 rfl⟩ ?_
  go_frame
  refine ws 10 (some 29) ⟨hM.below, hM.blk 1 rfl, hM.blk 0 rfl, hM.blk 3 rfl⟩ ?_
  go_frame
  refine ws 11 (some 30) ⟨hM.below, hM.blk 1 rfl, hM.blk 0 rfl, hM.blk 3 rfl⟩ ?_
  go_frame
  refine ws 12 (some 31) ⟨hM.below, hM.blk 1 rfl, hM.blk 0 rfl, hM.blk 3 rfl⟩ ?_
  go_frame
  refine ws 13 (some 32) ⟨hM.below, hM.blk 1 rfl, hM.blk 0 rfl, hM.blk 3 rfl⟩ ?_
  go_frame
  refine wt 14 (some 33) (.bool true) ⟨hM.below, hM.blk 1 rfl, hM.blk 0 rfl, hM.blk 3 rfl⟩ ?_
  go_frame
  refine wa_done (by kernel_rfl) ?_
  refine cn5 _ _ ?_
  clear cn5
  refine wp_cond_true rfl ?_
  refine wp_seq_k fun _ cn6 => wl_region ?_
  refine nl hM 3 rfl Tryz.underlying73 I_impl_Hand ?_
  refine nc (spec_l8Again h _) ?_
  rintro e W8 ⟨rfl, hb⟩
  refine ⟨_, rfl, ?_⟩
  replace hM := hM.call hb
  go_frame
  refine nS hM 2 rfl (HD.cells (againH h)) I_impl_Hand (hd_one' _) ?_
  clear hM; intro W9 hM
  refine wl_nil (cn6 _ _ ?_)
  clear cn6
  refine wp_ret ?_
  simp only [Exit.then, Exit.inBlock]
  exact bodyPost_ret (ret_row rfl hM 2 rfl rfl Tryz.underlying73 I_impl_Hand) rfl ⟨congrArg (fun z => Ending.returned (Value.agg (HD.cells z).toArray)) (show (againH h) = checkCutH l h from by simp [checkCutH, npe, nce]), hM.below⟩

theorem spec_l10Left (u x : Value) (l : List ND) (h : HD) (w0 : World) (h1 : NSl w0 u l) (qnx : hasB l h.next = true) :
    Calls Tryz.prog 113 #[.agg #[u, x], h.val] w0 fun e w' => e = .returned (leftUpH l h).val ∧ Below w0.heap.size w0 w' := by
  unfold HD.val
  obtain ⟨b, off, cap, rfl, kk1, mm1, s1, H1⟩ := h1.at (fun e => by subst e; simp [hasB, inB] at qnx; omega)
  obtain ⟨knx, ⟨nxk, nxv, nxl, nxr, nxo, nxg, nxlt, nxrt⟩, hknx, nxe, hlnx, hnnx⟩ := nd_at qnx
  have Anx := H1 knx _ hnnx
  have hM := Mem.start w0
  go_enter Tryz.func113, Tryz.ntmps113
  refine wp_seq_k fun _ cn1 => wl_region ?_
  refine nx hM 55 [.slice (some ⟨b, off, none⟩) l.length cap, x] ?_
  clear hM; intro g1 W1 hM
  refine nx hM 73 (HD.cells h) ?_
  clear hM; intro g2 W2 hM
  refine na hM (HD.cells HD.zero) Z_impl_Hand ?_
  clear hM; intro g3 W3 hM
  go_frame
  refine wl_nil (cn1 _ _ ?_)
  clear cn1
  refine wp_seq_k fun _ cn2 => wl_region ?_
  refine np (.pointer (some ⟨g1, 0, none⟩)) ?_
  refine ng hM 2 rfl 0 Tryz.underlying24 rfl ?_
  refine np (.pointer (some ⟨g2, 9, none⟩)) ?_
  refine ng hM 1 rfl 9 Tryz.underlying2 rfl ?_
  go_frame
  refine wl_index (by kernel_rfl) 24 49 _ _ rfl b off l.length cap 8 knx rfl rfl hknx (by omega) Tryz.underlying24 I_impl_Node ?_
  go_frame
  refine np (.pointer (some ⟨b, off + knx * 8 + 2, none⟩)) ?_
  go_frame
  refine wl_cell (by kernel_rfl) 2 _ rfl ⟨b, off + knx * 8 + 2, none⟩ rfl Tryz.underlying2 rfl (row_of hM s1 Anx 2 _ rfl) ?_
  go_frame
  refine np (.int .i64 nxl) ?_
  go_frame
  refine wl_nil (cn2 _ _ ?_)
  clear cn2
  refine wp_seq_k fun Kn3 cn3 => ?_
  refine wp_block ?_
  refine wp_seq_k fun _ cn4 => wl_region ?_
  refine np (.int .i64 nxl) ?_
  refine np (.bool (nxl != 0)) ?_
  refine np (.bool (nxl != 0)) ?_
  go_frame
  refine wl_nil (cn4 _ _ ?_)
  clear cn4
  rcases tf ((nxl != 0)) with hx1 | hx1
  rw [hx1]
  refine wp_cond_true rfl ?_
  refine wp_seq_k fun _ cn5 => wl_region ?_
  refine np (.pointer (some ⟨g2, 9, none⟩)) ?_
  refine ng hM 1 rfl 9 Tryz.underlying2 rfl ?_
  refine np (.pointer (some ⟨g2, 8, none⟩)) ?_
  refine nk hM 1 rfl 8 (.int .i64 h.next) I_int64 (by simp [HD.cells, splice_len]) ?_
  clear hM; intro W4 hM
  refine wl_nil (cn5 _ _ ?_)
  clear cn5
  refine wl_region ?_
  refine np (.int .i64 nxl) ?_
  refine np (.pointer (some ⟨g2, 9, none⟩)) ?_
  refine nk hM 1 rfl 9 (.int .i64 nxl) I_int64 (by simp [HD.cells, splice_len]) ?_
  clear hM; intro W5 hM
  refine wl_nil (cn3 _ _ ?_)
  clear cn3
  refine wp_seq_k fun _ cn6 => wl_region ?_
  refine nl hM 1 rfl Tryz.underlying73 I_impl_Hand ?_
  refine nS hM 0 rfl (HD.cells { h with up := h.next, next := nxl }) I_impl_Hand (hd_one' _) ?_
  clear hM; intro W6 hM
  refine wl_nil (cn6 _ _ ?_)
  clear cn6
  refine wp_ret ?_
  exact bodyPost_ret (ret_row rfl hM 0 rfl rfl Tryz.underlying73 I_impl_Hand) rfl ⟨congrArg (fun z => Ending.returned (Value.agg (HD.cells z).toArray)) (show { h with up := h.next, next := nxl } = leftUpH l h from by simp [leftUpH, hx1, nxe]), hM.below⟩
  rw [hx1]
  refine wp_cond_false rfl ?_
  refine wp_seq_k fun _ cn5 => wl_region ?_
  refine np (.pointer (some ⟨g2, 8, none⟩)) ?_
  refine ng hM 1 rfl 8 Tryz.underlying2 rfl ?_
  refine np (.pointer (some ⟨g2, 5, none⟩)) ?_
  refine ng hM 1 rfl 5 Tryz.underlying2 rfl ?_
  refine np (.bool (h.up == h.cur)) ?_
  refine np (.bool (h.up == h.cur)) ?_
  go_frame
  refine wl_nil (cn5 _ _ ?_)
  clear cn5
  rcases tf ((h.up == h.cur)) with hx2 | hx2
  rw [hx2]
  refine wp_cond_true rfl ?_
  refine wl_region ?_
  refine np (.pointer (some ⟨g2, 0, none⟩)) ?_
  refine nk hM 1 rfl 0 (.int .i64 17) I_int64 (by simp [HD.cells, splice_len]) ?_
  clear hM; intro W4 hM
  refine wl_nil (cn3 _ _ ?_)
  clear cn3
  refine wp_seq_k fun _ cn6 => wl_region ?_
  refine nl hM 1 rfl Tryz.underlying73 I_impl_Hand ?_
  refine nS hM 0 rfl (HD.cells { h with at_ := 17 }) I_impl_Hand (hd_one' _) ?_
  clear hM; intro W5 hM
  refine wl_nil (cn6 _ _ ?_)
  clear cn6
  refine wp_ret ?_
  exact bodyPost_ret (ret_row rfl hM 0 rfl rfl Tryz.underlying73 I_impl_Hand) rfl ⟨congrArg (fun z => Ending.returned (Value.agg (HD.cells z).toArray)) (show { h with at_ := 17 } = leftUpH l h from by simp [leftUpH, hx1, hx2, nxe]), hM.below⟩
  rw [hx2]
  refine wp_cond_false rfl ?_
  refine wl_region ?_
  refine np (.pointer (some ⟨g2, 0, none⟩)) ?_
  refine nk hM 1 rfl 0 (.int .i64 16) I_int64 (by simp [HD.cells, splice_len]) ?_
  clear hM; intro W4 hM
  refine wl_nil (cn3 _ _ ?_)
  clear cn3
  refine wp_seq_k fun _ cn6 => wl_region ?_
  refine nl hM 1 rfl Tryz.underlying73 I_impl_Hand ?_
  refine nS hM 0 rfl (HD.cells { h with at_ := 16 }) I_impl_Hand (hd_one' _) ?_
  clear hM; intro W5 hM
  refine wl_nil (cn6 _ _ ?_)
  clear cn6
  refine wp_ret ?_
  exact bodyPost_ret (ret_row rfl hM 0 rfl rfl Tryz.underlying73 I_impl_Hand) rfl ⟨congrArg (fun z => Ending.returned (Value.agg (HD.cells z).toArray)) (show { h with at_ := 16 } = leftUpH l h from by simp [leftUpH, hx1, hx2, nxe]), hM.below⟩

theorem spec_l10Check (u x : Value) (l : List ND) (h : HD) (w0 : World) (h1 : NSl w0 u l) (qnu : hasB l h.up = true) (qnx : hasB l h.next = true) :
    Calls Tryz.prog 114 #[.agg #[u, x], h.val] w0 fun e w' => e = .returned (checkUpH l h).val ∧ Below w0.heap.size w0 w' := by
  unfold HD.val
  obtain ⟨b, off, cap, rfl, kk1, mm1, s1, H1⟩ := h1.at (fun e => by subst e; simp [hasB, inB] at qnu; omega)
  obtain ⟨knu, ⟨nuk, nuv, nul, nur, nuo, nug, nult, nurt⟩, hknu, nue, hlnu, hnnu⟩ := nd_at qnu
  have Anu := H1 knu _ hnnu
  obtain ⟨knx, ⟨nxk, nxv, nxl, nxr, nxo, nxg, nxlt, nxrt⟩, hknx, nxe, hlnx, hnnx⟩ := nd_at qnx
  have Anx := H1 knx _ hnnx
  have hM := Mem.start w0
  go_enter Tryz.func114, Tryz.ntmps114
  refine wp_seq_k fun _ cn1 => wl_region ?_
  refine nx hM 55 [.slice (some ⟨b, off, none⟩) l.length cap, x] ?_
  clear hM; intro g1 W1 hM
  refine nx hM 73 (HD.cells h) ?_
  clear hM; intro g2 W2 hM
  refine na hM (HD.cells HD.zero) Z_impl_Hand ?_
  clear hM; intro g3 W3 hM
  go_frame
  refine wl_nil (cn1 _ _ ?_)
  clear cn1
  refine wp_seq_k fun Kn2 cn2 => ?_
  refine wp_seq_k fun Kn3 cn3 => ?_
  rcases tf (((kidF (sideUp h) nul nur) != h.next)) with hx1 | hx1
  refine wa_start (fun w => Below w0.heap.size w0 w ∧ Blk w g1 55 [.slice (some ⟨b, off, none⟩) l.length cap, x] ∧ Blk w g2 73 (HD.cells h)) 40 rfl (by kernel_rfl) ?_
  replace hM := hM.drew
  refine wt 0 (some 5) (.pointer (some ⟨g1, 0, none⟩)) ⟨hM.below, hM.blk 2 rfl, hM.blk 1 rfl⟩ ?_
  go_frame
  refine wq 1 (some 6) (.slice (some ⟨b, off, none⟩) l.length cap) ⟨hM.below, hM.blk 2 rfl, hM.blk 1 rfl⟩ rfl (fun w hS => r_loadc hS.2.1 24 _ rfl 0 rfl Tryz.underlying24 rfl rfl) ?_
  refine wt 2 (some 7) (.pointer (some ⟨g2, 8, none⟩)) ⟨hM.below, hM.blk 2 rfl, hM.blk 1 rfl⟩ ?_
  go_frame
  refine wq 3 (some 8) (.int .i64 h.up) ⟨hM.below, hM.blk 2 rfl, hM.blk 1 rfl⟩ rfl (fun w hS => r_loadc hS.2.2 2 _ rfl 8 rfl Tryz.underlying2 rfl rfl) ?_
  go_frame
  refine wq 4 (some 9) (.pointer (some ⟨b, off + knu * 8, none⟩)) ⟨hM.below, hM.blk 2 rfl, hM.blk 1 rfl⟩ rfl (fun w hS => r_index 24 49 _ _ rfl b off l.length cap 8 knu rfl rfl hknu (by omega) Tryz.underlying24 I_impl_Node) ?_
  go_frame
  refine wq 5 (some 10) (.agg (ND.cells ⟨nuk, nuv, nul, nur, nuo, nug, nult, nurt⟩).toArray) ⟨hM.below, hM.blk 2 rfl, hM.blk 1 rfl⟩ rfl (fun w hS => r_cells 49 _ rfl b (off + knu * 8) rfl Tryz.underlying49 (ND.cells ⟨nuk, nuv, nul, nur, nuo, nug, nult, nurt⟩) I_impl_Node (row_of (Mem.ofBelow hS.1) s1 Anu)) ?_
  go_frame
  refine wq 6 (some 11) (.agg (HD.cells h).toArray) ⟨hM.below, hM.blk 2 rfl, hM.blk 1 rfl⟩ rfl (fun w hS => r_load hS.2.2 73 _ rfl rfl Tryz.underlying73 I_impl_Hand) ?_
  refine wt 9 (some 14) (.pointer (some ⟨g2, 9, none⟩)) ⟨hM.below, hM.blk 2 rfl, hM.blk 1 rfl⟩ ?_
  go_frame
  refine wq 10 (some 15) (.int .i64 h.next) ⟨hM.below, hM.blk 2 rfl, hM.blk 1 rfl⟩ rfl (fun w hS => r_loadc hS.2.2 2 _ rfl 9 rfl Tryz.underlying2 rfl rfl) ?_
  go_frame
  refine wn 7 ?_
  refine oc (some 12) (spec_l10Side h _) ?_
  rintro e W4 ⟨rfl, hb⟩
  replace hM := hM.call hb
  refine ⟨_, rfl, ⟨hM.below, hM.blk 2 rfl, hM.blk 1 rfl⟩, ?_⟩
  go_frame
  refine wn 8 ?_
  refine oc (some 13) (spec_KidOf nuk nuv nul nur nuo nug nult nurt (sideUp h) _) ?_
  rintro e W5 ⟨rfl, hb⟩
  replace hM := hM.call hb
  refine ⟨_, rfl, wk ⟨hM.below, hM.blk 2 rfl, hM.blk 1 rfl⟩ fun hs => ?_⟩
  go_frame
  refine wq 11 (some 16) (.bool true) hs rfl (fun w hS => r_eq (v := .bool ((kidF (sideUp h) nul nur) != h.next)) (by kernel_rfl) (congrArg Value.bool hx1)) ?_
  refine wt 12 (some 17) (.bool true) hs ?_
  go_frame
  refine ws 13 (some 18) hs ?_
  go_frame
  refine ws 14 (some 19) hs ?_
  go_frame
  refine ws 15 (some 20) hs ?_
  go_frame
  refine ws 16 (some 21) hs ?_
  go_frame
  refine ws 17 (some 22) hs ?_
  go_frame
  refine ws 18 (some 23) hs ?_
  go_frame
  refine ws 19 (some 24) hs ?_
  go_frame
  refine wt 20 (some 25) (.bool true) hs ?_
  refine wt 21 (some 26) (.bool true) hs ?_
  go_frame
  refine ws 22 (some 27) hs ?_
  go_frame
  refine ws 23 (some 28) hs ?_
  go_frame
  refine ws 24 (some 29) hs ?_
  go_frame
  refine ws 25 (some 30) hs ?_
  go_frame
  refine ws 26 (some 31) hs ?_
  go_frame
  refine ws 27 (some 32) hs ?_
  go_frame
  refine ws 28 (some 33) hs ?_
  go_frame
  refine wt 29 (some 34) (.bool true) hs ?_
  refine wt 30 (some 35) (.bool true) hs ?_
  go_frame
  refine ws 31 (some 36) hs ?_
  go_frame
  refine ws 32 (some 37) hs ?_
  go_frame
  refine ws 33 (some 38) hs ?_
  go_frame
  refine ws 34 (some 39) hs ?_
  go_frame
  refine ws 35 (some 40) hs ?_
  go_frame
  refine ws 36 (some 41) hs ?_
  go_frame
  refine ws 37 (some 42) hs ?_
  go_frame
  refine ws 38 (some 43) hs ?_
  go_frame
  refine wt 39 (some 44) (.bool true) hs ?_
  go_frame
  refine wa_done (by kernel_rfl) ?_
  refine cn3 _ _ ?_
  clear cn3
  refine wp_cond_true rfl ?_
  refine wp_seq_k fun _ cn4 => wl_region ?_
  refine nl hM 1 rfl Tryz.underlying73 I_impl_Hand ?_
  refine nc (spec_l8Again h _) ?_
  rintro e W6 ⟨rfl, hb⟩
  refine ⟨_, rfl, ?_⟩
  replace hM := hM.call hb
  go_frame
  refine nS hM 0 rfl (HD.cells (againH h)) I_impl_Hand (hd_one' _) ?_
  clear hM; intro W7 hM
  refine wl_nil (cn4 _ _ ?_)
  clear cn4
  refine wp_ret ?_
  simp only [Exit.then, Exit.inBlock]
  exact bodyPost_ret (ret_row rfl hM 0 rfl rfl Tryz.underlying73 I_impl_Hand) rfl ⟨congrArg (fun z => Ending.returned (Value.agg (HD.cells z).toArray)) (show (againH h) = checkUpH l h from by simp [checkUpH, hx1, nue, nxe]), hM.below⟩
  cases nug
  cases nxg
  refine wa_start (fun w => Below w0.heap.size w0 w ∧ Blk w g1 55 [.slice (some ⟨b, off, none⟩) l.length cap, x] ∧ Blk w g2 73 (HD.cells h)) 40 rfl (by kernel_rfl) ?_
  replace hM := hM.drew
  refine wt 0 (some 5) (.pointer (some ⟨g1, 0, none⟩)) ⟨hM.below, hM.blk 2 rfl, hM.blk 1 rfl⟩ ?_
  go_frame
  refine wq 1 (some 6) (.slice (some ⟨b, off, none⟩) l.length cap) ⟨hM.below, hM.blk 2 rfl, hM.blk 1 rfl⟩ rfl (fun w hS => r_loadc hS.2.1 24 _ rfl 0 rfl Tryz.underlying24 rfl rfl) ?_
  refine wt 2 (some 7) (.pointer (some ⟨g2, 8, none⟩)) ⟨hM.below, hM.blk 2 rfl, hM.blk 1 rfl⟩ ?_
  go_frame
  refine wq 3 (some 8) (.int .i64 h.up) ⟨hM.below, hM.blk 2 rfl, hM.blk 1 rfl⟩ rfl (fun w hS => r_loadc hS.2.2 2 _ rfl 8 rfl Tryz.underlying2 rfl rfl) ?_
  go_frame
  refine wq 4 (some 9) (.pointer (some ⟨b, off + knu * 8, none⟩)) ⟨hM.below, hM.blk 2 rfl, hM.blk 1 rfl⟩ rfl (fun w hS => r_index 24 49 _ _ rfl b off l.length cap 8 knu rfl rfl hknu (by omega) Tryz.underlying24 I_impl_Node) ?_
  go_frame
  refine wq 5 (some 10) (.agg (ND.cells ⟨nuk, nuv, nul, nur, nuo, false, nult, nurt⟩).toArray) ⟨hM.below, hM.blk 2 rfl, hM.blk 1 rfl⟩ rfl (fun w hS => r_cells 49 _ rfl b (off + knu * 8) rfl Tryz.underlying49 (ND.cells ⟨nuk, nuv, nul, nur, nuo, false, nult, nurt⟩) I_impl_Node (row_of (Mem.ofBelow hS.1) s1 Anu)) ?_
  go_frame
  refine wq 6 (some 11) (.agg (HD.cells h).toArray) ⟨hM.below, hM.blk 2 rfl, hM.blk 1 rfl⟩ rfl (fun w hS => r_load hS.2.2 73 _ rfl rfl Tryz.underlying73 I_impl_Hand) ?_
  refine wt 9 (some 14) (.pointer (some ⟨g2, 9, none⟩)) ⟨hM.below, hM.blk 2 rfl, hM.blk 1 rfl⟩ ?_
  go_frame
  refine wq 10 (some 15) (.int .i64 h.next) ⟨hM.below, hM.blk 2 rfl, hM.blk 1 rfl⟩ rfl (fun w hS => r_loadc hS.2.2 2 _ rfl 9 rfl Tryz.underlying2 rfl rfl) ?_
  go_frame
  refine wn 7 ?_
  refine oc (some 12) (spec_l10Side h _) ?_
  rintro e W4 ⟨rfl, hb⟩
  replace hM := hM.call hb
  refine ⟨_, rfl, ⟨hM.below, hM.blk 2 rfl, hM.blk 1 rfl⟩, ?_⟩
  go_frame
  refine wn 8 ?_
  refine oc (some 13) (spec_KidOf nuk nuv nul nur nuo false nult nurt (sideUp h) _) ?_
  rintro e W5 ⟨rfl, hb⟩
  replace hM := hM.call hb
  refine ⟨_, rfl, wk ⟨hM.below, hM.blk 2 rfl, hM.blk 1 rfl⟩ fun hs => ?_⟩
  go_frame
  refine wq 11 (some 16) (.bool false) hs rfl (fun w hS => r_eq (v := .bool ((kidF (sideUp h) nul nur) != h.next)) (by kernel_rfl) (congrArg Value.bool hx1)) ?_
  refine wt 12 (some 17) (.bool false) hs ?_
  refine wt 13 (some 18) (.pointer (some ⟨g1, 0, none⟩)) hs ?_
  go_frame
  refine wq 14 (some 19) (.slice (some ⟨b, off, none⟩) l.length cap) hs rfl (fun w hS => r_loadc hS.2.1 24 _ rfl 0 rfl Tryz.underlying24 rfl rfl) ?_
  refine wt 15 (some 20) (.pointer (some ⟨g2, 8, none⟩)) hs ?_
  go_frame
  refine wq 16 (some 21) (.int .i64 h.up) hs rfl (fun w hS => r_loadc hS.2.2 2 _ rfl 8 rfl Tryz.underlying2 rfl rfl) ?_
  go_frame
  refine wq 17 (some 22) (.pointer (some ⟨b, off + knu * 8, none⟩)) hs rfl (fun w hS => r_index 24 49 _ _ rfl b off l.length cap 8 knu rfl rfl hknu (by omega) Tryz.underlying24 I_impl_Node) ?_
  refine wt 18 (some 23) (.pointer (some ⟨b, off + knu * 8 + 5, none⟩)) hs ?_
  go_frame
  refine wq 19 (some 24) (.bool false) hs rfl (fun w hS => r_cell 4 _ rfl ⟨b, off + knu * 8 + 5, none⟩ rfl Tryz.underlying4 rfl (row_of (Mem.ofBelow hS.1) s1 Anu 5 _ rfl)) ?_
  refine wt 20 (some 25) (.bool false) hs ?_
  refine wt 21 (some 26) (.bool false) hs ?_
  refine wt 22 (some 27) (.pointer (some ⟨g1, 0, none⟩)) hs ?_
  go_frame
  refine wq 23 (some 28) (.slice (some ⟨b, off, none⟩) l.length cap) hs rfl (fun w hS => r_loadc hS.2.1 24 _ rfl 0 rfl Tryz.underlying24 rfl rfl) ?_
  refine wt 24 (some 29) (.pointer (some ⟨g2, 9, none⟩)) hs ?_
  go_frame
  refine wq 25 (some 30) (.int .i64 h.next) hs rfl (fun w hS => r_loadc hS.2.2 2 _ rfl 9 rfl Tryz.underlying2 rfl rfl) ?_
  go_frame
  refine wq 26 (some 31) (.pointer (some ⟨b, off + knx * 8, none⟩)) hs rfl (fun w hS => r_index 24 49 _ _ rfl b off l.length cap 8 knx rfl rfl hknx (by omega) Tryz.underlying24 I_impl_Node) ?_
  refine wt 27 (some 32) (.pointer (some ⟨b, off + knx * 8 + 5, none⟩)) hs ?_
  go_frame
  refine wq 28 (some 33) (.bool false) hs rfl (fun w hS => r_cell 4 _ rfl ⟨b, off + knx * 8 + 5, none⟩ rfl Tryz.underlying4 rfl (row_of (Mem.ofBelow hS.1) s1 Anx 5 _ rfl)) ?_
  refine wt 29 (some 34) (.bool false) hs ?_
  refine wt 30 (some 35) (.bool false) hs ?_
  refine wt 31 (some 36) (.pointer (some ⟨g1, 0, none⟩)) hs ?_
  go_frame
  refine wq 32 (some 37) (.slice (some ⟨b, off, none⟩) l.length cap) hs rfl (fun w hS => r_loadc hS.2.1 24 _ rfl 0 rfl Tryz.underlying24 rfl rfl) ?_
  refine wt 33 (some 38) (.pointer (some ⟨g2, 9, none⟩)) hs ?_
  go_frame
  refine wq 34 (some 39) (.int .i64 h.next) hs rfl (fun w hS => r_loadc hS.2.2 2 _ rfl 9 rfl Tryz.underlying2 rfl rfl) ?_
  go_frame
  refine wq 35 (some 40) (.pointer (some ⟨b, off + knx * 8, none⟩)) hs rfl (fun w hS => r_index 24 49 _ _ rfl b off l.length cap 8 knx rfl rfl hknx (by omega) Tryz.underlying24 I_impl_Node) ?_
  refine wt 36 (some 41) (.pointer (some ⟨b, off + knx * 8 + 2, none⟩)) hs ?_
  go_frame
  refine wq 37 (some 42) (.int .i64 nxl) hs rfl (fun w hS => r_cell 2 _ rfl ⟨b, off + knx * 8 + 2, none⟩ rfl Tryz.underlying2 rfl (row_of (Mem.ofBelow hS.1) s1 Anx 2 _ rfl)) ?_
  refine wt 38 (some 43) (.bool (nxl != 0)) hs ?_
  refine wt 39 (some 44) (.bool (nxl != 0)) hs ?_
  go_frame
  refine wa_done (by kernel_rfl) ?_
  refine cn3 _ _ ?_
  clear cn3
  rcases tf ((nxl != 0)) with hx2 | hx2
  rw [hx2]
  refine wp_cond_true rfl ?_
  refine wp_seq_k fun _ cn4 => wl_region ?_
  refine nl hM 1 rfl Tryz.underlying73 I_impl_Hand ?_
  refine nc (spec_l8Again h _) ?_
  rintro e W6 ⟨rfl, hb⟩
  refine ⟨_, rfl, ?_⟩
  replace hM := hM.call hb
  go_frame
  refine nS hM 0 rfl (HD.cells (againH h)) I_impl_Hand (hd_one' _) ?_
  clear hM; intro W7 hM
  refine wl_nil (cn4 _ _ ?_)
  clear cn4
  refine wp_ret ?_
  simp only [Exit.then, Exit.inBlock]
  exact bodyPost_ret (ret_row rfl hM 0 rfl rfl Tryz.underlying73 I_impl_Hand) rfl ⟨congrArg (fun z => Ending.returned (Value.agg (HD.cells z).toArray)) (show (againH h) = checkUpH l h from by simp [checkUpH, hx1, hx2, nue, nxe]), hM.below⟩
  rw [hx2]
  refine wp_cond_false rfl ?_
  refine wp_skip ?_
  refine cn2 _ _ ?_
  clear cn2
  refine wp_seq_k fun _ cn4 => wl_region ?_
  refine np (.pointer (some ⟨g2, 0, none⟩)) ?_
  refine nk hM 1 rfl 0 (.int .i64 19) I_int64 (by simp [HD.cells, splice_len]) ?_
  clear hM; intro W6 hM
  refine wl_nil (cn4 _ _ ?_)
  clear cn4
  refine wp_seq_k fun _ cn5 => wl_region ?_
  refine nl hM 1 rfl Tryz.underlying73 I_impl_Hand ?_
  refine nS hM 0 rfl (HD.cells { h with at_ := 19 }) I_impl_Hand (hd_one' _) ?_
  clear hM; intro W7 hM
  refine wl_nil (cn5 _ _ ?_)
  clear cn5
  refine wp_ret ?_
  exact bodyPost_ret (ret_row rfl hM 0 rfl rfl Tryz.underlying73 I_impl_Hand) rfl ⟨congrArg (fun z => Ending.returned (Value.agg (HD.cells z).toArray)) (show { h with at_ := 19 } = checkUpH l h from by simp [checkUpH, hx1, hx2, nue, nxe]), hM.below⟩
  refine wa_start (fun w => Below w0.heap.size w0 w ∧ Blk w g1 55 [.slice (some ⟨b, off, none⟩) l.length cap, x] ∧ Blk w g2 73 (HD.cells h)) 40 rfl (by kernel_rfl) ?_
  replace hM := hM.drew
  refine wt 0 (some 5) (.pointer (some ⟨g1, 0, none⟩)) ⟨hM.below, hM.blk 2 rfl, hM.blk 1 rfl⟩ ?_
  go_frame
  refine wq 1 (some 6) (.slice (some ⟨b, off, none⟩) l.length cap) ⟨hM.below, hM.blk 2 rfl, hM.blk 1 rfl⟩ rfl (fun w hS => r_loadc hS.2.1 24 _ rfl 0 rfl Tryz.underlying24 rfl rfl) ?_
  refine wt 2 (some 7) (.pointer (some ⟨g2, 8, none⟩)) ⟨hM.below, hM.blk 2 rfl, hM.blk 1 rfl⟩ ?_
  go_frame
  refine wq 3 (some 8) (.int .i64 h.up) ⟨hM.below, hM.blk 2 rfl, hM.blk 1 rfl⟩ rfl (fun w hS => r_loadc hS.2.2 2 _ rfl 8 rfl Tryz.underlying2 rfl rfl) ?_
  go_frame
  refine wq 4 (some 9) (.pointer (some ⟨b, off + knu * 8, none⟩)) ⟨hM.below, hM.blk 2 rfl, hM.blk 1 rfl⟩ rfl (fun w hS => r_index 24 49 _ _ rfl b off l.length cap 8 knu rfl rfl hknu (by omega) Tryz.underlying24 I_impl_Node) ?_
  go_frame
  refine wq 5 (some 10) (.agg (ND.cells ⟨nuk, nuv, nul, nur, nuo, false, nult, nurt⟩).toArray) ⟨hM.below, hM.blk 2 rfl, hM.blk 1 rfl⟩ rfl (fun w hS => r_cells 49 _ rfl b (off + knu * 8) rfl Tryz.underlying49 (ND.cells ⟨nuk, nuv, nul, nur, nuo, false, nult, nurt⟩) I_impl_Node (row_of (Mem.ofBelow hS.1) s1 Anu)) ?_
  go_frame
  refine wq 6 (some 11) (.agg (HD.cells h).toArray) ⟨hM.below, hM.blk 2 rfl, hM.blk 1 rfl⟩ rfl (fun w hS => r_load hS.2.2 73 _ rfl rfl Tryz.underlying73 I_impl_Hand) ?_
  refine wt 9 (some 14) (.pointer (some ⟨g2, 9, none⟩)) ⟨hM.below, hM.blk 2 rfl, hM.blk 1 rfl⟩ ?_
  go_frame
  refine wq 10 (some 15) (.int .i64 h.next) ⟨hM.below, hM.blk 2 rfl, hM.blk 1 rfl⟩ rfl (fun w hS => r_loadc hS.2.2 2 _ rfl 9 rfl Tryz.underlying2 rfl rfl) ?_
  go_frame
  refine wn 7 ?_
  refine oc (some 12) (spec_l10Side h _) ?_
  rintro e W4 ⟨rfl, hb⟩
  replace hM := hM.call hb
  refine ⟨_, rfl, ⟨hM.below, hM.blk 2 rfl, hM.blk 1 rfl⟩, ?_⟩
  go_frame
  refine wn 8 ?_
  refine oc (some 13) (spec_KidOf nuk nuv nul nur nuo false nult nurt (sideUp h) _) ?_
  rintro e W5 ⟨rfl, hb⟩
  replace hM := hM.call hb
  refine ⟨_, rfl, wk ⟨hM.below, hM.blk 2 rfl, hM.blk 1 rfl⟩ fun hs => ?_⟩
  go_frame
  refine wq 11 (some 16) (.bool false) hs rfl (fun w hS => r_eq (v := .bool ((kidF (sideUp h) nul nur) != h.next)) (by kernel_rfl) (congrArg Value.bool hx1)) ?_
  refine wt 12 (some 17) (.bool false) hs ?_
  refine wt 13 (some 18) (.pointer (some ⟨g1, 0, none⟩)) hs ?_
  go_frame
  refine wq 14 (some 19) (.slice (some ⟨b, off, none⟩) l.length cap) hs rfl (fun w hS => r_loadc hS.2.1 24 _ rfl 0 rfl Tryz.underlying24 rfl rfl) ?_
  refine wt 15 (some 20) (.pointer (some ⟨g2, 8, none⟩)) hs ?_
  go_frame
  refine wq 16 (some 21) (.int .i64 h.up) hs rfl (fun w hS => r_loadc hS.2.2 2 _ rfl 8 rfl Tryz.underlying2 rfl rfl) ?_
  go_frame
  refine wq 17 (some 22) (.pointer (some ⟨b, off + knu * 8, none⟩)) hs rfl (fun w hS => r_index 24 49 _ _ rfl b off l.length cap 8 knu rfl rfl hknu (by omega) Tryz.underlying24 I_impl_Node) ?_
  refine wt 18 (some 23) (.pointer (some ⟨b, off + knu * 8 + 5, none⟩)) hs ?_
  go_frame
  refine wq 19 (some 24) (.bool false) hs rfl (fun w hS => r_cell 4 _ rfl ⟨b, off + knu * 8 + 5, none⟩ rfl Tryz.underlying4 rfl (row_of (Mem.ofBelow hS.1) s1 Anu 5 _ rfl)) ?_
  refine wt 20 (some 25) (.bool false) hs ?_
  refine wt 21 (some 26) (.bool false) hs ?_
  refine wt 22 (some 27) (.pointer (some ⟨g1, 0, none⟩)) hs ?_
  go_frame
  refine wq 23 (some 28) (.slice (some ⟨b, off, none⟩) l.length cap) hs rfl (fun w hS => r_loadc hS.2.1 24 _ rfl 0 rfl Tryz.underlying24 rfl rfl) ?_
  refine wt 24 (some 29) (.pointer (some ⟨g2, 9, none⟩)) hs ?_
  go_frame
  refine wq 25 (some 30) (.int .i64 h.next) hs rfl (fun w hS => r_loadc hS.2.2 2 _ rfl 9 rfl Tryz.underlying2 rfl rfl) ?_
  go_frame
  refine wq 26 (some 31) (.pointer (some ⟨b, off + knx * 8, none⟩)) hs rfl (fun w hS => r_index 24 49 _ _ rfl b off l.length cap 8 knx rfl rfl hknx (by omega) Tryz.underlying24 I_impl_Node) ?_
  refine wt 27 (some 32) (.pointer (some ⟨b, off + knx * 8 + 5, none⟩)) hs ?_
  go_frame
  refine wq 28 (some 33) (.bool true) hs rfl (fun w hS => r_cell 4 _ rfl ⟨b, off + knx * 8 + 5, none⟩ rfl Tryz.underlying4 rfl (row_of (Mem.ofBelow hS.1) s1 Anx 5 _ rfl)) ?_
  refine wt 29 (some 34) (.bool true) hs ?_
  refine wt 30 (some 35) (.bool true) hs ?_
  go_frame
  refine ws 31 (some 36) hs ?_
  go_frame
  refine ws 32 (some 37) hs ?_
  go_frame
  refine ws 33 (some 38) hs ?_
  go_frame
  refine ws 34 (some 39) hs ?_
  go_frame
  refine ws 35 (some 40) hs ?_
  go_frame
  refine ws 36 (some 41) hs ?_
  go_frame
  refine ws 37 (some 42) hs ?_
  go_frame
  refine ws 38 (some 43) hs ?_
  go_frame
  refine wt 39 (some 44) (.bool true) hs ?_
  go_frame
  refine wa_done (by kernel_rfl) ?_
  refine cn3 _ _ ?_
  clear cn3
  refine wp_cond_true rfl ?_
  refine wp_seq_k fun _ cn4 => wl_region ?_
  refine nl hM 1 rfl Tryz.underlying73 I_impl_Hand ?_
  refine nc (spec_l8Again h _) ?_
  rintro e W6 ⟨rfl, hb⟩
  refine ⟨_, rfl, ?_⟩
  replace hM := hM.call hb
  go_frame
  refine nS hM 0 rfl (HD.cells (againH h)) I_impl_Hand (hd_one' _) ?_
  clear hM; intro W7 hM
  refine wl_nil (cn4 _ _ ?_)
  clear cn4
  refine wp_ret ?_
  simp only [Exit.then, Exit.inBlock]
  exact bodyPost_ret (ret_row rfl hM 0 rfl rfl Tryz.underlying73 I_impl_Hand) rfl ⟨congrArg (fun z => Ending.returned (Value.agg (HD.cells z).toArray)) (show (againH h) = checkUpH l h from by simp [checkUpH, hx1, nue, nxe]), hM.below⟩
  refine wa_start (fun w => Below w0.heap.size w0 w ∧ Blk w g1 55 [.slice (some ⟨b, off, none⟩) l.length cap, x] ∧ Blk w g2 73 (HD.cells h)) 40 rfl (by kernel_rfl) ?_
  replace hM := hM.drew
  refine wt 0 (some 5) (.pointer (some ⟨g1, 0, none⟩)) ⟨hM.below, hM.blk 2 rfl, hM.blk 1 rfl⟩ ?_
  go_frame
  refine wq 1 (some 6) (.slice (some ⟨b, off, none⟩) l.length cap) ⟨hM.below, hM.blk 2 rfl, hM.blk 1 rfl⟩ rfl (fun w hS => r_loadc hS.2.1 24 _ rfl 0 rfl Tryz.underlying24 rfl rfl) ?_
  refine wt 2 (some 7) (.pointer (some ⟨g2, 8, none⟩)) ⟨hM.below, hM.blk 2 rfl, hM.blk 1 rfl⟩ ?_
  go_frame
  refine wq 3 (some 8) (.int .i64 h.up) ⟨hM.below, hM.blk 2 rfl, hM.blk 1 rfl⟩ rfl (fun w hS => r_loadc hS.2.2 2 _ rfl 8 rfl Tryz.underlying2 rfl rfl) ?_
  go_frame
  refine wq 4 (some 9) (.pointer (some ⟨b, off + knu * 8, none⟩)) ⟨hM.below, hM.blk 2 rfl, hM.blk 1 rfl⟩ rfl (fun w hS => r_index 24 49 _ _ rfl b off l.length cap 8 knu rfl rfl hknu (by omega) Tryz.underlying24 I_impl_Node) ?_
  go_frame
  refine wq 5 (some 10) (.agg (ND.cells ⟨nuk, nuv, nul, nur, nuo, true, nult, nurt⟩).toArray) ⟨hM.below, hM.blk 2 rfl, hM.blk 1 rfl⟩ rfl (fun w hS => r_cells 49 _ rfl b (off + knu * 8) rfl Tryz.underlying49 (ND.cells ⟨nuk, nuv, nul, nur, nuo, true, nult, nurt⟩) I_impl_Node (row_of (Mem.ofBelow hS.1) s1 Anu)) ?_
  go_frame
  refine wq 6 (some 11) (.agg (HD.cells h).toArray) ⟨hM.below, hM.blk 2 rfl, hM.blk 1 rfl⟩ rfl (fun w hS => r_load hS.2.2 73 _ rfl rfl Tryz.underlying73 I_impl_Hand) ?_
  refine wt 9 (some 14) (.pointer (some ⟨g2, 9, none⟩)) ⟨hM.below, hM.blk 2 rfl, hM.blk 1 rfl⟩ ?_
  go_frame
  refine wq 10 (some 15) (.int .i64 h.next) ⟨hM.below, hM.blk 2 rfl, hM.blk 1 rfl⟩ rfl (fun w hS => r_loadc hS.2.2 2 _ rfl 9 rfl Tryz.underlying2 rfl rfl) ?_
  go_frame
  refine wn 7 ?_
  refine oc (some 12) (spec_l10Side h _) ?_
  rintro e W4 ⟨rfl, hb⟩
  replace hM := hM.call hb
  refine ⟨_, rfl, ⟨hM.below, hM.blk 2 rfl, hM.blk 1 rfl⟩, ?_⟩
  go_frame
  refine wn 8 ?_
  refine oc (some 13) (spec_KidOf nuk nuv nul nur nuo true nult nurt (sideUp h) _) ?_
  rintro e W5 ⟨rfl, hb⟩
  replace hM := hM.call hb
  refine ⟨_, rfl, wk ⟨hM.below, hM.blk 2 rfl, hM.blk 1 rfl⟩ fun hs => ?_⟩
  go_frame
  refine wq 11 (some 16) (.bool false) hs rfl (fun w hS => r_eq (v := .bool ((kidF (sideUp h) nul nur) != h.next)) (by kernel_rfl) (congrArg Value.bool hx1)) ?_
  refine wt 12 (some 17) (.bool false) hs ?_
  refine wt 13 (some 18) (.pointer (some ⟨g1, 0, none⟩)) hs ?_
  go_frame
  refine wq 14 (some 19) (.slice (some ⟨b, off, none⟩) l.length cap) hs rfl (fun w hS => r_loadc hS.2.1 24 _ rfl 0 rfl Tryz.underlying24 rfl rfl) ?_
  refine wt 15 (some 20) (.pointer (some ⟨g2, 8, none⟩)) hs ?_
  go_frame
  refine wq 16 (some 21) (.int .i64 h.up) hs rfl (fun w hS => r_loadc hS.2.2 2 _ rfl 8 rfl Tryz.underlying2 rfl rfl) ?_
  go_frame
  refine wq 17 (some 22) (.pointer (some ⟨b, off + knu * 8, none⟩)) hs rfl (fun w hS => r_index 24 49 _ _ rfl b off l.length cap 8 knu rfl rfl hknu (by omega) Tryz.underlying24 I_impl_Node) ?_
  refine wt 18 (some 23) (.pointer (some ⟨b, off + knu * 8 + 5, none⟩)) hs ?_
  go_frame
  refine wq 19 (some 24) (.bool true) hs rfl (fun w hS => r_cell 4 _ rfl ⟨b, off + knu * 8 + 5, none⟩ rfl Tryz.underlying4 rfl (row_of (Mem.ofBelow hS.1) s1 Anu 5 _ rfl)) ?_
  refine wt 20 (some 25) (.bool true) hs ?_
  refine wt 21 (some 26) (.bool true) hs ?_
  go_frame
  refine ws 22 (some 27) hs ?_
  go_frame
  refine ws 23 (some 28) hs ?_
  go_frame
  refine ws 24 (some 29) hs ?_
  go_frame
  refine ws 25 (some 30) hs ?_
  go_frame
  refine ws 26 (some 31) hs ?_
  go_frame
  refine ws 27 (some 32) hs ?_
  go_frame
  refine ws 28 (some 33) hs ?_
  go_frame
  refine wt 29 (some 34) (.bool true) hs ?_
  refine wt 30 (some 35) (.bool true) hs ?_
  go_frame
  refine ws 31 (some 36) hs ?_
  go_frame
  refine ws 32 (some 37) hs ?_
  go_frame
  refine ws 33 (some 38) hs ?_
  go_frame
  refine ws 34 (some 39) hs ?_
  go_frame
  refine ws 35 (some 40) hs ?_
  go_frame
  refine ws 36 (some 41) hs ?_
  go_frame
  refine ws 37 (some 42) hs ?_
  go_frame
  refine ws 38 (some 43) hs ?_
  go_frame
  refine wt 39 (some 44) (.bool true) hs ?_
  go_frame
  refine wa_done (by kernel_rfl) ?_
  refine cn3 _ _ ?_
  clear cn3
  refine wp_cond_true rfl ?_
  refine wp_seq_k fun _ cn4 => wl_region ?_
  refine nl hM 1 rfl Tryz.underlying73 I_impl_Hand ?_
  refine nc (spec_l8Again h _) ?_
  rintro e W6 ⟨rfl, hb⟩
  refine ⟨_, rfl, ?_⟩
  replace hM := hM.call hb
  go_frame
  refine nS hM 0 rfl (HD.cells (againH h)) I_impl_Hand (hd_one' _) ?_
  clear hM; intro W7 hM
  refine wl_nil (cn4 _ _ ?_)
  clear cn4
  refine wp_ret ?_
  simp only [Exit.then, Exit.inBlock]
  exact bodyPost_ret (ret_row rfl hM 0 rfl rfl Tryz.underlying73 I_impl_Hand) rfl ⟨congrArg (fun z => Ending.returned (Value.agg (HD.cells z).toArray)) (show (againH h) = checkUpH l h from by simp [checkUpH, hx1, nue, nxe]), hM.below⟩

theorem spec_l7Down (u x : Value) (l : List ND) (h : HD) (w0 : World) (h1 : NSl w0 u l) (qnp : hasB l h.prev = true) (qk : hasB l (kidF h.side (nd l h.prev).l (nd l h.prev).r) = true) :
    Calls Tryz.prog 96 #[.agg #[u, x], h.val] w0 fun e w' => e = .returned (downH l h).val ∧ Below w0.heap.size w0 w' := by
  unfold HD.val
  obtain ⟨b, off, cap, rfl, kk1, mm1, s1, H1⟩ := h1.at (fun e => by subst e; simp [hasB, inB] at qnp; omega)
  obtain ⟨knp, ⟨npk, npv, npl, npr, npo, npg, nplt, nprt⟩, hknp, npe, hlnp, hnnp⟩ := nd_at qnp
  have Anp := H1 knp _ hnnp
  rw [npe] at qk
  obtain ⟨kc, ⟨nck, ncv, ncl, ncr, nco, ncg, nclt, ncrt⟩, hkc, nce, hlc, hnc⟩ := nd_at qk
  have Ac := H1 kc _ hnc
  have hM := Mem.start w0
  go_enter Tryz.func96, Tryz.ntmps96
  refine wp_seq_k fun _ cn1 => wl_region ?_
  refine nx hM 55 [.slice (some ⟨b, off, none⟩) l.length cap, x] ?_
  clear hM; intro g1 W1 hM
  refine nx hM 73 (HD.cells h) ?_
  clear hM; intro g2 W2 hM
  refine na hM (HD.cells HD.zero) Z_impl_Hand ?_
  clear hM; intro g3 W3 hM
  go_frame
  refine wl_nil (cn1 _ _ ?_)
  clear cn1
  refine wp_seq_k fun Kn2 cn2 => ?_
  refine wa_join (fun act W => ∃ (jj : Nat), act = ⟨#[.agg #[.slice (some ⟨b, off, none⟩) l.length cap, x], .agg (HD.cells h).toArray, .pointer (some ⟨g1, 0, none⟩), .pointer (some ⟨g2, 0, none⟩), .pointer (some ⟨g3, 0, none⟩), .pointer (some ⟨g1, 0, none⟩), .slice (some ⟨b, off, none⟩) l.length cap, .pointer (some ⟨g2, 4, none⟩), .int .i64 h.prev, .pointer (some ⟨b, off + knp * 8, none⟩), .agg (ND.cells ⟨npk, npv, npl, npr, npo, npg, nplt, nprt⟩).toArray, .pointer (some ⟨g2, 6, none⟩), .int .i64 h.side, .int .i64 (kidF h.side npl npr), .pointer (some ⟨g2, 5, none⟩), undef, undef, undef, undef, undef, undef, undef, undef, undef, undef, undef, undef, undef, undef, undef, undef, undef, undef, undef, undef, undef, undef, undef, undef, undef, undef, undef, undef, undef, undef, undef, undef, undef], []⟩ ∧ Mem w0 W [(g3, 73, (HD.cells HD.zero)), (g2, 73, (HD.cells { h with cur := (kidF h.side npl npr) })), (g1, 55, [.slice (some ⟨b, off, none⟩) l.length cap, x])]) ?_ ?_
  clear hM
  rintro act W6 ⟨jj, rfl, hM⟩
  refine cn2 _ _ ?_
  clear cn2
  refine wp_seq_k fun Kn3 cn3 => ?_
  refine wp_seq_k fun Kn4 cn4 => ?_
  rcases tf (((kidF h.side npl npr) == 0)) with hx1 | hx1
  refine wa_start (fun w => Below w0.heap.size w0 w ∧ Blk w g2 73 (HD.cells { h with cur := (kidF h.side npl npr) }) ∧ Blk w g1 55 [.slice (some ⟨b, off, none⟩) l.length cap, x]) 16 rfl (by kernel_rfl) ?_
  replace hM := hM.drew
  refine wt 0 (some 15) (.pointer (some ⟨g2, 5, none⟩)) ⟨hM.below, hM.blk 1 rfl, hM.blk 2 rfl⟩ ?_
  go_frame
  refine wq 1 (some 16) (.int .i64 (kidF h.side npl npr)) ⟨hM.below, hM.blk 1 rfl, hM.blk 2 rfl⟩ rfl (fun w hS => r_loadc hS.2.1 2 _ rfl 5 rfl Tryz.underlying2 rfl rfl) ?_
  go_frame
  refine wq 2 (some 17) (.bool true) ⟨hM.below, hM.blk 1 rfl, hM.blk 2 rfl⟩ rfl (fun w hS => r_eq (v := .bool ((kidF h.side npl npr) == 0)) (by kernel_rfl) (congrArg Value.bool hx1)) ?_
  refine wt 3 (some 18) (.bool true) ⟨hM.below, hM.blk 1 rfl, hM.blk 2 rfl⟩ ?_
  go_frame
  refine ws 4 (some 19) ⟨hM.below, hM.blk 1 rfl, hM.blk 2 rfl⟩ ?_
  go_frame
  refine ws 5 (some 20) ⟨hM.below, hM.blk 1 rfl, hM.blk 2 rfl⟩ ?_
  go_frame
  refine ws 6 (some 21) ⟨hM.below, hM.blk 1 rfl, hM.blk 2 rfl⟩ ?_
  go_frame
  refine ws 7 (some 22) ⟨hM.below, hM.blk 1 rfl, hM.blk 2 rfl⟩ ?_
  go_frame
  refine ws 8 (some 23) ⟨hM.below, hM.blk 1 rfl, hM.blk 2 rfl⟩ ?_
  go_frame
  refine ws 9 (some 24) ⟨hM.below, hM.blk 1 rfl, hM.blk 2 rfl⟩ ?_
  go_frame
  refine ws 10 (some 25) ⟨hM.below, hM.blk 1 rfl, hM.blk 2 rfl⟩ ?_
  go_frame
  refine ws 11 (some 26) ⟨hM.below, hM.blk 1 rfl, hM.blk 2 rfl⟩ ?_
  go_frame
  refine ws 12 (some 27) ⟨hM.below, hM.blk 1 rfl, hM.blk 2 rfl⟩ ?_
  go_frame
  refine ws 13 (some 28) ⟨hM.below, hM.blk 1 rfl, hM.blk 2 rfl⟩ ?_
  go_frame
  refine ws 14 (some 29) ⟨hM.below, hM.blk 1 rfl, hM.blk 2 rfl⟩ ?_
  go_frame
  refine wt 15 (some 30) (.bool true) ⟨hM.below, hM.blk 1 rfl, hM.blk 2 rfl⟩ ?_
  go_frame
  refine wa_done (by kernel_rfl) ?_
  refine cn4 _ _ ?_
  clear cn4
  refine wp_cond_true rfl ?_
  refine wp_seq_k fun _ cn5 => wl_region ?_
  refine np (.pointer (some ⟨g2, 0, none⟩)) ?_
  refine nk hM 1 rfl 0 (.int .i64 3) I_int64 (by simp [HD.cells, splice_len]) ?_
  clear hM; intro W7 hM
  refine wl_nil (cn5 _ _ ?_)
  clear cn5
  refine wp_seq_k fun _ cn6 => wl_region ?_
  refine nl hM 1 rfl Tryz.underlying73 I_impl_Hand ?_
  refine nS hM 0 rfl (HD.cells { h with cur := (kidF h.side npl npr), at_ := 3 }) I_impl_Hand (hd_one' _) ?_
  clear hM; intro W8 hM
  refine wl_nil (cn6 _ _ ?_)
  clear cn6
  refine wp_ret ?_
  simp only [Exit.then, Exit.inBlock]
  exact bodyPost_ret (ret_row rfl hM 0 rfl rfl Tryz.underlying73 I_impl_Hand) rfl ⟨congrArg (fun z => Ending.returned (Value.agg (HD.cells z).toArray)) (show { h with cur := (kidF h.side npl npr), at_ := 3 } = downH l h from by simp [downH, hx1, npe, nce]), hM.below⟩
  refine wa_start (fun w => Below w0.heap.size w0 w ∧ Blk w g2 73 (HD.cells { h with cur := (kidF h.side npl npr) }) ∧ Blk w g1 55 [.slice (some ⟨b, off, none⟩) l.length cap, x]) 16 rfl (by kernel_rfl) ?_
  replace hM := hM.drew
  refine wt 0 (some 15) (.pointer (some ⟨g2, 5, none⟩)) ⟨hM.below, hM.blk 1 rfl, hM.blk 2 rfl⟩ ?_
  go_frame
  refine wq 1 (some 16) (.int .i64 (kidF h.side npl npr)) ⟨hM.below, hM.blk 1 rfl, hM.blk 2 rfl⟩ rfl (fun w hS => r_loadc hS.2.1 2 _ rfl 5 rfl Tryz.underlying2 rfl rfl) ?_
  go_frame
  refine wq 2 (some 17) (.bool false) ⟨hM.below, hM.blk 1 rfl, hM.blk 2 rfl⟩ rfl (fun w hS => r_eq (v := .bool ((kidF h.side npl npr) == 0)) (by kernel_rfl) (congrArg Value.bool hx1)) ?_
  refine wt 3 (some 18) (.bool false) ⟨hM.below, hM.blk 1 rfl, hM.blk 2 rfl⟩ ?_
  refine wt 4 (some 19) (.pointer (some ⟨g1, 0, none⟩)) ⟨hM.below, hM.blk 1 rfl, hM.blk 2 rfl⟩ ?_
  go_frame
  refine wq 5 (some 20) (.slice (some ⟨b, off, none⟩) l.length cap) ⟨hM.below, hM.blk 1 rfl, hM.blk 2 rfl⟩ rfl (fun w hS => r_loadc hS.2.2 24 _ rfl 0 rfl Tryz.underlying24 rfl rfl) ?_
  refine wt 6 (some 21) (.pointer (some ⟨g2, 5, none⟩)) ⟨hM.below, hM.blk 1 rfl, hM.blk 2 rfl⟩ ?_
  go_frame
  refine wq 7 (some 22) (.int .i64 (kidF h.side npl npr)) ⟨hM.below, hM.blk 1 rfl, hM.blk 2 rfl⟩ rfl (fun w hS => r_loadc hS.2.1 2 _ rfl 5 rfl Tryz.underlying2 rfl rfl) ?_
  go_frame
  refine wq 8 (some 23) (.pointer (some ⟨b, off + kc * 8, none⟩)) ⟨hM.below, hM.blk 1 rfl, hM.blk 2 rfl⟩ rfl (fun w hS => r_index 24 49 _ _ rfl b off l.length cap 8 kc rfl rfl hkc (by omega) Tryz.underlying24 I_impl_Node) ?_
  refine wt 9 (some 24) (.pointer (some ⟨b, off + kc * 8, none⟩)) ⟨hM.below, hM.blk 1 rfl, hM.blk 2 rfl⟩ ?_
  go_frame
  refine wq 10 (some 25) (.int .i64 nck) ⟨hM.below, hM.blk 1 rfl, hM.blk 2 rfl⟩ rfl (fun w hS => r_cell 2 _ rfl ⟨b, off + kc * 8, none⟩ rfl Tryz.underlying2 rfl (row_of (Mem.ofBelow hS.1) s1 Ac 0 _ rfl)) ?_
  refine wt 11 (some 26) (.pointer (some ⟨g2, 1, none⟩)) ⟨hM.below, hM.blk 1 rfl, hM.blk 2 rfl⟩ ?_
  refine wt 12 (some 27) (.pointer (some ⟨g2, 2, none⟩)) ⟨hM.below, hM.blk 1 rfl, hM.blk 2 rfl⟩ ?_
  go_frame
  refine wq 13 (some 28) (.int .i64 h.k) ⟨hM.below, hM.blk 1 rfl, hM.blk 2 rfl⟩ rfl (fun w hS => r_loadc hS.2.1 2 _ rfl 2 rfl Tryz.underlying2 rfl rfl) ?_
  refine wt 14 (some 29) (.bool (nck == h.k)) ⟨hM.below, hM.blk 1 rfl, hM.blk 2 rfl⟩ ?_
  refine wt 15 (some 30) (.bool (nck == h.k)) ⟨hM.below, hM.blk 1 rfl, hM.blk 2 rfl⟩ ?_
  go_frame
  refine wa_done (by kernel_rfl) ?_
  refine cn4 _ _ ?_
  clear cn4
  rcases tf ((nck == h.k)) with hx2 | hx2
  rw [hx2]
  refine wp_cond_true rfl ?_
  refine wp_seq_k fun _ cn5 => wl_region ?_
  refine np (.pointer (some ⟨g2, 0, none⟩)) ?_
  refine nk hM 1 rfl 0 (.int .i64 3) I_int64 (by simp [HD.cells, splice_len]) ?_
  clear hM; intro W7 hM
  refine wl_nil (cn5 _ _ ?_)
  clear cn5
  refine wp_seq_k fun _ cn6 => wl_region ?_
  refine nl hM 1 rfl Tryz.underlying73 I_impl_Hand ?_
  refine nS hM 0 rfl (HD.cells { h with cur := (kidF h.side npl npr), at_ := 3 }) I_impl_Hand (hd_one' _) ?_
  clear hM; intro W8 hM
  refine wl_nil (cn6 _ _ ?_)
  clear cn6
  refine wp_ret ?_
  simp only [Exit.then, Exit.inBlock]
  exact bodyPost_ret (ret_row rfl hM 0 rfl rfl Tryz.underlying73 I_impl_Hand) rfl ⟨congrArg (fun z => Ending.returned (Value.agg (HD.cells z).toArray)) (show { h with cur := (kidF h.side npl npr), at_ := 3 } = downH l h from by simp [downH, hx1, hx2, npe, nce]), hM.below⟩
  rw [hx2]
  refine wp_cond_false rfl ?_
  refine wp_skip ?_
  refine cn3 _ _ ?_
  clear cn3
  refine wp_seq_k fun _ cn5 => wl_region ?_
  refine np (.pointer (some ⟨g2, 5, none⟩)) ?_
  refine ng hM 1 rfl 5 Tryz.underlying2 rfl ?_
  refine np (.pointer (some ⟨g2, 4, none⟩)) ?_
  refine nk hM 1 rfl 4 (.int .i64 (kidF h.side npl npr)) I_int64 (by simp [HD.cells, splice_len]) ?_
  clear hM; intro W7 hM
  refine wl_nil (cn5 _ _ ?_)
  clear cn5
  refine wp_seq_k fun Kn6 cn6 => ?_
  refine wa_join (fun act W => ∃ (jj : Nat), act = ⟨#[.agg #[.slice (some ⟨b, off, none⟩) l.length cap, x], .agg (HD.cells h).toArray, .pointer (some ⟨g1, 0, none⟩), .pointer (some ⟨g2, 0, none⟩), .pointer (some ⟨g3, 0, none⟩), .pointer (some ⟨g1, 0, none⟩), .slice (some ⟨b, off, none⟩) l.length cap, .pointer (some ⟨g2, 4, none⟩), .int .i64 h.prev, .pointer (some ⟨b, off + knp * 8, none⟩), .agg (ND.cells ⟨npk, npv, npl, npr, npo, npg, nplt, nprt⟩).toArray, .pointer (some ⟨g2, 6, none⟩), .int .i64 h.side, .int .i64 (kidF h.side npl npr), .pointer (some ⟨g2, 5, none⟩), .pointer (some ⟨g2, 5, none⟩), .int .i64 (kidF h.side npl npr), .bool false, .bool false, .pointer (some ⟨g1, 0, none⟩), .slice (some ⟨b, off, none⟩) l.length cap, .pointer (some ⟨g2, 5, none⟩), .int .i64 (kidF h.side npl npr), .pointer (some ⟨b, off + kc * 8, none⟩), .pointer (some ⟨b, off + kc * 8, none⟩), .int .i64 nck, .pointer (some ⟨g2, 1, none⟩), .pointer (some ⟨g2, 2, none⟩), .int .i64 h.k, .bool false, .bool false, undef, undef, .pointer (some ⟨g2, 5, none⟩), .int .i64 (kidF h.side npl npr), .pointer (some ⟨g2, 4, none⟩), .pointer (some ⟨g1, 0, none⟩), .slice (some ⟨b, off, none⟩) l.length cap, .pointer (some ⟨g2, 5, none⟩), .int .i64 (kidF h.side npl npr), .pointer (some ⟨b, off + kc * 8, none⟩), .agg (ND.cells ⟨nck, ncv, ncl, ncr, nco, ncg, nclt, ncrt⟩).toArray, .pointer (some ⟨g2, 1, none⟩), .pointer (some ⟨g2, 2, none⟩), .int .i64 h.k, .int .i64 (sideF h.k nck), .pointer (some ⟨g2, 6, none⟩), undef], []⟩ ∧ Mem w0 W [(g3, 73, (HD.cells HD.zero)), (g2, 73, (HD.cells { h with cur := (kidF h.side npl npr), prev := (kidF h.side npl npr), side := (sideF h.k nck) })), (g1, 55, [.slice (some ⟨b, off, none⟩) l.length cap, x])]) ?_ ?_
  clear hM
  rintro act W10 ⟨jj, rfl, hM⟩
  refine cn6 _ _ ?_
  clear cn6
  refine wp_seq_k fun _ cn7 => wl_region ?_
  refine nl hM 1 rfl Tryz.underlying73 I_impl_Hand ?_
  refine nS hM 0 rfl (HD.cells { h with cur := (kidF h.side npl npr), prev := (kidF h.side npl npr), side := (sideF h.k nck) }) I_impl_Hand (hd_one' _) ?_
  clear hM; intro W11 hM
  refine wl_nil (cn7 _ _ ?_)
  clear cn7
  refine wp_ret ?_
  exact bodyPost_ret (ret_row rfl hM 0 rfl rfl Tryz.underlying73 I_impl_Hand) rfl ⟨congrArg (fun z => Ending.returned (Value.agg (HD.cells z).toArray)) (show { h with cur := (kidF h.side npl npr), prev := (kidF h.side npl npr), side := (sideF h.k nck) } = downH l h from by simp [downH, hx1, hx2, npe, nce]), hM.below⟩
  refine wa_start (fun w => Below w0.heap.size w0 w ∧ Blk w g1 55 [.slice (some ⟨b, off, none⟩) l.length cap, x]) 12 rfl (by kernel_rfl) ?_
  replace hM := hM.drew
  refine wt 0 (some 36) (.pointer (some ⟨g1, 0, none⟩)) ⟨hM.below, hM.blk 2 rfl⟩ ?_
  go_frame
  refine wq 1 (some 37) (.slice (some ⟨b, off, none⟩) l.length cap) ⟨hM.below, hM.blk 2 rfl⟩ rfl (fun w hS => r_loadc hS.2 24 _ rfl 0 rfl Tryz.underlying24 rfl rfl) ?_
  refine wt 2 (some 38) (.pointer (some ⟨g2, 5, none⟩)) ⟨hM.below, hM.blk 2 rfl⟩ ?_
  refine wt 6 (some 42) (.pointer (some ⟨g2, 1, none⟩)) ⟨hM.below, hM.blk 2 rfl⟩ ?_
  refine wt 7 (some 43) (.pointer (some ⟨g2, 2, none⟩)) ⟨hM.below, hM.blk 2 rfl⟩ ?_
  go_frame
  refine wa_two 3 8 (by kernel_rfl) ?_ ?_
  refine oq (some 39) (.int .i64 (kidF h.side npl npr)) ⟨hM.below, hM.blk 2 rfl⟩ rfl (r_loadc (hM.blk 1 rfl) 2 _ rfl 5 rfl Tryz.underlying2 rfl rfl) ?_
  go_frame
  refine wq 4 (some 40) (.pointer (some ⟨b, off + kc * 8, none⟩)) ⟨hM.below, hM.blk 2 rfl⟩ rfl (fun w hS => r_index 24 49 _ _ rfl b off l.length cap 8 kc rfl rfl hkc (by omega) Tryz.underlying24 I_impl_Node) ?_
  go_frame
  refine wq 5 (some 41) (.agg (ND.cells ⟨nck, ncv, ncl, ncr, nco, ncg, nclt, ncrt⟩).toArray) ⟨hM.below, hM.blk 2 rfl⟩ rfl (fun w hS => r_cells 49 _ rfl b (off + kc * 8) rfl Tryz.underlying49 (ND.cells ⟨nck, ncv, ncl, ncr, nco, ncg, nclt, ncrt⟩) I_impl_Node (row_of (Mem.ofBelow hS.1) s1 Ac)) ?_
  go_frame
  refine wn 8 ?_
  refine oq (some 44) (.int .i64 h.k) ⟨hM.below, hM.blk 2 rfl⟩ rfl (r_loadc (hM.blk 1 rfl) 2 _ rfl 2 rfl Tryz.underlying2 rfl rfl) ?_
  go_frame
  refine wn 9 ?_
  refine oc (some 45) (spec_SideOf nck ncv ncl ncr nco ncg nclt ncrt h.k _) ?_
  rintro e W8 ⟨rfl, hb⟩
  replace hM := hM.call hb
  refine ⟨_, rfl, wk ⟨hM.below, hM.blk 2 rfl⟩ fun hs => ?_⟩
  go_frame
  refine wt 10 (some 46) (.pointer (some ⟨g2, 6, none⟩)) hs ?_
  go_frame
  refine wn 11 ?_
  refine ok' hM 1 rfl 6 (.int .i64 (sideF h.k nck)) I_int64 (by simp [HD.cells, splice_len]) ?_
  clear hM; intro W9 hM
  refine ⟨⟨hM.below, hM.blk 2 rfl⟩, ?_⟩
  refine wa_doneJ (by kernel_rfl) ?_
  exact ⟨0, rfl, hM⟩
  refine oq (some 44) (.int .i64 h.k) ⟨hM.below, hM.blk 2 rfl⟩ rfl (r_loadc (hM.blk 1 rfl) 2 _ rfl 2 rfl Tryz.underlying2 rfl rfl) ?_
  go_frame
  refine wn 3 ?_
  refine oq (some 39) (.int .i64 (kidF h.side npl npr)) ⟨hM.below, hM.blk 2 rfl⟩ rfl (r_loadc (hM.blk 1 rfl) 2 _ rfl 5 rfl Tryz.underlying2 rfl rfl) ?_
  go_frame
  refine wq 4 (some 40) (.pointer (some ⟨b, off + kc * 8, none⟩)) ⟨hM.below, hM.blk 2 rfl⟩ rfl (fun w hS => r_index 24 49 _ _ rfl b off l.length cap 8 kc rfl rfl hkc (by omega) Tryz.underlying24 I_impl_Node) ?_
  go_frame
  refine wq 5 (some 41) (.agg (ND.cells ⟨nck, ncv, ncl, ncr, nco, ncg, nclt, ncrt⟩).toArray) ⟨hM.below, hM.blk 2 rfl⟩ rfl (fun w hS => r_cells 49 _ rfl b (off + kc * 8) rfl Tryz.underlying49 (ND.cells ⟨nck, ncv, ncl, ncr, nco, ncg, nclt, ncrt⟩) I_impl_Node (row_of (Mem.ofBelow hS.1) s1 Ac)) ?_
  go_frame
  refine wn 9 ?_
  refine oc (some 45) (spec_SideOf nck ncv ncl ncr nco ncg nclt ncrt h.k _) ?_
  rintro e W8 ⟨rfl, hb⟩
  replace hM := hM.call hb
  refine ⟨_, rfl, wk ⟨hM.below, hM.blk 2 rfl⟩ fun hs => ?_⟩
  go_frame
  refine wt 10 (some 46) (.pointer (some ⟨g2, 6, none⟩)) hs ?_
  go_frame
  refine wn 11 ?_
  refine ok' hM 1 rfl 6 (.int .i64 (sideF h.k nck)) I_int64 (by simp [HD.cells, splice_len]) ?_
  clear hM; intro W9 hM
  refine ⟨⟨hM.below, hM.blk 2 rfl⟩, ?_⟩
  refine wa_doneJ (by kernel_rfl) ?_
  exact ⟨0, rfl, hM⟩
  refine wa_start (fun w => Below w0.heap.size w0 w ∧ Blk w g1 55 [.slice (some ⟨b, off, none⟩) l.length cap, x]) 11 rfl (by kernel_rfl) ?_
  replace hM := hM.drew
  refine wt 0 (some 5) (.pointer (some ⟨g1, 0, none⟩)) ⟨hM.below, hM.blk 2 rfl⟩ ?_
  go_frame
  refine wq 1 (some 6) (.slice (some ⟨b, off, none⟩) l.length cap) ⟨hM.below, hM.blk 2 rfl⟩ rfl (fun w hS => r_loadc hS.2 24 _ rfl 0 rfl Tryz.underlying24 rfl rfl) ?_
  refine wt 2 (some 7) (.pointer (some ⟨g2, 4, none⟩)) ⟨hM.below, hM.blk 2 rfl⟩ ?_
  refine wt 6 (some 11) (.pointer (some ⟨g2, 6, none⟩)) ⟨hM.below, hM.blk 2 rfl⟩ ?_
  go_frame
  refine wa_two 3 7 (by kernel_rfl) ?_ ?_
  refine oq (some 8) (.int .i64 h.prev) ⟨hM.below, hM.blk 2 rfl⟩ rfl (r_loadc (hM.blk 1 rfl) 2 _ rfl 4 rfl Tryz.underlying2 rfl rfl) ?_
  go_frame
  refine wq 4 (some 9) (.pointer (some ⟨b, off + knp * 8, none⟩)) ⟨hM.below, hM.blk 2 rfl⟩ rfl (fun w hS => r_index 24 49 _ _ rfl b off l.length cap 8 knp rfl rfl hknp (by omega) Tryz.underlying24 I_impl_Node) ?_
  go_frame
  refine wq 5 (some 10) (.agg (ND.cells ⟨npk, npv, npl, npr, npo, npg, nplt, nprt⟩).toArray) ⟨hM.below, hM.blk 2 rfl⟩ rfl (fun w hS => r_cells 49 _ rfl b (off + knp * 8) rfl Tryz.underlying49 (ND.cells ⟨npk, npv, npl, npr, npo, npg, nplt, nprt⟩) I_impl_Node (row_of (Mem.ofBelow hS.1) s1 Anp)) ?_
  go_frame
  refine wn 7 ?_
  refine oq (some 12) (.int .i64 h.side) ⟨hM.below, hM.blk 2 rfl⟩ rfl (r_loadc (hM.blk 1 rfl) 2 _ rfl 6 rfl Tryz.underlying2 rfl rfl) ?_
  go_frame
  refine wn 8 ?_
  refine oc (some 13) (spec_KidOf npk npv npl npr npo npg nplt nprt h.side _) ?_
  rintro e W4 ⟨rfl, hb⟩
  replace hM := hM.call hb
  refine ⟨_, rfl, wk ⟨hM.below, hM.blk 2 rfl⟩ fun hs => ?_⟩
  go_frame
  refine wt 9 (some 14) (.pointer (some ⟨g2, 5, none⟩)) hs ?_
  go_frame
  refine wn 10 ?_
  refine ok' hM 1 rfl 5 (.int .i64 (kidF h.side npl npr)) I_int64 (by simp [HD.cells, splice_len]) ?_
  clear hM; intro W5 hM
  refine ⟨⟨hM.below, hM.blk 2 rfl⟩, ?_⟩
  refine wa_doneJ (by kernel_rfl) ?_
  exact ⟨0, rfl, hM⟩
  refine oq (some 12) (.int .i64 h.side) ⟨hM.below, hM.blk 2 rfl⟩ rfl (r_loadc (hM.blk 1 rfl) 2 _ rfl 6 rfl Tryz.underlying2 rfl rfl) ?_
  go_frame
  refine wn 3 ?_
  refine oq (some 8) (.int .i64 h.prev) ⟨hM.below, hM.blk 2 rfl⟩ rfl (r_loadc (hM.blk 1 rfl) 2 _ rfl 4 rfl Tryz.underlying2 rfl rfl) ?_
  go_frame
  refine wq 4 (some 9) (.pointer (some ⟨b, off + knp * 8, none⟩)) ⟨hM.below, hM.blk 2 rfl⟩ rfl (fun w hS => r_index 24 49 _ _ rfl b off l.length cap 8 knp rfl rfl hknp (by omega) Tryz.underlying24 I_impl_Node) ?_
  go_frame
  refine wq 5 (some 10) (.agg (ND.cells ⟨npk, npv, npl, npr, npo, npg, nplt, nprt⟩).toArray) ⟨hM.below, hM.blk 2 rfl⟩ rfl (fun w hS => r_cells 49 _ rfl b (off + knp * 8) rfl Tryz.underlying49 (ND.cells ⟨npk, npv, npl, npr, npo, npg, nplt, nprt⟩) I_impl_Node (row_of (Mem.ofBelow hS.1) s1 Anp)) ?_
  go_frame
  refine wn 8 ?_
  refine oc (some 13) (spec_KidOf npk npv npl npr npo npg nplt nprt h.side _) ?_
  rintro e W4 ⟨rfl, hb⟩
  replace hM := hM.call hb
  refine ⟨_, rfl, wk ⟨hM.below, hM.blk 2 rfl⟩ fun hs => ?_⟩
  go_frame
  refine wt 9 (some 14) (.pointer (some ⟨g2, 5, none⟩)) hs ?_
  go_frame
  refine wn 10 ?_
  refine ok' hM 1 rfl 5 (.int .i64 (kidF h.side npl npr)) I_int64 (by simp [HD.cells, splice_len]) ?_
  clear hM; intro W5 hM
  refine ⟨⟨hM.below, hM.blk 2 rfl⟩, ?_⟩
  refine wa_doneJ (by kernel_rfl) ?_
  exact ⟨0, rfl, hM⟩
end Go.Proofs.YtbfndoajchibbaaGreat
