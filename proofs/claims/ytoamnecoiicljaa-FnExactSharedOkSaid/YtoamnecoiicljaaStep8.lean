/- Functions of the model that answer a hand. -/
import Derived.Test.YtoamnecoiicljaaStep7
import Derived.Test.YtoamnecoiicljaaMem4
namespace Go.Proofs.Ytoamnecoiicljaa
open Go.ChangeShapes Go.WideShapes Go.ChangeAt Go.RowKit
set_option linter.unusedVariables false
set_option linter.unusedSimpArgs false

def nd (l : List ND) (i : Int) : ND := (l[i.toNat]?).getD ⟨0, 0, 0, 0, 0, false, 0, 0⟩
theorem nd_at {l : List ND} {i : Int} (h : hasB l i = true) : ∃ (k : Nat) (n : ND), i = (k : Int) ∧ nd l i = n ∧ k < l.length ∧ l[k]? = some n := by
  obtain ⟨h0, h1⟩ := inB_t h
  obtain ⟨k, rfl⟩ := Int.eq_ofNat_of_zero_le h0
  have hk : k < l.length := by omega
  exact ⟨k, l[k], rfl, by simp [nd, List.getElem?_eq_getElem hk], hk, List.getElem?_eq_getElem hk⟩
def endH (h : HD) (r : Int) : HD := { h with at_ := 26, reply := r }
def againH (h : HD) : HD := { h with at_ := 26, again := true }
def exitH (l : List ND) (h : HD) : HD :=
  if h.c == 1 && h.cur != 0 then restH 1 (nd l h.cur).v else if h.c == 1 || (h.c == 2 && h.cur != 0) || (h.c == 3 && !(h.cur != 0)) then restH 2 0 else { h with at_ := 5 }

set_option maxRecDepth 100000 in
set_option maxHeartbeats 4000000 in
theorem spec_l7Exit (u x : Value) (l : List ND) (h : HD) (w0 : World) (h1 : NSl w0 u l) (qnc : hasB l h.cur = true) :
    Calls Try.prog 30 #[.agg #[u, x], h.val] w0 fun e w' => e = .returned (exitH l h).val ∧ Below w0.heap.size w0 w' := by
  unfold HD.val
  obtain ⟨b, off, cap, rfl, kk1, mm1, s1, H1⟩ := h1.at (fun e => by subst e; simp [hasB, inB] at qnc; omega)
  obtain ⟨knc, ⟨nck, ncv, ncl, ncr, nco, ncg, nclt, ncrt⟩, hknc, nce, hlnc, hnnc⟩ := nd_at qnc
  have Anc := H1 knc _ hnnc
  have hM := Mem.start w0
  go_enter Try.func30, Try.ntmps30
  refine wp_seq_k fun Kn1 cn1 => ?_
  refine wl_region ?_
  refine wl_box (by kernel_rfl) hM 30 _ rfl [.slice (some ⟨b, off, none⟩) l.length cap, x] rfl ?_
  clear hM; intro g1 W1 hM
  go_frame
  refine wl_box (by kernel_rfl) hM 40 _ rfl (HD.cells h) rfl ?_
  clear hM; intro g2 W2 hM
  go_frame
  refine wl_alloc (by kernel_rfl) hM 40 rfl (HD.cells HD.zero) Z_impl_Hand ?_
  clear hM; intro g3 W3 hM
  go_frame
  refine wl_nil ?_
  refine cn1 _ _ ?_
  clear cn1
  refine wp_seq_k fun Kn2 cn2 => ?_
  refine wl_region ?_
  refine wl_pure (by kernel_rfl) (.pointer (some ⟨g2, 5, none⟩)) (by kernel_rfl) ?_
  go_frame
  refine wl_loadc (by kernel_rfl) hM 1 rfl 2 _ rfl 5 rfl Try.underlying2 rfl rfl ?_
  go_frame
  refine wl_pure (by kernel_rfl) (.bool (h.cur != 0)) (by kernel_rfl) ?_
  go_frame
  refine wl_pure (by kernel_rfl) (.bool (h.cur != 0)) (by kernel_rfl) ?_
  go_frame
  refine wl_nil ?_
  refine cn2 _ _ ?_
  clear cn2
  refine wp_seq_k fun Kn3 cn3 => ?_
  refine wp_block ?_
  refine wp_seq_k fun Kn4 cn4 => ?_
  refine wl_region ?_
  refine wl_pure (by kernel_rfl) (.pointer (some ⟨g2, 1, none⟩)) (by kernel_rfl) ?_
  go_frame
  refine wl_pure (by kernel_rfl) (.pointer (some ⟨g2, 1, none⟩)) (by kernel_rfl) ?_
  go_frame
  refine wl_loadc (by kernel_rfl) hM 1 rfl 2 _ rfl 1 rfl Try.underlying2 rfl rfl ?_
  go_frame
  refine wl_pure (by kernel_rfl) (.bool (h.c == 1)) (by kernel_rfl) ?_
  go_frame
  refine wl_pure (by kernel_rfl) (.bool (h.c == 1)) (by kernel_rfl) ?_
  go_frame
  rcases Bool.eq_false_or_eq_true ((h.c == 1)) with hx2 | hx2
  rw [hx2]
  refine wl_pure (by kernel_rfl) (.bool (h.cur != 0)) (by kernel_rfl) ?_
  go_frame
  refine wl_pure (by kernel_rfl) (.bool (h.cur != 0)) (by kernel_rfl) ?_
  go_frame
  refine wl_pure (by kernel_rfl) (.bool (h.cur != 0)) (by kernel_rfl) ?_
  go_frame
  refine wl_nil ?_
  refine cn4 _ _ ?_
  clear cn4
  rcases Bool.eq_false_or_eq_true ((h.cur != 0)) with hx3 | hx3
  rw [hx3]
  refine wp_cond_true rfl ?_
  refine wp_seq_k fun Kn5 cn5 => ?_
  refine wl_region ?_
  refine wl_pure (by kernel_rfl) (.pointer (some ⟨g1, 0, none⟩)) (by kernel_rfl) ?_
  go_frame
  refine wl_loadc (by kernel_rfl) hM 2 rfl 28 _ rfl 0 rfl Try.underlying28 rfl rfl ?_
  go_frame
  refine wl_pure (by kernel_rfl) (.pointer (some ⟨g2, 5, none⟩)) (by kernel_rfl) ?_
  go_frame
  refine wl_loadc (by kernel_rfl) hM 1 rfl 2 _ rfl 5 rfl Try.underlying2 rfl rfl ?_
  go_frame
  refine wl_index (by kernel_rfl) 28 60 _ _ rfl b off l.length cap 8 knc rfl rfl hknc (by omega) Try.underlying28 I_impl_Node ?_
  go_frame
  refine wl_pure (by kernel_rfl) (.pointer (some ⟨b, off + knc * 8 + 1, none⟩)) (by kernel_rfl) ?_
  go_frame
  refine wl_cell (by kernel_rfl) 2 _ rfl ⟨b, off + knc * 8 + 1, none⟩ rfl Try.underlying2 rfl (row_of hM s1 Anc 1 _ rfl) ?_
  go_frame
  refine wl_call (by kernel_rfl) 56 #[.int .i64 1, .int .i64 ncv] (by kernel_rfl) (spec_Resting 1 ncv _) ?_
  rintro e W4 ⟨rfl, hb⟩
  refine ⟨_, rfl, ?_⟩
  replace hM := hM.call hb
  go_frame
  refine wl_store (by kernel_rfl) hM 0 rfl 40 _ _ rfl rfl rfl (HD.cells (restH 1 ncv)) rfl I_impl_Hand rfl (hd_one' _) ?_
  clear hM; intro W5 hM
  refine wl_nil ?_
  refine cn5 _ _ ?_
  clear cn5
  refine wp_ret ?_
  simp only [Exit.then, Exit.inBlock]
  exact bodyPost_ret (ret_row rfl hM 0 rfl rfl Try.underlying40 I_impl_Hand) rfl ⟨congrArg (fun z => Ending.returned (Value.agg (HD.cells z).toArray)) (show (restH 1 ncv) = exitH l h from by simp [exitH, hx2, hx3, nce]), hM.below⟩
  rw [hx3]
  refine wp_cond_false rfl ?_
  refine wp_seq_k fun Kn5 cn5 => ?_
  refine wl_region ?_
  refine wl_pure (by kernel_rfl) (.pointer (some ⟨g2, 1, none⟩)) (by kernel_rfl) ?_
  go_frame
  refine wl_pure (by kernel_rfl) (.pointer (some ⟨g2, 1, none⟩)) (by kernel_rfl) ?_
  go_frame
  refine wl_loadc (by kernel_rfl) hM 1 rfl 2 _ rfl 1 rfl Try.underlying2 rfl rfl ?_
  go_frame
  refine wl_pureB (by kernel_rfl) (b := (h.c == 1)) (by kernel_rfl) (hx2) ?_
  go_frame
  refine wl_pure (by kernel_rfl) (.bool true) (by kernel_rfl) ?_
  go_frame
  refine wl_skip (by kernel_rfl) ?_
  go_frame
  refine wl_skip (by kernel_rfl) ?_
  go_frame
  refine wl_skip (by kernel_rfl) ?_
  go_frame
  refine wl_skip (by kernel_rfl) ?_
  go_frame
  refine wl_skip (by kernel_rfl) ?_
  go_frame
  refine wl_skip (by kernel_rfl) ?_
  go_frame
  refine wl_skip (by kernel_rfl) ?_
  go_frame
  refine wl_pure (by kernel_rfl) (.bool true) (by kernel_rfl) ?_
  go_frame
  refine wl_pure (by kernel_rfl) (.bool true) (by kernel_rfl) ?_
  go_frame
  refine wl_skip (by kernel_rfl) ?_
  go_frame
  refine wl_skip (by kernel_rfl) ?_
  go_frame
  refine wl_skip (by kernel_rfl) ?_
  go_frame
  refine wl_skip (by kernel_rfl) ?_
  go_frame
  refine wl_skip (by kernel_rfl) ?_
  go_frame
  refine wl_skip (by kernel_rfl) ?_
  go_frame
  refine wl_skip (by kernel_rfl) ?_
  go_frame
  refine wl_skip (by kernel_rfl) ?_
  go_frame
  refine wl_pure (by kernel_rfl) (.bool true) (by kernel_rfl) ?_
  go_frame
  refine wl_pure (by kernel_rfl) (.bool true) (by kernel_rfl) ?_
  go_frame
  refine wl_nil ?_
  refine cn5 _ _ ?_
  clear cn5
  refine wp_cond_true rfl ?_
  refine wp_seq_k fun Kn6 cn6 => ?_
  refine wl_region ?_
  refine wl_call (by kernel_rfl) 56 #[.int .i64 2, .int .i64 0] (by kernel_rfl) (spec_Resting 2 0 _) ?_
  rintro e W4 ⟨rfl, hb⟩
  refine ⟨_, rfl, ?_⟩
  replace hM := hM.call hb
  go_frame
  refine wl_store (by kernel_rfl) hM 0 rfl 40 _ _ rfl rfl rfl (HD.cells (restH 2 0)) rfl I_impl_Hand rfl (hd_one' _) ?_
  clear hM; intro W5 hM
  refine wl_nil ?_
  refine cn6 _ _ ?_
  clear cn6
  refine wp_ret ?_
  simp only [Exit.then, Exit.inBlock]
  exact bodyPost_ret (ret_row rfl hM 0 rfl rfl Try.underlying40 I_impl_Hand) rfl ⟨congrArg (fun z => Ending.returned (Value.agg (HD.cells z).toArray)) (show (restH 2 0) = exitH l h from by simp [exitH, hx2, hx3, nce]), hM.below⟩
  rw [hx2]
  refine wl_skip (by kernel_rfl) ?_
  go_frame
  refine wl_pure (by kernel_rfl) (.bool false) (by kernel_rfl) ?_
  go_frame
  refine wl_pure (by kernel_rfl) (.bool false) (by kernel_rfl) ?_
  go_frame
  refine wl_nil ?_
  refine cn4 _ _ ?_
  clear cn4
  refine wp_cond_false rfl ?_
  refine wp_seq_k fun Kn5 cn5 => ?_
  refine wl_region ?_
  refine wl_pure (by kernel_rfl) (.pointer (some ⟨g2, 1, none⟩)) (by kernel_rfl) ?_
  go_frame
  refine wl_pure (by kernel_rfl) (.pointer (some ⟨g2, 1, none⟩)) (by kernel_rfl) ?_
  go_frame
  refine wl_loadc (by kernel_rfl) hM 1 rfl 2 _ rfl 1 rfl Try.underlying2 rfl rfl ?_
  go_frame
  refine wl_pureB (by kernel_rfl) (b := (h.c == 1)) (by kernel_rfl) (hx2) ?_
  go_frame
  refine wl_pure (by kernel_rfl) (.bool false) (by kernel_rfl) ?_
  go_frame
  refine wl_pure (by kernel_rfl) (.pointer (some ⟨g2, 1, none⟩)) (by kernel_rfl) ?_
  go_frame
  refine wl_pure (by kernel_rfl) (.pointer (some ⟨g2, 1, none⟩)) (by kernel_rfl) ?_
  go_frame
  refine wl_loadc (by kernel_rfl) hM 1 rfl 2 _ rfl 1 rfl Try.underlying2 rfl rfl ?_
  go_frame
  refine wl_pure (by kernel_rfl) (.bool (h.c == 2)) (by kernel_rfl) ?_
  go_frame
  refine wl_pure (by kernel_rfl) (.bool (h.c == 2)) (by kernel_rfl) ?_
  go_frame
  rcases Bool.eq_false_or_eq_true ((h.c == 2)) with hx9 | hx9
  rw [hx9]
  refine wl_pure (by kernel_rfl) (.bool (h.cur != 0)) (by kernel_rfl) ?_
  go_frame
  refine wl_pure (by kernel_rfl) (.bool (h.cur != 0)) (by kernel_rfl) ?_
  go_frame
  refine wl_pure (by kernel_rfl) (.bool (h.cur != 0)) (by kernel_rfl) ?_
  go_frame
  refine wl_pure (by kernel_rfl) (.bool (h.cur != 0)) (by kernel_rfl) ?_
  go_frame
  rcases Bool.eq_false_or_eq_true ((h.cur != 0)) with hx10 | hx10
  rw [hx10]
  refine wl_skip (by kernel_rfl) ?_
  go_frame
  refine wl_skip (by kernel_rfl) ?_
  go_frame
  refine wl_skip (by kernel_rfl) ?_
  go_frame
  refine wl_skip (by kernel_rfl) ?_
  go_frame
  refine wl_skip (by kernel_rfl) ?_
  go_frame
  refine wl_skip (by kernel_rfl) ?_
  go_frame
  refine wl_skip (by kernel_rfl) ?_
  go_frame
  refine wl_skip (by kernel_rfl) ?_
  go_frame
  refine wl_pure (by kernel_rfl) (.bool true) (by kernel_rfl) ?_
  go_frame
  refine wl_pure (by kernel_rfl) (.bool true) (by kernel_rfl) ?_
  go_frame
  refine wl_nil ?_
  refine cn5 _ _ ?_
  clear cn5
  refine wp_cond_true rfl ?_
  refine wp_seq_k fun Kn6 cn6 => ?_
  refine wl_region ?_
  refine wl_call (by kernel_rfl) 56 #[.int .i64 2, .int .i64 0] (by kernel_rfl) (spec_Resting 2 0 _) ?_
  rintro e W4 ⟨rfl, hb⟩
  refine ⟨_, rfl, ?_⟩
  replace hM := hM.call hb
  go_frame
  refine wl_store (by kernel_rfl) hM 0 rfl 40 _ _ rfl rfl rfl (HD.cells (restH 2 0)) rfl I_impl_Hand rfl (hd_one' _) ?_
  clear hM; intro W5 hM
  refine wl_nil ?_
  refine cn6 _ _ ?_
  clear cn6
  refine wp_ret ?_
  simp only [Exit.then, Exit.inBlock]
  exact bodyPost_ret (ret_row rfl hM 0 rfl rfl Try.underlying40 I_impl_Hand) rfl ⟨congrArg (fun z => Ending.returned (Value.agg (HD.cells z).toArray)) (show (restH 2 0) = exitH l h from by simp [exitH, hx2, hx9, hx10, nce]), hM.below⟩
  rw [hx10]
  refine wl_pure (by kernel_rfl) (.pointer (some ⟨g2, 1, none⟩)) (by kernel_rfl) ?_
  go_frame
  refine wl_pure (by kernel_rfl) (.pointer (some ⟨g2, 1, none⟩)) (by kernel_rfl) ?_
  go_frame
  refine wl_loadc (by kernel_rfl) hM 1 rfl 2 _ rfl 1 rfl Try.underlying2 rfl rfl ?_
  go_frame
  refine wl_pure (by kernel_rfl) (.bool (h.c == 3)) (by kernel_rfl) ?_
  go_frame
  refine wl_pure (by kernel_rfl) (.bool (h.c == 3)) (by kernel_rfl) ?_
  go_frame
  rcases Bool.eq_false_or_eq_true ((h.c == 3)) with hx11 | hx11
  rw [hx11]
  refine wl_pure (by kernel_rfl) (.bool false) (by kernel_rfl) ?_
  go_frame
  refine wl_pure (by kernel_rfl) (.bool true) (by kernel_rfl) ?_
  go_frame
  refine wl_pure (by kernel_rfl) (.bool true) (by kernel_rfl) ?_
  go_frame
  refine wl_pure (by kernel_rfl) (.bool true) (by kernel_rfl) ?_
  go_frame
  refine wl_pure (by kernel_rfl) (.bool true) (by kernel_rfl) ?_
  go_frame
  refine wl_nil ?_
  refine cn5 _ _ ?_
  clear cn5
  refine wp_cond_true rfl ?_
  refine wp_seq_k fun Kn6 cn6 => ?_
  refine wl_region ?_
  refine wl_call (by kernel_rfl) 56 #[.int .i64 2, .int .i64 0] (by kernel_rfl) (spec_Resting 2 0 _) ?_
  rintro e W4 ⟨rfl, hb⟩
  refine ⟨_, rfl, ?_⟩
  replace hM := hM.call hb
  go_frame
  refine wl_store (by kernel_rfl) hM 0 rfl 40 _ _ rfl rfl rfl (HD.cells (restH 2 0)) rfl I_impl_Hand rfl (hd_one' _) ?_
  clear hM; intro W5 hM
  refine wl_nil ?_
  refine cn6 _ _ ?_
  clear cn6
  refine wp_ret ?_
  simp only [Exit.then, Exit.inBlock]
  exact bodyPost_ret (ret_row rfl hM 0 rfl rfl Try.underlying40 I_impl_Hand) rfl ⟨congrArg (fun z => Ending.returned (Value.agg (HD.cells z).toArray)) (show (restH 2 0) = exitH l h from by simp [exitH, hx2, hx9, hx10, hx11, nce]), hM.below⟩
  rw [hx11]
  refine wl_skip (by kernel_rfl) ?_
  go_frame
  refine wl_skip (by kernel_rfl) ?_
  go_frame
  refine wl_pure (by kernel_rfl) (.bool false) (by kernel_rfl) ?_
  go_frame
  refine wl_pure (by kernel_rfl) (.bool false) (by kernel_rfl) ?_
  go_frame
  refine wl_pure (by kernel_rfl) (.bool false) (by kernel_rfl) ?_
  go_frame
  refine wl_nil ?_
  refine cn5 _ _ ?_
  clear cn5
  refine wp_cond_false rfl ?_
  refine wp_skip ?_
  refine cn3 _ _ ?_
  clear cn3
  refine wp_seq_k fun Kn6 cn6 => ?_
  refine wl_region ?_
  refine wl_pure (by kernel_rfl) (.pointer (some ⟨g2, 0, none⟩)) (by kernel_rfl) ?_
  go_frame
  refine wl_storec (by kernel_rfl) hM 1 rfl 2 _ _ rfl rfl 0 rfl (.int .i64 5) rfl rfl rfl I_int64 (by simp [HD.cells]) ?_
  clear hM; intro W4 hM
  refine wl_nil ?_
  refine cn6 _ _ ?_
  clear cn6
  refine wp_seq_k fun Kn7 cn7 => ?_
  refine wl_region ?_
  refine wl_load (by kernel_rfl) hM 1 rfl 40 _ rfl rfl Try.underlying40 I_impl_Hand ?_
  go_frame
  refine wl_store (by kernel_rfl) hM 0 rfl 40 _ _ rfl rfl rfl (HD.cells { h with at_ := 5 }) rfl I_impl_Hand rfl (hd_one' _) ?_
  clear hM; intro W5 hM
  refine wl_nil ?_
  refine cn7 _ _ ?_
  clear cn7
  refine wp_ret ?_
  exact bodyPost_ret (ret_row rfl hM 0 rfl rfl Try.underlying40 I_impl_Hand) rfl ⟨congrArg (fun z => Ending.returned (Value.agg (HD.cells z).toArray)) (show { h with at_ := 5 } = exitH l h from by simp [exitH, hx2, hx9, hx10, hx11, nce]), hM.below⟩
  rw [hx9]
  refine wl_skip (by kernel_rfl) ?_
  go_frame
  refine wl_pure (by kernel_rfl) (.bool false) (by kernel_rfl) ?_
  go_frame
  refine wl_pure (by kernel_rfl) (.bool false) (by kernel_rfl) ?_
  go_frame
  refine wl_pure (by kernel_rfl) (.bool false) (by kernel_rfl) ?_
  go_frame
  refine wl_pure (by kernel_rfl) (.pointer (some ⟨g2, 1, none⟩)) (by kernel_rfl) ?_
  go_frame
  refine wl_pure (by kernel_rfl) (.pointer (some ⟨g2, 1, none⟩)) (by kernel_rfl) ?_
  go_frame
  refine wl_loadc (by kernel_rfl) hM 1 rfl 2 _ rfl 1 rfl Try.underlying2 rfl rfl ?_
  go_frame
  refine wl_pure (by kernel_rfl) (.bool (h.c == 3)) (by kernel_rfl) ?_
  go_frame
  refine wl_pure (by kernel_rfl) (.bool (h.c == 3)) (by kernel_rfl) ?_
  go_frame
  rcases Bool.eq_false_or_eq_true ((h.c == 3)) with hx12 | hx12
  rw [hx12]
  refine wl_pure (by kernel_rfl) (.bool (h.cur != 0)) (by kernel_rfl) ?_
  go_frame
  rcases Bool.eq_false_or_eq_true ((h.cur != 0)) with hx13 | hx13
  rw [hx13]
  refine wl_pure (by kernel_rfl) (.bool false) (by kernel_rfl) ?_
  go_frame
  refine wl_pure (by kernel_rfl) (.bool false) (by kernel_rfl) ?_
  go_frame
  refine wl_pure (by kernel_rfl) (.bool false) (by kernel_rfl) ?_
  go_frame
  refine wl_pure (by kernel_rfl) (.bool false) (by kernel_rfl) ?_
  go_frame
  refine wl_nil ?_
  refine cn5 _ _ ?_
  clear cn5
  refine wp_cond_false rfl ?_
  refine wp_skip ?_
  refine cn3 _ _ ?_
  clear cn3
  refine wp_seq_k fun Kn6 cn6 => ?_
  refine wl_region ?_
  refine wl_pure (by kernel_rfl) (.pointer (some ⟨g2, 0, none⟩)) (by kernel_rfl) ?_
  go_frame
  refine wl_storec (by kernel_rfl) hM 1 rfl 2 _ _ rfl rfl 0 rfl (.int .i64 5) rfl rfl rfl I_int64 (by simp [HD.cells]) ?_
  clear hM; intro W4 hM
  refine wl_nil ?_
  refine cn6 _ _ ?_
  clear cn6
  refine wp_seq_k fun Kn7 cn7 => ?_
  refine wl_region ?_
  refine wl_load (by kernel_rfl) hM 1 rfl 40 _ rfl rfl Try.underlying40 I_impl_Hand ?_
  go_frame
  refine wl_store (by kernel_rfl) hM 0 rfl 40 _ _ rfl rfl rfl (HD.cells { h with at_ := 5 }) rfl I_impl_Hand rfl (hd_one' _) ?_
  clear hM; intro W5 hM
  refine wl_nil ?_
  refine cn7 _ _ ?_
  clear cn7
  refine wp_ret ?_
  exact bodyPost_ret (ret_row rfl hM 0 rfl rfl Try.underlying40 I_impl_Hand) rfl ⟨congrArg (fun z => Ending.returned (Value.agg (HD.cells z).toArray)) (show { h with at_ := 5 } = exitH l h from by simp [exitH, hx2, hx9, hx12, hx13, nce]), hM.below⟩
  rw [hx13]
  refine wl_pure (by kernel_rfl) (.bool true) (by kernel_rfl) ?_
  go_frame
  refine wl_pure (by kernel_rfl) (.bool true) (by kernel_rfl) ?_
  go_frame
  refine wl_pure (by kernel_rfl) (.bool true) (by kernel_rfl) ?_
  go_frame
  refine wl_pure (by kernel_rfl) (.bool true) (by kernel_rfl) ?_
  go_frame
  refine wl_nil ?_
  refine cn5 _ _ ?_
  clear cn5
  refine wp_cond_true rfl ?_
  refine wp_seq_k fun Kn6 cn6 => ?_
  refine wl_region ?_
  refine wl_call (by kernel_rfl) 56 #[.int .i64 2, .int .i64 0] (by kernel_rfl) (spec_Resting 2 0 _) ?_
  rintro e W4 ⟨rfl, hb⟩
  refine ⟨_, rfl, ?_⟩
  replace hM := hM.call hb
  go_frame
  refine wl_store (by kernel_rfl) hM 0 rfl 40 _ _ rfl rfl rfl (HD.cells (restH 2 0)) rfl I_impl_Hand rfl (hd_one' _) ?_
  clear hM; intro W5 hM
  refine wl_nil ?_
  refine cn6 _ _ ?_
  clear cn6
  refine wp_ret ?_
  simp only [Exit.then, Exit.inBlock]
  exact bodyPost_ret (ret_row rfl hM 0 rfl rfl Try.underlying40 I_impl_Hand) rfl ⟨congrArg (fun z => Ending.returned (Value.agg (HD.cells z).toArray)) (show (restH 2 0) = exitH l h from by simp [exitH, hx2, hx9, hx12, hx13, nce]), hM.below⟩
  rw [hx12]
  refine wl_skip (by kernel_rfl) ?_
  go_frame
  refine wl_skip (by kernel_rfl) ?_
  go_frame
  refine wl_pure (by kernel_rfl) (.bool false) (by kernel_rfl) ?_
  go_frame
  refine wl_pure (by kernel_rfl) (.bool false) (by kernel_rfl) ?_
  go_frame
  refine wl_pure (by kernel_rfl) (.bool false) (by kernel_rfl) ?_
  go_frame
  refine wl_nil ?_
  refine cn5 _ _ ?_
  clear cn5
  refine wp_cond_false rfl ?_
  refine wp_skip ?_
  refine cn3 _ _ ?_
  clear cn3
  refine wp_seq_k fun Kn6 cn6 => ?_
  refine wl_region ?_
  refine wl_pure (by kernel_rfl) (.pointer (some ⟨g2, 0, none⟩)) (by kernel_rfl) ?_
  go_frame
  refine wl_storec (by kernel_rfl) hM 1 rfl 2 _ _ rfl rfl 0 rfl (.int .i64 5) rfl rfl rfl I_int64 (by simp [HD.cells]) ?_
  clear hM; intro W4 hM
  refine wl_nil ?_
  refine cn6 _ _ ?_
  clear cn6
  refine wp_seq_k fun Kn7 cn7 => ?_
  refine wl_region ?_
  refine wl_load (by kernel_rfl) hM 1 rfl 40 _ rfl rfl Try.underlying40 I_impl_Hand ?_
  go_frame
  refine wl_store (by kernel_rfl) hM 0 rfl 40 _ _ rfl rfl rfl (HD.cells { h with at_ := 5 }) rfl I_impl_Hand rfl (hd_one' _) ?_
  clear hM; intro W5 hM
  refine wl_nil ?_
  refine cn7 _ _ ?_
  clear cn7
  refine wp_ret ?_
  exact bodyPost_ret (ret_row rfl hM 0 rfl rfl Try.underlying40 I_impl_Hand) rfl ⟨congrArg (fun z => Ending.returned (Value.agg (HD.cells z).toArray)) (show { h with at_ := 5 } = exitH l h from by simp [exitH, hx2, hx9, hx12, nce]), hM.below⟩
def sideUp (h : HD) : Int := if h.up == h.cur then 1 else 0
def whereUp (h : HD) : Int := if h.up == h.cur then h.new else h.up
def downH (l : List ND) (h : HD) : HD :=
  let cur := kidF h.side (nd l h.prev).l (nd l h.prev).r
  if cur == 0 || (nd l cur).k == h.k then { h with at_ := 3, cur := cur } else { h with prev := cur, cur := cur, side := sideF h.k (nd l cur).k }
def checkCutH (l : List ND) (h : HD) : HD :=
  if (nd l h.prev).g || (nd l h.cur).g || kidF h.side (nd l h.prev).l (nd l h.prev).r != h.cur then againH h
  else if (nd l h.cur).l == 0 || (nd l h.cur).r == 0 then { h with at_ := 11 } else { h with at_ := 14 }
def leftUpH (l : List ND) (h : HD) : HD :=
  if (nd l h.next).l != 0 then { h with up := h.next, next := (nd l h.next).l } else if h.up == h.cur then { h with at_ := 17 } else { h with at_ := 16 }
def checkUpH (l : List ND) (h : HD) : HD :=
  if kidF (sideUp h) (nd l h.up).l (nd l h.up).r != h.next || (nd l h.up).g || (nd l h.next).g || (nd l h.next).l != 0 then againH h else { h with at_ := 19 }

set_option maxRecDepth 100000 in
set_option maxHeartbeats 4000000 in
theorem spec_l7Down (u x : Value) (l : List ND) (h : HD) (w0 : World) (h1 : NSl w0 u l) (qnp : hasB l h.prev = true) (qk : hasB l (kidF h.side (nd l h.prev).l (nd l h.prev).r) = true) :
    Calls Try.prog 28 #[.agg #[u, x], h.val] w0 fun e w' => e = .returned (downH l h).val ∧ Below w0.heap.size w0 w' := by
  unfold HD.val
  obtain ⟨b, off, cap, rfl, kk1, mm1, s1, H1⟩ := h1.at (fun e => by subst e; simp [hasB, inB] at qnp; omega)
  obtain ⟨knp, ⟨npk, npv, npl, npr, npo, npg, nplt, nprt⟩, hknp, npe, hlnp, hnnp⟩ := nd_at qnp
  have Anp := H1 knp _ hnnp
  rw [npe] at qk
  obtain ⟨kc, ⟨nck, ncv, ncl, ncr, nco, ncg, nclt, ncrt⟩, hkc, nce, hlc, hnc⟩ := nd_at qk
  have Ac := H1 kc _ hnc
  have hM := Mem.start w0
  go_enter Try.func28, Try.ntmps28
  refine wp_seq_k fun Kn1 cn1 => ?_
  refine wl_region ?_
  refine wl_box (by kernel_rfl) hM 30 _ rfl [.slice (some ⟨b, off, none⟩) l.length cap, x] rfl ?_
  clear hM; intro g1 W1 hM
  go_frame
  refine wl_box (by kernel_rfl) hM 40 _ rfl (HD.cells h) rfl ?_
  clear hM; intro g2 W2 hM
  go_frame
  refine wl_alloc (by kernel_rfl) hM 40 rfl (HD.cells HD.zero) Z_impl_Hand ?_
  clear hM; intro g3 W3 hM
  go_frame
  refine wl_nil ?_
  refine cn1 _ _ ?_
  clear cn1
  refine wp_seq_k fun Kn2 cn2 => ?_
  -- region 1, drawn: one after the other
  refine wa_join (fun act W => ∃ (jj : Nat), act = ⟨#[.agg #[.slice (some ⟨b, off, none⟩) l.length cap, x], .agg (HD.cells h).toArray, .pointer (some ⟨g1, 0, none⟩), .pointer (some ⟨g2, 0, none⟩), .pointer (some ⟨g3, 0, none⟩), .pointer (some ⟨g1, 0, none⟩), .slice (some ⟨b, off, none⟩) l.length cap, .pointer (some ⟨g2, 4, none⟩), .int .i64 h.prev, .pointer (some ⟨b, off + knp * 8, none⟩), .agg (ND.cells ⟨npk, npv, npl, npr, npo, npg, nplt, nprt⟩).toArray, .pointer (some ⟨g2, 6, none⟩), .int .i64 h.side, .int .i64 (kidF h.side npl npr), .pointer (some ⟨g2, 5, none⟩), undef, undef, undef, undef, undef, undef, undef, undef, undef, undef, undef, undef, undef, undef, undef, undef, undef, undef, undef, undef, undef, undef, undef, undef, undef, undef, undef, undef, undef, undef, undef, undef, undef], []⟩ ∧ Mem w0 W [(g3, 40, (HD.cells HD.zero)), (g2, 40, (HD.cells { h with cur := (kidF h.side npl npr) })), (g1, 30, [.slice (some ⟨b, off, none⟩) l.length cap, x])]) ?_ ?_
  clear hM
  rintro act W6 ⟨jj, rfl, hM⟩
  refine cn2 _ _ ?_
  clear cn2
  refine wp_seq_k fun Kn3 cn3 => ?_
  refine wp_seq_k fun Kn4 cn4 => ?_
  rcases Bool.eq_false_or_eq_true (((kidF h.side npl npr) == 0)) with hx1 | hx1
  -- region 2, drawn: 16, then 0
  refine wp_region_vals 16 (fun f => ⟨#[.agg #[.slice (some ⟨b, off, none⟩) l.length cap, x], .agg (HD.cells h).toArray, .pointer (some ⟨g1, 0, none⟩), .pointer (some ⟨g2, 0, none⟩), .pointer (some ⟨g3, 0, none⟩), .pointer (some ⟨g1, 0, none⟩), .slice (some ⟨b, off, none⟩) l.length cap, .pointer (some ⟨g2, 4, none⟩), .int .i64 h.prev, .pointer (some ⟨b, off + knp * 8, none⟩), .agg (ND.cells ⟨npk, npv, npl, npr, npo, npg, nplt, nprt⟩).toArray, .pointer (some ⟨g2, 6, none⟩), .int .i64 h.side, .int .i64 (kidF h.side npl npr), .pointer (some ⟨g2, 5, none⟩), f 0, f 1, f 2, f 3, f 4, f 5, f 6, f 7, f 8, f 9, f 10, f 11, f 12, f 13, f 14, f 15, undef, undef, undef, undef, undef, undef, undef, undef, undef, undef, undef, undef, undef, undef, undef, undef, undef], []⟩) [.pointer (some ⟨g2, 5, none⟩), .int .i64 (kidF h.side npl npr), .bool true, .bool true, undef, undef, undef, undef, undef, undef, undef, undef, undef, undef, undef, .bool true] (fun f w => Mem w0 w [(g3, 40, (HD.cells HD.zero)), (g2, 40, (HD.cells { h with cur := (kidF h.side npl npr) })), (g1, 30, [.slice (some ⟨b, off, none⟩) l.length cap, x])]) ⟨#[.agg #[.slice (some ⟨b, off, none⟩) l.length cap, x], .agg (HD.cells h).toArray, .pointer (some ⟨g1, 0, none⟩), .pointer (some ⟨g2, 0, none⟩), .pointer (some ⟨g3, 0, none⟩), .pointer (some ⟨g1, 0, none⟩), .slice (some ⟨b, off, none⟩) l.length cap, .pointer (some ⟨g2, 4, none⟩), .int .i64 h.prev, .pointer (some ⟨b, off + knp * 8, none⟩), .agg (ND.cells ⟨npk, npv, npl, npr, npo, npg, nplt, nprt⟩).toArray, .pointer (some ⟨g2, 6, none⟩), .int .i64 h.side, .int .i64 (kidF h.side npl npr), .pointer (some ⟨g2, 5, none⟩), .pointer (some ⟨g2, 5, none⟩), .int .i64 (kidF h.side npl npr), .bool true, .bool true, undef, undef, undef, undef, undef, undef, undef, undef, undef, undef, undef, .bool true, undef, undef, undef, undef, undef, undef, undef, undef, undef, undef, undef, undef, undef, undef, undef, undef, undef], []⟩ (fun _ => undef) (by kernel_rfl) (by kernel_rfl) (by kernel_rfl) (by kernel_rfl) rfl (fun f => rfl) hM.drew ⟨
    step_same [] (.pointer (some ⟨g2, 5, none⟩)) (by kernel_rfl) rfl (fun f => by kernel_rfl) (fun f w K hM hK => m_pure (.pointer (some ⟨g2, 5, none⟩)) (by kernel_rfl) (hK)) (fun f => rfl) (fun f w h => h),
    step_same [0] (.int .i64 (kidF h.side npl npr)) (by kernel_rfl) rfl (fun f => by kernel_rfl) (fun f w K hM hK => m_loadc hM 1 rfl 2 _ rfl 5 rfl Try.underlying2 rfl rfl (hK)) (fun f => rfl) (fun f w h => h),
    step_same [1] (.bool true) (by kernel_rfl) rfl (fun f => by kernel_rfl) (fun f w K hM hK => m_pureB (b := ((kidF h.side npl npr) == 0)) (by kernel_rfl) (hx1) (hK)) (fun f => rfl) (fun f w h => h),
    step_same [2] (.bool true) (by kernel_rfl) rfl (fun f => by kernel_rfl) (fun f w K hM hK => m_pure (.bool true) (by kernel_rfl) (hK)) (fun f => rfl) (fun f w h => h),
    step_none [3] undef (by kernel_rfl) rfl (fun f => by kernel_rfl) (fun f => rfl) (fun f w h => h),
    step_none [3, 4] undef (by kernel_rfl) rfl (fun f => by kernel_rfl) (fun f => rfl) (fun f w h => h),
    step_none [3] undef (by kernel_rfl) rfl (fun f => by kernel_rfl) (fun f => rfl) (fun f w h => h),
    step_none [3, 6] undef (by kernel_rfl) rfl (fun f => by kernel_rfl) (fun f => rfl) (fun f w h => h),
    step_none [3, 5, 7] undef (by kernel_rfl) rfl (fun f => by kernel_rfl) (fun f => rfl) (fun f w h => h),
    step_none [3, 8] undef (by kernel_rfl) rfl (fun f => by kernel_rfl) (fun f => rfl) (fun f w h => h),
    step_none [3, 9] undef (by kernel_rfl) rfl (fun f => by kernel_rfl) (fun f => rfl) (fun f w h => h),
    step_none [3] undef (by kernel_rfl) rfl (fun f => by kernel_rfl) (fun f => rfl) (fun f w h => h),
    step_none [3, 11] undef (by kernel_rfl) rfl (fun f => by kernel_rfl) (fun f => rfl) (fun f w h => h),
    step_none [3, 12] undef (by kernel_rfl) rfl (fun f => by kernel_rfl) (fun f => rfl) (fun f w h => h),
    step_none [3, 10, 13] undef (by kernel_rfl) rfl (fun f => by kernel_rfl) (fun f => rfl) (fun f w h => h),
    step_same [3, 14] (.bool true) (by kernel_rfl) rfl (fun f => by kernel_rfl) (fun f w K hM hK => m_pure (.bool true) (by kernel_rfl) (hK)) (fun f => rfl) (fun f w h => h),
    trivial⟩ ?_
  clear hM; intro f w' hM
  replace hM : Mem w0 w' [(g3, 40, (HD.cells HD.zero)), (g2, 40, (HD.cells { h with cur := (kidF h.side npl npr) })), (g1, 30, [.slice (some ⟨b, off, none⟩) l.length cap, x])] := hM
  clear f
  refine WL.out ?_
  simp only [List.drop_succ_cons, List.drop_zero]
  refine wl_nil ?_
  refine cn4 _ _ ?_
  clear cn4
  refine wp_cond_true rfl ?_
  refine wp_seq_k fun Kn5 cn5 => ?_
  refine wl_region ?_
  refine wl_pure (by kernel_rfl) (.pointer (some ⟨g2, 0, none⟩)) (by kernel_rfl) ?_
  go_frame
  refine wl_storec (by kernel_rfl) hM 1 rfl 2 _ _ rfl rfl 0 rfl (.int .i64 3) rfl rfl rfl I_int64 (by simp [HD.cells]) ?_
  clear hM; intro W7 hM
  refine wl_nil ?_
  refine cn5 _ _ ?_
  clear cn5
  refine wp_seq_k fun Kn6 cn6 => ?_
  refine wl_region ?_
  refine wl_load (by kernel_rfl) hM 1 rfl 40 _ rfl rfl Try.underlying40 I_impl_Hand ?_
  go_frame
  refine wl_store (by kernel_rfl) hM 0 rfl 40 _ _ rfl rfl rfl (HD.cells { h with cur := (kidF h.side npl npr), at_ := 3 }) rfl I_impl_Hand rfl (hd_one' _) ?_
  clear hM; intro W8 hM
  refine wl_nil ?_
  refine cn6 _ _ ?_
  clear cn6
  refine wp_ret ?_
  simp only [Exit.then, Exit.inBlock]
  exact bodyPost_ret (ret_row rfl hM 0 rfl rfl Try.underlying40 I_impl_Hand) rfl ⟨congrArg (fun z => Ending.returned (Value.agg (HD.cells z).toArray)) (show { h with cur := (kidF h.side npl npr), at_ := 3 } = downH l h from by simp [downH, hx1, npe, nce]), hM.below⟩
  -- region 2, drawn: 16, then 0
  refine wp_region_vals 16 (fun f => ⟨#[.agg #[.slice (some ⟨b, off, none⟩) l.length cap, x], .agg (HD.cells h).toArray, .pointer (some ⟨g1, 0, none⟩), .pointer (some ⟨g2, 0, none⟩), .pointer (some ⟨g3, 0, none⟩), .pointer (some ⟨g1, 0, none⟩), .slice (some ⟨b, off, none⟩) l.length cap, .pointer (some ⟨g2, 4, none⟩), .int .i64 h.prev, .pointer (some ⟨b, off + knp * 8, none⟩), .agg (ND.cells ⟨npk, npv, npl, npr, npo, npg, nplt, nprt⟩).toArray, .pointer (some ⟨g2, 6, none⟩), .int .i64 h.side, .int .i64 (kidF h.side npl npr), .pointer (some ⟨g2, 5, none⟩), f 0, f 1, f 2, f 3, f 4, f 5, f 6, f 7, f 8, f 9, f 10, f 11, f 12, f 13, f 14, f 15, undef, undef, undef, undef, undef, undef, undef, undef, undef, undef, undef, undef, undef, undef, undef, undef, undef], []⟩) [.pointer (some ⟨g2, 5, none⟩), .int .i64 (kidF h.side npl npr), .bool false, .bool false, .pointer (some ⟨g1, 0, none⟩), .slice (some ⟨b, off, none⟩) l.length cap, .pointer (some ⟨g2, 5, none⟩), .int .i64 (kidF h.side npl npr), .pointer (some ⟨b, off + kc * 8, none⟩), .pointer (some ⟨b, off + kc * 8, none⟩), .int .i64 nck, .pointer (some ⟨g2, 1, none⟩), .pointer (some ⟨g2, 2, none⟩), .int .i64 h.k, .bool (nck == h.k), .bool (nck == h.k)] (fun f w => Mem w0 w [(g3, 40, (HD.cells HD.zero)), (g2, 40, (HD.cells { h with cur := (kidF h.side npl npr) })), (g1, 30, [.slice (some ⟨b, off, none⟩) l.length cap, x])]) ⟨#[.agg #[.slice (some ⟨b, off, none⟩) l.length cap, x], .agg (HD.cells h).toArray, .pointer (some ⟨g1, 0, none⟩), .pointer (some ⟨g2, 0, none⟩), .pointer (some ⟨g3, 0, none⟩), .pointer (some ⟨g1, 0, none⟩), .slice (some ⟨b, off, none⟩) l.length cap, .pointer (some ⟨g2, 4, none⟩), .int .i64 h.prev, .pointer (some ⟨b, off + knp * 8, none⟩), .agg (ND.cells ⟨npk, npv, npl, npr, npo, npg, nplt, nprt⟩).toArray, .pointer (some ⟨g2, 6, none⟩), .int .i64 h.side, .int .i64 (kidF h.side npl npr), .pointer (some ⟨g2, 5, none⟩), .pointer (some ⟨g2, 5, none⟩), .int .i64 (kidF h.side npl npr), .bool false, .bool false, .pointer (some ⟨g1, 0, none⟩), .slice (some ⟨b, off, none⟩) l.length cap, .pointer (some ⟨g2, 5, none⟩), .int .i64 (kidF h.side npl npr), .pointer (some ⟨b, off + kc * 8, none⟩), .pointer (some ⟨b, off + kc * 8, none⟩), .int .i64 nck, .pointer (some ⟨g2, 1, none⟩), .pointer (some ⟨g2, 2, none⟩), .int .i64 h.k, .bool (nck == h.k), .bool (nck == h.k), undef, undef, undef, undef, undef, undef, undef, undef, undef, undef, undef, undef, undef, undef, undef, undef, undef], []⟩ (fun _ => undef) (by kernel_rfl) (by kernel_rfl) (by kernel_rfl) (by kernel_rfl) rfl (fun f => rfl) hM.drew ⟨
    step_same [] (.pointer (some ⟨g2, 5, none⟩)) (by kernel_rfl) rfl (fun f => by kernel_rfl) (fun f w K hM hK => m_pure (.pointer (some ⟨g2, 5, none⟩)) (by kernel_rfl) (hK)) (fun f => rfl) (fun f w h => h),
    step_same [0] (.int .i64 (kidF h.side npl npr)) (by kernel_rfl) rfl (fun f => by kernel_rfl) (fun f w K hM hK => m_loadc hM 1 rfl 2 _ rfl 5 rfl Try.underlying2 rfl rfl (hK)) (fun f => rfl) (fun f w h => h),
    step_same [1] (.bool false) (by kernel_rfl) rfl (fun f => by kernel_rfl) (fun f w K hM hK => m_pureB (b := ((kidF h.side npl npr) == 0)) (by kernel_rfl) (hx1) (hK)) (fun f => rfl) (fun f w h => h),
    step_same [2] (.bool false) (by kernel_rfl) rfl (fun f => by kernel_rfl) (fun f w K hM hK => m_pure (.bool false) (by kernel_rfl) (hK)) (fun f => rfl) (fun f w h => h),
    step_same [3] (.pointer (some ⟨g1, 0, none⟩)) (by kernel_rfl) rfl (fun f => by kernel_rfl) (fun f w K hM hK => m_pure (.pointer (some ⟨g1, 0, none⟩)) (by kernel_rfl) (hK)) (fun f => rfl) (fun f w h => h),
    step_same [3, 4] (.slice (some ⟨b, off, none⟩) l.length cap) (by kernel_rfl) rfl (fun f => by kernel_rfl) (fun f w K hM hK => m_loadc hM 2 rfl 28 _ rfl 0 rfl Try.underlying28 rfl rfl (hK)) (fun f => rfl) (fun f w h => h),
    step_same [3] (.pointer (some ⟨g2, 5, none⟩)) (by kernel_rfl) rfl (fun f => by kernel_rfl) (fun f w K hM hK => m_pure (.pointer (some ⟨g2, 5, none⟩)) (by kernel_rfl) (hK)) (fun f => rfl) (fun f w h => h),
    step_same [3, 6] (.int .i64 (kidF h.side npl npr)) (by kernel_rfl) rfl (fun f => by kernel_rfl) (fun f w K hM hK => m_loadc hM 1 rfl 2 _ rfl 5 rfl Try.underlying2 rfl rfl (hK)) (fun f => rfl) (fun f w h => h),
    step_same [3, 5, 7] (.pointer (some ⟨b, off + kc * 8, none⟩)) (by kernel_rfl) rfl (fun f => by kernel_rfl) (fun f w K hM hK => m_index 28 60 _ _ rfl b off l.length cap 8 kc rfl rfl hkc (by omega) Try.underlying28 I_impl_Node (hK)) (fun f => rfl) (fun f w h => h),
    step_same [3, 8] (.pointer (some ⟨b, off + kc * 8, none⟩)) (by kernel_rfl) rfl (fun f => by kernel_rfl) (fun f w K hM hK => m_pure (.pointer (some ⟨b, off + kc * 8, none⟩)) (by kernel_rfl) (hK)) (fun f => rfl) (fun f w h => h),
    step_same [3, 9] (.int .i64 nck) (by kernel_rfl) rfl (fun f => by kernel_rfl) (fun f w K hM hK => m_cell 2 _ rfl ⟨b, off + kc * 8, none⟩ rfl Try.underlying2 rfl (row_of hM s1 Ac 0 _ rfl) (hK)) (fun f => rfl) (fun f w h => h),
    step_same [3] (.pointer (some ⟨g2, 1, none⟩)) (by kernel_rfl) rfl (fun f => by kernel_rfl) (fun f w K hM hK => m_pure (.pointer (some ⟨g2, 1, none⟩)) (by kernel_rfl) (hK)) (fun f => rfl) (fun f w h => h),
    step_same [3, 11] (.pointer (some ⟨g2, 2, none⟩)) (by kernel_rfl) rfl (fun f => by kernel_rfl) (fun f w K hM hK => m_pure (.pointer (some ⟨g2, 2, none⟩)) (by kernel_rfl) (hK)) (fun f => rfl) (fun f w h => h),
    step_same [3, 12] (.int .i64 h.k) (by kernel_rfl) rfl (fun f => by kernel_rfl) (fun f w K hM hK => m_loadc hM 1 rfl 2 _ rfl 2 rfl Try.underlying2 rfl rfl (hK)) (fun f => rfl) (fun f w h => h),
    step_same [3, 10, 13] (.bool (nck == h.k)) (by kernel_rfl) rfl (fun f => by kernel_rfl) (fun f w K hM hK => m_pure (.bool (nck == h.k)) (by kernel_rfl) (hK)) (fun f => rfl) (fun f w h => h),
    step_same [3, 14] (.bool (nck == h.k)) (by kernel_rfl) rfl (fun f => by kernel_rfl) (fun f w K hM hK => m_pure (.bool (nck == h.k)) (by kernel_rfl) (hK)) (fun f => rfl) (fun f w h => h),
    trivial⟩ ?_
  clear hM; intro f w' hM
  replace hM : Mem w0 w' [(g3, 40, (HD.cells HD.zero)), (g2, 40, (HD.cells { h with cur := (kidF h.side npl npr) })), (g1, 30, [.slice (some ⟨b, off, none⟩) l.length cap, x])] := hM
  clear f
  refine WL.out ?_
  simp only [List.drop_succ_cons, List.drop_zero]
  refine wl_nil ?_
  refine cn4 _ _ ?_
  clear cn4
  rcases Bool.eq_false_or_eq_true ((nck == h.k)) with hx2 | hx2
  rw [hx2]
  refine wp_cond_true rfl ?_
  refine wp_seq_k fun Kn5 cn5 => ?_
  refine wl_region ?_
  refine wl_pure (by kernel_rfl) (.pointer (some ⟨g2, 0, none⟩)) (by kernel_rfl) ?_
  go_frame
  refine wl_storec (by kernel_rfl) hM 1 rfl 2 _ _ rfl rfl 0 rfl (.int .i64 3) rfl rfl rfl I_int64 (by simp [HD.cells]) ?_
  clear hM; intro W7 hM
  refine wl_nil ?_
  refine cn5 _ _ ?_
  clear cn5
  refine wp_seq_k fun Kn6 cn6 => ?_
  refine wl_region ?_
  refine wl_load (by kernel_rfl) hM 1 rfl 40 _ rfl rfl Try.underlying40 I_impl_Hand ?_
  go_frame
  refine wl_store (by kernel_rfl) hM 0 rfl 40 _ _ rfl rfl rfl (HD.cells { h with cur := (kidF h.side npl npr), at_ := 3 }) rfl I_impl_Hand rfl (hd_one' _) ?_
  clear hM; intro W8 hM
  refine wl_nil ?_
  refine cn6 _ _ ?_
  clear cn6
  refine wp_ret ?_
  simp only [Exit.then, Exit.inBlock]
  exact bodyPost_ret (ret_row rfl hM 0 rfl rfl Try.underlying40 I_impl_Hand) rfl ⟨congrArg (fun z => Ending.returned (Value.agg (HD.cells z).toArray)) (show { h with cur := (kidF h.side npl npr), at_ := 3 } = downH l h from by simp [downH, hx1, hx2, npe, nce]), hM.below⟩
  rw [hx2]
  refine wp_cond_false rfl ?_
  refine wp_skip ?_
  refine cn3 _ _ ?_
  clear cn3
  refine wp_seq_k fun Kn5 cn5 => ?_
  refine wl_region ?_
  refine wl_pure (by kernel_rfl) (.pointer (some ⟨g2, 5, none⟩)) (by kernel_rfl) ?_
  go_frame
  refine wl_loadc (by kernel_rfl) hM 1 rfl 2 _ rfl 5 rfl Try.underlying2 rfl rfl ?_
  go_frame
  refine wl_pure (by kernel_rfl) (.pointer (some ⟨g2, 4, none⟩)) (by kernel_rfl) ?_
  go_frame
  refine wl_storec (by kernel_rfl) hM 1 rfl 2 _ _ rfl rfl 4 rfl (.int .i64 (kidF h.side npl npr)) rfl rfl rfl I_int64 (by simp [HD.cells]) ?_
  clear hM; intro W7 hM
  refine wl_nil ?_
  refine cn5 _ _ ?_
  clear cn5
  refine wp_seq_k fun Kn6 cn6 => ?_
  -- region 6, drawn: one after the other
  refine wa_join (fun act W => ∃ (jj : Nat), act = ⟨#[.agg #[.slice (some ⟨b, off, none⟩) l.length cap, x], .agg (HD.cells h).toArray, .pointer (some ⟨g1, 0, none⟩), .pointer (some ⟨g2, 0, none⟩), .pointer (some ⟨g3, 0, none⟩), .pointer (some ⟨g1, 0, none⟩), .slice (some ⟨b, off, none⟩) l.length cap, .pointer (some ⟨g2, 4, none⟩), .int .i64 h.prev, .pointer (some ⟨b, off + knp * 8, none⟩), .agg (ND.cells ⟨npk, npv, npl, npr, npo, npg, nplt, nprt⟩).toArray, .pointer (some ⟨g2, 6, none⟩), .int .i64 h.side, .int .i64 (kidF h.side npl npr), .pointer (some ⟨g2, 5, none⟩), .pointer (some ⟨g2, 5, none⟩), .int .i64 (kidF h.side npl npr), .bool false, .bool false, .pointer (some ⟨g1, 0, none⟩), .slice (some ⟨b, off, none⟩) l.length cap, .pointer (some ⟨g2, 5, none⟩), .int .i64 (kidF h.side npl npr), .pointer (some ⟨b, off + kc * 8, none⟩), .pointer (some ⟨b, off + kc * 8, none⟩), .int .i64 nck, .pointer (some ⟨g2, 1, none⟩), .pointer (some ⟨g2, 2, none⟩), .int .i64 h.k, .bool false, .bool false, undef, undef, .pointer (some ⟨g2, 5, none⟩), .int .i64 (kidF h.side npl npr), .pointer (some ⟨g2, 4, none⟩), .pointer (some ⟨g1, 0, none⟩), .slice (some ⟨b, off, none⟩) l.length cap, .pointer (some ⟨g2, 5, none⟩), .int .i64 (kidF h.side npl npr), .pointer (some ⟨b, off + kc * 8, none⟩), .agg (ND.cells ⟨nck, ncv, ncl, ncr, nco, ncg, nclt, ncrt⟩).toArray, .pointer (some ⟨g2, 1, none⟩), .pointer (some ⟨g2, 2, none⟩), .int .i64 h.k, .int .i64 (sideF h.k nck), .pointer (some ⟨g2, 6, none⟩), undef], []⟩ ∧ Mem w0 W [(g3, 40, (HD.cells HD.zero)), (g2, 40, (HD.cells { h with cur := (kidF h.side npl npr), prev := (kidF h.side npl npr), side := (sideF h.k nck) })), (g1, 30, [.slice (some ⟨b, off, none⟩) l.length cap, x])]) ?_ ?_
  clear hM
  rintro act W10 ⟨jj, rfl, hM⟩
  refine cn6 _ _ ?_
  clear cn6
  refine wp_seq_k fun Kn7 cn7 => ?_
  refine wl_region ?_
  refine wl_load (by kernel_rfl) hM 1 rfl 40 _ rfl rfl Try.underlying40 I_impl_Hand ?_
  go_frame
  refine wl_store (by kernel_rfl) hM 0 rfl 40 _ _ rfl rfl rfl (HD.cells { h with cur := (kidF h.side npl npr), prev := (kidF h.side npl npr), side := (sideF h.k nck) }) rfl I_impl_Hand rfl (hd_one' _) ?_
  clear hM; intro W11 hM
  refine wl_nil ?_
  refine cn7 _ _ ?_
  clear cn7
  refine wp_ret ?_
  exact bodyPost_ret (ret_row rfl hM 0 rfl rfl Try.underlying40 I_impl_Hand) rfl ⟨congrArg (fun z => Ending.returned (Value.agg (HD.cells z).toArray)) (show { h with cur := (kidF h.side npl npr), prev := (kidF h.side npl npr), side := (sideF h.k nck) } = downH l h from by simp [downH, hx1, hx2, npe, nce]), hM.below⟩
  refine wa_start (fun w => Below w0.heap.size w0 w ∧ Blk w g1 30 [.slice (some ⟨b, off, none⟩) l.length cap, x]) 12 rfl (by kernel_rfl) ?_
  replace hM := hM.drew
  refine wa_take 0 (some 36) (.pointer (some ⟨g1, 0, none⟩)) rfl rfl (by kernel_rfl) (by kernel_rfl) (by kernel_rfl) (fun _ _ _ h => h) (by kernel_rfl) (fun w hS => by kernel_rfl) ⟨hM.below, hM.blk 2 rfl⟩ ?_
  go_frame
  refine wa_take 1 (some 37) (.slice (some ⟨b, off, none⟩) l.length cap) rfl rfl (by kernel_rfl) (by kernel_rfl) (by kernel_rfl) (fun _ _ _ h => h) (by kernel_rfl) (fun w hS => r_loadc hS.2 28 _ rfl 0 rfl Try.underlying28 rfl rfl) ⟨hM.below, hM.blk 2 rfl⟩ ?_
  go_frame
  refine wa_take 2 (some 38) (.pointer (some ⟨g2, 5, none⟩)) rfl rfl (by kernel_rfl) (by kernel_rfl) (by kernel_rfl) (fun _ _ _ h => h) (by kernel_rfl) (fun w hS => by kernel_rfl) ⟨hM.below, hM.blk 2 rfl⟩ ?_
  go_frame
  refine wa_take 6 (some 42) (.pointer (some ⟨g2, 1, none⟩)) rfl rfl (by kernel_rfl) (by kernel_rfl) (by kernel_rfl) (fun _ _ _ h => h) (by kernel_rfl) (fun w hS => by kernel_rfl) ⟨hM.below, hM.blk 2 rfl⟩ ?_
  go_frame
  refine wa_take 7 (some 43) (.pointer (some ⟨g2, 2, none⟩)) rfl rfl (by kernel_rfl) (by kernel_rfl) (by kernel_rfl) (fun _ _ _ h => h) (by kernel_rfl) (fun w hS => by kernel_rfl) ⟨hM.below, hM.blk 2 rfl⟩ ?_
  go_frame
  refine wa_two 3 8 (by kernel_rfl) ?_ ?_
  refine wo_pure (some 39) rfl rfl (by kernel_rfl) (.int .i64 (kidF h.side npl npr)) (r_loadc (hM.blk 1 rfl) 2 _ rfl 5 rfl Try.underlying2 rfl rfl) ⟨hM.below, hM.blk 2 rfl⟩ ?_
  go_frame
  refine wa_take 4 (some 40) (.pointer (some ⟨b, off + kc * 8, none⟩)) rfl rfl (by kernel_rfl) (by kernel_rfl) (by kernel_rfl) (fun _ _ _ h => h) (by kernel_rfl) (fun w hS => r_index 28 60 _ _ rfl b off l.length cap 8 kc rfl rfl hkc (by omega) Try.underlying28 I_impl_Node) ⟨hM.below, hM.blk 2 rfl⟩ ?_
  go_frame
  refine wa_take 5 (some 41) (.agg (ND.cells ⟨nck, ncv, ncl, ncr, nco, ncg, nclt, ncrt⟩).toArray) rfl rfl (by kernel_rfl) (by kernel_rfl) (by kernel_rfl) (fun _ _ _ h => h) (by kernel_rfl) (fun w hS => r_cells 60 _ rfl b (off + kc * 8) rfl Try.underlying60 (ND.cells ⟨nck, ncv, ncl, ncr, nco, ncg, nclt, ncrt⟩) I_impl_Node (row_of (Mem.ofBelow hS.1) s1 Ac)) ⟨hM.below, hM.blk 2 rfl⟩ ?_
  go_frame
  refine wa_one 8 (by kernel_rfl) ?_
  refine wo_pure (some 44) rfl rfl (by kernel_rfl) (.int .i64 h.k) (r_loadc (hM.blk 1 rfl) 2 _ rfl 2 rfl Try.underlying2 rfl rfl) ⟨hM.below, hM.blk 2 rfl⟩ ?_
  go_frame
  refine wa_one 9 (by kernel_rfl) ?_
  refine wo_call (some 45) rfl rfl (by kernel_rfl) 55 #[.agg (ND.cells ⟨nck, ncv, ncl, ncr, nco, ncg, nclt, ncrt⟩).toArray, .int .i64 h.k] (by kernel_rfl) (spec_SideOf nck ncv ncl ncr nco ncg nclt ncrt h.k _) ?_
  rintro e W8 ⟨rfl, hb⟩
  replace hM := hM.call hb
  refine ⟨_, rfl, ⟨hM.below, hM.blk 2 rfl⟩, ?_⟩
  go_frame
  refine wa_take 10 (some 46) (.pointer (some ⟨g2, 6, none⟩)) rfl rfl (by kernel_rfl) (by kernel_rfl) (by kernel_rfl) (fun _ _ _ h => h) (by kernel_rfl) (fun w hS => by kernel_rfl) ⟨hM.below, hM.blk 2 rfl⟩ ?_
  go_frame
  refine wa_one 11 (by kernel_rfl) ?_
  refine wo_storec rfl (by kernel_rfl) hM 1 rfl 2 _ _ rfl rfl 6 (by kernel_rfl) (.int .i64 (sideF h.k nck)) (by kernel_rfl) rfl rfl I_int64 (by simp [HD.cells]) ?_
  clear hM; intro W9 hM
  refine ⟨⟨hM.below, hM.blk 2 rfl⟩, ?_⟩
  refine wa_doneJ (by kernel_rfl) ?_
  exact ⟨0, rfl, hM⟩
  refine wo_pure (some 44) rfl rfl (by kernel_rfl) (.int .i64 h.k) (r_loadc (hM.blk 1 rfl) 2 _ rfl 2 rfl Try.underlying2 rfl rfl) ⟨hM.below, hM.blk 2 rfl⟩ ?_
  go_frame
  refine wa_one 3 (by kernel_rfl) ?_
  refine wo_pure (some 39) rfl rfl (by kernel_rfl) (.int .i64 (kidF h.side npl npr)) (r_loadc (hM.blk 1 rfl) 2 _ rfl 5 rfl Try.underlying2 rfl rfl) ⟨hM.below, hM.blk 2 rfl⟩ ?_
  go_frame
  refine wa_take 4 (some 40) (.pointer (some ⟨b, off + kc * 8, none⟩)) rfl rfl (by kernel_rfl) (by kernel_rfl) (by kernel_rfl) (fun _ _ _ h => h) (by kernel_rfl) (fun w hS => r_index 28 60 _ _ rfl b off l.length cap 8 kc rfl rfl hkc (by omega) Try.underlying28 I_impl_Node) ⟨hM.below, hM.blk 2 rfl⟩ ?_
  go_frame
  refine wa_take 5 (some 41) (.agg (ND.cells ⟨nck, ncv, ncl, ncr, nco, ncg, nclt, ncrt⟩).toArray) rfl rfl (by kernel_rfl) (by kernel_rfl) (by kernel_rfl) (fun _ _ _ h => h) (by kernel_rfl) (fun w hS => r_cells 60 _ rfl b (off + kc * 8) rfl Try.underlying60 (ND.cells ⟨nck, ncv, ncl, ncr, nco, ncg, nclt, ncrt⟩) I_impl_Node (row_of (Mem.ofBelow hS.1) s1 Ac)) ⟨hM.below, hM.blk 2 rfl⟩ ?_
  go_frame
  refine wa_one 9 (by kernel_rfl) ?_
  refine wo_call (some 45) rfl rfl (by kernel_rfl) 55 #[.agg (ND.cells ⟨nck, ncv, ncl, ncr, nco, ncg, nclt, ncrt⟩).toArray, .int .i64 h.k] (by kernel_rfl) (spec_SideOf nck ncv ncl ncr nco ncg nclt ncrt h.k _) ?_
  rintro e W8 ⟨rfl, hb⟩
  replace hM := hM.call hb
  refine ⟨_, rfl, ⟨hM.below, hM.blk 2 rfl⟩, ?_⟩
  go_frame
  refine wa_take 10 (some 46) (.pointer (some ⟨g2, 6, none⟩)) rfl rfl (by kernel_rfl) (by kernel_rfl) (by kernel_rfl) (fun _ _ _ h => h) (by kernel_rfl) (fun w hS => by kernel_rfl) ⟨hM.below, hM.blk 2 rfl⟩ ?_
  go_frame
  refine wa_one 11 (by kernel_rfl) ?_
  refine wo_storec rfl (by kernel_rfl) hM 1 rfl 2 _ _ rfl rfl 6 (by kernel_rfl) (.int .i64 (sideF h.k nck)) (by kernel_rfl) rfl rfl I_int64 (by simp [HD.cells]) ?_
  clear hM; intro W9 hM
  refine ⟨⟨hM.below, hM.blk 2 rfl⟩, ?_⟩
  refine wa_doneJ (by kernel_rfl) ?_
  exact ⟨0, rfl, hM⟩
  refine wa_start (fun w => Below w0.heap.size w0 w ∧ Blk w g1 30 [.slice (some ⟨b, off, none⟩) l.length cap, x]) 11 rfl (by kernel_rfl) ?_
  replace hM := hM.drew
  refine wa_take 0 (some 5) (.pointer (some ⟨g1, 0, none⟩)) rfl rfl (by kernel_rfl) (by kernel_rfl) (by kernel_rfl) (fun _ _ _ h => h) (by kernel_rfl) (fun w hS => by kernel_rfl) ⟨hM.below, hM.blk 2 rfl⟩ ?_
  go_frame
  refine wa_take 1 (some 6) (.slice (some ⟨b, off, none⟩) l.length cap) rfl rfl (by kernel_rfl) (by kernel_rfl) (by kernel_rfl) (fun _ _ _ h => h) (by kernel_rfl) (fun w hS => r_loadc hS.2 28 _ rfl 0 rfl Try.underlying28 rfl rfl) ⟨hM.below, hM.blk 2 rfl⟩ ?_
  go_frame
  refine wa_take 2 (some 7) (.pointer (some ⟨g2, 4, none⟩)) rfl rfl (by kernel_rfl) (by kernel_rfl) (by kernel_rfl) (fun _ _ _ h => h) (by kernel_rfl) (fun w hS => by kernel_rfl) ⟨hM.below, hM.blk 2 rfl⟩ ?_
  go_frame
  refine wa_take 6 (some 11) (.pointer (some ⟨g2, 6, none⟩)) rfl rfl (by kernel_rfl) (by kernel_rfl) (by kernel_rfl) (fun _ _ _ h => h) (by kernel_rfl) (fun w hS => by kernel_rfl) ⟨hM.below, hM.blk 2 rfl⟩ ?_
  go_frame
  refine wa_two 3 7 (by kernel_rfl) ?_ ?_
  refine wo_pure (some 8) rfl rfl (by kernel_rfl) (.int .i64 h.prev) (r_loadc (hM.blk 1 rfl) 2 _ rfl 4 rfl Try.underlying2 rfl rfl) ⟨hM.below, hM.blk 2 rfl⟩ ?_
  go_frame
  refine wa_take 4 (some 9) (.pointer (some ⟨b, off + knp * 8, none⟩)) rfl rfl (by kernel_rfl) (by kernel_rfl) (by kernel_rfl) (fun _ _ _ h => h) (by kernel_rfl) (fun w hS => r_index 28 60 _ _ rfl b off l.length cap 8 knp rfl rfl hknp (by omega) Try.underlying28 I_impl_Node) ⟨hM.below, hM.blk 2 rfl⟩ ?_
  go_frame
  refine wa_take 5 (some 10) (.agg (ND.cells ⟨npk, npv, npl, npr, npo, npg, nplt, nprt⟩).toArray) rfl rfl (by kernel_rfl) (by kernel_rfl) (by kernel_rfl) (fun _ _ _ h => h) (by kernel_rfl) (fun w hS => r_cells 60 _ rfl b (off + knp * 8) rfl Try.underlying60 (ND.cells ⟨npk, npv, npl, npr, npo, npg, nplt, nprt⟩) I_impl_Node (row_of (Mem.ofBelow hS.1) s1 Anp)) ⟨hM.below, hM.blk 2 rfl⟩ ?_
  go_frame
  refine wa_one 7 (by kernel_rfl) ?_
  refine wo_pure (some 12) rfl rfl (by kernel_rfl) (.int .i64 h.side) (r_loadc (hM.blk 1 rfl) 2 _ rfl 6 rfl Try.underlying2 rfl rfl) ⟨hM.below, hM.blk 2 rfl⟩ ?_
  go_frame
  refine wa_one 8 (by kernel_rfl) ?_
  refine wo_call (some 13) rfl rfl (by kernel_rfl) 54 #[.agg (ND.cells ⟨npk, npv, npl, npr, npo, npg, nplt, nprt⟩).toArray, .int .i64 h.side] (by kernel_rfl) (spec_KidOf npk npv npl npr npo npg nplt nprt h.side _) ?_
  rintro e W4 ⟨rfl, hb⟩
  replace hM := hM.call hb
  refine ⟨_, rfl, ⟨hM.below, hM.blk 2 rfl⟩, ?_⟩
  go_frame
  refine wa_take 9 (some 14) (.pointer (some ⟨g2, 5, none⟩)) rfl rfl (by kernel_rfl) (by kernel_rfl) (by kernel_rfl) (fun _ _ _ h => h) (by kernel_rfl) (fun w hS => by kernel_rfl) ⟨hM.below, hM.blk 2 rfl⟩ ?_
  go_frame
  refine wa_one 10 (by kernel_rfl) ?_
  refine wo_storec rfl (by kernel_rfl) hM 1 rfl 2 _ _ rfl rfl 5 (by kernel_rfl) (.int .i64 (kidF h.side npl npr)) (by kernel_rfl) rfl rfl I_int64 (by simp [HD.cells]) ?_
  clear hM; intro W5 hM
  refine ⟨⟨hM.below, hM.blk 2 rfl⟩, ?_⟩
  refine wa_doneJ (by kernel_rfl) ?_
  exact ⟨0, rfl, hM⟩
  refine wo_pure (some 12) rfl rfl (by kernel_rfl) (.int .i64 h.side) (r_loadc (hM.blk 1 rfl) 2 _ rfl 6 rfl Try.underlying2 rfl rfl) ⟨hM.below, hM.blk 2 rfl⟩ ?_
  go_frame
  refine wa_one 3 (by kernel_rfl) ?_
  refine wo_pure (some 8) rfl rfl (by kernel_rfl) (.int .i64 h.prev) (r_loadc (hM.blk 1 rfl) 2 _ rfl 4 rfl Try.underlying2 rfl rfl) ⟨hM.below, hM.blk 2 rfl⟩ ?_
  go_frame
  refine wa_take 4 (some 9) (.pointer (some ⟨b, off + knp * 8, none⟩)) rfl rfl (by kernel_rfl) (by kernel_rfl) (by kernel_rfl) (fun _ _ _ h => h) (by kernel_rfl) (fun w hS => r_index 28 60 _ _ rfl b off l.length cap 8 knp rfl rfl hknp (by omega) Try.underlying28 I_impl_Node) ⟨hM.below, hM.blk 2 rfl⟩ ?_
  go_frame
  refine wa_take 5 (some 10) (.agg (ND.cells ⟨npk, npv, npl, npr, npo, npg, nplt, nprt⟩).toArray) rfl rfl (by kernel_rfl) (by kernel_rfl) (by kernel_rfl) (fun _ _ _ h => h) (by kernel_rfl) (fun w hS => r_cells 60 _ rfl b (off + knp * 8) rfl Try.underlying60 (ND.cells ⟨npk, npv, npl, npr, npo, npg, nplt, nprt⟩) I_impl_Node (row_of (Mem.ofBelow hS.1) s1 Anp)) ⟨hM.below, hM.blk 2 rfl⟩ ?_
  go_frame
  refine wa_one 8 (by kernel_rfl) ?_
  refine wo_call (some 13) rfl rfl (by kernel_rfl) 54 #[.agg (ND.cells ⟨npk, npv, npl, npr, npo, npg, nplt, nprt⟩).toArray, .int .i64 h.side] (by kernel_rfl) (spec_KidOf npk npv npl npr npo npg nplt nprt h.side _) ?_
  rintro e W4 ⟨rfl, hb⟩
  replace hM := hM.call hb
  refine ⟨_, rfl, ⟨hM.below, hM.blk 2 rfl⟩, ?_⟩
  go_frame
  refine wa_take 9 (some 14) (.pointer (some ⟨g2, 5, none⟩)) rfl rfl (by kernel_rfl) (by kernel_rfl) (by kernel_rfl) (fun _ _ _ h => h) (by kernel_rfl) (fun w hS => by kernel_rfl) ⟨hM.below, hM.blk 2 rfl⟩ ?_
  go_frame
  refine wa_one 10 (by kernel_rfl) ?_
  refine wo_storec rfl (by kernel_rfl) hM 1 rfl 2 _ _ rfl rfl 5 (by kernel_rfl) (.int .i64 (kidF h.side npl npr)) (by kernel_rfl) rfl rfl I_int64 (by simp [HD.cells]) ?_
  clear hM; intro W5 hM
  refine ⟨⟨hM.below, hM.blk 2 rfl⟩, ?_⟩
  refine wa_doneJ (by kernel_rfl) ?_
  exact ⟨0, rfl, hM⟩
end Go.Proofs.Ytoamnecoiicljaa
