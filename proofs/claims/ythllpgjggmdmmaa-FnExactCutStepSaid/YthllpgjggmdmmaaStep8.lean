/- Functions of the model that answer a hand. -/
import Derived.Test.YthllpgjggmdmmaaStep7
import Derived.Test.YthllpgjggmdmmaaMem6
namespace Go.Proofs.Ythllpgjggmdmmaa
open Go.ChangeShapes Go.WideShapes Go.ChangeAt Go.RowKit
set_option linter.unusedVariables false
set_option linter.unusedSimpArgs false

def nd (l : List ND) (i : Int) : ND := (l[i.toNat]?).getD ⟨0, 0, 0, 0, 0, false, 0, 0⟩
theorem nd_at {l : List ND} {i : Int} (h : hasB l i = true) : ∃ (k : Nat) (n : ND), i = (k : Int) ∧ nd l i = n ∧ k < l.length ∧ l[k]? = some n := by
  obtain ⟨h0, h1⟩ := inB_t h
  obtain ⟨k, rfl⟩ := Int.eq_ofNat_of_zero_le h0
  have hk : k < l.length := by omega
  exact ⟨k, l[k], rfl, by simp [nd, List.getElem?_eq_getElem hk], hk, List.getElem?_eq_getElem hk⟩
def endH (h : HD) (r : Int) : HD := { h with at_ := 26, reply := r }
def againH (h : HD) : HD := { h with at_ := 26, again := true }
set_option maxRecDepth 100000 in
set_option maxHeartbeats 4000000 in
theorem spec_l8End (h : HD) (r : Int) (w0 : World) :
    Calls Try.prog 20 #[h.val, .int .i64 r] w0 fun e w' => e = .returned (endH h r).val ∧ Below w0.heap.size w0 w' := by
  unfold HD.val
  have hM := Mem.start w0
  go_enter Try.func20, Try.ntmps20
  refine wp_seq_k fun Kn1 cn1 => ?_
  refine wl_region ?_
  refine wl_box (by kernel_rfl) hM 36 _ rfl (HD.cells h) rfl ?_
  clear hM; intro g1 W1 hM
  go_frame
  refine wl_alloc (by kernel_rfl) hM 36 rfl (HD.cells HD.zero) Z_impl_Hand ?_
  clear hM; intro g2 W2 hM
  go_frame
  refine wl_nil ?_
  refine cn1 _ _ ?_
  clear cn1
  refine wp_seq_k fun Kn2 cn2 => ?_
  refine wl_region ?_
  refine wl_pure (by kernel_rfl) (.int .i64 r) (by kernel_rfl) ?_
  go_frame
  refine wl_pure (by kernel_rfl) (.pointer (some ⟨g1, 15, none⟩)) (by kernel_rfl) ?_
  go_frame
  refine wl_storec (by kernel_rfl) hM 1 rfl 2 _ _ rfl rfl 15 rfl (.int .i64 r) rfl rfl rfl I_int64 (by simp [HD.cells]) ?_
  clear hM; intro W3 hM
  refine wl_nil ?_
  refine cn2 _ _ ?_
  clear cn2
  refine wp_seq_k fun Kn3 cn3 => ?_
  refine wl_region ?_
  refine wl_pure (by kernel_rfl) (.pointer (some ⟨g1, 0, none⟩)) (by kernel_rfl) ?_
  go_frame
  refine wl_storec (by kernel_rfl) hM 1 rfl 2 _ _ rfl rfl 0 rfl (.int .i64 26) rfl rfl rfl I_int64 (by simp [HD.cells]) ?_
  clear hM; intro W4 hM
  refine wl_nil ?_
  refine cn3 _ _ ?_
  clear cn3
  refine wp_seq_k fun Kn4 cn4 => ?_
  refine wl_region ?_
  refine wl_load (by kernel_rfl) hM 1 rfl 36 _ rfl rfl Try.underlying36 I_impl_Hand ?_
  go_frame
  refine wl_store (by kernel_rfl) hM 0 rfl 36 _ _ rfl rfl rfl (HD.cells { h with reply := r, at_ := 26 }) rfl I_impl_Hand rfl (hd_one' _) ?_
  clear hM; intro W5 hM
  refine wl_nil ?_
  refine cn4 _ _ ?_
  clear cn4
  refine wp_ret ?_
  exact bodyPost_ret (ret_row rfl hM 0 rfl rfl Try.underlying36 I_impl_Hand) rfl ⟨congrArg (fun z => Ending.returned (Value.agg (HD.cells z).toArray)) (show { h with reply := r, at_ := 26 } = endH h r from by simp [endH]), hM.below⟩

set_option maxRecDepth 100000 in
set_option maxHeartbeats 4000000 in
theorem spec_l8Again (h : HD) (w0 : World) :
    Calls Try.prog 45 #[h.val] w0 fun e w' => e = .returned (againH h).val ∧ Below w0.heap.size w0 w' := by
  unfold HD.val
  have hM := Mem.start w0
  go_enter Try.func45, Try.ntmps45
  refine wp_seq_k fun Kn1 cn1 => ?_
  refine wl_region ?_
  refine wl_box (by kernel_rfl) hM 36 _ rfl (HD.cells h) rfl ?_
  clear hM; intro g1 W1 hM
  go_frame
  refine wl_alloc (by kernel_rfl) hM 36 rfl (HD.cells HD.zero) Z_impl_Hand ?_
  clear hM; intro g2 W2 hM
  go_frame
  refine wl_nil ?_
  refine cn1 _ _ ?_
  clear cn1
  refine wp_seq_k fun Kn2 cn2 => ?_
  refine wl_region ?_
  refine wl_pure (by kernel_rfl) (.pointer (some ⟨g1, 13, none⟩)) (by kernel_rfl) ?_
  go_frame
  refine wl_storec (by kernel_rfl) hM 1 rfl 4 _ _ rfl rfl 13 rfl (.bool true) rfl rfl rfl I_bool (by simp [HD.cells]) ?_
  clear hM; intro W3 hM
  refine wl_nil ?_
  refine cn2 _ _ ?_
  clear cn2
  refine wp_seq_k fun Kn3 cn3 => ?_
  refine wl_region ?_
  refine wl_pure (by kernel_rfl) (.pointer (some ⟨g1, 0, none⟩)) (by kernel_rfl) ?_
  go_frame
  refine wl_storec (by kernel_rfl) hM 1 rfl 2 _ _ rfl rfl 0 rfl (.int .i64 26) rfl rfl rfl I_int64 (by simp [HD.cells]) ?_
  clear hM; intro W4 hM
  refine wl_nil ?_
  refine cn3 _ _ ?_
  clear cn3
  refine wp_seq_k fun Kn4 cn4 => ?_
  refine wl_region ?_
  refine wl_load (by kernel_rfl) hM 1 rfl 36 _ rfl rfl Try.underlying36 I_impl_Hand ?_
  go_frame
  refine wl_store (by kernel_rfl) hM 0 rfl 36 _ _ rfl rfl rfl (HD.cells { h with again := true, at_ := 26 }) rfl I_impl_Hand rfl (hd_one' _) ?_
  clear hM; intro W5 hM
  refine wl_nil ?_
  refine cn4 _ _ ?_
  clear cn4
  refine wp_ret ?_
  exact bodyPost_ret (ret_row rfl hM 0 rfl rfl Try.underlying36 I_impl_Hand) rfl ⟨congrArg (fun z => Ending.returned (Value.agg (HD.cells z).toArray)) (show { h with again := true, at_ := 26 } = againH h from by simp [againH]), hM.below⟩

def checkCutH (l : List ND) (h : HD) : HD :=
  if (nd l h.prev).g || (nd l h.cur).g || kidF h.side (nd l h.prev).l (nd l h.prev).r != h.cur then againH h
  else if (nd l h.cur).l == 0 || (nd l h.cur).r == 0 then { h with at_ := 11 } else { h with at_ := 14 }
set_option maxRecDepth 100000 in
set_option maxHeartbeats 4000000 in
theorem spec_l9Check (u x : Value) (l : List ND) (h : HD) (w0 : World) (h1 : NSl w0 u l) (qnp : hasB l h.prev = true) (qnc : hasB l h.cur = true) :
    Calls Try.prog 18 #[.agg #[u, x], h.val] w0 fun e w' => e = .returned (checkCutH l h).val ∧ Below w0.heap.size w0 w' := by
  unfold HD.val
  obtain ⟨b, off, cap, rfl, kk1, mm1, s1, H1⟩ := h1.at (fun e => by subst e; simp [hasB, inB] at qnp; omega)
  obtain ⟨knp, ⟨npk, npv, npl, npr, npo, npg, nplt, nprt⟩, hknp, npe, hlnp, hnnp⟩ := nd_at qnp
  have Anp := H1 knp _ hnnp
  obtain ⟨knc, ⟨nck, ncv, ncl, ncr, nco, ncg, nclt, ncrt⟩, hknc, nce, hlnc, hnnc⟩ := nd_at qnc
  have Anc := H1 knc _ hnnc
  have hM := Mem.start w0
  go_enter Try.func18, Try.ntmps18
  refine wp_seq_k fun Kn1 cn1 => ?_
  refine wl_region ?_
  refine wl_box (by kernel_rfl) hM 33 _ rfl [.slice (some ⟨b, off, none⟩) l.length cap, x] rfl ?_
  clear hM; intro g1 W1 hM
  go_frame
  refine wl_box (by kernel_rfl) hM 36 _ rfl (HD.cells h) rfl ?_
  clear hM; intro g2 W2 hM
  go_frame
  refine wl_alloc (by kernel_rfl) hM 36 rfl (HD.cells HD.zero) Z_impl_Hand ?_
  clear hM; intro g3 W3 hM
  go_frame
  refine wl_nil ?_
  refine cn1 _ _ ?_
  clear cn1
  refine wp_seq_k fun Kn2 cn2 => ?_
  refine wl_region ?_
  refine wl_pure (by kernel_rfl) (.pointer (some ⟨g1, 0, none⟩)) (by kernel_rfl) ?_
  go_frame
  refine wl_loadc (by kernel_rfl) hM 2 rfl 31 _ rfl 0 rfl Try.underlying31 rfl rfl ?_
  go_frame
  refine wl_pure (by kernel_rfl) (.pointer (some ⟨g2, 4, none⟩)) (by kernel_rfl) ?_
  go_frame
  refine wl_loadc (by kernel_rfl) hM 1 rfl 2 _ rfl 4 rfl Try.underlying2 rfl rfl ?_
  go_frame
  refine wl_index (by kernel_rfl) 31 52 _ _ rfl b off l.length cap 8 knp rfl rfl hknp (by omega) Try.underlying31 I_impl_Node ?_
  go_frame
  refine wl_cells (by kernel_rfl) 52 _ rfl b (off + knp * 8) rfl Try.underlying52 (ND.cells ⟨npk, npv, npl, npr, npo, npg, nplt, nprt⟩) I_impl_Node (row_of hM s1 Anp) ?_
  go_frame
  refine wl_alloc (by kernel_rfl) hM 52 rfl [.int .i64 0, .int .i64 0, .int .i64 0, .int .i64 0, .int .i64 0, .bool false, .int .i64 0, .int .i64 0] Z_impl_Node ?_
  clear hM; intro g4 W4 hM
  go_frame
  refine wl_store (by kernel_rfl) hM 0 rfl 52 _ _ rfl rfl rfl (ND.cells ⟨npk, npv, npl, npr, npo, npg, nplt, nprt⟩) rfl I_impl_Node rfl (nd_one _) ?_
  clear hM; intro W5 hM
  refine wl_nil ?_
  refine cn2 _ _ ?_
  clear cn2
  refine wp_seq_k fun Kn3 cn3 => ?_
  refine wl_region ?_
  refine wl_pure (by kernel_rfl) (.pointer (some ⟨g1, 0, none⟩)) (by kernel_rfl) ?_
  go_frame
  refine wl_loadc (by kernel_rfl) hM 3 rfl 31 _ rfl 0 rfl Try.underlying31 rfl rfl ?_
  go_frame
  refine wl_pure (by kernel_rfl) (.pointer (some ⟨g2, 5, none⟩)) (by kernel_rfl) ?_
  go_frame
  refine wl_loadc (by kernel_rfl) hM 2 rfl 2 _ rfl 5 rfl Try.underlying2 rfl rfl ?_
  go_frame
  refine wl_index (by kernel_rfl) 31 52 _ _ rfl b off l.length cap 8 knc rfl rfl hknc (by omega) Try.underlying31 I_impl_Node ?_
  go_frame
  refine wl_cells (by kernel_rfl) 52 _ rfl b (off + knc * 8) rfl Try.underlying52 (ND.cells ⟨nck, ncv, ncl, ncr, nco, ncg, nclt, ncrt⟩) I_impl_Node (row_of hM s1 Anc) ?_
  go_frame
  refine wl_alloc (by kernel_rfl) hM 52 rfl [.int .i64 0, .int .i64 0, .int .i64 0, .int .i64 0, .int .i64 0, .bool false, .int .i64 0, .int .i64 0] Z_impl_Node ?_
  clear hM; intro g5 W6 hM
  go_frame
  refine wl_store (by kernel_rfl) hM 0 rfl 52 _ _ rfl rfl rfl (ND.cells ⟨nck, ncv, ncl, ncr, nco, ncg, nclt, ncrt⟩) rfl I_impl_Node rfl (nd_one _) ?_
  clear hM; intro W7 hM
  refine wl_nil ?_
  refine cn3 _ _ ?_
  clear cn3
  refine wp_seq_k fun Kn4 cn4 => ?_
  refine wp_seq_k fun Kn5 cn5 => ?_
  cases npg
  cases ncg
  -- region 3, drawn: one after the other
  refine wa_start (fun w => Below w0.heap.size w0 w ∧ Blk w g4 52 (ND.cells ⟨npk, npv, npl, npr, npo, false, nplt, nprt⟩) ∧ Blk w g5 52 (ND.cells ⟨nck, ncv, ncl, ncr, nco, false, nclt, ncrt⟩) ∧ Blk w g2 36 (HD.cells h)) 15 rfl (by kernel_rfl) ?_
  replace hM := hM.drew
  refine wa_take 0 (some 19) (.pointer (some ⟨g4, 5, none⟩)) rfl rfl (by kernel_rfl) (by kernel_rfl) (by kernel_rfl) (fun _ _ _ h => h) (by kernel_rfl) (fun w hS => by kernel_rfl) ⟨hM.below, hM.blk 1 rfl, hM.blk 0 rfl, hM.blk 3 rfl⟩ ?_
  go_frame
  refine wa_take 1 (some 20) (.bool false) rfl rfl (by kernel_rfl) (by kernel_rfl) (by kernel_rfl) (fun _ _ _ h => h) (by kernel_rfl) (fun w hS => r_loadc hS.2.1 4 _ rfl 5 rfl Try.underlying4 rfl rfl) ⟨hM.below, hM.blk 1 rfl, hM.blk 0 rfl, hM.blk 3 rfl⟩ ?_
  go_frame
  refine wa_take 2 (some 21) (.bool false) rfl rfl (by kernel_rfl) (by kernel_rfl) (by kernel_rfl) (fun _ _ _ h => h) (by kernel_rfl) (fun w hS => by kernel_rfl) ⟨hM.below, hM.blk 1 rfl, hM.blk 0 rfl, hM.blk 3 rfl⟩ ?_
  go_frame
  refine wa_take 3 (some 22) (.pointer (some ⟨g5, 5, none⟩)) rfl rfl (by kernel_rfl) (by kernel_rfl) (by kernel_rfl) (fun _ _ _ h => h) (by kernel_rfl) (fun w hS => by kernel_rfl) ⟨hM.below, hM.blk 1 rfl, hM.blk 0 rfl, hM.blk 3 rfl⟩ ?_
  go_frame
  refine wa_take 4 (some 23) (.bool false) rfl rfl (by kernel_rfl) (by kernel_rfl) (by kernel_rfl) (fun _ _ _ h => h) (by kernel_rfl) (fun w hS => r_loadc hS.2.2.1 4 _ rfl 5 rfl Try.underlying4 rfl rfl) ⟨hM.below, hM.blk 1 rfl, hM.blk 0 rfl, hM.blk 3 rfl⟩ ?_
  go_frame
  refine wa_take 5 (some 24) (.bool false) rfl rfl (by kernel_rfl) (by kernel_rfl) (by kernel_rfl) (fun _ _ _ h => h) (by kernel_rfl) (fun w hS => by kernel_rfl) ⟨hM.below, hM.blk 1 rfl, hM.blk 0 rfl, hM.blk 3 rfl⟩ ?_
  go_frame
  refine wa_take 6 (some 25) (.bool false) rfl rfl (by kernel_rfl) (by kernel_rfl) (by kernel_rfl) (fun _ _ _ h => h) (by kernel_rfl) (fun w hS => by kernel_rfl) ⟨hM.below, hM.blk 1 rfl, hM.blk 0 rfl, hM.blk 3 rfl⟩ ?_
  go_frame
  refine wa_take 7 (some 26) (.agg (ND.cells ⟨npk, npv, npl, npr, npo, false, nplt, nprt⟩).toArray) rfl rfl (by kernel_rfl) (by kernel_rfl) (by kernel_rfl) (fun _ _ _ h => h) (by kernel_rfl) (fun w hS => r_load hS.2.1 52 _ rfl rfl Try.underlying52 I_impl_Node) ⟨hM.below, hM.blk 1 rfl, hM.blk 0 rfl, hM.blk 3 rfl⟩ ?_
  go_frame
  refine wa_take 8 (some 27) (.pointer (some ⟨g2, 6, none⟩)) rfl rfl (by kernel_rfl) (by kernel_rfl) (by kernel_rfl) (fun _ _ _ h => h) (by kernel_rfl) (fun w hS => by kernel_rfl) ⟨hM.below, hM.blk 1 rfl, hM.blk 0 rfl, hM.blk 3 rfl⟩ ?_
  go_frame
  refine wa_take 9 (some 28) (.int .i64 h.side) rfl rfl (by kernel_rfl) (by kernel_rfl) (by kernel_rfl) (fun _ _ _ h => h) (by kernel_rfl) (fun w hS => r_loadc hS.2.2.2 2 _ rfl 6 rfl Try.underlying2 rfl rfl) ⟨hM.below, hM.blk 1 rfl, hM.blk 0 rfl, hM.blk 3 rfl⟩ ?_
  go_frame
  refine wa_take 11 (some 30) (.pointer (some ⟨g2, 5, none⟩)) rfl rfl (by kernel_rfl) (by kernel_rfl) (by kernel_rfl) (fun _ _ _ h => h) (by kernel_rfl) (fun w hS => by kernel_rfl) ⟨hM.below, hM.blk 1 rfl, hM.blk 0 rfl, hM.blk 3 rfl⟩ ?_
  go_frame
  refine wa_take 12 (some 31) (.int .i64 h.cur) rfl rfl (by kernel_rfl) (by kernel_rfl) (by kernel_rfl) (fun _ _ _ h => h) (by kernel_rfl) (fun w hS => r_loadc hS.2.2.2 2 _ rfl 5 rfl Try.underlying2 rfl rfl) ⟨hM.below, hM.blk 1 rfl, hM.blk 0 rfl, hM.blk 3 rfl⟩ ?_
  go_frame
  refine wa_one 10 (by kernel_rfl) ?_
  refine wo_call (some 29) rfl rfl (by kernel_rfl) 44 #[.agg (ND.cells ⟨npk, npv, npl, npr, npo, false, nplt, nprt⟩).toArray, .int .i64 h.side] (by kernel_rfl) (spec_KidOf npk npv npl npr npo false nplt nprt h.side _) ?_
  rintro e W8 ⟨rfl, hb⟩
  replace hM := hM.call hb
  refine ⟨_, rfl, ⟨hM.below, hM.blk 1 rfl, hM.blk 0 rfl, hM.blk 3 rfl⟩, ?_⟩
  go_frame
  refine wa_take 13 (some 32) (.bool ((kidF h.side npl npr) != h.cur)) rfl rfl (by kernel_rfl) (by kernel_rfl) (by kernel_rfl) (fun _ _ _ h => h) (by kernel_rfl) (fun w hS => by kernel_rfl) ⟨hM.below, hM.blk 1 rfl, hM.blk 0 rfl, hM.blk 3 rfl⟩ ?_
  go_frame
  refine wa_take 14 (some 33) (.bool ((kidF h.side npl npr) != h.cur)) rfl rfl (by kernel_rfl) (by kernel_rfl) (by kernel_rfl) (fun _ _ _ h => h) (by kernel_rfl) (fun w hS => by kernel_rfl) ⟨hM.below, hM.blk 1 rfl, hM.blk 0 rfl, hM.blk 3 rfl⟩ ?_
  go_frame
  refine wa_done (by kernel_rfl) ?_
  refine cn5 _ _ ?_
  clear cn5
  rcases Bool.eq_false_or_eq_true (((kidF h.side npl npr) != h.cur)) with hx1 | hx1
  rw [hx1]
  refine wp_cond_true rfl ?_
  refine wp_seq_k fun Kn6 cn6 => ?_
  refine wl_region ?_
  refine wl_load (by kernel_rfl) hM 3 rfl 36 _ rfl rfl Try.underlying36 I_impl_Hand ?_
  go_frame
  refine wl_call (by kernel_rfl) 45 #[.agg (HD.cells h).toArray] (by kernel_rfl) (spec_l8Again h _) ?_
  rintro e W9 ⟨rfl, hb⟩
  refine ⟨_, rfl, ?_⟩
  replace hM := hM.call hb
  go_frame
  refine wl_store (by kernel_rfl) hM 2 rfl 36 _ _ rfl rfl rfl (HD.cells (againH h)) rfl I_impl_Hand rfl (hd_one' _) ?_
  clear hM; intro W10 hM
  refine wl_nil ?_
  refine cn6 _ _ ?_
  clear cn6
  refine wp_ret ?_
  simp only [Exit.then, Exit.inBlock]
  exact bodyPost_ret (ret_row rfl hM 2 rfl rfl Try.underlying36 I_impl_Hand) rfl ⟨congrArg (fun z => Ending.returned (Value.agg (HD.cells z).toArray)) (show (againH h) = checkCutH l h from by simp [checkCutH, hx1, npe, nce]), hM.below⟩
  rw [hx1]
  refine wp_cond_false rfl ?_
  refine wp_skip ?_
  refine cn4 _ _ ?_
  clear cn4
  refine wp_seq_k fun Kn6 cn6 => ?_
  refine wl_region ?_
  refine wl_pure (by kernel_rfl) (.pointer (some ⟨g2, 0, none⟩)) (by kernel_rfl) ?_
  go_frame
  refine wl_storec (by kernel_rfl) hM 3 rfl 2 _ _ rfl rfl 0 rfl (.int .i64 14) rfl rfl rfl I_int64 (by simp [HD.cells]) ?_
  clear hM; intro W9 hM
  refine wl_nil ?_
  refine cn6 _ _ ?_
  clear cn6
  refine wp_seq_k fun Kn7 cn7 => ?_
  refine wp_seq_k fun Kn8 cn8 => ?_
  refine wl_region ?_
  refine wl_pure (by kernel_rfl) (.pointer (some ⟨g5, 2, none⟩)) (by kernel_rfl) ?_
  go_frame
  refine wl_loadc (by kernel_rfl) hM 0 rfl 2 _ rfl 2 rfl Try.underlying2 rfl rfl ?_
  go_frame
  refine wl_pure (by kernel_rfl) (.bool (ncl == 0)) (by kernel_rfl) ?_
  go_frame
  refine wl_pure (by kernel_rfl) (.bool (ncl == 0)) (by kernel_rfl) ?_
  go_frame
  rcases Bool.eq_false_or_eq_true ((ncl == 0)) with hx3 | hx3
  rw [hx3]
  refine wl_skip (by kernel_rfl) ?_
  go_frame
  refine wl_skip (by kernel_rfl) ?_
  go_frame
  refine wl_skip (by kernel_rfl) ?_
  go_frame
  refine wl_pure (by kernel_rfl) (.bool true) (by kernel_rfl) ?_
  go_frame
  refine wl_nil ?_
  refine cn8 _ _ ?_
  clear cn8
  refine wp_cond_true rfl ?_
  refine wl_region ?_
  refine wl_pure (by kernel_rfl) (.pointer (some ⟨g2, 0, none⟩)) (by kernel_rfl) ?_
  go_frame
  refine wl_storec (by kernel_rfl) hM 3 rfl 2 _ _ rfl rfl 0 rfl (.int .i64 11) rfl rfl rfl I_int64 (by simp [HD.cells]) ?_
  clear hM; intro W10 hM
  refine wl_nil ?_
  refine cn7 _ _ ?_
  clear cn7
  refine wp_seq_k fun Kn9 cn9 => ?_
  refine wl_region ?_
  refine wl_load (by kernel_rfl) hM 3 rfl 36 _ rfl rfl Try.underlying36 I_impl_Hand ?_
  go_frame
  refine wl_store (by kernel_rfl) hM 2 rfl 36 _ _ rfl rfl rfl (HD.cells { h with at_ := 11 }) rfl I_impl_Hand rfl (hd_one' _) ?_
  clear hM; intro W11 hM
  refine wl_nil ?_
  refine cn9 _ _ ?_
  clear cn9
  refine wp_ret ?_
  exact bodyPost_ret (ret_row rfl hM 2 rfl rfl Try.underlying36 I_impl_Hand) rfl ⟨congrArg (fun z => Ending.returned (Value.agg (HD.cells z).toArray)) (show { h with at_ := 11 } = checkCutH l h from by simp [checkCutH, hx1, hx3, npe, nce]), hM.below⟩
  rw [hx3]
  refine wl_pure (by kernel_rfl) (.pointer (some ⟨g5, 3, none⟩)) (by kernel_rfl) ?_
  go_frame
  refine wl_loadc (by kernel_rfl) hM 0 rfl 2 _ rfl 3 rfl Try.underlying2 rfl rfl ?_
  go_frame
  refine wl_pure (by kernel_rfl) (.bool (ncr == 0)) (by kernel_rfl) ?_
  go_frame
  refine wl_pure (by kernel_rfl) (.bool (ncr == 0)) (by kernel_rfl) ?_
  go_frame
  refine wl_nil ?_
  refine cn8 _ _ ?_
  clear cn8
  rcases Bool.eq_false_or_eq_true ((ncr == 0)) with hx4 | hx4
  rw [hx4]
  refine wp_cond_true rfl ?_
  refine wl_region ?_
  refine wl_pure (by kernel_rfl) (.pointer (some ⟨g2, 0, none⟩)) (by kernel_rfl) ?_
  go_frame
  refine wl_storec (by kernel_rfl) hM 3 rfl 2 _ _ rfl rfl 0 rfl (.int .i64 11) rfl rfl rfl I_int64 (by simp [HD.cells]) ?_
  clear hM; intro W10 hM
  refine wl_nil ?_
  refine cn7 _ _ ?_
  clear cn7
  refine wp_seq_k fun Kn9 cn9 => ?_
  refine wl_region ?_
  refine wl_load (by kernel_rfl) hM 3 rfl 36 _ rfl rfl Try.underlying36 I_impl_Hand ?_
  go_frame
  refine wl_store (by kernel_rfl) hM 2 rfl 36 _ _ rfl rfl rfl (HD.cells { h with at_ := 11 }) rfl I_impl_Hand rfl (hd_one' _) ?_
  clear hM; intro W11 hM
  refine wl_nil ?_
  refine cn9 _ _ ?_
  clear cn9
  refine wp_ret ?_
  exact bodyPost_ret (ret_row rfl hM 2 rfl rfl Try.underlying36 I_impl_Hand) rfl ⟨congrArg (fun z => Ending.returned (Value.agg (HD.cells z).toArray)) (show { h with at_ := 11 } = checkCutH l h from by simp [checkCutH, hx1, hx3, hx4, npe, nce]), hM.below⟩
  rw [hx4]
  refine wp_cond_false rfl ?_
  refine wp_skip ?_
  refine cn7 _ _ ?_
  clear cn7
  refine wp_seq_k fun Kn9 cn9 => ?_
  refine wl_region ?_
  refine wl_load (by kernel_rfl) hM 3 rfl 36 _ rfl rfl Try.underlying36 I_impl_Hand ?_
  go_frame
  refine wl_store (by kernel_rfl) hM 2 rfl 36 _ _ rfl rfl rfl (HD.cells { h with at_ := 14 }) rfl I_impl_Hand rfl (hd_one' _) ?_
  clear hM; intro W10 hM
  refine wl_nil ?_
  refine cn9 _ _ ?_
  clear cn9
  refine wp_ret ?_
  exact bodyPost_ret (ret_row rfl hM 2 rfl rfl Try.underlying36 I_impl_Hand) rfl ⟨congrArg (fun z => Ending.returned (Value.agg (HD.cells z).toArray)) (show { h with at_ := 14 } = checkCutH l h from by simp [checkCutH, hx1, hx3, hx4, npe, nce]), hM.below⟩
  -- region 3, drawn: one after the other
  refine wa_start (fun w => Below w0.heap.size w0 w ∧ Blk w g4 52 (ND.cells ⟨npk, npv, npl, npr, npo, false, nplt, nprt⟩) ∧ Blk w g5 52 (ND.cells ⟨nck, ncv, ncl, ncr, nco, true, nclt, ncrt⟩) ∧ Blk w g2 36 (HD.cells h)) 15 rfl (by kernel_rfl) ?_
  replace hM := hM.drew
  refine wa_take 0 (some 19) (.pointer (some ⟨g4, 5, none⟩)) rfl rfl (by kernel_rfl) (by kernel_rfl) (by kernel_rfl) (fun _ _ _ h => h) (by kernel_rfl) (fun w hS => by kernel_rfl) ⟨hM.below, hM.blk 1 rfl, hM.blk 0 rfl, hM.blk 3 rfl⟩ ?_
  go_frame
  refine wa_take 1 (some 20) (.bool false) rfl rfl (by kernel_rfl) (by kernel_rfl) (by kernel_rfl) (fun _ _ _ h => h) (by kernel_rfl) (fun w hS => r_loadc hS.2.1 4 _ rfl 5 rfl Try.underlying4 rfl rfl) ⟨hM.below, hM.blk 1 rfl, hM.blk 0 rfl, hM.blk 3 rfl⟩ ?_
  go_frame
  refine wa_take 2 (some 21) (.bool false) rfl rfl (by kernel_rfl) (by kernel_rfl) (by kernel_rfl) (fun _ _ _ h => h) (by kernel_rfl) (fun w hS => by kernel_rfl) ⟨hM.below, hM.blk 1 rfl, hM.blk 0 rfl, hM.blk 3 rfl⟩ ?_
  go_frame
  refine wa_take 3 (some 22) (.pointer (some ⟨g5, 5, none⟩)) rfl rfl (by kernel_rfl) (by kernel_rfl) (by kernel_rfl) (fun _ _ _ h => h) (by kernel_rfl) (fun w hS => by kernel_rfl) ⟨hM.below, hM.blk 1 rfl, hM.blk 0 rfl, hM.blk 3 rfl⟩ ?_
  go_frame
  refine wa_take 4 (some 23) (.bool true) rfl rfl (by kernel_rfl) (by kernel_rfl) (by kernel_rfl) (fun _ _ _ h => h) (by kernel_rfl) (fun w hS => r_loadc hS.2.2.1 4 _ rfl 5 rfl Try.underlying4 rfl rfl) ⟨hM.below, hM.blk 1 rfl, hM.blk 0 rfl, hM.blk 3 rfl⟩ ?_
  go_frame
  refine wa_take 5 (some 24) (.bool true) rfl rfl (by kernel_rfl) (by kernel_rfl) (by kernel_rfl) (fun _ _ _ h => h) (by kernel_rfl) (fun w hS => by kernel_rfl) ⟨hM.below, hM.blk 1 rfl, hM.blk 0 rfl, hM.blk 3 rfl⟩ ?_
  go_frame
  refine wa_take 6 (some 25) (.bool true) rfl rfl (by kernel_rfl) (by kernel_rfl) (by kernel_rfl) (fun _ _ _ h => h) (by kernel_rfl) (fun w hS => by kernel_rfl) ⟨hM.below, hM.blk 1 rfl, hM.blk 0 rfl, hM.blk 3 rfl⟩ ?_
  go_frame
  refine wa_skip 7 (some 26) rfl rfl (by kernel_rfl) (by kernel_rfl) (by kernel_rfl) (fun _ _ _ h => h) (by kernel_rfl) ⟨hM.below, hM.blk 1 rfl, hM.blk 0 rfl, hM.blk 3 rfl⟩ ?_
  go_frame
  refine wa_skip 8 (some 27) rfl rfl (by kernel_rfl) (by kernel_rfl) (by kernel_rfl) (fun _ _ _ h => h) (by kernel_rfl) ⟨hM.below, hM.blk 1 rfl, hM.blk 0 rfl, hM.blk 3 rfl⟩ ?_
  go_frame
  refine wa_skip 9 (some 28) rfl rfl (by kernel_rfl) (by kernel_rfl) (by kernel_rfl) (fun _ _ _ h => h) (by kernel_rfl) ⟨hM.below, hM.blk 1 rfl, hM.blk 0 rfl, hM.blk 3 rfl⟩ ?_
  go_frame
  refine wa_skip 10 (some 29) rfl rfl (by kernel_rfl) (by kernel_rfl) (by kernel_rfl) (fun _ _ _ h => h) (by kernel_rfl) ⟨hM.below, hM.blk 1 rfl, hM.blk 0 rfl, hM.blk 3 rfl⟩ ?_
  go_frame
  refine wa_skip 11 (some 30) rfl rfl (by kernel_rfl) (by kernel_rfl) (by kernel_rfl) (fun _ _ _ h => h) (by kernel_rfl) ⟨hM.below, hM.blk 1 rfl, hM.blk 0 rfl, hM.blk 3 rfl⟩ ?_
  go_frame
  refine wa_skip 12 (some 31) rfl rfl (by kernel_rfl) (by kernel_rfl) (by kernel_rfl) (fun _ _ _ h => h) (by kernel_rfl) ⟨hM.below, hM.blk 1 rfl, hM.blk 0 rfl, hM.blk 3 rfl⟩ ?_
  go_frame
  refine wa_skip 13 (some 32) rfl rfl (by kernel_rfl) (by kernel_rfl) (by kernel_rfl) (fun _ _ _ h => h) (by kernel_rfl) ⟨hM.below, hM.blk 1 rfl, hM.blk 0 rfl, hM.blk 3 rfl⟩ ?_
  go_frame
  refine wa_take 14 (some 33) (.bool true) rfl rfl (by kernel_rfl) (by kernel_rfl) (by kernel_rfl) (fun _ _ _ h => h) (by kernel_rfl) (fun w hS => by kernel_rfl) ⟨hM.below, hM.blk 1 rfl, hM.blk 0 rfl, hM.blk 3 rfl⟩ ?_
  go_frame
  refine wa_done (by kernel_rfl) ?_
  refine cn5 _ _ ?_
  clear cn5
  refine wp_cond_true rfl ?_
  refine wp_seq_k fun Kn6 cn6 => ?_
  refine wl_region ?_
  refine wl_load (by kernel_rfl) hM 3 rfl 36 _ rfl rfl Try.underlying36 I_impl_Hand ?_
  go_frame
  refine wl_call (by kernel_rfl) 45 #[.agg (HD.cells h).toArray] (by kernel_rfl) (spec_l8Again h _) ?_
  rintro e W8 ⟨rfl, hb⟩
  refine ⟨_, rfl, ?_⟩
  replace hM := hM.call hb
  go_frame
  refine wl_store (by kernel_rfl) hM 2 rfl 36 _ _ rfl rfl rfl (HD.cells (againH h)) rfl I_impl_Hand rfl (hd_one' _) ?_
  clear hM; intro W9 hM
  refine wl_nil ?_
  refine cn6 _ _ ?_
  clear cn6
  refine wp_ret ?_
  simp only [Exit.then, Exit.inBlock]
  exact bodyPost_ret (ret_row rfl hM 2 rfl rfl Try.underlying36 I_impl_Hand) rfl ⟨congrArg (fun z => Ending.returned (Value.agg (HD.cells z).toArray)) (show (againH h) = checkCutH l h from by simp [checkCutH, npe, nce]), hM.below⟩
  -- region 3, drawn: one after the other
  refine wa_start (fun w => Below w0.heap.size w0 w ∧ Blk w g4 52 (ND.cells ⟨npk, npv, npl, npr, npo, true, nplt, nprt⟩) ∧ Blk w g5 52 (ND.cells ⟨nck, ncv, ncl, ncr, nco, ncg, nclt, ncrt⟩) ∧ Blk w g2 36 (HD.cells h)) 15 rfl (by kernel_rfl) ?_
  replace hM := hM.drew
  refine wa_take 0 (some 19) (.pointer (some ⟨g4, 5, none⟩)) rfl rfl (by kernel_rfl) (by kernel_rfl) (by kernel_rfl) (fun _ _ _ h => h) (by kernel_rfl) (fun w hS => by kernel_rfl) ⟨hM.below, hM.blk 1 rfl, hM.blk 0 rfl, hM.blk 3 rfl⟩ ?_
  go_frame
  refine wa_take 1 (some 20) (.bool true) rfl rfl (by kernel_rfl) (by kernel_rfl) (by kernel_rfl) (fun _ _ _ h => h) (by kernel_rfl) (fun w hS => r_loadc hS.2.1 4 _ rfl 5 rfl Try.underlying4 rfl rfl) ⟨hM.below, hM.blk 1 rfl, hM.blk 0 rfl, hM.blk 3 rfl⟩ ?_
  go_frame
  refine wa_take 2 (some 21) (.bool true) rfl rfl (by kernel_rfl) (by kernel_rfl) (by kernel_rfl) (fun _ _ _ h => h) (by kernel_rfl) (fun w hS => by kernel_rfl) ⟨hM.below, hM.blk 1 rfl, hM.blk 0 rfl, hM.blk 3 rfl⟩ ?_
  go_frame
  refine wa_skip 3 (some 22) rfl rfl (by kernel_rfl) (by kernel_rfl) (by kernel_rfl) (fun _ _ _ h => h) (by kernel_rfl) ⟨hM.below, hM.blk 1 rfl, hM.blk 0 rfl, hM.blk 3 rfl⟩ ?_
  go_frame
  refine wa_skip 4 (some 23) rfl rfl (by kernel_rfl) (by kernel_rfl) (by kernel_rfl) (fun _ _ _ h => h) (by kernel_rfl) ⟨hM.below, hM.blk 1 rfl, hM.blk 0 rfl, hM.blk 3 rfl⟩ ?_
  go_frame
  refine wa_take 5 (some 24) (.bool true) rfl rfl (by kernel_rfl) (by kernel_rfl) (by kernel_rfl) (fun _ _ _ h => h) (by kernel_rfl) (fun w hS => by kernel_rfl) ⟨hM.below, hM.blk 1 rfl, hM.blk 0 rfl, hM.blk 3 rfl⟩ ?_
  go_frame
  refine wa_take 6 (some 25) (.bool true) rfl rfl (by kernel_rfl) (by kernel_rfl) (by kernel_rfl) (fun _ _ _ h => h) (by kernel_rfl) (fun w hS => by kernel_rfl) ⟨hM.below, hM.blk 1 rfl, hM.blk 0 rfl, hM.blk 3 rfl⟩ ?_
  go_frame
  refine wa_skip 7 (some 26) rfl rfl (by kernel_rfl) (by kernel_rfl) (by kernel_rfl) (fun _ _ _ h => h) (by kernel_rfl) ⟨hM.below, hM.blk 1 rfl, hM.blk 0 rfl, hM.blk 3 rfl⟩ ?_
  go_frame
  refine wa_skip 8 (some 27) rfl rfl (by kernel_rfl) (by kernel_rfl) (by kernel_rfl) (fun _ _ _ h => h) (by kernel_rfl) ⟨hM.below, hM.blk 1 rfl, hM.blk 0 rfl, hM.blk 3 rfl⟩ ?_
  go_frame
  refine wa_skip 9 (some 28) rfl rfl (by kernel_rfl) (by kernel_rfl) (by kernel_rfl) (fun _ _ _ h => h) (by kernel_rfl) ⟨hM.below, hM.blk 1 rfl, hM.blk 0 rfl, hM.blk 3 rfl⟩ ?_
  go_frame
  refine wa_skip 10 (some 29) rfl rfl (by kernel_rfl) (by kernel_rfl) (by kernel_rfl) (fun _ _ _ h => h) (by kernel_rfl) ⟨hM.below, hM.blk 1 rfl, hM.blk 0 rfl, hM.blk 3 rfl⟩ ?_
  go_frame
  refine wa_skip 11 (some 30) rfl rfl (by kernel_rfl) (by kernel_rfl) (by kernel_rfl) (fun _ _ _ h => h) (by kernel_rfl) ⟨hM.below, hM.blk 1 rfl, hM.blk 0 rfl, hM.blk 3 rfl⟩ ?_
  go_frame
  refine wa_skip 12 (some 31) rfl rfl (by kernel_rfl) (by kernel_rfl) (by kernel_rfl) (fun _ _ _ h => h) (by kernel_rfl) ⟨hM.below, hM.blk 1 rfl, hM.blk 0 rfl, hM.blk 3 rfl⟩ ?_
  go_frame
  refine wa_skip 13 (some 32) rfl rfl (by kernel_rfl) (by kernel_rfl) (by kernel_rfl) (fun _ _ _ h => h) (by kernel_rfl) ⟨hM.below, hM.blk 1 rfl, hM.blk 0 rfl, hM.blk 3 rfl⟩ ?_
  go_frame
  refine wa_take 14 (some 33) (.bool true) rfl rfl (by kernel_rfl) (by kernel_rfl) (by kernel_rfl) (fun _ _ _ h => h) (by kernel_rfl) (fun w hS => by kernel_rfl) ⟨hM.below, hM.blk 1 rfl, hM.blk 0 rfl, hM.blk 3 rfl⟩ ?_
  go_frame
  refine wa_done (by kernel_rfl) ?_
  refine cn5 _ _ ?_
  clear cn5
  refine wp_cond_true rfl ?_
  refine wp_seq_k fun Kn6 cn6 => ?_
  refine wl_region ?_
  refine wl_load (by kernel_rfl) hM 3 rfl 36 _ rfl rfl Try.underlying36 I_impl_Hand ?_
  go_frame
  refine wl_call (by kernel_rfl) 45 #[.agg (HD.cells h).toArray] (by kernel_rfl) (spec_l8Again h _) ?_
  rintro e W8 ⟨rfl, hb⟩
  refine ⟨_, rfl, ?_⟩
  replace hM := hM.call hb
  go_frame
  refine wl_store (by kernel_rfl) hM 2 rfl 36 _ _ rfl rfl rfl (HD.cells (againH h)) rfl I_impl_Hand rfl (hd_one' _) ?_
  clear hM; intro W9 hM
  refine wl_nil ?_
  refine cn6 _ _ ?_
  clear cn6
  refine wp_ret ?_
  simp only [Exit.then, Exit.inBlock]
  exact bodyPost_ret (ret_row rfl hM 2 rfl rfl Try.underlying36 I_impl_Hand) rfl ⟨congrArg (fun z => Ending.returned (Value.agg (HD.cells z).toArray)) (show (againH h) = checkCutH l h from by simp [checkCutH, npe, nce]), hM.below⟩

end Go.Proofs.Ythllpgjggmdmmaa
