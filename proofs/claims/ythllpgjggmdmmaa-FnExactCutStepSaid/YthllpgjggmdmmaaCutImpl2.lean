/- Cutting: the table; the program's step. -/
import Derived.Test.YthllpgjggmdmmaaAddImpl3
import Derived.Test.YthllpgjggmdmmaaMem6
namespace Go.Proofs.Ythllpgjggmdmmaa
open Go.ChangeShapes Go.WideShapes Go.ChangeAt Go.RowKit
set_option linter.unusedVariables false
set_option linter.unusedSimpArgs false

def orB (x y : Int) : Int := if x == 0 then y else x
set_option maxRecDepth 100000 in
set_option maxHeartbeats 4000000 in
theorem impl_or (x y k : Int) (g : Nat) (w0 : World) (hb : Blk w0 g 2 [.int .i64 x, .int .i64 y]) (hk : orB x y = k) :
    Calls Try.prog 70 #[.slice (some ⟨g, 0, none⟩) 2 2] w0 fun e w' => e = .returned (.int .i64 k) ∧ Below w0.heap.size w0 w' := by
  have hM := Mem.start w0
  go_enter Try.func70, Try.ntmps70
  refine wp_seq_k fun Kn1 cn1 => ?_
  refine wl_region ?_
  refine wl_pure (by kernel_rfl) (.int .i64 0) (by kernel_rfl) ?_
  go_frame
  refine wl_nil ?_
  refine cn1 _ _ ?_
  clear cn1
  refine wp_seq_k fun Kn2 cn2 => ?_
  refine wl_region ?_
  refine wl_pure (by kernel_rfl) (.int .i64 0) (by kernel_rfl) ?_
  go_frame
  refine wl_nil ?_
  refine cn2 _ _ ?_
  clear cn2
  refine wp_seq_k fun Kn3 cn3 => ?_
  refine wp_seq_k fun Kn4 cn4 => ?_
  refine wl_region ?_
  refine wl_pure (by kernel_rfl) (.slice (some ⟨g, 0, none⟩) 2 2) (by kernel_rfl) ?_
  go_frame
  refine wl_pure (by kernel_rfl) (.int .i64 2) (by kernel_rfl) ?_
  go_frame
  refine wl_pure (by kernel_rfl) (.int .i64 0) (by kernel_rfl) ?_
  go_frame
  refine wl_nil ?_
  refine cn4 _ _ ?_
  clear cn4
  refine wp_block ?_
  refine wp_loop_rounds 3 ?_
  rw [rounds_succ]
  refine wp_seq_k fun Kn5 cn5 => ?_
  refine wl_region ?_
  refine wl_pure (by kernel_rfl) (.bool true) (by kernel_rfl) ?_
  go_frame
  refine wl_nil ?_
  refine cn5 _ _ ?_
  clear cn5
  refine wp_seq_k fun Kn6 cn6 => ?_
  refine wp_cond_true rfl ?_
  refine wp_skip ?_
  refine cn6 _ _ ?_
  clear cn6
  refine wp_seq_k fun Kn7 cn7 => ?_
  refine wp_block ?_
  refine wp_seq_k fun Kn8 cn8 => ?_
  refine wl_region ?_
  refine wl_index (by kernel_rfl) 23 2 _ _ rfl g 0 2 2 1 0 rfl rfl rfl (by omega) Try.underlying23 I_int64 ?_
  go_frame
  refine wl_cell (by kernel_rfl) 2 _ rfl ⟨g, 0 + 0 * 1, none⟩ rfl Try.underlying2 rfl (hb.cell 0) ?_
  go_frame
  refine wl_pure (by kernel_rfl) (.int .i64 x) (by kernel_rfl) ?_
  go_frame
  refine wl_nil ?_
  refine cn8 _ _ ?_
  clear cn8
  refine wp_seq_k fun Kn9 cn9 => ?_
  refine wl_region ?_
  refine wl_pure (by kernel_rfl) (.int .i64 x) (by kernel_rfl) ?_
  go_frame
  refine wl_pure (by kernel_rfl) (.int .i64 0) (by kernel_rfl) ?_
  go_frame
  refine wl_pure (by kernel_rfl) (.bool (x != 0)) (by kernel_rfl) ?_
  go_frame
  refine wl_nil ?_
  refine cn9 _ _ ?_
  clear cn9
  rcases Bool.eq_false_or_eq_true ((x != 0)) with hx1 | hx1
  rw [hx1]
  refine wp_cond_true rfl ?_
  refine wp_seq_k fun Kn10 cn10 => ?_
  refine wl_region ?_
  refine wl_pure (by kernel_rfl) (.int .i64 x) (by kernel_rfl) ?_
  go_frame
  refine wl_pure (by kernel_rfl) (.int .i64 x) (by kernel_rfl) ?_
  go_frame
  refine wl_nil ?_
  refine cn10 _ _ ?_
  clear cn10
  refine wp_ret ?_
  simp only [Exit.then, Exit.inBlock]
  have hR : k = x := by (try simp at hx1); (try subst_vars); simp_all [orB]
  rw [hR]
  exact bodyPost_ret (v := .int .i64 x) (ret_tmp 2 rfl rfl) rfl ⟨rfl, hM.below⟩
  rw [hx1]
  refine wp_cond_false rfl ?_
  refine wp_skip ?_
  refine cn7 _ _ ?_
  clear cn7
  refine wl_region ?_
  refine wl_pure (by kernel_rfl) (.int .i64 1) (by kernel_rfl) ?_
  go_frame
  refine wl_pure (by kernel_rfl) (.int .i64 1) (by kernel_rfl) ?_
  go_frame
  refine wl_nil ?_
  refine round_go ?_
  refine wp_seq_k fun Kn10 cn10 => ?_
  refine wl_region ?_
  refine wl_pure (by kernel_rfl) (.bool true) (by kernel_rfl) ?_
  go_frame
  refine wl_nil ?_
  refine cn10 _ _ ?_
  clear cn10
  refine wp_seq_k fun Kn11 cn11 => ?_
  refine wp_cond_true rfl ?_
  refine wp_skip ?_
  refine cn11 _ _ ?_
  clear cn11
  refine wp_seq_k fun Kn12 cn12 => ?_
  refine wp_block ?_
  refine wp_seq_k fun Kn13 cn13 => ?_
  refine wl_region ?_
  refine wl_index (by kernel_rfl) 23 2 _ _ rfl g 0 2 2 1 1 rfl rfl rfl (by omega) Try.underlying23 I_int64 ?_
  go_frame
  refine wl_cell (by kernel_rfl) 2 _ rfl ⟨g, 0 + 1 * 1, none⟩ rfl Try.underlying2 rfl (hb.cell 1) ?_
  go_frame
  refine wl_pure (by kernel_rfl) (.int .i64 y) (by kernel_rfl) ?_
  go_frame
  refine wl_nil ?_
  refine cn13 _ _ ?_
  clear cn13
  refine wp_seq_k fun Kn14 cn14 => ?_
  refine wl_region ?_
  refine wl_pure (by kernel_rfl) (.int .i64 y) (by kernel_rfl) ?_
  go_frame
  refine wl_pure (by kernel_rfl) (.int .i64 0) (by kernel_rfl) ?_
  go_frame
  refine wl_pure (by kernel_rfl) (.bool (y != 0)) (by kernel_rfl) ?_
  go_frame
  refine wl_nil ?_
  refine cn14 _ _ ?_
  clear cn14
  rcases Bool.eq_false_or_eq_true ((y != 0)) with hx2 | hx2
  rw [hx2]
  refine wp_cond_true rfl ?_
  refine wp_seq_k fun Kn15 cn15 => ?_
  refine wl_region ?_
  refine wl_pure (by kernel_rfl) (.int .i64 y) (by kernel_rfl) ?_
  go_frame
  refine wl_pure (by kernel_rfl) (.int .i64 y) (by kernel_rfl) ?_
  go_frame
  refine wl_nil ?_
  refine cn15 _ _ ?_
  clear cn15
  refine wp_ret ?_
  simp only [Exit.then, Exit.inBlock]
  have hR : k = y := by (try simp at hx1 hx2); (try subst_vars); simp_all [orB]
  rw [hR]
  exact bodyPost_ret (v := .int .i64 y) (ret_tmp 2 rfl rfl) rfl ⟨rfl, hM.below⟩
  rw [hx2]
  refine wp_cond_false rfl ?_
  refine wp_skip ?_
  refine cn12 _ _ ?_
  clear cn12
  refine wl_region ?_
  refine wl_pure (by kernel_rfl) (.int .i64 2) (by kernel_rfl) ?_
  go_frame
  refine wl_pure (by kernel_rfl) (.int .i64 2) (by kernel_rfl) ?_
  go_frame
  refine wl_nil ?_
  refine round_go ?_
  refine wp_seq_k fun Kn15 cn15 => ?_
  refine wl_region ?_
  refine wl_pure (by kernel_rfl) (.bool false) (by kernel_rfl) ?_
  go_frame
  refine wl_nil ?_
  refine cn15 _ _ ?_
  clear cn15
  refine wp_seq_k fun Kn16 cn16 => ?_
  refine wp_cond_false rfl ?_
  refine wp_exit ?_
  refine cn3 _ _ ?_
  clear cn3
  refine wp_seq_k fun Kn17 cn17 => ?_
  refine wl_region ?_
  refine wl_pure (by kernel_rfl) (.int .i64 0) (by kernel_rfl) ?_
  go_frame
  refine wl_pure (by kernel_rfl) (.int .i64 0) (by kernel_rfl) ?_
  go_frame
  refine wl_nil ?_
  refine cn17 _ _ ?_
  clear cn17
  refine wp_ret ?_
  have hR : k = 0 := by (try simp at hx1 hx2); (try subst_vars); simp_all [orB]
  rw [hR]
  exact bodyPost_ret (v := .int .i64 0) (ret_tmp 2 rfl rfl) rfl ⟨rfl, hM.below⟩
def cutB (h : HD) : Bool := h.c == 3 && h.cur != 0
def markT (l : List ND) (h : HD) : TR := .done (setK l h.cur goneN) { h with at_ := 12 }
def liftT (l : List ND) (h : HD) : TR :=
  if cutKid l h == 0 then .done (setK l h.prev fun n => withK n h.side (cutKid l h)) { h with at_ := 13 } else .done (setK l h.prev fun n => withK n h.side (cutKid l h)) (endH h 1)
def bumpT (l : List ND) (h : HD) : TR :=
  if h.at_ == 13 then .done (setK l h.prev fun n => withT n h.side) (endH h 1) else if h.at_ == 12 then .done l (endH h 1) else .done l h

set_option maxRecDepth 100000 in
set_option maxHeartbeats 4000000 in
theorem impl_hasCut (h : HD) (w0 : World) :
    Calls Try.prog 26 #[h.val] w0 fun e w' => e = .returned (.bool (cutB h)) ∧ Below w0.heap.size w0 w' := by
  unfold HD.val
  have hM := Mem.start w0
  go_enter Try.func26, Try.ntmps26
  refine wp_seq_k fun Kn1 cn1 => ?_
  refine wl_region ?_
  refine wl_box (by kernel_rfl) hM 36 _ rfl (HD.cells h) rfl ?_
  clear hM; intro g1 W1 hM
  go_frame
  refine wl_pure (by kernel_rfl) (.bool false) (by kernel_rfl) ?_
  go_frame
  refine wl_nil ?_
  refine cn1 _ _ ?_
  clear cn1
  refine wp_seq_k fun Kn2 cn2 => ?_
  refine wl_region ?_
  refine wl_pure (by kernel_rfl) (.pointer (some ⟨g1, 1, none⟩)) (by kernel_rfl) ?_
  go_frame
  refine wl_pure (by kernel_rfl) (.pointer (some ⟨g1, 1, none⟩)) (by kernel_rfl) ?_
  go_frame
  refine wl_loadc (by kernel_rfl) hM 0 rfl 2 _ rfl 1 rfl Try.underlying2 rfl rfl ?_
  go_frame
  refine wl_pure (by kernel_rfl) (.bool (h.c == 3)) (by kernel_rfl) ?_
  go_frame
  refine wl_pure (by kernel_rfl) (.bool (h.c == 3)) (by kernel_rfl) ?_
  go_frame
  rcases Bool.eq_false_or_eq_true ((h.c == 3)) with hx2 | hx2
  rw [hx2]
  refine wl_pure (by kernel_rfl) (.pointer (some ⟨g1, 5, none⟩)) (by kernel_rfl) ?_
  go_frame
  refine wl_loadc (by kernel_rfl) hM 0 rfl 2 _ rfl 5 rfl Try.underlying2 rfl rfl ?_
  go_frame
  refine wl_pure (by kernel_rfl) (.bool (h.cur != 0)) (by kernel_rfl) ?_
  go_frame
  refine wl_pure (by kernel_rfl) (.bool (h.cur != 0)) (by kernel_rfl) ?_
  go_frame
  refine wl_pure (by kernel_rfl) (.bool (h.cur != 0)) (by kernel_rfl) ?_
  go_frame
  refine wl_nil ?_
  refine cn2 _ _ ?_
  clear cn2
  refine wp_ret ?_
  exact bodyPost_ret (v := .bool (h.cur != 0)) (ret_tmp 2 rfl rfl) rfl ⟨ret_b (show (h.cur != 0) = cutB h from by simp [cutB, hx2]), hM.below⟩
  rw [hx2]
  refine wl_skip (by kernel_rfl) ?_
  go_frame
  refine wl_skip (by kernel_rfl) ?_
  go_frame
  refine wl_skip (by kernel_rfl) ?_
  go_frame
  refine wl_pure (by kernel_rfl) (.bool false) (by kernel_rfl) ?_
  go_frame
  refine wl_pure (by kernel_rfl) (.bool false) (by kernel_rfl) ?_
  go_frame
  refine wl_nil ?_
  refine cn2 _ _ ?_
  clear cn2
  refine wp_ret ?_
  exact bodyPost_ret (v := .bool false) (ret_tmp 2 rfl rfl) rfl ⟨ret_b (show false = cutB h from by simp [cutB, hx2]), hM.below⟩

set_option maxRecDepth 100000 in
set_option maxHeartbeats 4000000 in
theorem impl_endCut_lift (ua : Option Addr) (un uc : Nat) (xa : Option Addr) (xn xc : Nat) (task : Int) (h : HD) (w0 : World) (ha : h.at_ = 12) :
    Calls Try.prog 55 #[.agg #[.slice ua un uc, .slice xa xn xc], .int .i64 task, h.val] w0 fun e w' => e = .returned (.tuple #[.agg #[.slice ua un uc, .slice xa xn xc], .agg (HD.cells { h with at_ := 26, reply := 1 }).toArray]) ∧ Below w0.heap.size w0 w' := by
  have hf1 : (h.at_ == 13) = false := by simp [ha]
  have hf2 : (h.at_ == 12) = true := by simp [ha]
  unfold HD.val
  have hM := Mem.start w0
  go_enter Try.func55, Try.ntmps55
  refine wp_seq_k fun Kn1 cn1 => ?_
  refine wl_region ?_
  refine wl_box (by kernel_rfl) hM 33 _ rfl [.slice ua un uc, .slice xa xn xc] rfl ?_
  clear hM; intro g1 W1 hM
  go_frame
  refine wl_box (by kernel_rfl) hM 36 _ rfl (HD.cells h) rfl ?_
  clear hM; intro g2 W2 hM
  go_frame
  refine wl_alloc (by kernel_rfl) hM 33 rfl [.slice none 0 0, .slice none 0 0] Z_impl_Shared ?_
  clear hM; intro g3 W3 hM
  go_frame
  refine wl_alloc (by kernel_rfl) hM 36 rfl (HD.cells HD.zero) Z_impl_Hand ?_
  clear hM; intro g4 W4 hM
  go_frame
  refine wl_nil ?_
  refine cn1 _ _ ?_
  clear cn1
  refine wp_seq_k fun Kn2 cn2 => ?_
  refine wp_seq_k fun Kn3 cn3 => ?_
  refine wl_region ?_
  refine wl_pure (by kernel_rfl) (.pointer (some ⟨g2, 0, none⟩)) (by kernel_rfl) ?_
  go_frame
  refine wl_loadc (by kernel_rfl) hM 2 rfl 2 _ rfl 0 rfl Try.underlying2 rfl rfl ?_
  go_frame
  refine wl_nil ?_
  refine cn3 _ _ ?_
  clear cn3
  refine wp_block ?_
  refine wp_seq_k fun Kn4 cn4 => ?_
  refine wp_block ?_
  refine wp_seq_k fun Kn5 cn5 => ?_
  refine wp_block ?_
  refine wp_seq_k fun Kn6 cn6 => ?_
  refine wp_seq_k fun Kn7 cn7 => ?_
  refine wp_seq_k fun Kn8 cn8 => ?_
  refine wl_region ?_
  refine wl_pureB (by kernel_rfl) (b := (h.at_ == 13)) (by kernel_rfl) (hf1) ?_
  go_frame
  refine wl_pure (by kernel_rfl) (.bool false) (by kernel_rfl) ?_
  go_frame
  refine wl_nil ?_
  refine cn8 _ _ ?_
  clear cn8
  refine wp_cond_false rfl ?_
  refine wp_skip ?_
  refine cn7 _ _ ?_
  clear cn7
  refine wp_seq_k fun Kn9 cn9 => ?_
  refine wl_region ?_
  refine wl_pureB (by kernel_rfl) (b := (h.at_ == 12)) (by kernel_rfl) (hf2) ?_
  go_frame
  refine wl_pure (by kernel_rfl) (.bool true) (by kernel_rfl) ?_
  go_frame
  refine wl_nil ?_
  refine cn9 _ _ ?_
  clear cn9
  refine wp_cond_true rfl ?_
  refine wp_exit ?_
  refine cn4 _ _ ?_
  clear cn4
  refine wp_seq_k fun Kn10 cn10 => ?_
  refine wl_region ?_
  refine wl_pure (by kernel_rfl) (.pointer (some ⟨g2, 0, none⟩)) (by kernel_rfl) ?_
  go_frame
  refine wl_storec (by kernel_rfl) hM 2 rfl 2 _ _ rfl rfl 0 rfl (.int .i64 26) rfl rfl rfl I_int64 (by simp [HD.cells]) ?_
  clear hM; intro W5 hM
  refine wl_pure (by kernel_rfl) (.pointer (some ⟨g2, 15, none⟩)) (by kernel_rfl) ?_
  go_frame
  refine wl_storec (by kernel_rfl) hM 2 rfl 2 _ _ rfl rfl 15 rfl (.int .i64 1) rfl rfl rfl I_int64 (by simp [HD.cells]) ?_
  clear hM; intro W6 hM
  refine wl_nil ?_
  refine cn10 _ _ ?_
  clear cn10
  refine wp_exit ?_
  refine cn2 _ _ ?_
  clear cn2
  refine wp_seq_k fun Kn11 cn11 => ?_
  -- region 6, drawn: one after the other
  refine wa_start (fun w => Below w0.heap.size w0 w ∧ Blk w g1 33 [.slice ua un uc, .slice xa xn xc] ∧ Blk w g2 36 (HD.cells { h with at_ := 26, reply := 1 })) 4 rfl (by kernel_rfl) ?_
  replace hM := hM.drew
  refine wa_take 0 (some 30) (.agg #[.slice ua un uc, .slice xa xn xc]) rfl rfl (by kernel_rfl) (by kernel_rfl) (by kernel_rfl) (fun _ _ _ h => h) (by kernel_rfl) (fun w hS => r_load hS.2.1 33 _ rfl rfl Try.underlying33 I_impl_Shared) ⟨hM.below, hM.blk 3 rfl, hM.blk 2 rfl⟩ ?_
  go_frame
  refine wa_take 1 (some 31) (.agg (HD.cells { h with at_ := 26, reply := 1 }).toArray) rfl rfl (by kernel_rfl) (by kernel_rfl) (by kernel_rfl) (fun _ _ _ h => h) (by kernel_rfl) (fun w hS => r_load hS.2.2 36 _ rfl rfl Try.underlying36 I_impl_Hand) ⟨hM.below, hM.blk 3 rfl, hM.blk 2 rfl⟩ ?_
  go_frame
  refine wa_one 2 (by kernel_rfl) ?_
  refine wo_store rfl (by kernel_rfl) hM 1 rfl 33 _ _ rfl rfl (by kernel_rfl) [.slice ua un uc, .slice xa xn xc] (by kernel_rfl) I_impl_Shared rfl rfl ?_
  clear hM; intro W7 hM
  refine ⟨⟨hM.below, hM.blk 3 rfl, hM.blk 2 rfl⟩, ?_⟩
  refine wa_one 3 (by kernel_rfl) ?_
  refine wo_store rfl (by kernel_rfl) hM 0 rfl 36 _ _ rfl rfl (by kernel_rfl) (HD.cells { h with at_ := 26, reply := 1 }) (by kernel_rfl) I_impl_Hand rfl (hd_one' _) ?_
  clear hM; intro W8 hM
  refine ⟨⟨hM.below, hM.blk 3 rfl, hM.blk 2 rfl⟩, ?_⟩
  refine wa_done (by kernel_rfl) ?_
  refine cn11 _ _ ?_
  clear cn11
  refine wp_ret ?_
  exact bodyPost_ret (ret_sh (p := 6) (q := 7) rfl hM 1 0 rfl rfl rfl rfl Try.underlying33 Try.underlying36 I_impl_Shared I_impl_Hand) rfl ⟨rfl, hM.below⟩

set_option maxRecDepth 100000 in
set_option maxHeartbeats 4000000 in
theorem impl_lockCur (l : List ND) (c : List Int) (task : Int) (h : HD) (hok : canB l c task h = true) : TouchG 51 l c task h (holdT l task h h.cur 10) := by
  intro ga0 k1 p1 gb0 k2 p2 L w00 w0 hM0 q1 q2 q3 q4 q5 q6
  obtain ⟨hl0, hc0, hl1, hc1, hat, kt, hkt0, hkt, hcnt, hnodes, qnp, qnc, qnu, qnx, qnw⟩ := ok_facts (can_ok hok)
  have ht : task.toNat = kt := by omega
  have hl30 := (nodes_some hnodes).2
  have hl : l.length ≤ 1048576 := by omega
  unfold HD.val
  have hM := hM0
  go_enter Try.func51, Try.ntmps51
  refine wp_seq_k fun Kn1 cn1 => ?_
  refine wl_region ?_
  refine wl_box (by kernel_rfl) hM 33 _ rfl [.slice (some ⟨ga0, 0, none⟩) l.length k1, .slice (some ⟨gb0, 0, none⟩) c.length k2] rfl ?_
  clear hM; intro g1 W1 hM
  go_frame
  refine wl_box (by kernel_rfl) hM 36 _ rfl (HD.cells h) rfl ?_
  clear hM; intro g2 W2 hM
  go_frame
  refine wl_alloc (by kernel_rfl) hM 33 rfl [.slice none 0 0, .slice none 0 0] Z_impl_Shared ?_
  clear hM; intro g3 W3 hM
  go_frame
  refine wl_alloc (by kernel_rfl) hM 36 rfl (HD.cells HD.zero) Z_impl_Hand ?_
  clear hM; intro g4 W4 hM
  go_frame
  refine wl_nil ?_
  refine cn1 _ _ ?_
  clear cn1
  refine wp_seq_k fun Kn2 cn2 => ?_
  refine wl_region ?_
  refine wl_pure (by kernel_rfl) (.pointer (some ⟨g2, 0, none⟩)) (by kernel_rfl) ?_
  go_frame
  refine wl_storec (by kernel_rfl) hM 2 rfl 2 _ _ rfl rfl 0 rfl (.int .i64 10) rfl rfl rfl I_int64 (by simp [HD.cells]) ?_
  clear hM; intro W5 hM
  refine wl_nil ?_
  refine cn2 _ _ ?_
  clear cn2
  refine wp_seq_k fun Kn3 cn3 => ?_
  rcases Bool.eq_false_or_eq_true ((lockB l h.cur task).2) with hx1 | hx1
  -- region 2, drawn: one after the other
  refine wa_start (fun w => Below w00.heap.size w00 w ∧ Blk w g1 33 [.slice (some ⟨ga0, 0, none⟩) l.length k1, .slice (some ⟨gb0, 0, none⟩) c.length k2] ∧ Blk w g2 36 (HD.cells { h with at_ := 10 })) 8 rfl (by kernel_rfl) ?_
  replace hM := hM.drew
  refine wa_take 0 (some 9) (.agg #[.slice (some ⟨ga0, 0, none⟩) l.length k1, .slice (some ⟨gb0, 0, none⟩) c.length k2]) rfl rfl (by kernel_rfl) (by kernel_rfl) (by kernel_rfl) (fun _ _ _ h => h) (by kernel_rfl) (fun w hS => r_load hS.2.1 33 _ rfl rfl Try.underlying33 I_impl_Shared) ⟨hM.below, hM.blk 3 rfl, hM.blk 2 rfl⟩ ?_
  go_frame
  refine wa_take 1 (some 10) (.pointer (some ⟨g2, 5, none⟩)) rfl rfl (by kernel_rfl) (by kernel_rfl) (by kernel_rfl) (fun _ _ _ h => h) (by kernel_rfl) (fun w hS => by kernel_rfl) ⟨hM.below, hM.blk 3 rfl, hM.blk 2 rfl⟩ ?_
  go_frame
  refine wa_take 2 (some 11) (.int .i64 h.cur) rfl rfl (by kernel_rfl) (by kernel_rfl) (by kernel_rfl) (fun _ _ _ h => h) (by kernel_rfl) (fun w hS => r_loadc hS.2.2 2 _ rfl 5 rfl Try.underlying2 rfl rfl) ⟨hM.below, hM.blk 3 rfl, hM.blk 2 rfl⟩ ?_
  go_frame
  refine wa_take 3 (some 12) (.int .i64 task) rfl rfl (by kernel_rfl) (by kernel_rfl) (by kernel_rfl) (fun _ _ _ h => h) (by kernel_rfl) (fun w hS => by kernel_rfl) ⟨hM.below, hM.blk 3 rfl, hM.blk 2 rfl⟩ ?_
  go_frame
  refine wa_take 5 (some 14) (.agg (HD.cells { h with at_ := 10 }).toArray) rfl rfl (by kernel_rfl) (by kernel_rfl) (by kernel_rfl) (fun _ _ _ h => h) (by kernel_rfl) (fun w hS => r_load hS.2.2 36 _ rfl rfl Try.underlying36 I_impl_Hand) ⟨hM.below, hM.blk 3 rfl, hM.blk 2 rfl⟩ ?_
  go_frame
  refine wa_one 4 (by kernel_rfl) ?_
  refine wo_call (some 13) rfl rfl (by kernel_rfl) 68 #[.agg #[.slice (some ⟨ga0, 0, none⟩) l.length k1, .slice (some ⟨gb0, 0, none⟩) c.length k2], .int .i64 h.cur, .int .i64 task] (by kernel_rfl) (impl_withHold_yes (.slice (some ⟨ga0, 0, none⟩) l.length k1) (some ⟨gb0, 0, none⟩) c.length k2 l h.cur task _ (nsl_blk (hM.blk 4 rfl) q1 q2) hl (has64 qnc hl) hl0 hx1) ?_
  rintro e W6 ⟨m1, j1, r1, rfl, ⟨qa1, qb1, qe1⟩, hg, hO, hb⟩
  replace hM := hM.got hb hg hO
  refine ⟨_, rfl, ⟨hM.below, hM.blk 4 rfl, hM.blk 3 rfl⟩, ?_⟩
  go_frame
  refine wa_one 6 (by kernel_rfl) ?_
  refine wo_store rfl (by kernel_rfl) hM 2 rfl 33 _ _ rfl rfl (by kernel_rfl) [.slice (some ⟨m1, 0, none⟩) ((lockB l h.cur task).1.length) j1, .slice (some ⟨gb0, 0, none⟩) c.length k2] (by kernel_rfl) I_impl_Shared rfl rfl ?_
  clear hM; intro W7 hM
  refine ⟨⟨hM.below, hM.blk 4 rfl, hM.blk 3 rfl⟩, ?_⟩
  refine wa_one 7 (by kernel_rfl) ?_
  refine wo_store rfl (by kernel_rfl) hM 1 rfl 36 _ _ rfl rfl (by kernel_rfl) (HD.cells { h with at_ := 10 }) (by kernel_rfl) I_impl_Hand rfl (hd_one' _) ?_
  clear hM; intro W8 hM
  refine ⟨⟨hM.below, hM.blk 4 rfl, hM.blk 3 rfl⟩, ?_⟩
  refine wa_done (by kernel_rfl) ?_
  refine cn3 _ _ ?_
  clear cn3
  refine wp_ret ?_
  have hR : holdT l task h h.cur 10 = .done ((lockB l h.cur task).1) { h with at_ := 10 } := by simp [holdT, hx1]
  rw [hR]
  have hN : ((lockB l h.cur task).1 : List ND).length = (lockB l h.cur task).1.length := by first | rfl | simp
  refine bodyPost_ret (ret_sh (p := 6) (q := 7) rfl hM 2 1 rfl rfl rfl rfl Try.underlying33 Try.underlying36 I_impl_Shared I_impl_Hand) rfl (saysg_done ⟨m1, j1, r1, congrArg (fun n : Nat => Ending.returned (.tuple #[.agg #[.slice (some ⟨m1, 0, none⟩) n j1, .slice (some ⟨gb0, 0, none⟩) c.length k2], HD.val _])) hN.symm, ⟨by rw [hN]; exact qa1, qb1, qe1⟩, ?_⟩)
  exact hM.sub (fun i => if i = 0 then 0 else i + 5) (fun i x hx => by cases i with | zero => exact hx | succ i => exact hx) (fun i j _ _ e => by (try simp only at e); split at e <;> split at e <;> omega)
  -- region 2, drawn: one after the other
  refine wa_start (fun w => Below w00.heap.size w00 w ∧ Blk w g1 33 [.slice (some ⟨ga0, 0, none⟩) l.length k1, .slice (some ⟨gb0, 0, none⟩) c.length k2] ∧ Blk w g2 36 (HD.cells { h with at_ := 10 })) 8 rfl (by kernel_rfl) ?_
  replace hM := hM.drew
  refine wa_take 0 (some 9) (.agg #[.slice (some ⟨ga0, 0, none⟩) l.length k1, .slice (some ⟨gb0, 0, none⟩) c.length k2]) rfl rfl (by kernel_rfl) (by kernel_rfl) (by kernel_rfl) (fun _ _ _ h => h) (by kernel_rfl) (fun w hS => r_load hS.2.1 33 _ rfl rfl Try.underlying33 I_impl_Shared) ⟨hM.below, hM.blk 3 rfl, hM.blk 2 rfl⟩ ?_
  go_frame
  refine wa_take 1 (some 10) (.pointer (some ⟨g2, 5, none⟩)) rfl rfl (by kernel_rfl) (by kernel_rfl) (by kernel_rfl) (fun _ _ _ h => h) (by kernel_rfl) (fun w hS => by kernel_rfl) ⟨hM.below, hM.blk 3 rfl, hM.blk 2 rfl⟩ ?_
  go_frame
  refine wa_take 2 (some 11) (.int .i64 h.cur) rfl rfl (by kernel_rfl) (by kernel_rfl) (by kernel_rfl) (fun _ _ _ h => h) (by kernel_rfl) (fun w hS => r_loadc hS.2.2 2 _ rfl 5 rfl Try.underlying2 rfl rfl) ⟨hM.below, hM.blk 3 rfl, hM.blk 2 rfl⟩ ?_
  go_frame
  refine wa_take 3 (some 12) (.int .i64 task) rfl rfl (by kernel_rfl) (by kernel_rfl) (by kernel_rfl) (fun _ _ _ h => h) (by kernel_rfl) (fun w hS => by kernel_rfl) ⟨hM.below, hM.blk 3 rfl, hM.blk 2 rfl⟩ ?_
  go_frame
  refine wa_take 5 (some 14) (.agg (HD.cells { h with at_ := 10 }).toArray) rfl rfl (by kernel_rfl) (by kernel_rfl) (by kernel_rfl) (fun _ _ _ h => h) (by kernel_rfl) (fun w hS => r_load hS.2.2 36 _ rfl rfl Try.underlying36 I_impl_Hand) ⟨hM.below, hM.blk 3 rfl, hM.blk 2 rfl⟩ ?_
  go_frame
  refine wa_one 4 (by kernel_rfl) ?_
  refine wo_panics rfl (by kernel_rfl) 68 #[.agg #[.slice (some ⟨ga0, 0, none⟩) l.length k1, .slice (some ⟨gb0, 0, none⟩) c.length k2], .int .i64 h.cur, .int .i64 task] (by kernel_rfl) (impl_withHold_no (.slice (some ⟨ga0, 0, none⟩) l.length k1) (some ⟨gb0, 0, none⟩) c.length k2 l h.cur task _ (nsl_blk (hM.blk 4 rfl) q1 q2) hl (has64 qnc hl) hl0 hx1) ?_
  rintro e W6 ⟨rfl, hb⟩
  replace hM := hM.call hb
  refine ⟨_, rfl, ?_⟩
  have hR : holdT l task h h.cur 10 = .gives 1 := by simp [holdT, hx1]
  rw [hR]
  exact ⟨rfl, saysg_gives hM.below⟩

set_option maxRecDepth 100000 in
set_option maxHeartbeats 4000000 in
theorem impl_checkCut (l : List ND) (c : List Int) (task : Int) (h : HD) (hok : canB l c task h = true) : TouchG 52 l c task h (TR.done l (checkCutH l h)) := by
  intro ga0 k1 p1 gb0 k2 p2 L w00 w0 hM0 q1 q2 q3 q4 q5 q6
  obtain ⟨hl0, hc0, hl1, hc1, hat, kt, hkt0, hkt, hcnt, hnodes, qnp, qnc, qnu, qnx, qnw⟩ := ok_facts (can_ok hok)
  have ht : task.toNat = kt := by omega
  have hl30 := (nodes_some hnodes).2
  have hl : l.length ≤ 1048576 := by omega
  obtain ⟨knp, ⟨npk, npv, npl, npr, npo, npg, nplt, nprt⟩, hknp, npe, hlnp, hnnp⟩ := nd_at qnp
  have tnp : h.prev.toNat = knp := by omega
  obtain ⟨knc, ⟨nck, ncv, ncl, ncr, nco, ncg, nclt, ncrt⟩, hknc, nce, hlnc, hnnc⟩ := nd_at qnc
  have tnc : h.cur.toNat = knc := by omega
  unfold HD.val
  have hM := hM0
  go_enter Try.func52, Try.ntmps52
  refine wp_seq_k fun Kn1 cn1 => ?_
  refine wl_region ?_
  refine wl_box (by kernel_rfl) hM 33 _ rfl [.slice (some ⟨ga0, 0, none⟩) l.length k1, .slice (some ⟨gb0, 0, none⟩) c.length k2] rfl ?_
  clear hM; intro g1 W1 hM
  go_frame
  refine wl_box (by kernel_rfl) hM 36 _ rfl (HD.cells h) rfl ?_
  clear hM; intro g2 W2 hM
  go_frame
  refine wl_alloc (by kernel_rfl) hM 33 rfl [.slice none 0 0, .slice none 0 0] Z_impl_Shared ?_
  clear hM; intro g3 W3 hM
  go_frame
  refine wl_alloc (by kernel_rfl) hM 36 rfl (HD.cells HD.zero) Z_impl_Hand ?_
  clear hM; intro g4 W4 hM
  go_frame
  refine wl_nil ?_
  refine cn1 _ _ ?_
  clear cn1
  refine wp_seq_k fun Kn2 cn2 => ?_
  -- region 1, drawn: one after the other
  refine wa_join (fun act W => ∃ (g6 g5 : Nat), act = ⟨#[.agg #[.slice (some ⟨ga0, 0, none⟩) l.length k1, .slice (some ⟨gb0, 0, none⟩) c.length k2], .int .i64 task, .agg (HD.cells h).toArray, .pointer (some ⟨g1, 0, none⟩), undef, .pointer (some ⟨g2, 0, none⟩), .pointer (some ⟨g3, 0, none⟩), .pointer (some ⟨g4, 0, none⟩), .pointer (some ⟨g5, 0, none⟩), .pointer (some ⟨g6, 0, none⟩), .pointer (some ⟨g1, 0, none⟩), .slice (some ⟨ga0, 0, none⟩) l.length k1, .pointer (some ⟨g2, 4, none⟩), .int .i64 h.prev, .pointer (some ⟨ga0, 0 + knp * 8, none⟩), .agg (ND.cells ⟨npk, npv, npl, npr, npo, npg, nplt, nprt⟩).toArray, .pointer (some ⟨g1, 0, none⟩), .slice (some ⟨ga0, 0, none⟩) l.length k1, .pointer (some ⟨g2, 5, none⟩), .int .i64 h.cur, .pointer (some ⟨ga0, 0 + knc * 8, none⟩), .agg (ND.cells ⟨nck, ncv, ncl, ncr, nco, ncg, nclt, ncrt⟩).toArray, undef, undef, undef, undef, undef, undef, undef, undef, undef, undef, undef, undef, undef, undef, undef, undef, undef, undef, undef, undef, undef, undef, undef, undef, undef, undef, undef, undef, undef, undef, undef], []⟩ ∧ Mem w00 W ((g6, 52, (ND.cells ⟨nck, ncv, ncl, ncr, nco, ncg, nclt, ncrt⟩)) :: (g5, 52, (ND.cells ⟨npk, npv, npl, npr, npo, npg, nplt, nprt⟩)) :: (g4, 36, (HD.cells HD.zero)) :: (g3, 33, [.slice none 0 0, .slice none 0 0]) :: (g2, 36, (HD.cells h)) :: (g1, 33, [.slice (some ⟨ga0, 0, none⟩) l.length k1, .slice (some ⟨gb0, 0, none⟩) c.length k2]) :: (ga0, 52, (cellsOf l ++ p1)) :: (gb0, 2, (cellsI c ++ p2)) :: L)) ?_ ?_
  clear hM
  rintro act W9 ⟨g6, g5, rfl, hM⟩
  refine cn2 _ _ ?_
  clear cn2
  refine wp_seq_k fun Kn3 cn3 => ?_
  refine wp_block ?_
  refine wp_seq_k fun Kn4 cn4 => ?_
  cases npg
  cases ncg
  -- region 3, drawn: one after the other
  refine wa_start (fun w => Below w00.heap.size w00 w ∧ Blk w g5 52 (ND.cells ⟨npk, npv, npl, npr, npo, false, nplt, nprt⟩) ∧ Blk w g6 52 (ND.cells ⟨nck, ncv, ncl, ncr, nco, false, nclt, ncrt⟩) ∧ Blk w g2 36 (HD.cells h)) 16 rfl (by kernel_rfl) ?_
  replace hM := hM.drew
  refine wa_take 0 (some 24) (.pointer (some ⟨g5, 5, none⟩)) rfl rfl (by kernel_rfl) (by kernel_rfl) (by kernel_rfl) (fun _ _ _ h => h) (by kernel_rfl) (fun w hS => by kernel_rfl) ⟨hM.below, hM.blk 1 rfl, hM.blk 0 rfl, hM.blk 4 rfl⟩ ?_
  go_frame
  refine wa_take 1 (some 25) (.bool false) rfl rfl (by kernel_rfl) (by kernel_rfl) (by kernel_rfl) (fun _ _ _ h => h) (by kernel_rfl) (fun w hS => r_loadc hS.2.1 4 _ rfl 5 rfl Try.underlying4 rfl rfl) ⟨hM.below, hM.blk 1 rfl, hM.blk 0 rfl, hM.blk 4 rfl⟩ ?_
  go_frame
  refine wa_take 2 (some 26) (.bool false) rfl rfl (by kernel_rfl) (by kernel_rfl) (by kernel_rfl) (fun _ _ _ h => h) (by kernel_rfl) (fun w hS => by kernel_rfl) ⟨hM.below, hM.blk 1 rfl, hM.blk 0 rfl, hM.blk 4 rfl⟩ ?_
  go_frame
  refine wa_take 3 (some 27) (.pointer (some ⟨g6, 5, none⟩)) rfl rfl (by kernel_rfl) (by kernel_rfl) (by kernel_rfl) (fun _ _ _ h => h) (by kernel_rfl) (fun w hS => by kernel_rfl) ⟨hM.below, hM.blk 1 rfl, hM.blk 0 rfl, hM.blk 4 rfl⟩ ?_
  go_frame
  refine wa_take 4 (some 28) (.bool false) rfl rfl (by kernel_rfl) (by kernel_rfl) (by kernel_rfl) (fun _ _ _ h => h) (by kernel_rfl) (fun w hS => r_loadc hS.2.2.1 4 _ rfl 5 rfl Try.underlying4 rfl rfl) ⟨hM.below, hM.blk 1 rfl, hM.blk 0 rfl, hM.blk 4 rfl⟩ ?_
  go_frame
  refine wa_take 5 (some 29) (.bool false) rfl rfl (by kernel_rfl) (by kernel_rfl) (by kernel_rfl) (fun _ _ _ h => h) (by kernel_rfl) (fun w hS => by kernel_rfl) ⟨hM.below, hM.blk 1 rfl, hM.blk 0 rfl, hM.blk 4 rfl⟩ ?_
  go_frame
  refine wa_take 6 (some 30) (.bool false) rfl rfl (by kernel_rfl) (by kernel_rfl) (by kernel_rfl) (fun _ _ _ h => h) (by kernel_rfl) (fun w hS => by kernel_rfl) ⟨hM.below, hM.blk 1 rfl, hM.blk 0 rfl, hM.blk 4 rfl⟩ ?_
  go_frame
  refine wa_take 7 (some 31) (.agg (ND.cells ⟨npk, npv, npl, npr, npo, false, nplt, nprt⟩).toArray) rfl rfl (by kernel_rfl) (by kernel_rfl) (by kernel_rfl) (fun _ _ _ h => h) (by kernel_rfl) (fun w hS => r_load hS.2.1 52 _ rfl rfl Try.underlying52 I_impl_Node) ⟨hM.below, hM.blk 1 rfl, hM.blk 0 rfl, hM.blk 4 rfl⟩ ?_
  go_frame
  refine wa_take 8 (some 32) (.pointer (some ⟨g2, 6, none⟩)) rfl rfl (by kernel_rfl) (by kernel_rfl) (by kernel_rfl) (fun _ _ _ h => h) (by kernel_rfl) (fun w hS => by kernel_rfl) ⟨hM.below, hM.blk 1 rfl, hM.blk 0 rfl, hM.blk 4 rfl⟩ ?_
  go_frame
  refine wa_take 9 (some 33) (.int .i64 h.side) rfl rfl (by kernel_rfl) (by kernel_rfl) (by kernel_rfl) (fun _ _ _ h => h) (by kernel_rfl) (fun w hS => r_loadc hS.2.2.2 2 _ rfl 6 rfl Try.underlying2 rfl rfl) ⟨hM.below, hM.blk 1 rfl, hM.blk 0 rfl, hM.blk 4 rfl⟩ ?_
  go_frame
  refine wa_take 11 (some 35) (.pointer (some ⟨g2, 5, none⟩)) rfl rfl (by kernel_rfl) (by kernel_rfl) (by kernel_rfl) (fun _ _ _ h => h) (by kernel_rfl) (fun w hS => by kernel_rfl) ⟨hM.below, hM.blk 1 rfl, hM.blk 0 rfl, hM.blk 4 rfl⟩ ?_
  go_frame
  refine wa_take 12 (some 36) (.int .i64 h.cur) rfl rfl (by kernel_rfl) (by kernel_rfl) (by kernel_rfl) (fun _ _ _ h => h) (by kernel_rfl) (fun w hS => r_loadc hS.2.2.2 2 _ rfl 5 rfl Try.underlying2 rfl rfl) ⟨hM.below, hM.blk 1 rfl, hM.blk 0 rfl, hM.blk 4 rfl⟩ ?_
  go_frame
  refine wa_one 10 (by kernel_rfl) ?_
  refine wo_call (some 34) rfl rfl (by kernel_rfl) 69 #[.agg (ND.cells ⟨npk, npv, npl, npr, npo, false, nplt, nprt⟩).toArray, .int .i64 h.side] (by kernel_rfl) (impl_KidOf npk npv npl npr npo false nplt nprt h.side _) ?_
  rintro e W10 ⟨rfl, hb⟩
  replace hM := hM.call hb
  refine ⟨_, rfl, ⟨hM.below, hM.blk 1 rfl, hM.blk 0 rfl, hM.blk 4 rfl⟩, ?_⟩
  go_frame
  refine wa_take 13 (some 37) (.bool ((kidF h.side npl npr) != h.cur)) rfl rfl (by kernel_rfl) (by kernel_rfl) (by kernel_rfl) (fun _ _ _ h => h) (by kernel_rfl) (fun w hS => by kernel_rfl) ⟨hM.below, hM.blk 1 rfl, hM.blk 0 rfl, hM.blk 4 rfl⟩ ?_
  go_frame
  refine wa_take 14 (some 38) (.bool ((kidF h.side npl npr) != h.cur)) rfl rfl (by kernel_rfl) (by kernel_rfl) (by kernel_rfl) (fun _ _ _ h => h) (by kernel_rfl) (fun w hS => by kernel_rfl) ⟨hM.below, hM.blk 1 rfl, hM.blk 0 rfl, hM.blk 4 rfl⟩ ?_
  go_frame
  refine wa_take 15 (some 23) (.bool ((kidF h.side npl npr) != h.cur)) rfl rfl (by kernel_rfl) (by kernel_rfl) (by kernel_rfl) (fun _ _ _ h => h) (by kernel_rfl) (fun w hS => by kernel_rfl) ⟨hM.below, hM.blk 1 rfl, hM.blk 0 rfl, hM.blk 4 rfl⟩ ?_
  go_frame
  refine wa_done (by kernel_rfl) ?_
  refine cn4 _ _ ?_
  clear cn4
  rcases Bool.eq_false_or_eq_true (((kidF h.side npl npr) != h.cur)) with hx1 | hx1
  rw [hx1]
  refine wp_cond_true rfl ?_
  refine wl_region ?_
  refine wl_pure (by kernel_rfl) (.pointer (some ⟨g2, 0, none⟩)) (by kernel_rfl) ?_
  go_frame
  refine wl_storec (by kernel_rfl) hM 4 rfl 2 _ _ rfl rfl 0 rfl (.int .i64 26) rfl rfl rfl I_int64 (by simp [HD.cells]) ?_
  clear hM; intro W11 hM
  refine wl_pure (by kernel_rfl) (.pointer (some ⟨g2, 13, none⟩)) (by kernel_rfl) ?_
  go_frame
  refine wl_storec (by kernel_rfl) hM 4 rfl 4 _ _ rfl rfl 13 rfl (.bool true) rfl rfl rfl I_bool (by simp [HD.cells]) ?_
  clear hM; intro W12 hM
  refine wl_nil ?_
  refine cn3 _ _ ?_
  clear cn3
  refine wp_seq_k fun Kn5 cn5 => ?_
  -- region 7, drawn: one after the other
  refine wa_start (fun w => Below w00.heap.size w00 w ∧ Blk w g1 33 [.slice (some ⟨ga0, 0, none⟩) l.length k1, .slice (some ⟨gb0, 0, none⟩) c.length k2] ∧ Blk w g2 36 (HD.cells { h with at_ := 26, again := true })) 4 rfl (by kernel_rfl) ?_
  replace hM := hM.drew
  refine wa_take 0 (some 51) (.agg #[.slice (some ⟨ga0, 0, none⟩) l.length k1, .slice (some ⟨gb0, 0, none⟩) c.length k2]) rfl rfl (by kernel_rfl) (by kernel_rfl) (by kernel_rfl) (fun _ _ _ h => h) (by kernel_rfl) (fun w hS => r_load hS.2.1 33 _ rfl rfl Try.underlying33 I_impl_Shared) ⟨hM.below, hM.blk 5 rfl, hM.blk 4 rfl⟩ ?_
  go_frame
  refine wa_take 1 (some 52) (.agg (HD.cells { h with at_ := 26, again := true }).toArray) rfl rfl (by kernel_rfl) (by kernel_rfl) (by kernel_rfl) (fun _ _ _ h => h) (by kernel_rfl) (fun w hS => r_load hS.2.2 36 _ rfl rfl Try.underlying36 I_impl_Hand) ⟨hM.below, hM.blk 5 rfl, hM.blk 4 rfl⟩ ?_
  go_frame
  refine wa_one 2 (by kernel_rfl) ?_
  refine wo_store rfl (by kernel_rfl) hM 3 rfl 33 _ _ rfl rfl (by kernel_rfl) [.slice (some ⟨ga0, 0, none⟩) l.length k1, .slice (some ⟨gb0, 0, none⟩) c.length k2] (by kernel_rfl) I_impl_Shared rfl rfl ?_
  clear hM; intro W13 hM
  refine ⟨⟨hM.below, hM.blk 5 rfl, hM.blk 4 rfl⟩, ?_⟩
  refine wa_one 3 (by kernel_rfl) ?_
  refine wo_store rfl (by kernel_rfl) hM 2 rfl 36 _ _ rfl rfl (by kernel_rfl) (HD.cells { h with at_ := 26, again := true }) (by kernel_rfl) I_impl_Hand rfl (hd_one' _) ?_
  clear hM; intro W14 hM
  refine ⟨⟨hM.below, hM.blk 5 rfl, hM.blk 4 rfl⟩, ?_⟩
  refine wa_done (by kernel_rfl) ?_
  refine cn5 _ _ ?_
  clear cn5
  refine wp_ret ?_
  have hR : TR.done l (checkCutH l h) = .done l { h with at_ := 26, again := true } := by simp [checkCutH, againH, hx1, npe, tnp, nce, tnc]
  rw [hR]
  have hN : (l : List ND).length = l.length := by first | rfl | simp
  refine bodyPost_ret (ret_sh (p := 6) (q := 7) rfl hM 3 2 rfl rfl rfl rfl Try.underlying33 Try.underlying36 I_impl_Shared I_impl_Hand) rfl (saysg_done ⟨ga0, k1, p1, congrArg (fun n : Nat => Ending.returned (.tuple #[.agg #[.slice (some ⟨ga0, 0, none⟩) n k1, .slice (some ⟨gb0, 0, none⟩) c.length k2], HD.val _])) hN.symm, ⟨by rw [hN]; exact q1, q2, q5⟩, ?_⟩)
  exact hM.sub (fun i => i + 6) (fun i b hb => hb) (fun i j _ _ e => by omega)
  rw [hx1]
  refine wp_cond_false rfl ?_
  refine wp_seq_k fun Kn5 cn5 => ?_
  refine wl_region ?_
  refine wl_pure (by kernel_rfl) (.pointer (some ⟨g6, 2, none⟩)) (by kernel_rfl) ?_
  go_frame
  refine wl_loadc (by kernel_rfl) hM 0 rfl 2 _ rfl 2 rfl Try.underlying2 rfl rfl ?_
  go_frame
  refine wl_pure (by kernel_rfl) (.bool (ncl != 0)) (by kernel_rfl) ?_
  go_frame
  refine wl_pure (by kernel_rfl) (.bool (ncl != 0)) (by kernel_rfl) ?_
  go_frame
  rcases Bool.eq_false_or_eq_true ((ncl != 0)) with hx3 | hx3
  rw [hx3]
  have hnz1_ncl : (ncl == 0) = false := by simpa using hx3
  refine wl_pure (by kernel_rfl) (.pointer (some ⟨g6, 3, none⟩)) (by kernel_rfl) ?_
  go_frame
  refine wl_loadc (by kernel_rfl) hM 0 rfl 2 _ rfl 3 rfl Try.underlying2 rfl rfl ?_
  go_frame
  refine wl_pure (by kernel_rfl) (.bool (ncr != 0)) (by kernel_rfl) ?_
  go_frame
  refine wl_pure (by kernel_rfl) (.bool (ncr != 0)) (by kernel_rfl) ?_
  go_frame
  refine wl_pure (by kernel_rfl) (.bool (ncr != 0)) (by kernel_rfl) ?_
  go_frame
  refine wl_nil ?_
  refine cn5 _ _ ?_
  clear cn5
  rcases Bool.eq_false_or_eq_true ((ncr != 0)) with hx4 | hx4
  rw [hx4]
  have hnz2_ncr : (ncr == 0) = false := by simpa using hx4
  refine wp_cond_true rfl ?_
  refine wl_region ?_
  refine wl_pure (by kernel_rfl) (.pointer (some ⟨g2, 0, none⟩)) (by kernel_rfl) ?_
  go_frame
  refine wl_storec (by kernel_rfl) hM 4 rfl 2 _ _ rfl rfl 0 rfl (.int .i64 14) rfl rfl rfl I_int64 (by simp [HD.cells]) ?_
  clear hM; intro W11 hM
  refine wl_nil ?_
  refine cn3 _ _ ?_
  clear cn3
  refine wp_seq_k fun Kn6 cn6 => ?_
  -- region 7, drawn: one after the other
  refine wa_start (fun w => Below w00.heap.size w00 w ∧ Blk w g1 33 [.slice (some ⟨ga0, 0, none⟩) l.length k1, .slice (some ⟨gb0, 0, none⟩) c.length k2] ∧ Blk w g2 36 (HD.cells { h with at_ := 14 })) 4 rfl (by kernel_rfl) ?_
  replace hM := hM.drew
  refine wa_take 0 (some 51) (.agg #[.slice (some ⟨ga0, 0, none⟩) l.length k1, .slice (some ⟨gb0, 0, none⟩) c.length k2]) rfl rfl (by kernel_rfl) (by kernel_rfl) (by kernel_rfl) (fun _ _ _ h => h) (by kernel_rfl) (fun w hS => r_load hS.2.1 33 _ rfl rfl Try.underlying33 I_impl_Shared) ⟨hM.below, hM.blk 5 rfl, hM.blk 4 rfl⟩ ?_
  go_frame
  refine wa_take 1 (some 52) (.agg (HD.cells { h with at_ := 14 }).toArray) rfl rfl (by kernel_rfl) (by kernel_rfl) (by kernel_rfl) (fun _ _ _ h => h) (by kernel_rfl) (fun w hS => r_load hS.2.2 36 _ rfl rfl Try.underlying36 I_impl_Hand) ⟨hM.below, hM.blk 5 rfl, hM.blk 4 rfl⟩ ?_
  go_frame
  refine wa_one 2 (by kernel_rfl) ?_
  refine wo_store rfl (by kernel_rfl) hM 3 rfl 33 _ _ rfl rfl (by kernel_rfl) [.slice (some ⟨ga0, 0, none⟩) l.length k1, .slice (some ⟨gb0, 0, none⟩) c.length k2] (by kernel_rfl) I_impl_Shared rfl rfl ?_
  clear hM; intro W12 hM
  refine ⟨⟨hM.below, hM.blk 5 rfl, hM.blk 4 rfl⟩, ?_⟩
  refine wa_one 3 (by kernel_rfl) ?_
  refine wo_store rfl (by kernel_rfl) hM 2 rfl 36 _ _ rfl rfl (by kernel_rfl) (HD.cells { h with at_ := 14 }) (by kernel_rfl) I_impl_Hand rfl (hd_one' _) ?_
  clear hM; intro W13 hM
  refine ⟨⟨hM.below, hM.blk 5 rfl, hM.blk 4 rfl⟩, ?_⟩
  refine wa_done (by kernel_rfl) ?_
  refine cn6 _ _ ?_
  clear cn6
  refine wp_ret ?_
  have hR : TR.done l (checkCutH l h) = .done l { h with at_ := 14 } := by simp [checkCutH, againH, hx1, hx3, hx4, npe, tnp, nce, tnc, hnz1_ncl, hnz2_ncr]
  rw [hR]
  have hN : (l : List ND).length = l.length := by first | rfl | simp
  refine bodyPost_ret (ret_sh (p := 6) (q := 7) rfl hM 3 2 rfl rfl rfl rfl Try.underlying33 Try.underlying36 I_impl_Shared I_impl_Hand) rfl (saysg_done ⟨ga0, k1, p1, congrArg (fun n : Nat => Ending.returned (.tuple #[.agg #[.slice (some ⟨ga0, 0, none⟩) n k1, .slice (some ⟨gb0, 0, none⟩) c.length k2], HD.val _])) hN.symm, ⟨by rw [hN]; exact q1, q2, q5⟩, ?_⟩)
  exact hM.sub (fun i => i + 6) (fun i b hb => hb) (fun i j _ _ e => by omega)
  rw [hx4]
  have hnz2_ncr : (ncr == 0) = true := by simpa using hx4
  refine wp_cond_false rfl ?_
  refine wl_region ?_
  refine wl_pure (by kernel_rfl) (.pointer (some ⟨g2, 0, none⟩)) (by kernel_rfl) ?_
  go_frame
  refine wl_storec (by kernel_rfl) hM 4 rfl 2 _ _ rfl rfl 0 rfl (.int .i64 11) rfl rfl rfl I_int64 (by simp [HD.cells]) ?_
  clear hM; intro W11 hM
  refine wl_nil ?_
  refine cn3 _ _ ?_
  clear cn3
  refine wp_seq_k fun Kn6 cn6 => ?_
  -- region 7, drawn: one after the other
  refine wa_start (fun w => Below w00.heap.size w00 w ∧ Blk w g1 33 [.slice (some ⟨ga0, 0, none⟩) l.length k1, .slice (some ⟨gb0, 0, none⟩) c.length k2] ∧ Blk w g2 36 (HD.cells { h with at_ := 11 })) 4 rfl (by kernel_rfl) ?_
  replace hM := hM.drew
  refine wa_take 0 (some 51) (.agg #[.slice (some ⟨ga0, 0, none⟩) l.length k1, .slice (some ⟨gb0, 0, none⟩) c.length k2]) rfl rfl (by kernel_rfl) (by kernel_rfl) (by kernel_rfl) (fun _ _ _ h => h) (by kernel_rfl) (fun w hS => r_load hS.2.1 33 _ rfl rfl Try.underlying33 I_impl_Shared) ⟨hM.below, hM.blk 5 rfl, hM.blk 4 rfl⟩ ?_
  go_frame
  refine wa_take 1 (some 52) (.agg (HD.cells { h with at_ := 11 }).toArray) rfl rfl (by kernel_rfl) (by kernel_rfl) (by kernel_rfl) (fun _ _ _ h => h) (by kernel_rfl) (fun w hS => r_load hS.2.2 36 _ rfl rfl Try.underlying36 I_impl_Hand) ⟨hM.below, hM.blk 5 rfl, hM.blk 4 rfl⟩ ?_
  go_frame
  refine wa_one 2 (by kernel_rfl) ?_
  refine wo_store rfl (by kernel_rfl) hM 3 rfl 33 _ _ rfl rfl (by kernel_rfl) [.slice (some ⟨ga0, 0, none⟩) l.length k1, .slice (some ⟨gb0, 0, none⟩) c.length k2] (by kernel_rfl) I_impl_Shared rfl rfl ?_
  clear hM; intro W12 hM
  refine ⟨⟨hM.below, hM.blk 5 rfl, hM.blk 4 rfl⟩, ?_⟩
  refine wa_one 3 (by kernel_rfl) ?_
  refine wo_store rfl (by kernel_rfl) hM 2 rfl 36 _ _ rfl rfl (by kernel_rfl) (HD.cells { h with at_ := 11 }) (by kernel_rfl) I_impl_Hand rfl (hd_one' _) ?_
  clear hM; intro W13 hM
  refine ⟨⟨hM.below, hM.blk 5 rfl, hM.blk 4 rfl⟩, ?_⟩
  refine wa_done (by kernel_rfl) ?_
  refine cn6 _ _ ?_
  clear cn6
  refine wp_ret ?_
  have hR : TR.done l (checkCutH l h) = .done l { h with at_ := 11 } := by simp [checkCutH, againH, hx1, hx3, hx4, npe, tnp, nce, tnc, hnz1_ncl, hnz2_ncr]
  rw [hR]
  have hN : (l : List ND).length = l.length := by first | rfl | simp
  refine bodyPost_ret (ret_sh (p := 6) (q := 7) rfl hM 3 2 rfl rfl rfl rfl Try.underlying33 Try.underlying36 I_impl_Shared I_impl_Hand) rfl (saysg_done ⟨ga0, k1, p1, congrArg (fun n : Nat => Ending.returned (.tuple #[.agg #[.slice (some ⟨ga0, 0, none⟩) n k1, .slice (some ⟨gb0, 0, none⟩) c.length k2], HD.val _])) hN.symm, ⟨by rw [hN]; exact q1, q2, q5⟩, ?_⟩)
  exact hM.sub (fun i => i + 6) (fun i b hb => hb) (fun i j _ _ e => by omega)
  rw [hx3]
  have hnz1_ncl : (ncl == 0) = true := by simpa using hx3
  refine wl_skip (by kernel_rfl) ?_
  go_frame
  refine wl_skip (by kernel_rfl) ?_
  go_frame
  refine wl_skip (by kernel_rfl) ?_
  go_frame
  refine wl_pure (by kernel_rfl) (.bool false) (by kernel_rfl) ?_
  go_frame
  refine wl_pure (by kernel_rfl) (.bool false) (by kernel_rfl) ?_
  go_frame
  refine wl_nil ?_
  refine cn5 _ _ ?_
  clear cn5
  refine wp_cond_false rfl ?_
  refine wl_region ?_
  refine wl_pure (by kernel_rfl) (.pointer (some ⟨g2, 0, none⟩)) (by kernel_rfl) ?_
  go_frame
  refine wl_storec (by kernel_rfl) hM 4 rfl 2 _ _ rfl rfl 0 rfl (.int .i64 11) rfl rfl rfl I_int64 (by simp [HD.cells]) ?_
  clear hM; intro W11 hM
  refine wl_nil ?_
  refine cn3 _ _ ?_
  clear cn3
  refine wp_seq_k fun Kn6 cn6 => ?_
  -- region 7, drawn: one after the other
  refine wa_start (fun w => Below w00.heap.size w00 w ∧ Blk w g1 33 [.slice (some ⟨ga0, 0, none⟩) l.length k1, .slice (some ⟨gb0, 0, none⟩) c.length k2] ∧ Blk w g2 36 (HD.cells { h with at_ := 11 })) 4 rfl (by kernel_rfl) ?_
  replace hM := hM.drew
  refine wa_take 0 (some 51) (.agg #[.slice (some ⟨ga0, 0, none⟩) l.length k1, .slice (some ⟨gb0, 0, none⟩) c.length k2]) rfl rfl (by kernel_rfl) (by kernel_rfl) (by kernel_rfl) (fun _ _ _ h => h) (by kernel_rfl) (fun w hS => r_load hS.2.1 33 _ rfl rfl Try.underlying33 I_impl_Shared) ⟨hM.below, hM.blk 5 rfl, hM.blk 4 rfl⟩ ?_
  go_frame
  refine wa_take 1 (some 52) (.agg (HD.cells { h with at_ := 11 }).toArray) rfl rfl (by kernel_rfl) (by kernel_rfl) (by kernel_rfl) (fun _ _ _ h => h) (by kernel_rfl) (fun w hS => r_load hS.2.2 36 _ rfl rfl Try.underlying36 I_impl_Hand) ⟨hM.below, hM.blk 5 rfl, hM.blk 4 rfl⟩ ?_
  go_frame
  refine wa_one 2 (by kernel_rfl) ?_
  refine wo_store rfl (by kernel_rfl) hM 3 rfl 33 _ _ rfl rfl (by kernel_rfl) [.slice (some ⟨ga0, 0, none⟩) l.length k1, .slice (some ⟨gb0, 0, none⟩) c.length k2] (by kernel_rfl) I_impl_Shared rfl rfl ?_
  clear hM; intro W12 hM
  refine ⟨⟨hM.below, hM.blk 5 rfl, hM.blk 4 rfl⟩, ?_⟩
  refine wa_one 3 (by kernel_rfl) ?_
  refine wo_store rfl (by kernel_rfl) hM 2 rfl 36 _ _ rfl rfl (by kernel_rfl) (HD.cells { h with at_ := 11 }) (by kernel_rfl) I_impl_Hand rfl (hd_one' _) ?_
  clear hM; intro W13 hM
  refine ⟨⟨hM.below, hM.blk 5 rfl, hM.blk 4 rfl⟩, ?_⟩
  refine wa_done (by kernel_rfl) ?_
  refine cn6 _ _ ?_
  clear cn6
  refine wp_ret ?_
  have hR : TR.done l (checkCutH l h) = .done l { h with at_ := 11 } := by simp [checkCutH, againH, hx1, hx3, npe, tnp, nce, tnc, hnz1_ncl]
  rw [hR]
  have hN : (l : List ND).length = l.length := by first | rfl | simp
  refine bodyPost_ret (ret_sh (p := 6) (q := 7) rfl hM 3 2 rfl rfl rfl rfl Try.underlying33 Try.underlying36 I_impl_Shared I_impl_Hand) rfl (saysg_done ⟨ga0, k1, p1, congrArg (fun n : Nat => Ending.returned (.tuple #[.agg #[.slice (some ⟨ga0, 0, none⟩) n k1, .slice (some ⟨gb0, 0, none⟩) c.length k2], HD.val _])) hN.symm, ⟨by rw [hN]; exact q1, q2, q5⟩, ?_⟩)
  exact hM.sub (fun i => i + 6) (fun i b hb => hb) (fun i j _ _ e => by omega)
  -- region 3, drawn: one after the other
  refine wa_start (fun w => Below w00.heap.size w00 w ∧ Blk w g5 52 (ND.cells ⟨npk, npv, npl, npr, npo, false, nplt, nprt⟩) ∧ Blk w g6 52 (ND.cells ⟨nck, ncv, ncl, ncr, nco, true, nclt, ncrt⟩) ∧ Blk w g2 36 (HD.cells h)) 16 rfl (by kernel_rfl) ?_
  replace hM := hM.drew
  refine wa_take 0 (some 24) (.pointer (some ⟨g5, 5, none⟩)) rfl rfl (by kernel_rfl) (by kernel_rfl) (by kernel_rfl) (fun _ _ _ h => h) (by kernel_rfl) (fun w hS => by kernel_rfl) ⟨hM.below, hM.blk 1 rfl, hM.blk 0 rfl, hM.blk 4 rfl⟩ ?_
  go_frame
  refine wa_take 1 (some 25) (.bool false) rfl rfl (by kernel_rfl) (by kernel_rfl) (by kernel_rfl) (fun _ _ _ h => h) (by kernel_rfl) (fun w hS => r_loadc hS.2.1 4 _ rfl 5 rfl Try.underlying4 rfl rfl) ⟨hM.below, hM.blk 1 rfl, hM.blk 0 rfl, hM.blk 4 rfl⟩ ?_
  go_frame
  refine wa_take 2 (some 26) (.bool false) rfl rfl (by kernel_rfl) (by kernel_rfl) (by kernel_rfl) (fun _ _ _ h => h) (by kernel_rfl) (fun w hS => by kernel_rfl) ⟨hM.below, hM.blk 1 rfl, hM.blk 0 rfl, hM.blk 4 rfl⟩ ?_
  go_frame
  refine wa_take 3 (some 27) (.pointer (some ⟨g6, 5, none⟩)) rfl rfl (by kernel_rfl) (by kernel_rfl) (by kernel_rfl) (fun _ _ _ h => h) (by kernel_rfl) (fun w hS => by kernel_rfl) ⟨hM.below, hM.blk 1 rfl, hM.blk 0 rfl, hM.blk 4 rfl⟩ ?_
  go_frame
  refine wa_take 4 (some 28) (.bool true) rfl rfl (by kernel_rfl) (by kernel_rfl) (by kernel_rfl) (fun _ _ _ h => h) (by kernel_rfl) (fun w hS => r_loadc hS.2.2.1 4 _ rfl 5 rfl Try.underlying4 rfl rfl) ⟨hM.below, hM.blk 1 rfl, hM.blk 0 rfl, hM.blk 4 rfl⟩ ?_
  go_frame
  refine wa_take 5 (some 29) (.bool true) rfl rfl (by kernel_rfl) (by kernel_rfl) (by kernel_rfl) (fun _ _ _ h => h) (by kernel_rfl) (fun w hS => by kernel_rfl) ⟨hM.below, hM.blk 1 rfl, hM.blk 0 rfl, hM.blk 4 rfl⟩ ?_
  go_frame
  refine wa_take 6 (some 30) (.bool true) rfl rfl (by kernel_rfl) (by kernel_rfl) (by kernel_rfl) (fun _ _ _ h => h) (by kernel_rfl) (fun w hS => by kernel_rfl) ⟨hM.below, hM.blk 1 rfl, hM.blk 0 rfl, hM.blk 4 rfl⟩ ?_
  go_frame
  refine wa_skip 7 (some 31) rfl rfl (by kernel_rfl) (by kernel_rfl) (by kernel_rfl) (fun _ _ _ h => h) (by kernel_rfl) ⟨hM.below, hM.blk 1 rfl, hM.blk 0 rfl, hM.blk 4 rfl⟩ ?_
  go_frame
  refine wa_skip 8 (some 32) rfl rfl (by kernel_rfl) (by kernel_rfl) (by kernel_rfl) (fun _ _ _ h => h) (by kernel_rfl) ⟨hM.below, hM.blk 1 rfl, hM.blk 0 rfl, hM.blk 4 rfl⟩ ?_
  go_frame
  refine wa_skip 9 (some 33) rfl rfl (by kernel_rfl) (by kernel_rfl) (by kernel_rfl) (fun _ _ _ h => h) (by kernel_rfl) ⟨hM.below, hM.blk 1 rfl, hM.blk 0 rfl, hM.blk 4 rfl⟩ ?_
  go_frame
  refine wa_skip 10 (some 34) rfl rfl (by kernel_rfl) (by kernel_rfl) (by kernel_rfl) (fun _ _ _ h => h) (by kernel_rfl) ⟨hM.below, hM.blk 1 rfl, hM.blk 0 rfl, hM.blk 4 rfl⟩ ?_
  go_frame
  refine wa_skip 11 (some 35) rfl rfl (by kernel_rfl) (by kernel_rfl) (by kernel_rfl) (fun _ _ _ h => h) (by kernel_rfl) ⟨hM.below, hM.blk 1 rfl, hM.blk 0 rfl, hM.blk 4 rfl⟩ ?_
  go_frame
  refine wa_skip 12 (some 36) rfl rfl (by kernel_rfl) (by kernel_rfl) (by kernel_rfl) (fun _ _ _ h => h) (by kernel_rfl) ⟨hM.below, hM.blk 1 rfl, hM.blk 0 rfl, hM.blk 4 rfl⟩ ?_
  go_frame
  refine wa_skip 13 (some 37) rfl rfl (by kernel_rfl) (by kernel_rfl) (by kernel_rfl) (fun _ _ _ h => h) (by kernel_rfl) ⟨hM.below, hM.blk 1 rfl, hM.blk 0 rfl, hM.blk 4 rfl⟩ ?_
  go_frame
  refine wa_take 14 (some 38) (.bool true) rfl rfl (by kernel_rfl) (by kernel_rfl) (by kernel_rfl) (fun _ _ _ h => h) (by kernel_rfl) (fun w hS => by kernel_rfl) ⟨hM.below, hM.blk 1 rfl, hM.blk 0 rfl, hM.blk 4 rfl⟩ ?_
  go_frame
  refine wa_take 15 (some 23) (.bool true) rfl rfl (by kernel_rfl) (by kernel_rfl) (by kernel_rfl) (fun _ _ _ h => h) (by kernel_rfl) (fun w hS => by kernel_rfl) ⟨hM.below, hM.blk 1 rfl, hM.blk 0 rfl, hM.blk 4 rfl⟩ ?_
  go_frame
  refine wa_done (by kernel_rfl) ?_
  refine cn4 _ _ ?_
  clear cn4
  refine wp_cond_true rfl ?_
  refine wl_region ?_
  refine wl_pure (by kernel_rfl) (.pointer (some ⟨g2, 0, none⟩)) (by kernel_rfl) ?_
  go_frame
  refine wl_storec (by kernel_rfl) hM 4 rfl 2 _ _ rfl rfl 0 rfl (.int .i64 26) rfl rfl rfl I_int64 (by simp [HD.cells]) ?_
  clear hM; intro W10 hM
  refine wl_pure (by kernel_rfl) (.pointer (some ⟨g2, 13, none⟩)) (by kernel_rfl) ?_
  go_frame
  refine wl_storec (by kernel_rfl) hM 4 rfl 4 _ _ rfl rfl 13 rfl (.bool true) rfl rfl rfl I_bool (by simp [HD.cells]) ?_
  clear hM; intro W11 hM
  refine wl_nil ?_
  refine cn3 _ _ ?_
  clear cn3
  refine wp_seq_k fun Kn5 cn5 => ?_
  -- region 7, drawn: one after the other
  refine wa_start (fun w => Below w00.heap.size w00 w ∧ Blk w g1 33 [.slice (some ⟨ga0, 0, none⟩) l.length k1, .slice (some ⟨gb0, 0, none⟩) c.length k2] ∧ Blk w g2 36 (HD.cells { h with at_ := 26, again := true })) 4 rfl (by kernel_rfl) ?_
  replace hM := hM.drew
  refine wa_take 0 (some 51) (.agg #[.slice (some ⟨ga0, 0, none⟩) l.length k1, .slice (some ⟨gb0, 0, none⟩) c.length k2]) rfl rfl (by kernel_rfl) (by kernel_rfl) (by kernel_rfl) (fun _ _ _ h => h) (by kernel_rfl) (fun w hS => r_load hS.2.1 33 _ rfl rfl Try.underlying33 I_impl_Shared) ⟨hM.below, hM.blk 5 rfl, hM.blk 4 rfl⟩ ?_
  go_frame
  refine wa_take 1 (some 52) (.agg (HD.cells { h with at_ := 26, again := true }).toArray) rfl rfl (by kernel_rfl) (by kernel_rfl) (by kernel_rfl) (fun _ _ _ h => h) (by kernel_rfl) (fun w hS => r_load hS.2.2 36 _ rfl rfl Try.underlying36 I_impl_Hand) ⟨hM.below, hM.blk 5 rfl, hM.blk 4 rfl⟩ ?_
  go_frame
  refine wa_one 2 (by kernel_rfl) ?_
  refine wo_store rfl (by kernel_rfl) hM 3 rfl 33 _ _ rfl rfl (by kernel_rfl) [.slice (some ⟨ga0, 0, none⟩) l.length k1, .slice (some ⟨gb0, 0, none⟩) c.length k2] (by kernel_rfl) I_impl_Shared rfl rfl ?_
  clear hM; intro W12 hM
  refine ⟨⟨hM.below, hM.blk 5 rfl, hM.blk 4 rfl⟩, ?_⟩
  refine wa_one 3 (by kernel_rfl) ?_
  refine wo_store rfl (by kernel_rfl) hM 2 rfl 36 _ _ rfl rfl (by kernel_rfl) (HD.cells { h with at_ := 26, again := true }) (by kernel_rfl) I_impl_Hand rfl (hd_one' _) ?_
  clear hM; intro W13 hM
  refine ⟨⟨hM.below, hM.blk 5 rfl, hM.blk 4 rfl⟩, ?_⟩
  refine wa_done (by kernel_rfl) ?_
  refine cn5 _ _ ?_
  clear cn5
  refine wp_ret ?_
  have hR : TR.done l (checkCutH l h) = .done l { h with at_ := 26, again := true } := by simp [checkCutH, againH, npe, tnp, nce, tnc]
  rw [hR]
  have hN : (l : List ND).length = l.length := by first | rfl | simp
  refine bodyPost_ret (ret_sh (p := 6) (q := 7) rfl hM 3 2 rfl rfl rfl rfl Try.underlying33 Try.underlying36 I_impl_Shared I_impl_Hand) rfl (saysg_done ⟨ga0, k1, p1, congrArg (fun n : Nat => Ending.returned (.tuple #[.agg #[.slice (some ⟨ga0, 0, none⟩) n k1, .slice (some ⟨gb0, 0, none⟩) c.length k2], HD.val _])) hN.symm, ⟨by rw [hN]; exact q1, q2, q5⟩, ?_⟩)
  exact hM.sub (fun i => i + 6) (fun i b hb => hb) (fun i j _ _ e => by omega)
  -- region 3, drawn: one after the other
  refine wa_start (fun w => Below w00.heap.size w00 w ∧ Blk w g5 52 (ND.cells ⟨npk, npv, npl, npr, npo, true, nplt, nprt⟩) ∧ Blk w g6 52 (ND.cells ⟨nck, ncv, ncl, ncr, nco, ncg, nclt, ncrt⟩) ∧ Blk w g2 36 (HD.cells h)) 16 rfl (by kernel_rfl) ?_
  replace hM := hM.drew
  refine wa_take 0 (some 24) (.pointer (some ⟨g5, 5, none⟩)) rfl rfl (by kernel_rfl) (by kernel_rfl) (by kernel_rfl) (fun _ _ _ h => h) (by kernel_rfl) (fun w hS => by kernel_rfl) ⟨hM.below, hM.blk 1 rfl, hM.blk 0 rfl, hM.blk 4 rfl⟩ ?_
  go_frame
  refine wa_take 1 (some 25) (.bool true) rfl rfl (by kernel_rfl) (by kernel_rfl) (by kernel_rfl) (fun _ _ _ h => h) (by kernel_rfl) (fun w hS => r_loadc hS.2.1 4 _ rfl 5 rfl Try.underlying4 rfl rfl) ⟨hM.below, hM.blk 1 rfl, hM.blk 0 rfl, hM.blk 4 rfl⟩ ?_
  go_frame
  refine wa_take 2 (some 26) (.bool true) rfl rfl (by kernel_rfl) (by kernel_rfl) (by kernel_rfl) (fun _ _ _ h => h) (by kernel_rfl) (fun w hS => by kernel_rfl) ⟨hM.below, hM.blk 1 rfl, hM.blk 0 rfl, hM.blk 4 rfl⟩ ?_
  go_frame
  refine wa_skip 3 (some 27) rfl rfl (by kernel_rfl) (by kernel_rfl) (by kernel_rfl) (fun _ _ _ h => h) (by kernel_rfl) ⟨hM.below, hM.blk 1 rfl, hM.blk 0 rfl, hM.blk 4 rfl⟩ ?_
  go_frame
  refine wa_skip 4 (some 28) rfl rfl (by kernel_rfl) (by kernel_rfl) (by kernel_rfl) (fun _ _ _ h => h) (by kernel_rfl) ⟨hM.below, hM.blk 1 rfl, hM.blk 0 rfl, hM.blk 4 rfl⟩ ?_
  go_frame
  refine wa_take 5 (some 29) (.bool true) rfl rfl (by kernel_rfl) (by kernel_rfl) (by kernel_rfl) (fun _ _ _ h => h) (by kernel_rfl) (fun w hS => by kernel_rfl) ⟨hM.below, hM.blk 1 rfl, hM.blk 0 rfl, hM.blk 4 rfl⟩ ?_
  go_frame
  refine wa_take 6 (some 30) (.bool true) rfl rfl (by kernel_rfl) (by kernel_rfl) (by kernel_rfl) (fun _ _ _ h => h) (by kernel_rfl) (fun w hS => by kernel_rfl) ⟨hM.below, hM.blk 1 rfl, hM.blk 0 rfl, hM.blk 4 rfl⟩ ?_
  go_frame
  refine wa_skip 7 (some 31) rfl rfl (by kernel_rfl) (by kernel_rfl) (by kernel_rfl) (fun _ _ _ h => h) (by kernel_rfl) ⟨hM.below, hM.blk 1 rfl, hM.blk 0 rfl, hM.blk 4 rfl⟩ ?_
  go_frame
  refine wa_skip 8 (some 32) rfl rfl (by kernel_rfl) (by kernel_rfl) (by kernel_rfl) (fun _ _ _ h => h) (by kernel_rfl) ⟨hM.below, hM.blk 1 rfl, hM.blk 0 rfl, hM.blk 4 rfl⟩ ?_
  go_frame
  refine wa_skip 9 (some 33) rfl rfl (by kernel_rfl) (by kernel_rfl) (by kernel_rfl) (fun _ _ _ h => h) (by kernel_rfl) ⟨hM.below, hM.blk 1 rfl, hM.blk 0 rfl, hM.blk 4 rfl⟩ ?_
  go_frame
  refine wa_skip 10 (some 34) rfl rfl (by kernel_rfl) (by kernel_rfl) (by kernel_rfl) (fun _ _ _ h => h) (by kernel_rfl) ⟨hM.below, hM.blk 1 rfl, hM.blk 0 rfl, hM.blk 4 rfl⟩ ?_
  go_frame
  refine wa_skip 11 (some 35) rfl rfl (by kernel_rfl) (by kernel_rfl) (by kernel_rfl) (fun _ _ _ h => h) (by kernel_rfl) ⟨hM.below, hM.blk 1 rfl, hM.blk 0 rfl, hM.blk 4 rfl⟩ ?_
  go_frame
  refine wa_skip 12 (some 36) rfl rfl (by kernel_rfl) (by kernel_rfl) (by kernel_rfl) (fun _ _ _ h => h) (by kernel_rfl) ⟨hM.below, hM.blk 1 rfl, hM.blk 0 rfl, hM.blk 4 rfl⟩ ?_
  go_frame
  refine wa_skip 13 (some 37) rfl rfl (by kernel_rfl) (by kernel_rfl) (by kernel_rfl) (fun _ _ _ h => h) (by kernel_rfl) ⟨hM.below, hM.blk 1 rfl, hM.blk 0 rfl, hM.blk 4 rfl⟩ ?_
  go_frame
  refine wa_take 14 (some 38) (.bool true) rfl rfl (by kernel_rfl) (by kernel_rfl) (by kernel_rfl) (fun _ _ _ h => h) (by kernel_rfl) (fun w hS => by kernel_rfl) ⟨hM.below, hM.blk 1 rfl, hM.blk 0 rfl, hM.blk 4 rfl⟩ ?_
  go_frame
  refine wa_take 15 (some 23) (.bool true) rfl rfl (by kernel_rfl) (by kernel_rfl) (by kernel_rfl) (fun _ _ _ h => h) (by kernel_rfl) (fun w hS => by kernel_rfl) ⟨hM.below, hM.blk 1 rfl, hM.blk 0 rfl, hM.blk 4 rfl⟩ ?_
  go_frame
  refine wa_done (by kernel_rfl) ?_
  refine cn4 _ _ ?_
  clear cn4
  refine wp_cond_true rfl ?_
  refine wl_region ?_
  refine wl_pure (by kernel_rfl) (.pointer (some ⟨g2, 0, none⟩)) (by kernel_rfl) ?_
  go_frame
  refine wl_storec (by kernel_rfl) hM 4 rfl 2 _ _ rfl rfl 0 rfl (.int .i64 26) rfl rfl rfl I_int64 (by simp [HD.cells]) ?_
  clear hM; intro W10 hM
  refine wl_pure (by kernel_rfl) (.pointer (some ⟨g2, 13, none⟩)) (by kernel_rfl) ?_
  go_frame
  refine wl_storec (by kernel_rfl) hM 4 rfl 4 _ _ rfl rfl 13 rfl (.bool true) rfl rfl rfl I_bool (by simp [HD.cells]) ?_
  clear hM; intro W11 hM
  refine wl_nil ?_
  refine cn3 _ _ ?_
  clear cn3
  refine wp_seq_k fun Kn5 cn5 => ?_
  -- region 7, drawn: one after the other
  refine wa_start (fun w => Below w00.heap.size w00 w ∧ Blk w g1 33 [.slice (some ⟨ga0, 0, none⟩) l.length k1, .slice (some ⟨gb0, 0, none⟩) c.length k2] ∧ Blk w g2 36 (HD.cells { h with at_ := 26, again := true })) 4 rfl (by kernel_rfl) ?_
  replace hM := hM.drew
  refine wa_take 0 (some 51) (.agg #[.slice (some ⟨ga0, 0, none⟩) l.length k1, .slice (some ⟨gb0, 0, none⟩) c.length k2]) rfl rfl (by kernel_rfl) (by kernel_rfl) (by kernel_rfl) (fun _ _ _ h => h) (by kernel_rfl) (fun w hS => r_load hS.2.1 33 _ rfl rfl Try.underlying33 I_impl_Shared) ⟨hM.below, hM.blk 5 rfl, hM.blk 4 rfl⟩ ?_
  go_frame
  refine wa_take 1 (some 52) (.agg (HD.cells { h with at_ := 26, again := true }).toArray) rfl rfl (by kernel_rfl) (by kernel_rfl) (by kernel_rfl) (fun _ _ _ h => h) (by kernel_rfl) (fun w hS => r_load hS.2.2 36 _ rfl rfl Try.underlying36 I_impl_Hand) ⟨hM.below, hM.blk 5 rfl, hM.blk 4 rfl⟩ ?_
  go_frame
  refine wa_one 2 (by kernel_rfl) ?_
  refine wo_store rfl (by kernel_rfl) hM 3 rfl 33 _ _ rfl rfl (by kernel_rfl) [.slice (some ⟨ga0, 0, none⟩) l.length k1, .slice (some ⟨gb0, 0, none⟩) c.length k2] (by kernel_rfl) I_impl_Shared rfl rfl ?_
  clear hM; intro W12 hM
  refine ⟨⟨hM.below, hM.blk 5 rfl, hM.blk 4 rfl⟩, ?_⟩
  refine wa_one 3 (by kernel_rfl) ?_
  refine wo_store rfl (by kernel_rfl) hM 2 rfl 36 _ _ rfl rfl (by kernel_rfl) (HD.cells { h with at_ := 26, again := true }) (by kernel_rfl) I_impl_Hand rfl (hd_one' _) ?_
  clear hM; intro W13 hM
  refine ⟨⟨hM.below, hM.blk 5 rfl, hM.blk 4 rfl⟩, ?_⟩
  refine wa_done (by kernel_rfl) ?_
  refine cn5 _ _ ?_
  clear cn5
  refine wp_ret ?_
  have hR : TR.done l (checkCutH l h) = .done l { h with at_ := 26, again := true } := by simp [checkCutH, againH, npe, tnp, nce, tnc]
  rw [hR]
  have hN : (l : List ND).length = l.length := by first | rfl | simp
  refine bodyPost_ret (ret_sh (p := 6) (q := 7) rfl hM 3 2 rfl rfl rfl rfl Try.underlying33 Try.underlying36 I_impl_Shared I_impl_Hand) rfl (saysg_done ⟨ga0, k1, p1, congrArg (fun n : Nat => Ending.returned (.tuple #[.agg #[.slice (some ⟨ga0, 0, none⟩) n k1, .slice (some ⟨gb0, 0, none⟩) c.length k2], HD.val _])) hN.symm, ⟨by rw [hN]; exact q1, q2, q5⟩, ?_⟩)
  exact hM.sub (fun i => i + 6) (fun i b hb => hb) (fun i j _ _ e => by omega)
  refine wa_start (fun w => Below w00.heap.size w00 w ∧ Blk w g1 33 [.slice (some ⟨ga0, 0, none⟩) l.length k1, .slice (some ⟨gb0, 0, none⟩) c.length k2] ∧ Blk w g2 36 (HD.cells h) ∧ Blk w ga0 52 (cellsOf l ++ p1)) 16 rfl (by kernel_rfl) ?_
  replace hM := hM.drew
  refine wa_take 0 (some 10) (.pointer (some ⟨g1, 0, none⟩)) rfl rfl (by kernel_rfl) (by kernel_rfl) (by kernel_rfl) (fun _ _ _ h => h) (by kernel_rfl) (fun w hS => by kernel_rfl) ⟨hM.below, hM.blk 3 rfl, hM.blk 2 rfl, hM.blk 4 rfl⟩ ?_
  go_frame
  refine wa_take 1 (some 11) (.slice (some ⟨ga0, 0, none⟩) l.length k1) rfl rfl (by kernel_rfl) (by kernel_rfl) (by kernel_rfl) (fun _ _ _ h => h) (by kernel_rfl) (fun w hS => r_loadc hS.2.1 31 _ rfl 0 rfl Try.underlying31 rfl rfl) ⟨hM.below, hM.blk 3 rfl, hM.blk 2 rfl, hM.blk 4 rfl⟩ ?_
  go_frame
  refine wa_take 2 (some 12) (.pointer (some ⟨g2, 4, none⟩)) rfl rfl (by kernel_rfl) (by kernel_rfl) (by kernel_rfl) (fun _ _ _ h => h) (by kernel_rfl) (fun w hS => by kernel_rfl) ⟨hM.below, hM.blk 3 rfl, hM.blk 2 rfl, hM.blk 4 rfl⟩ ?_
  go_frame
  refine wa_take 3 (some 13) (.int .i64 h.prev) rfl rfl (by kernel_rfl) (by kernel_rfl) (by kernel_rfl) (fun _ _ _ h => h) (by kernel_rfl) (fun w hS => r_loadc hS.2.2.1 2 _ rfl 4 rfl Try.underlying2 rfl rfl) ⟨hM.below, hM.blk 3 rfl, hM.blk 2 rfl, hM.blk 4 rfl⟩ ?_
  go_frame
  refine wa_take 4 (some 14) (.pointer (some ⟨ga0, 0 + knp * 8, none⟩)) rfl rfl (by kernel_rfl) (by kernel_rfl) (by kernel_rfl) (fun _ _ _ h => h) (by kernel_rfl) (fun w hS => r_index 31 52 _ _ rfl ga0 0 l.length k1 8 knp rfl rfl hknp (by omega) Try.underlying31 I_impl_Node) ⟨hM.below, hM.blk 3 rfl, hM.blk 2 rfl, hM.blk 4 rfl⟩ ?_
  go_frame
  refine wa_take 5 (some 15) (.agg (ND.cells ⟨npk, npv, npl, npr, npo, npg, nplt, nprt⟩).toArray) rfl rfl (by kernel_rfl) (by kernel_rfl) (by kernel_rfl) (fun _ _ _ h => h) (by kernel_rfl) (fun w hS => r_part hS.2.2.2 52 _ rfl (0 + knp * 8) rfl Try.underlying52 (ND.cells ⟨npk, npv, npl, npr, npo, npg, nplt, nprt⟩) I_impl_Node (node_part hnnp)) ⟨hM.below, hM.blk 3 rfl, hM.blk 2 rfl, hM.blk 4 rfl⟩ ?_
  go_frame
  refine wa_take 6 (some 16) (.pointer (some ⟨g1, 0, none⟩)) rfl rfl (by kernel_rfl) (by kernel_rfl) (by kernel_rfl) (fun _ _ _ h => h) (by kernel_rfl) (fun w hS => by kernel_rfl) ⟨hM.below, hM.blk 3 rfl, hM.blk 2 rfl, hM.blk 4 rfl⟩ ?_
  go_frame
  refine wa_take 7 (some 17) (.slice (some ⟨ga0, 0, none⟩) l.length k1) rfl rfl (by kernel_rfl) (by kernel_rfl) (by kernel_rfl) (fun _ _ _ h => h) (by kernel_rfl) (fun w hS => r_loadc hS.2.1 31 _ rfl 0 rfl Try.underlying31 rfl rfl) ⟨hM.below, hM.blk 3 rfl, hM.blk 2 rfl, hM.blk 4 rfl⟩ ?_
  go_frame
  refine wa_take 8 (some 18) (.pointer (some ⟨g2, 5, none⟩)) rfl rfl (by kernel_rfl) (by kernel_rfl) (by kernel_rfl) (fun _ _ _ h => h) (by kernel_rfl) (fun w hS => by kernel_rfl) ⟨hM.below, hM.blk 3 rfl, hM.blk 2 rfl, hM.blk 4 rfl⟩ ?_
  go_frame
  refine wa_take 9 (some 19) (.int .i64 h.cur) rfl rfl (by kernel_rfl) (by kernel_rfl) (by kernel_rfl) (fun _ _ _ h => h) (by kernel_rfl) (fun w hS => r_loadc hS.2.2.1 2 _ rfl 5 rfl Try.underlying2 rfl rfl) ⟨hM.below, hM.blk 3 rfl, hM.blk 2 rfl, hM.blk 4 rfl⟩ ?_
  go_frame
  refine wa_take 10 (some 20) (.pointer (some ⟨ga0, 0 + knc * 8, none⟩)) rfl rfl (by kernel_rfl) (by kernel_rfl) (by kernel_rfl) (fun _ _ _ h => h) (by kernel_rfl) (fun w hS => r_index 31 52 _ _ rfl ga0 0 l.length k1 8 knc rfl rfl hknc (by omega) Try.underlying31 I_impl_Node) ⟨hM.below, hM.blk 3 rfl, hM.blk 2 rfl, hM.blk 4 rfl⟩ ?_
  go_frame
  refine wa_take 11 (some 21) (.agg (ND.cells ⟨nck, ncv, ncl, ncr, nco, ncg, nclt, ncrt⟩).toArray) rfl rfl (by kernel_rfl) (by kernel_rfl) (by kernel_rfl) (fun _ _ _ h => h) (by kernel_rfl) (fun w hS => r_part hS.2.2.2 52 _ rfl (0 + knc * 8) rfl Try.underlying52 (ND.cells ⟨nck, ncv, ncl, ncr, nco, ncg, nclt, ncrt⟩) I_impl_Node (node_part hnnc)) ⟨hM.below, hM.blk 3 rfl, hM.blk 2 rfl, hM.blk 4 rfl⟩ ?_
  go_frame
  refine wa_two 12 13 (by kernel_rfl) ?_ ?_
  refine wo_alloc (some 8) rfl rfl (by kernel_rfl) hM 52 rfl [.int .i64 0, .int .i64 0, .int .i64 0, .int .i64 0, .int .i64 0, .bool false, .int .i64 0, .int .i64 0] Z_impl_Node ?_
  clear hM; intro g5 W5 hM
  refine ⟨⟨hM.below, hM.blk 4 rfl, hM.blk 3 rfl, hM.blk 5 rfl⟩, ?_⟩
  go_frame
  refine wa_one 13 (by kernel_rfl) ?_
  refine wo_alloc (some 9) rfl rfl (by kernel_rfl) hM 52 rfl [.int .i64 0, .int .i64 0, .int .i64 0, .int .i64 0, .int .i64 0, .bool false, .int .i64 0, .int .i64 0] Z_impl_Node ?_
  clear hM; intro g6 W6 hM
  refine ⟨⟨hM.below, hM.blk 5 rfl, hM.blk 4 rfl, hM.blk 6 rfl⟩, ?_⟩
  go_frame
  refine wa_one 14 (by kernel_rfl) ?_
  refine wo_store rfl (by kernel_rfl) hM 1 rfl 52 _ _ rfl rfl (by kernel_rfl) (ND.cells ⟨npk, npv, npl, npr, npo, npg, nplt, nprt⟩) (by kernel_rfl) I_impl_Node rfl (nd_one _) ?_
  clear hM; intro W7 hM
  refine ⟨⟨hM.below, hM.blk 5 rfl, hM.blk 4 rfl, hM.blk 6 rfl⟩, ?_⟩
  refine wa_one 15 (by kernel_rfl) ?_
  refine wo_store rfl (by kernel_rfl) hM 0 rfl 52 _ _ rfl rfl (by kernel_rfl) (ND.cells ⟨nck, ncv, ncl, ncr, nco, ncg, nclt, ncrt⟩) (by kernel_rfl) I_impl_Node rfl (nd_one _) ?_
  clear hM; intro W8 hM
  refine ⟨⟨hM.below, hM.blk 5 rfl, hM.blk 4 rfl, hM.blk 6 rfl⟩, ?_⟩
  refine wa_doneJ (by kernel_rfl) ?_
  exact ⟨g6, g5, rfl, hM⟩
  refine wo_alloc (some 9) rfl rfl (by kernel_rfl) hM 52 rfl [.int .i64 0, .int .i64 0, .int .i64 0, .int .i64 0, .int .i64 0, .bool false, .int .i64 0, .int .i64 0] Z_impl_Node ?_
  clear hM; intro g5 W5 hM
  refine ⟨⟨hM.below, hM.blk 4 rfl, hM.blk 3 rfl, hM.blk 5 rfl⟩, ?_⟩
  go_frame
  refine wa_one 12 (by kernel_rfl) ?_
  refine wo_alloc (some 8) rfl rfl (by kernel_rfl) hM 52 rfl [.int .i64 0, .int .i64 0, .int .i64 0, .int .i64 0, .int .i64 0, .bool false, .int .i64 0, .int .i64 0] Z_impl_Node ?_
  clear hM; intro g6 W6 hM
  refine ⟨⟨hM.below, hM.blk 5 rfl, hM.blk 4 rfl, hM.blk 6 rfl⟩, ?_⟩
  go_frame
  refine wa_one 14 (by kernel_rfl) ?_
  refine wo_store rfl (by kernel_rfl) hM 0 rfl 52 _ _ rfl rfl (by kernel_rfl) (ND.cells ⟨npk, npv, npl, npr, npo, npg, nplt, nprt⟩) (by kernel_rfl) I_impl_Node rfl (nd_one _) ?_
  clear hM; intro W7 hM
  refine ⟨⟨hM.below, hM.blk 5 rfl, hM.blk 4 rfl, hM.blk 6 rfl⟩, ?_⟩
  refine wa_one 15 (by kernel_rfl) ?_
  refine wo_store rfl (by kernel_rfl) hM 1 rfl 52 _ _ rfl rfl (by kernel_rfl) (ND.cells ⟨nck, ncv, ncl, ncr, nco, ncg, nclt, ncrt⟩) (by kernel_rfl) I_impl_Node rfl (nd_one _) ?_
  clear hM; intro W8 hM
  refine ⟨⟨hM.below, hM.blk 5 rfl, hM.blk 4 rfl, hM.blk 6 rfl⟩, ?_⟩
  refine wa_doneJ (by kernel_rfl) ?_
  replace hM := hM.pull 0 rfl
  replace hM := hM.pull 1 rfl
  exact ⟨g5, g6, rfl, hM⟩

set_option maxRecDepth 100000 in
set_option maxHeartbeats 4000000 in
theorem impl_markCur (l : List ND) (c : List Int) (task : Int) (h : HD) (hok : canB l c task h = true) : TouchG 53 l c task h (markT l h) := by
  intro ga0 k1 p1 gb0 k2 p2 L w00 w0 hM0 q1 q2 q3 q4 q5 q6
  obtain ⟨hl0, hc0, hl1, hc1, hat, kt, hkt0, hkt, hcnt, hnodes, qnp, qnc, qnu, qnx, qnw⟩ := ok_facts (can_ok hok)
  have ht : task.toNat = kt := by omega
  have hl30 := (nodes_some hnodes).2
  have hl : l.length ≤ 1048576 := by omega
  obtain ⟨knc, ⟨nck, ncv, ncl, ncr, nco, ncg, nclt, ncrt⟩, hknc, nce, hlnc, hnnc⟩ := nd_at qnc
  have tnc : h.cur.toNat = knc := by omega
  unfold HD.val
  have hM := hM0
  go_enter Try.func53, Try.ntmps53
  refine wp_seq_k fun Kn1 cn1 => ?_
  refine wl_region ?_
  refine wl_box (by kernel_rfl) hM 33 _ rfl [.slice (some ⟨ga0, 0, none⟩) l.length k1, .slice (some ⟨gb0, 0, none⟩) c.length k2] rfl ?_
  clear hM; intro g1 W1 hM
  go_frame
  refine wl_box (by kernel_rfl) hM 36 _ rfl (HD.cells h) rfl ?_
  clear hM; intro g2 W2 hM
  go_frame
  refine wl_alloc (by kernel_rfl) hM 33 rfl [.slice none 0 0, .slice none 0 0] Z_impl_Shared ?_
  clear hM; intro g3 W3 hM
  go_frame
  refine wl_alloc (by kernel_rfl) hM 36 rfl (HD.cells HD.zero) Z_impl_Hand ?_
  clear hM; intro g4 W4 hM
  go_frame
  refine wl_nil ?_
  refine cn1 _ _ ?_
  clear cn1
  refine wp_seq_k fun Kn2 cn2 => ?_
  refine wl_region ?_
  refine wl_pure (by kernel_rfl) (.pointer (some ⟨g1, 0, none⟩)) (by kernel_rfl) ?_
  go_frame
  refine wl_loadc (by kernel_rfl) hM 3 rfl 31 _ rfl 0 rfl Try.underlying31 rfl rfl ?_
  go_frame
  refine wl_pure (by kernel_rfl) (.pointer (some ⟨g2, 5, none⟩)) (by kernel_rfl) ?_
  go_frame
  refine wl_loadc (by kernel_rfl) hM 2 rfl 2 _ rfl 5 rfl Try.underlying2 rfl rfl ?_
  go_frame
  refine wl_index (by kernel_rfl) 31 52 _ _ rfl ga0 0 l.length k1 8 knc rfl rfl hknc (by omega) Try.underlying31 I_impl_Node ?_
  go_frame
  refine wl_pure (by kernel_rfl) (.pointer (some ⟨ga0, 0 + knc * 8 + 5, none⟩)) (by kernel_rfl) ?_
  go_frame
  refine wl_storec (by kernel_rfl) hM 4 rfl 4 _ _ rfl rfl (0 + knc * 8 + 5) rfl (.bool true) rfl rfl rfl I_bool (node_room1 hlnc (by decide)) ?_
  clear hM; intro W5 hM; rw [node_set (j := 5) (n' := ⟨nck, ncv, ncl, ncr, nco, true, nclt, ncrt⟩) hnnc (by decide) rfl] at hM
  refine wl_nil ?_
  refine cn2 _ _ ?_
  clear cn2
  refine wp_seq_k fun Kn3 cn3 => ?_
  refine wl_region ?_
  refine wl_pure (by kernel_rfl) (.pointer (some ⟨g2, 0, none⟩)) (by kernel_rfl) ?_
  go_frame
  refine wl_storec (by kernel_rfl) hM 2 rfl 2 _ _ rfl rfl 0 rfl (.int .i64 12) rfl rfl rfl I_int64 (by simp [HD.cells]) ?_
  clear hM; intro W6 hM
  refine wl_nil ?_
  refine cn3 _ _ ?_
  clear cn3
  refine wp_seq_k fun Kn4 cn4 => ?_
  -- region 3, drawn: one after the other
  refine wa_start (fun w => Below w00.heap.size w00 w ∧ Blk w g1 33 [.slice (some ⟨ga0, 0, none⟩) l.length k1, .slice (some ⟨gb0, 0, none⟩) c.length k2] ∧ Blk w g2 36 (HD.cells { h with at_ := 12 })) 4 rfl (by kernel_rfl) ?_
  replace hM := hM.drew
  refine wa_take 0 (some 15) (.agg #[.slice (some ⟨ga0, 0, none⟩) l.length k1, .slice (some ⟨gb0, 0, none⟩) c.length k2]) rfl rfl (by kernel_rfl) (by kernel_rfl) (by kernel_rfl) (fun _ _ _ h => h) (by kernel_rfl) (fun w hS => r_load hS.2.1 33 _ rfl rfl Try.underlying33 I_impl_Shared) ⟨hM.below, hM.blk 3 rfl, hM.blk 2 rfl⟩ ?_
  go_frame
  refine wa_take 1 (some 16) (.agg (HD.cells { h with at_ := 12 }).toArray) rfl rfl (by kernel_rfl) (by kernel_rfl) (by kernel_rfl) (fun _ _ _ h => h) (by kernel_rfl) (fun w hS => r_load hS.2.2 36 _ rfl rfl Try.underlying36 I_impl_Hand) ⟨hM.below, hM.blk 3 rfl, hM.blk 2 rfl⟩ ?_
  go_frame
  refine wa_one 2 (by kernel_rfl) ?_
  refine wo_store rfl (by kernel_rfl) hM 1 rfl 33 _ _ rfl rfl (by kernel_rfl) [.slice (some ⟨ga0, 0, none⟩) l.length k1, .slice (some ⟨gb0, 0, none⟩) c.length k2] (by kernel_rfl) I_impl_Shared rfl rfl ?_
  clear hM; intro W7 hM
  refine ⟨⟨hM.below, hM.blk 3 rfl, hM.blk 2 rfl⟩, ?_⟩
  refine wa_one 3 (by kernel_rfl) ?_
  refine wo_store rfl (by kernel_rfl) hM 0 rfl 36 _ _ rfl rfl (by kernel_rfl) (HD.cells { h with at_ := 12 }) (by kernel_rfl) I_impl_Hand rfl (hd_one' _) ?_
  clear hM; intro W8 hM
  refine ⟨⟨hM.below, hM.blk 3 rfl, hM.blk 2 rfl⟩, ?_⟩
  refine wa_done (by kernel_rfl) ?_
  refine cn4 _ _ ?_
  clear cn4
  refine wp_ret ?_
  have hR : markT l h = .done (l.set knc ⟨nck, ncv, ncl, ncr, nco, true, nclt, ncrt⟩) { h with at_ := 12 } := by simp [markT, setK, goneN, nce, tnc]
  rw [hR]
  have hN : ((l.set knc ⟨nck, ncv, ncl, ncr, nco, true, nclt, ncrt⟩) : List ND).length = l.length := by first | rfl | simp
  refine bodyPost_ret (ret_sh (p := 6) (q := 7) rfl hM 1 0 rfl rfl rfl rfl Try.underlying33 Try.underlying36 I_impl_Shared I_impl_Hand) rfl (saysg_done ⟨ga0, k1, p1, congrArg (fun n : Nat => Ending.returned (.tuple #[.agg #[.slice (some ⟨ga0, 0, none⟩) n k1, .slice (some ⟨gb0, 0, none⟩) c.length k2], HD.val _])) hN.symm, ⟨by rw [hN]; exact q1, q2, (by rw [node_keep]; exact q5)⟩, ?_⟩)
  exact hM.sub (fun i => i + 4) (fun i b hb => hb) (fun i j _ _ e => by omega)

set_option maxRecDepth 100000 in
set_option maxHeartbeats 4000000 in
theorem impl_liftKid (l : List ND) (c : List Int) (task : Int) (h : HD) (hok : canB l c task h = true) (ha12 : h.at_ = 12) : TouchG 54 l c task h (liftT l h) := by
  intro ga0 k1 p1 gb0 k2 p2 L w00 w0 hM0 q1 q2 q3 q4 q5 q6
  obtain ⟨hl0, hc0, hl1, hc1, hat, kt, hkt0, hkt, hcnt, hnodes, qnp, qnc, qnu, qnx, qnw⟩ := ok_facts (can_ok hok)
  have ht : task.toNat = kt := by omega
  have hl30 := (nodes_some hnodes).2
  have hl : l.length ≤ 1048576 := by omega
  obtain ⟨knp, ⟨npk, npv, npl, npr, npo, npg, nplt, nprt⟩, hknp, npe, hlnp, hnnp⟩ := nd_at qnp
  have tnp : h.prev.toNat = knp := by omega
  obtain ⟨knc, ⟨nck, ncv, ncl, ncr, nco, ncg, nclt, ncrt⟩, hknc, nce, hlnc, hnnc⟩ := nd_at qnc
  have tnc : h.cur.toNat = knc := by omega
  obtain ⟨kd, hkd⟩ : ∃ k : Int, cutKid l h = k := ⟨_, rfl⟩
  have hkd' : orB ncl ncr = kd := by rw [← hkd, cutKid, nce]; rfl
  unfold HD.val
  have hM := hM0
  go_enter Try.func54, Try.ntmps54
  refine wp_seq_k fun Kn1 cn1 => ?_
  refine wl_region ?_
  refine wl_box (by kernel_rfl) hM 33 _ rfl [.slice (some ⟨ga0, 0, none⟩) l.length k1, .slice (some ⟨gb0, 0, none⟩) c.length k2] rfl ?_
  clear hM; intro g1 W1 hM
  go_frame
  refine wl_box (by kernel_rfl) hM 36 _ rfl (HD.cells h) rfl ?_
  clear hM; intro g2 W2 hM
  go_frame
  refine wl_alloc (by kernel_rfl) hM 33 rfl [.slice none 0 0, .slice none 0 0] Z_impl_Shared ?_
  clear hM; intro g3 W3 hM
  go_frame
  refine wl_alloc (by kernel_rfl) hM 36 rfl (HD.cells HD.zero) Z_impl_Hand ?_
  clear hM; intro g4 W4 hM
  go_frame
  refine wl_nil ?_
  refine cn1 _ _ ?_
  clear cn1
  refine wp_seq_k fun Kn2 cn2 => ?_
  -- region 1, drawn: one after the other
  refine wa_start (fun w => Below w00.heap.size w00 w ∧ Blk w g1 33 [.slice (some ⟨ga0, 0, none⟩) l.length k1, .slice (some ⟨gb0, 0, none⟩) c.length k2] ∧ Blk w g2 36 (HD.cells h) ∧ Blk w ga0 52 (cellsOf l ++ p1)) 17 rfl (by kernel_rfl) ?_
  replace hM := hM.drew
  refine wa_take 0 (some 9) (.pointer (some ⟨g1, 0, none⟩)) rfl rfl (by kernel_rfl) (by kernel_rfl) (by kernel_rfl) (fun _ _ _ h => h) (by kernel_rfl) (fun w hS => by kernel_rfl) ⟨hM.below, hM.blk 3 rfl, hM.blk 2 rfl, hM.blk 4 rfl⟩ ?_
  go_frame
  refine wa_take 1 (some 10) (.slice (some ⟨ga0, 0, none⟩) l.length k1) rfl rfl (by kernel_rfl) (by kernel_rfl) (by kernel_rfl) (fun _ _ _ h => h) (by kernel_rfl) (fun w hS => r_loadc hS.2.1 31 _ rfl 0 rfl Try.underlying31 rfl rfl) ⟨hM.below, hM.blk 3 rfl, hM.blk 2 rfl, hM.blk 4 rfl⟩ ?_
  go_frame
  refine wa_take 2 (some 11) (.pointer (some ⟨g2, 5, none⟩)) rfl rfl (by kernel_rfl) (by kernel_rfl) (by kernel_rfl) (fun _ _ _ h => h) (by kernel_rfl) (fun w hS => by kernel_rfl) ⟨hM.below, hM.blk 3 rfl, hM.blk 2 rfl, hM.blk 4 rfl⟩ ?_
  go_frame
  refine wa_take 3 (some 12) (.int .i64 h.cur) rfl rfl (by kernel_rfl) (by kernel_rfl) (by kernel_rfl) (fun _ _ _ h => h) (by kernel_rfl) (fun w hS => r_loadc hS.2.2.1 2 _ rfl 5 rfl Try.underlying2 rfl rfl) ⟨hM.below, hM.blk 3 rfl, hM.blk 2 rfl, hM.blk 4 rfl⟩ ?_
  go_frame
  refine wa_take 4 (some 13) (.pointer (some ⟨ga0, 0 + knc * 8, none⟩)) rfl rfl (by kernel_rfl) (by kernel_rfl) (by kernel_rfl) (fun _ _ _ h => h) (by kernel_rfl) (fun w hS => r_index 31 52 _ _ rfl ga0 0 l.length k1 8 knc rfl rfl hknc (by omega) Try.underlying31 I_impl_Node) ⟨hM.below, hM.blk 3 rfl, hM.blk 2 rfl, hM.blk 4 rfl⟩ ?_
  go_frame
  refine wa_take 5 (some 14) (.pointer (some ⟨ga0, 0 + knc * 8 + 2, none⟩)) rfl rfl (by kernel_rfl) (by kernel_rfl) (by kernel_rfl) (fun _ _ _ h => h) (by kernel_rfl) (fun w hS => by kernel_rfl) ⟨hM.below, hM.blk 3 rfl, hM.blk 2 rfl, hM.blk 4 rfl⟩ ?_
  go_frame
  refine wa_take 6 (some 15) (.int .i64 ncl) rfl rfl (by kernel_rfl) (by kernel_rfl) (by kernel_rfl) (fun _ _ _ h => h) (by kernel_rfl) (fun w hS => r_loadc hS.2.2.2 2 _ rfl (0 + knc * 8 + 2) rfl Try.underlying2 rfl (node_cell (j := 2) hnnc rfl)) ⟨hM.below, hM.blk 3 rfl, hM.blk 2 rfl, hM.blk 4 rfl⟩ ?_
  go_frame
  refine wa_take 7 (some 16) (.pointer (some ⟨g1, 0, none⟩)) rfl rfl (by kernel_rfl) (by kernel_rfl) (by kernel_rfl) (fun _ _ _ h => h) (by kernel_rfl) (fun w hS => by kernel_rfl) ⟨hM.below, hM.blk 3 rfl, hM.blk 2 rfl, hM.blk 4 rfl⟩ ?_
  go_frame
  refine wa_take 8 (some 17) (.slice (some ⟨ga0, 0, none⟩) l.length k1) rfl rfl (by kernel_rfl) (by kernel_rfl) (by kernel_rfl) (fun _ _ _ h => h) (by kernel_rfl) (fun w hS => r_loadc hS.2.1 31 _ rfl 0 rfl Try.underlying31 rfl rfl) ⟨hM.below, hM.blk 3 rfl, hM.blk 2 rfl, hM.blk 4 rfl⟩ ?_
  go_frame
  refine wa_take 9 (some 18) (.pointer (some ⟨g2, 5, none⟩)) rfl rfl (by kernel_rfl) (by kernel_rfl) (by kernel_rfl) (fun _ _ _ h => h) (by kernel_rfl) (fun w hS => by kernel_rfl) ⟨hM.below, hM.blk 3 rfl, hM.blk 2 rfl, hM.blk 4 rfl⟩ ?_
  go_frame
  refine wa_take 10 (some 19) (.int .i64 h.cur) rfl rfl (by kernel_rfl) (by kernel_rfl) (by kernel_rfl) (fun _ _ _ h => h) (by kernel_rfl) (fun w hS => r_loadc hS.2.2.1 2 _ rfl 5 rfl Try.underlying2 rfl rfl) ⟨hM.below, hM.blk 3 rfl, hM.blk 2 rfl, hM.blk 4 rfl⟩ ?_
  go_frame
  refine wa_take 11 (some 20) (.pointer (some ⟨ga0, 0 + knc * 8, none⟩)) rfl rfl (by kernel_rfl) (by kernel_rfl) (by kernel_rfl) (fun _ _ _ h => h) (by kernel_rfl) (fun w hS => r_index 31 52 _ _ rfl ga0 0 l.length k1 8 knc rfl rfl hknc (by omega) Try.underlying31 I_impl_Node) ⟨hM.below, hM.blk 3 rfl, hM.blk 2 rfl, hM.blk 4 rfl⟩ ?_
  go_frame
  refine wa_take 12 (some 21) (.pointer (some ⟨ga0, 0 + knc * 8 + 3, none⟩)) rfl rfl (by kernel_rfl) (by kernel_rfl) (by kernel_rfl) (fun _ _ _ h => h) (by kernel_rfl) (fun w hS => by kernel_rfl) ⟨hM.below, hM.blk 3 rfl, hM.blk 2 rfl, hM.blk 4 rfl⟩ ?_
  go_frame
  refine wa_take 13 (some 22) (.int .i64 ncr) rfl rfl (by kernel_rfl) (by kernel_rfl) (by kernel_rfl) (fun _ _ _ h => h) (by kernel_rfl) (fun w hS => r_loadc hS.2.2.2 2 _ rfl (0 + knc * 8 + 3) rfl Try.underlying2 rfl (node_cell (j := 3) hnnc rfl)) ⟨hM.below, hM.blk 3 rfl, hM.blk 2 rfl, hM.blk 4 rfl⟩ ?_
  go_frame
  refine wa_one 14 (by kernel_rfl) ?_
  refine wo_buildSlice (some 23) rfl rfl (by kernel_rfl) hM 2 2 [.int .i64 ncl, .int .i64 ncr] (fun w => by kernel_rfl) ?_
  clear hM; intro g5 W5 hM
  refine ⟨⟨hM.below, hM.blk 4 rfl, hM.blk 3 rfl, hM.blk 5 rfl⟩, ?_⟩
  go_frame
  refine wa_one 15 (by kernel_rfl) ?_
  refine wo_call (some 24) rfl rfl (by kernel_rfl) 70 #[.slice (some ⟨g5, 0, none⟩) 2 2] (by kernel_rfl) (impl_or ncl ncr kd g5 _ (hM.blk 0 rfl) hkd') ?_
  rintro e W6 ⟨rfl, hb⟩
  replace hM := hM.call hb
  refine ⟨_, rfl, ⟨hM.below, hM.blk 4 rfl, hM.blk 3 rfl, hM.blk 5 rfl⟩, ?_⟩
  go_frame
  refine wa_take 16 (some 8) (.int .i64 kd) rfl rfl (by kernel_rfl) (by kernel_rfl) (by kernel_rfl) (fun _ _ _ h => h) (by kernel_rfl) (fun w hS => by kernel_rfl) ⟨hM.below, hM.blk 4 rfl, hM.blk 3 rfl, hM.blk 5 rfl⟩ ?_
  go_frame
  refine wa_done (by kernel_rfl) ?_
  refine cn2 _ _ ?_
  clear cn2
  refine wp_seq_k fun Kn3 cn3 => ?_
  -- region 2, drawn: one after the other
  refine wa_start (fun w => Below w00.heap.size w00 w ∧ Blk w g1 33 [.slice (some ⟨ga0, 0, none⟩) l.length k1, .slice (some ⟨gb0, 0, none⟩) c.length k2] ∧ Blk w g2 36 (HD.cells h)) 16 rfl (by kernel_rfl) ?_
  replace hM := hM.drew
  refine wa_take 0 (some 25) (.pointer (some ⟨g1, 0, none⟩)) rfl rfl (by kernel_rfl) (by kernel_rfl) (by kernel_rfl) (fun _ _ _ h => h) (by kernel_rfl) (fun w hS => by kernel_rfl) ⟨hM.below, hM.blk 4 rfl, hM.blk 3 rfl⟩ ?_
  go_frame
  refine wa_take 1 (some 26) (.slice (some ⟨ga0, 0, none⟩) l.length k1) rfl rfl (by kernel_rfl) (by kernel_rfl) (by kernel_rfl) (fun _ _ _ h => h) (by kernel_rfl) (fun w hS => r_loadc hS.2.1 31 _ rfl 0 rfl Try.underlying31 rfl rfl) ⟨hM.below, hM.blk 4 rfl, hM.blk 3 rfl⟩ ?_
  go_frame
  refine wa_take 2 (some 27) (.pointer (some ⟨g2, 4, none⟩)) rfl rfl (by kernel_rfl) (by kernel_rfl) (by kernel_rfl) (fun _ _ _ h => h) (by kernel_rfl) (fun w hS => by kernel_rfl) ⟨hM.below, hM.blk 4 rfl, hM.blk 3 rfl⟩ ?_
  go_frame
  refine wa_take 3 (some 28) (.int .i64 h.prev) rfl rfl (by kernel_rfl) (by kernel_rfl) (by kernel_rfl) (fun _ _ _ h => h) (by kernel_rfl) (fun w hS => r_loadc hS.2.2 2 _ rfl 4 rfl Try.underlying2 rfl rfl) ⟨hM.below, hM.blk 4 rfl, hM.blk 3 rfl⟩ ?_
  go_frame
  refine wa_take 4 (some 29) (.pointer (some ⟨g1, 0, none⟩)) rfl rfl (by kernel_rfl) (by kernel_rfl) (by kernel_rfl) (fun _ _ _ h => h) (by kernel_rfl) (fun w hS => by kernel_rfl) ⟨hM.below, hM.blk 4 rfl, hM.blk 3 rfl⟩ ?_
  go_frame
  refine wa_take 5 (some 30) (.slice (some ⟨ga0, 0, none⟩) l.length k1) rfl rfl (by kernel_rfl) (by kernel_rfl) (by kernel_rfl) (fun _ _ _ h => h) (by kernel_rfl) (fun w hS => r_loadc hS.2.1 31 _ rfl 0 rfl Try.underlying31 rfl rfl) ⟨hM.below, hM.blk 4 rfl, hM.blk 3 rfl⟩ ?_
  go_frame
  refine wa_take 6 (some 31) (.pointer (some ⟨g2, 4, none⟩)) rfl rfl (by kernel_rfl) (by kernel_rfl) (by kernel_rfl) (fun _ _ _ h => h) (by kernel_rfl) (fun w hS => by kernel_rfl) ⟨hM.below, hM.blk 4 rfl, hM.blk 3 rfl⟩ ?_
  go_frame
  refine wa_take 7 (some 32) (.int .i64 h.prev) rfl rfl (by kernel_rfl) (by kernel_rfl) (by kernel_rfl) (fun _ _ _ h => h) (by kernel_rfl) (fun w hS => r_loadc hS.2.2 2 _ rfl 4 rfl Try.underlying2 rfl rfl) ⟨hM.below, hM.blk 4 rfl, hM.blk 3 rfl⟩ ?_
  go_frame
  refine wa_take 8 (some 33) (.pointer (some ⟨ga0, 0 + knp * 8, none⟩)) rfl rfl (by kernel_rfl) (by kernel_rfl) (by kernel_rfl) (fun _ _ _ h => h) (by kernel_rfl) (fun w hS => r_index 31 52 _ _ rfl ga0 0 l.length k1 8 knp rfl rfl hknp (by omega) Try.underlying31 I_impl_Node) ⟨hM.below, hM.blk 4 rfl, hM.blk 3 rfl⟩ ?_
  go_frame
  refine wa_take 10 (some 35) (.pointer (some ⟨g2, 6, none⟩)) rfl rfl (by kernel_rfl) (by kernel_rfl) (by kernel_rfl) (fun _ _ _ h => h) (by kernel_rfl) (fun w hS => by kernel_rfl) ⟨hM.below, hM.blk 4 rfl, hM.blk 3 rfl⟩ ?_
  go_frame
  refine wa_take 11 (some 36) (.int .i64 h.side) rfl rfl (by kernel_rfl) (by kernel_rfl) (by kernel_rfl) (fun _ _ _ h => h) (by kernel_rfl) (fun w hS => r_loadc hS.2.2 2 _ rfl 6 rfl Try.underlying2 rfl rfl) ⟨hM.below, hM.blk 4 rfl, hM.blk 3 rfl⟩ ?_
  go_frame
  refine wa_take 12 (some 37) (.int .i64 kd) rfl rfl (by kernel_rfl) (by kernel_rfl) (by kernel_rfl) (fun _ _ _ h => h) (by kernel_rfl) (fun w hS => by kernel_rfl) ⟨hM.below, hM.blk 4 rfl, hM.blk 3 rfl⟩ ?_
  go_frame
  refine wa_one 9 (by kernel_rfl) ?_
  refine wo_pure (some 34) rfl rfl (by kernel_rfl) (.agg (ND.cells ⟨npk, npv, npl, npr, npo, npg, nplt, nprt⟩).toArray) (r_part (hM.blk 5 rfl) 52 _ rfl (0 + knp * 8) rfl Try.underlying52 (ND.cells ⟨npk, npv, npl, npr, npo, npg, nplt, nprt⟩) I_impl_Node (node_part hnnp)) ⟨hM.below, hM.blk 4 rfl, hM.blk 3 rfl⟩ ?_
  go_frame
  refine wa_one 13 (by kernel_rfl) ?_
  refine wo_call (some 38) rfl rfl (by kernel_rfl) 71 #[.agg (ND.cells ⟨npk, npv, npl, npr, npo, npg, nplt, nprt⟩).toArray, .int .i64 h.side, .int .i64 kd] (by kernel_rfl) (impl_WithKid npk npv npl npr npo npg nplt nprt h.side kd _) ?_
  rintro e W7 ⟨rfl, hb⟩
  replace hM := hM.call hb
  refine ⟨_, rfl, ⟨hM.below, hM.blk 4 rfl, hM.blk 3 rfl⟩, ?_⟩
  go_frame
  refine wa_take 14 (some 39) (.pointer (some ⟨ga0, 0 + knp * 8, none⟩)) rfl rfl (by kernel_rfl) (by kernel_rfl) (by kernel_rfl) (fun _ _ _ h => h) (by kernel_rfl) (fun w hS => r_index 31 52 _ _ rfl ga0 0 l.length k1 8 knp rfl rfl hknp (by omega) Try.underlying31 I_impl_Node) ⟨hM.below, hM.blk 4 rfl, hM.blk 3 rfl⟩ ?_
  go_frame
  refine wa_one 15 (by kernel_rfl) ?_
  refine wo_storep rfl (by kernel_rfl) hM 5 rfl 52 _ _ rfl rfl (0 + knp * 8) (by kernel_rfl) (ND.cells ⟨npk, npv, (leftF h.side kd npl), (rightF h.side kd npr), npo, npg, nplt, nprt⟩) (by kernel_rfl) I_impl_Node (node_room hlnp) (nd_one _) ?_
  clear hM; intro W8 hM; rw [splice_node hlnp] at hM
  refine ⟨⟨hM.below, hM.blk 4 rfl, hM.blk 3 rfl⟩, ?_⟩
  refine wa_done (by kernel_rfl) ?_
  refine cn3 _ _ ?_
  clear cn3
  refine wp_seq_k fun Kn4 cn4 => ?_
  refine wp_seq_k fun Kn5 cn5 => ?_
  refine wl_region ?_
  refine wl_pure (by kernel_rfl) (.int .i64 kd) (by kernel_rfl) ?_
  go_frame
  refine wl_pure (by kernel_rfl) (.bool (kd == 0)) (by kernel_rfl) ?_
  go_frame
  refine wl_nil ?_
  refine cn5 _ _ ?_
  clear cn5
  rcases Bool.eq_false_or_eq_true ((kd == 0)) with hx1 | hx1
  rw [hx1]
  refine wp_cond_true rfl ?_
  refine wp_seq_k fun Kn6 cn6 => ?_
  refine wl_region ?_
  refine wl_pure (by kernel_rfl) (.pointer (some ⟨g2, 0, none⟩)) (by kernel_rfl) ?_
  go_frame
  refine wl_storec (by kernel_rfl) hM 3 rfl 2 _ _ rfl rfl 0 rfl (.int .i64 13) rfl rfl rfl I_int64 (by simp [HD.cells]) ?_
  clear hM; intro W9 hM
  refine wl_nil ?_
  refine cn6 _ _ ?_
  clear cn6
  refine wp_seq_k fun Kn7 cn7 => ?_
  -- region 5, drawn: one after the other
  refine wa_start (fun w => Below w00.heap.size w00 w ∧ Blk w g1 33 [.slice (some ⟨ga0, 0, none⟩) l.length k1, .slice (some ⟨gb0, 0, none⟩) c.length k2] ∧ Blk w g2 36 (HD.cells { h with at_ := 13 })) 4 rfl (by kernel_rfl) ?_
  replace hM := hM.drew
  refine wa_take 0 (some 43) (.agg #[.slice (some ⟨ga0, 0, none⟩) l.length k1, .slice (some ⟨gb0, 0, none⟩) c.length k2]) rfl rfl (by kernel_rfl) (by kernel_rfl) (by kernel_rfl) (fun _ _ _ h => h) (by kernel_rfl) (fun w hS => r_load hS.2.1 33 _ rfl rfl Try.underlying33 I_impl_Shared) ⟨hM.below, hM.blk 4 rfl, hM.blk 3 rfl⟩ ?_
  go_frame
  refine wa_take 1 (some 44) (.agg (HD.cells { h with at_ := 13 }).toArray) rfl rfl (by kernel_rfl) (by kernel_rfl) (by kernel_rfl) (fun _ _ _ h => h) (by kernel_rfl) (fun w hS => r_load hS.2.2 36 _ rfl rfl Try.underlying36 I_impl_Hand) ⟨hM.below, hM.blk 4 rfl, hM.blk 3 rfl⟩ ?_
  go_frame
  refine wa_one 2 (by kernel_rfl) ?_
  refine wo_store rfl (by kernel_rfl) hM 2 rfl 33 _ _ rfl rfl (by kernel_rfl) [.slice (some ⟨ga0, 0, none⟩) l.length k1, .slice (some ⟨gb0, 0, none⟩) c.length k2] (by kernel_rfl) I_impl_Shared rfl rfl ?_
  clear hM; intro W10 hM
  refine ⟨⟨hM.below, hM.blk 4 rfl, hM.blk 3 rfl⟩, ?_⟩
  refine wa_one 3 (by kernel_rfl) ?_
  refine wo_store rfl (by kernel_rfl) hM 1 rfl 36 _ _ rfl rfl (by kernel_rfl) (HD.cells { h with at_ := 13 }) (by kernel_rfl) I_impl_Hand rfl (hd_one' _) ?_
  clear hM; intro W11 hM
  refine ⟨⟨hM.below, hM.blk 4 rfl, hM.blk 3 rfl⟩, ?_⟩
  refine wa_done (by kernel_rfl) ?_
  refine cn7 _ _ ?_
  clear cn7
  refine wp_ret ?_
  simp only [Exit.then, Exit.inBlock]
  have hR : liftT l h = .done (l.set knp ⟨npk, npv, (leftF h.side kd npl), (rightF h.side kd npr), npo, npg, nplt, nprt⟩) { h with at_ := 13 } := by simp [liftT, setK, withK, endH, hx1, npe, tnp, nce, tnc, hkd]
  rw [hR]
  have hN : ((l.set knp ⟨npk, npv, (leftF h.side kd npl), (rightF h.side kd npr), npo, npg, nplt, nprt⟩) : List ND).length = l.length := by first | rfl | simp
  refine bodyPost_ret (ret_sh (p := 6) (q := 7) rfl hM 2 1 rfl rfl rfl rfl Try.underlying33 Try.underlying36 I_impl_Shared I_impl_Hand) rfl (saysg_done ⟨ga0, k1, p1, congrArg (fun n : Nat => Ending.returned (.tuple #[.agg #[.slice (some ⟨ga0, 0, none⟩) n k1, .slice (some ⟨gb0, 0, none⟩) c.length k2], HD.val _])) hN.symm, ⟨by rw [hN]; exact q1, q2, (by rw [node_keep]; exact q5)⟩, ?_⟩)
  exact hM.sub (fun i => i + 5) (fun i b hb => hb) (fun i j _ _ e => by omega)
  rw [hx1]
  refine wp_cond_false rfl ?_
  refine wp_skip ?_
  refine cn4 _ _ ?_
  clear cn4
  refine wp_seq_k fun Kn6 cn6 => ?_
  refine wl_region ?_
  refine wl_load (by kernel_rfl) hM 4 rfl 33 _ rfl rfl Try.underlying33 I_impl_Shared ?_
  go_frame
  refine wl_pure (by kernel_rfl) (.int .i64 task) (by kernel_rfl) ?_
  go_frame
  refine wl_load (by kernel_rfl) hM 3 rfl 36 _ rfl rfl Try.underlying36 I_impl_Hand ?_
  go_frame
  refine wl_call (by kernel_rfl) 55 #[.agg #[.slice (some ⟨ga0, 0, none⟩) l.length k1, .slice (some ⟨gb0, 0, none⟩) c.length k2], .int .i64 task, .agg (HD.cells h).toArray] (by kernel_rfl) (impl_endCut_lift (some ⟨ga0, 0, none⟩) l.length k1 (some ⟨gb0, 0, none⟩) c.length k2 task h _ ha12) ?_
  rintro e W9 ⟨rfl, hb⟩
  refine ⟨_, rfl, ?_⟩
  replace hM := hM.call hb
  go_frame
  refine wl_pure (by kernel_rfl) (.agg #[.slice (some ⟨ga0, 0, none⟩) l.length k1, .slice (some ⟨gb0, 0, none⟩) c.length k2]) (by kernel_rfl) ?_
  go_frame
  refine wl_pure (by kernel_rfl) (.agg (HD.cells { h with at_ := 26, reply := 1 }).toArray) (by kernel_rfl) ?_
  go_frame
  refine wl_store (by kernel_rfl) hM 2 rfl 33 _ _ rfl rfl rfl [.slice (some ⟨ga0, 0, none⟩) l.length k1, .slice (some ⟨gb0, 0, none⟩) c.length k2] rfl I_impl_Shared rfl rfl ?_
  clear hM; intro W10 hM
  refine wl_store (by kernel_rfl) hM 1 rfl 36 _ _ rfl rfl rfl (HD.cells { h with at_ := 26, reply := 1 }) rfl I_impl_Hand rfl (hd_one' _) ?_
  clear hM; intro W11 hM
  refine wl_nil ?_
  refine cn6 _ _ ?_
  clear cn6
  refine wp_ret ?_
  have hR : liftT l h = .done (l.set knp ⟨npk, npv, (leftF h.side kd npl), (rightF h.side kd npr), npo, npg, nplt, nprt⟩) { h with at_ := 26, reply := 1 } := by simp [liftT, setK, withK, endH, hx1, npe, tnp, nce, tnc, hkd]
  rw [hR]
  have hN : ((l.set knp ⟨npk, npv, (leftF h.side kd npl), (rightF h.side kd npr), npo, npg, nplt, nprt⟩) : List ND).length = l.length := by first | rfl | simp
  refine bodyPost_ret (ret_sh (p := 6) (q := 7) rfl hM 2 1 rfl rfl rfl rfl Try.underlying33 Try.underlying36 I_impl_Shared I_impl_Hand) rfl (saysg_done ⟨ga0, k1, p1, congrArg (fun n : Nat => Ending.returned (.tuple #[.agg #[.slice (some ⟨ga0, 0, none⟩) n k1, .slice (some ⟨gb0, 0, none⟩) c.length k2], HD.val _])) hN.symm, ⟨by rw [hN]; exact q1, q2, (by rw [node_keep]; exact q5)⟩, ?_⟩)
  exact hM.sub (fun i => i + 5) (fun i b hb => hb) (fun i j _ _ e => by omega)

set_option maxRecDepth 100000 in
set_option maxHeartbeats 4000000 in
theorem impl_endCut (l : List ND) (c : List Int) (task : Int) (h : HD) (hok : canB l c task h = true) : TouchG 55 l c task h (bumpT l h) := by
  intro ga0 k1 p1 gb0 k2 p2 L w00 w0 hM0 q1 q2 q3 q4 q5 q6
  obtain ⟨hl0, hc0, hl1, hc1, hat, kt, hkt0, hkt, hcnt, hnodes, qnp, qnc, qnu, qnx, qnw⟩ := ok_facts (can_ok hok)
  have ht : task.toNat = kt := by omega
  have hl30 := (nodes_some hnodes).2
  have hl : l.length ≤ 1048576 := by omega
  obtain ⟨knp, ⟨npk, npv, npl, npr, npo, npg, nplt, nprt⟩, hknp, npe, hlnp, hnnp⟩ := nd_at qnp
  have tnp : h.prev.toNat = knp := by omega
  unfold HD.val
  have hM := hM0
  go_enter Try.func55, Try.ntmps55
  refine wp_seq_k fun Kn1 cn1 => ?_
  refine wl_region ?_
  refine wl_box (by kernel_rfl) hM 33 _ rfl [.slice (some ⟨ga0, 0, none⟩) l.length k1, .slice (some ⟨gb0, 0, none⟩) c.length k2] rfl ?_
  clear hM; intro g1 W1 hM
  go_frame
  refine wl_box (by kernel_rfl) hM 36 _ rfl (HD.cells h) rfl ?_
  clear hM; intro g2 W2 hM
  go_frame
  refine wl_alloc (by kernel_rfl) hM 33 rfl [.slice none 0 0, .slice none 0 0] Z_impl_Shared ?_
  clear hM; intro g3 W3 hM
  go_frame
  refine wl_alloc (by kernel_rfl) hM 36 rfl (HD.cells HD.zero) Z_impl_Hand ?_
  clear hM; intro g4 W4 hM
  go_frame
  refine wl_nil ?_
  refine cn1 _ _ ?_
  clear cn1
  refine wp_seq_k fun Kn2 cn2 => ?_
  refine wp_seq_k fun Kn3 cn3 => ?_
  refine wl_region ?_
  refine wl_pure (by kernel_rfl) (.pointer (some ⟨g2, 0, none⟩)) (by kernel_rfl) ?_
  go_frame
  refine wl_loadc (by kernel_rfl) hM 2 rfl 2 _ rfl 0 rfl Try.underlying2 rfl rfl ?_
  go_frame
  refine wl_nil ?_
  refine cn3 _ _ ?_
  clear cn3
  refine wp_block ?_
  refine wp_seq_k fun Kn4 cn4 => ?_
  refine wp_block ?_
  refine wp_seq_k fun Kn5 cn5 => ?_
  refine wp_block ?_
  refine wp_seq_k fun Kn6 cn6 => ?_
  refine wp_seq_k fun Kn7 cn7 => ?_
  refine wp_seq_k fun Kn8 cn8 => ?_
  refine wl_region ?_
  refine wl_pure (by kernel_rfl) (.bool (h.at_ == 13)) (by kernel_rfl) ?_
  go_frame
  refine wl_pure (by kernel_rfl) (.bool (h.at_ == 13)) (by kernel_rfl) ?_
  go_frame
  refine wl_nil ?_
  refine cn8 _ _ ?_
  clear cn8
  rcases Bool.eq_false_or_eq_true ((h.at_ == 13)) with hx1 | hx1
  rw [hx1]
  refine wp_cond_true rfl ?_
  refine wp_exit ?_
  refine cn5 _ _ ?_
  clear cn5
  -- region 4, drawn: one after the other
  refine wa_start (fun w => Below w00.heap.size w00 w ∧ Blk w g1 33 [.slice (some ⟨ga0, 0, none⟩) l.length k1, .slice (some ⟨gb0, 0, none⟩) c.length k2] ∧ Blk w g2 36 (HD.cells h)) 15 rfl (by kernel_rfl) ?_
  replace hM := hM.drew
  refine wa_take 0 (some 14) (.pointer (some ⟨g1, 0, none⟩)) rfl rfl (by kernel_rfl) (by kernel_rfl) (by kernel_rfl) (fun _ _ _ h => h) (by kernel_rfl) (fun w hS => by kernel_rfl) ⟨hM.below, hM.blk 3 rfl, hM.blk 2 rfl⟩ ?_
  go_frame
  refine wa_take 1 (some 15) (.slice (some ⟨ga0, 0, none⟩) l.length k1) rfl rfl (by kernel_rfl) (by kernel_rfl) (by kernel_rfl) (fun _ _ _ h => h) (by kernel_rfl) (fun w hS => r_loadc hS.2.1 31 _ rfl 0 rfl Try.underlying31 rfl rfl) ⟨hM.below, hM.blk 3 rfl, hM.blk 2 rfl⟩ ?_
  go_frame
  refine wa_take 2 (some 16) (.pointer (some ⟨g2, 4, none⟩)) rfl rfl (by kernel_rfl) (by kernel_rfl) (by kernel_rfl) (fun _ _ _ h => h) (by kernel_rfl) (fun w hS => by kernel_rfl) ⟨hM.below, hM.blk 3 rfl, hM.blk 2 rfl⟩ ?_
  go_frame
  refine wa_take 3 (some 17) (.int .i64 h.prev) rfl rfl (by kernel_rfl) (by kernel_rfl) (by kernel_rfl) (fun _ _ _ h => h) (by kernel_rfl) (fun w hS => r_loadc hS.2.2 2 _ rfl 4 rfl Try.underlying2 rfl rfl) ⟨hM.below, hM.blk 3 rfl, hM.blk 2 rfl⟩ ?_
  go_frame
  refine wa_take 4 (some 18) (.pointer (some ⟨g1, 0, none⟩)) rfl rfl (by kernel_rfl) (by kernel_rfl) (by kernel_rfl) (fun _ _ _ h => h) (by kernel_rfl) (fun w hS => by kernel_rfl) ⟨hM.below, hM.blk 3 rfl, hM.blk 2 rfl⟩ ?_
  go_frame
  refine wa_take 5 (some 19) (.slice (some ⟨ga0, 0, none⟩) l.length k1) rfl rfl (by kernel_rfl) (by kernel_rfl) (by kernel_rfl) (fun _ _ _ h => h) (by kernel_rfl) (fun w hS => r_loadc hS.2.1 31 _ rfl 0 rfl Try.underlying31 rfl rfl) ⟨hM.below, hM.blk 3 rfl, hM.blk 2 rfl⟩ ?_
  go_frame
  refine wa_take 6 (some 20) (.pointer (some ⟨g2, 4, none⟩)) rfl rfl (by kernel_rfl) (by kernel_rfl) (by kernel_rfl) (fun _ _ _ h => h) (by kernel_rfl) (fun w hS => by kernel_rfl) ⟨hM.below, hM.blk 3 rfl, hM.blk 2 rfl⟩ ?_
  go_frame
  refine wa_take 7 (some 21) (.int .i64 h.prev) rfl rfl (by kernel_rfl) (by kernel_rfl) (by kernel_rfl) (fun _ _ _ h => h) (by kernel_rfl) (fun w hS => r_loadc hS.2.2 2 _ rfl 4 rfl Try.underlying2 rfl rfl) ⟨hM.below, hM.blk 3 rfl, hM.blk 2 rfl⟩ ?_
  go_frame
  refine wa_take 8 (some 22) (.pointer (some ⟨ga0, 0 + knp * 8, none⟩)) rfl rfl (by kernel_rfl) (by kernel_rfl) (by kernel_rfl) (fun _ _ _ h => h) (by kernel_rfl) (fun w hS => r_index 31 52 _ _ rfl ga0 0 l.length k1 8 knp rfl rfl hknp (by omega) Try.underlying31 I_impl_Node) ⟨hM.below, hM.blk 3 rfl, hM.blk 2 rfl⟩ ?_
  go_frame
  refine wa_take 10 (some 24) (.pointer (some ⟨g2, 6, none⟩)) rfl rfl (by kernel_rfl) (by kernel_rfl) (by kernel_rfl) (fun _ _ _ h => h) (by kernel_rfl) (fun w hS => by kernel_rfl) ⟨hM.below, hM.blk 3 rfl, hM.blk 2 rfl⟩ ?_
  go_frame
  refine wa_take 11 (some 25) (.int .i64 h.side) rfl rfl (by kernel_rfl) (by kernel_rfl) (by kernel_rfl) (fun _ _ _ h => h) (by kernel_rfl) (fun w hS => r_loadc hS.2.2 2 _ rfl 6 rfl Try.underlying2 rfl rfl) ⟨hM.below, hM.blk 3 rfl, hM.blk 2 rfl⟩ ?_
  go_frame
  refine wa_one 9 (by kernel_rfl) ?_
  refine wo_pure (some 23) rfl rfl (by kernel_rfl) (.agg (ND.cells ⟨npk, npv, npl, npr, npo, npg, nplt, nprt⟩).toArray) (r_part (hM.blk 4 rfl) 52 _ rfl (0 + knp * 8) rfl Try.underlying52 (ND.cells ⟨npk, npv, npl, npr, npo, npg, nplt, nprt⟩) I_impl_Node (node_part hnnp)) ⟨hM.below, hM.blk 3 rfl, hM.blk 2 rfl⟩ ?_
  go_frame
  refine wa_one 12 (by kernel_rfl) ?_
  refine wo_call (some 26) rfl rfl (by kernel_rfl) 72 #[.agg (ND.cells ⟨npk, npv, npl, npr, npo, npg, nplt, nprt⟩).toArray, .int .i64 h.side] (by kernel_rfl) (impl_WithTag npk npv npl npr npo npg nplt nprt h.side _) ?_
  rintro e W5 ⟨rfl, hb⟩
  replace hM := hM.call hb
  refine ⟨_, rfl, ⟨hM.below, hM.blk 3 rfl, hM.blk 2 rfl⟩, ?_⟩
  go_frame
  refine wa_take 13 (some 27) (.pointer (some ⟨ga0, 0 + knp * 8, none⟩)) rfl rfl (by kernel_rfl) (by kernel_rfl) (by kernel_rfl) (fun _ _ _ h => h) (by kernel_rfl) (fun w hS => r_index 31 52 _ _ rfl ga0 0 l.length k1 8 knp rfl rfl hknp (by omega) Try.underlying31 I_impl_Node) ⟨hM.below, hM.blk 3 rfl, hM.blk 2 rfl⟩ ?_
  go_frame
  refine wa_one 14 (by kernel_rfl) ?_
  refine wo_storep rfl (by kernel_rfl) hM 4 rfl 52 _ _ rfl rfl (0 + knp * 8) (by kernel_rfl) (ND.cells ⟨npk, npv, npl, npr, npo, npg, (leftF h.side (wrap64 (nplt + 1)) nplt), (rightF h.side (wrap64 (nprt + 1)) nprt)⟩) (by kernel_rfl) I_impl_Node (node_room hlnp) (nd_one _) ?_
  clear hM; intro W6 hM; rw [splice_node hlnp] at hM
  refine ⟨⟨hM.below, hM.blk 3 rfl, hM.blk 2 rfl⟩, ?_⟩
  refine wa_done (by kernel_rfl) ?_
  refine cn4 _ _ ?_
  clear cn4
  refine wp_seq_k fun Kn9 cn9 => ?_
  refine wl_region ?_
  refine wl_pure (by kernel_rfl) (.pointer (some ⟨g2, 0, none⟩)) (by kernel_rfl) ?_
  go_frame
  refine wl_storec (by kernel_rfl) hM 2 rfl 2 _ _ rfl rfl 0 rfl (.int .i64 26) rfl rfl rfl I_int64 (by simp [HD.cells]) ?_
  clear hM; intro W7 hM
  refine wl_pure (by kernel_rfl) (.pointer (some ⟨g2, 15, none⟩)) (by kernel_rfl) ?_
  go_frame
  refine wl_storec (by kernel_rfl) hM 2 rfl 2 _ _ rfl rfl 15 rfl (.int .i64 1) rfl rfl rfl I_int64 (by simp [HD.cells]) ?_
  clear hM; intro W8 hM
  refine wl_nil ?_
  refine cn9 _ _ ?_
  clear cn9
  refine wp_exit ?_
  refine cn2 _ _ ?_
  clear cn2
  refine wp_seq_k fun Kn10 cn10 => ?_
  -- region 6, drawn: one after the other
  refine wa_start (fun w => Below w00.heap.size w00 w ∧ Blk w g1 33 [.slice (some ⟨ga0, 0, none⟩) l.length k1, .slice (some ⟨gb0, 0, none⟩) c.length k2] ∧ Blk w g2 36 (HD.cells { h with at_ := 26, reply := 1 })) 4 rfl (by kernel_rfl) ?_
  replace hM := hM.drew
  refine wa_take 0 (some 30) (.agg #[.slice (some ⟨ga0, 0, none⟩) l.length k1, .slice (some ⟨gb0, 0, none⟩) c.length k2]) rfl rfl (by kernel_rfl) (by kernel_rfl) (by kernel_rfl) (fun _ _ _ h => h) (by kernel_rfl) (fun w hS => r_load hS.2.1 33 _ rfl rfl Try.underlying33 I_impl_Shared) ⟨hM.below, hM.blk 3 rfl, hM.blk 2 rfl⟩ ?_
  go_frame
  refine wa_take 1 (some 31) (.agg (HD.cells { h with at_ := 26, reply := 1 }).toArray) rfl rfl (by kernel_rfl) (by kernel_rfl) (by kernel_rfl) (fun _ _ _ h => h) (by kernel_rfl) (fun w hS => r_load hS.2.2 36 _ rfl rfl Try.underlying36 I_impl_Hand) ⟨hM.below, hM.blk 3 rfl, hM.blk 2 rfl⟩ ?_
  go_frame
  refine wa_one 2 (by kernel_rfl) ?_
  refine wo_store rfl (by kernel_rfl) hM 1 rfl 33 _ _ rfl rfl (by kernel_rfl) [.slice (some ⟨ga0, 0, none⟩) l.length k1, .slice (some ⟨gb0, 0, none⟩) c.length k2] (by kernel_rfl) I_impl_Shared rfl rfl ?_
  clear hM; intro W9 hM
  refine ⟨⟨hM.below, hM.blk 3 rfl, hM.blk 2 rfl⟩, ?_⟩
  refine wa_one 3 (by kernel_rfl) ?_
  refine wo_store rfl (by kernel_rfl) hM 0 rfl 36 _ _ rfl rfl (by kernel_rfl) (HD.cells { h with at_ := 26, reply := 1 }) (by kernel_rfl) I_impl_Hand rfl (hd_one' _) ?_
  clear hM; intro W10 hM
  refine ⟨⟨hM.below, hM.blk 3 rfl, hM.blk 2 rfl⟩, ?_⟩
  refine wa_done (by kernel_rfl) ?_
  refine cn10 _ _ ?_
  clear cn10
  refine wp_ret ?_
  have hR : bumpT l h = .done (l.set knp ⟨npk, npv, npl, npr, npo, npg, (leftF h.side (wrap64 (nplt + 1)) nplt), (rightF h.side (wrap64 (nprt + 1)) nprt)⟩) { h with at_ := 26, reply := 1 } := by simp [bumpT, setK, withT, endH, hx1, npe, tnp]
  rw [hR]
  have hN : ((l.set knp ⟨npk, npv, npl, npr, npo, npg, (leftF h.side (wrap64 (nplt + 1)) nplt), (rightF h.side (wrap64 (nprt + 1)) nprt)⟩) : List ND).length = l.length := by first | rfl | simp
  refine bodyPost_ret (ret_sh (p := 6) (q := 7) rfl hM 1 0 rfl rfl rfl rfl Try.underlying33 Try.underlying36 I_impl_Shared I_impl_Hand) rfl (saysg_done ⟨ga0, k1, p1, congrArg (fun n : Nat => Ending.returned (.tuple #[.agg #[.slice (some ⟨ga0, 0, none⟩) n k1, .slice (some ⟨gb0, 0, none⟩) c.length k2], HD.val _])) hN.symm, ⟨by rw [hN]; exact q1, q2, (by rw [node_keep]; exact q5)⟩, ?_⟩)
  exact hM.sub (fun i => i + 4) (fun i b hb => hb) (fun i j _ _ e => by omega)
  rw [hx1]
  refine wp_cond_false rfl ?_
  refine wp_skip ?_
  refine cn7 _ _ ?_
  clear cn7
  refine wp_seq_k fun Kn9 cn9 => ?_
  refine wl_region ?_
  refine wl_pure (by kernel_rfl) (.bool (h.at_ == 12)) (by kernel_rfl) ?_
  go_frame
  refine wl_pure (by kernel_rfl) (.bool (h.at_ == 12)) (by kernel_rfl) ?_
  go_frame
  refine wl_nil ?_
  refine cn9 _ _ ?_
  clear cn9
  rcases Bool.eq_false_or_eq_true ((h.at_ == 12)) with hx2 | hx2
  rw [hx2]
  refine wp_cond_true rfl ?_
  refine wp_exit ?_
  refine cn4 _ _ ?_
  clear cn4
  refine wp_seq_k fun Kn10 cn10 => ?_
  refine wl_region ?_
  refine wl_pure (by kernel_rfl) (.pointer (some ⟨g2, 0, none⟩)) (by kernel_rfl) ?_
  go_frame
  refine wl_storec (by kernel_rfl) hM 2 rfl 2 _ _ rfl rfl 0 rfl (.int .i64 26) rfl rfl rfl I_int64 (by simp [HD.cells]) ?_
  clear hM; intro W5 hM
  refine wl_pure (by kernel_rfl) (.pointer (some ⟨g2, 15, none⟩)) (by kernel_rfl) ?_
  go_frame
  refine wl_storec (by kernel_rfl) hM 2 rfl 2 _ _ rfl rfl 15 rfl (.int .i64 1) rfl rfl rfl I_int64 (by simp [HD.cells]) ?_
  clear hM; intro W6 hM
  refine wl_nil ?_
  refine cn10 _ _ ?_
  clear cn10
  refine wp_exit ?_
  refine cn2 _ _ ?_
  clear cn2
  refine wp_seq_k fun Kn11 cn11 => ?_
  -- region 6, drawn: one after the other
  refine wa_start (fun w => Below w00.heap.size w00 w ∧ Blk w g1 33 [.slice (some ⟨ga0, 0, none⟩) l.length k1, .slice (some ⟨gb0, 0, none⟩) c.length k2] ∧ Blk w g2 36 (HD.cells { h with at_ := 26, reply := 1 })) 4 rfl (by kernel_rfl) ?_
  replace hM := hM.drew
  refine wa_take 0 (some 30) (.agg #[.slice (some ⟨ga0, 0, none⟩) l.length k1, .slice (some ⟨gb0, 0, none⟩) c.length k2]) rfl rfl (by kernel_rfl) (by kernel_rfl) (by kernel_rfl) (fun _ _ _ h => h) (by kernel_rfl) (fun w hS => r_load hS.2.1 33 _ rfl rfl Try.underlying33 I_impl_Shared) ⟨hM.below, hM.blk 3 rfl, hM.blk 2 rfl⟩ ?_
  go_frame
  refine wa_take 1 (some 31) (.agg (HD.cells { h with at_ := 26, reply := 1 }).toArray) rfl rfl (by kernel_rfl) (by kernel_rfl) (by kernel_rfl) (fun _ _ _ h => h) (by kernel_rfl) (fun w hS => r_load hS.2.2 36 _ rfl rfl Try.underlying36 I_impl_Hand) ⟨hM.below, hM.blk 3 rfl, hM.blk 2 rfl⟩ ?_
  go_frame
  refine wa_one 2 (by kernel_rfl) ?_
  refine wo_store rfl (by kernel_rfl) hM 1 rfl 33 _ _ rfl rfl (by kernel_rfl) [.slice (some ⟨ga0, 0, none⟩) l.length k1, .slice (some ⟨gb0, 0, none⟩) c.length k2] (by kernel_rfl) I_impl_Shared rfl rfl ?_
  clear hM; intro W7 hM
  refine ⟨⟨hM.below, hM.blk 3 rfl, hM.blk 2 rfl⟩, ?_⟩
  refine wa_one 3 (by kernel_rfl) ?_
  refine wo_store rfl (by kernel_rfl) hM 0 rfl 36 _ _ rfl rfl (by kernel_rfl) (HD.cells { h with at_ := 26, reply := 1 }) (by kernel_rfl) I_impl_Hand rfl (hd_one' _) ?_
  clear hM; intro W8 hM
  refine ⟨⟨hM.below, hM.blk 3 rfl, hM.blk 2 rfl⟩, ?_⟩
  refine wa_done (by kernel_rfl) ?_
  refine cn11 _ _ ?_
  clear cn11
  refine wp_ret ?_
  have hR : bumpT l h = .done l { h with at_ := 26, reply := 1 } := by simp [bumpT, setK, withT, endH, hx1, hx2, npe, tnp]
  rw [hR]
  have hN : (l : List ND).length = l.length := by first | rfl | simp
  refine bodyPost_ret (ret_sh (p := 6) (q := 7) rfl hM 1 0 rfl rfl rfl rfl Try.underlying33 Try.underlying36 I_impl_Shared I_impl_Hand) rfl (saysg_done ⟨ga0, k1, p1, congrArg (fun n : Nat => Ending.returned (.tuple #[.agg #[.slice (some ⟨ga0, 0, none⟩) n k1, .slice (some ⟨gb0, 0, none⟩) c.length k2], HD.val _])) hN.symm, ⟨by rw [hN]; exact q1, q2, q5⟩, ?_⟩)
  exact hM.sub (fun i => i + 4) (fun i b hb => hb) (fun i j _ _ e => by omega)
  rw [hx2]
  refine wp_cond_false rfl ?_
  refine wp_skip ?_
  refine cn6 _ _ ?_
  clear cn6
  refine wp_exit ?_
  refine cn2 _ _ ?_
  clear cn2
  refine wp_seq_k fun Kn10 cn10 => ?_
  -- region 6, drawn: one after the other
  refine wa_start (fun w => Below w00.heap.size w00 w ∧ Blk w g1 33 [.slice (some ⟨ga0, 0, none⟩) l.length k1, .slice (some ⟨gb0, 0, none⟩) c.length k2] ∧ Blk w g2 36 (HD.cells h)) 4 rfl (by kernel_rfl) ?_
  replace hM := hM.drew
  refine wa_take 0 (some 30) (.agg #[.slice (some ⟨ga0, 0, none⟩) l.length k1, .slice (some ⟨gb0, 0, none⟩) c.length k2]) rfl rfl (by kernel_rfl) (by kernel_rfl) (by kernel_rfl) (fun _ _ _ h => h) (by kernel_rfl) (fun w hS => r_load hS.2.1 33 _ rfl rfl Try.underlying33 I_impl_Shared) ⟨hM.below, hM.blk 3 rfl, hM.blk 2 rfl⟩ ?_
  go_frame
  refine wa_take 1 (some 31) (.agg (HD.cells h).toArray) rfl rfl (by kernel_rfl) (by kernel_rfl) (by kernel_rfl) (fun _ _ _ h => h) (by kernel_rfl) (fun w hS => r_load hS.2.2 36 _ rfl rfl Try.underlying36 I_impl_Hand) ⟨hM.below, hM.blk 3 rfl, hM.blk 2 rfl⟩ ?_
  go_frame
  refine wa_one 2 (by kernel_rfl) ?_
  refine wo_store rfl (by kernel_rfl) hM 1 rfl 33 _ _ rfl rfl (by kernel_rfl) [.slice (some ⟨ga0, 0, none⟩) l.length k1, .slice (some ⟨gb0, 0, none⟩) c.length k2] (by kernel_rfl) I_impl_Shared rfl rfl ?_
  clear hM; intro W5 hM
  refine ⟨⟨hM.below, hM.blk 3 rfl, hM.blk 2 rfl⟩, ?_⟩
  refine wa_one 3 (by kernel_rfl) ?_
  refine wo_store rfl (by kernel_rfl) hM 0 rfl 36 _ _ rfl rfl (by kernel_rfl) (HD.cells h) (by kernel_rfl) I_impl_Hand rfl (hd_one' _) ?_
  clear hM; intro W6 hM
  refine ⟨⟨hM.below, hM.blk 3 rfl, hM.blk 2 rfl⟩, ?_⟩
  refine wa_done (by kernel_rfl) ?_
  refine cn10 _ _ ?_
  clear cn10
  refine wp_ret ?_
  have hR : bumpT l h = .done l h := by simp [bumpT, setK, withT, endH, hx1, hx2, npe, tnp]
  rw [hR]
  have hN : (l : List ND).length = l.length := by first | rfl | simp
  refine bodyPost_ret (ret_sh (p := 6) (q := 7) rfl hM 1 0 rfl rfl rfl rfl Try.underlying33 Try.underlying36 I_impl_Shared I_impl_Hand) rfl (saysg_done ⟨ga0, k1, p1, congrArg (fun n : Nat => Ending.returned (.tuple #[.agg #[.slice (some ⟨ga0, 0, none⟩) n k1, .slice (some ⟨gb0, 0, none⟩) c.length k2], HD.val _])) hN.symm, ⟨by rw [hN]; exact q1, q2, q5⟩, ?_⟩)
  exact hM.sub (fun i => i + 4) (fun i b hb => hb) (fun i j _ _ e => by omega)
end Go.Proofs.Ythllpgjggmdmmaa
namespace Go.Proofs.Ythllpgjggmdmmaa
open Go.ChangeShapes Go.WideShapes Go.ChangeAt Go.RowKit
set_option linter.unusedVariables false
set_option linter.unusedSimpArgs false

def cutTbl : Array MapEntry := #[⟨.int .i64 9, .func (.func 51) #[] #[], 0⟩, ⟨.int .i64 10, .func (.func 52) #[] #[], 1⟩, ⟨.int .i64 11, .func (.func 53) #[] #[], 2⟩, ⟨.int .i64 12, .func (.func 54) #[] #[], 3⟩, ⟨.int .i64 13, .func (.func 55) #[] #[], 4⟩]
set_option maxHeartbeats 1000000 in
theorem impl_cutTouches (w0 : World) : Calls Try.prog 28 #[] w0 fun e w' => ∃ b, e = .returned (.map (some b)) ∧ w0.heap.size ≤ b ∧ Tbl w' b cutTbl 5 ∧ Below w0.heap.size w0 w' := by
  have hM := Mem.start w0
  go_enter Try.func28, Try.ntmps28
  refine wp_seq_k fun Kn1 cn1 => ?_
  refine wl_region ?_
  refine wl_pure (by kernel_rfl) (.map none) (by kernel_rfl) ?_
  go_frame
  refine wl_nil ?_
  refine cn1 _ _ ?_
  clear cn1
  refine wp_seq_k fun Kn2 cn2 => ?_
  refine wl_region ?_
  refine wl_make (by kernel_rfl) hM 63 rfl ?_
  clear hM; intro mb'1 W1 hB hM hT
  go_frame
  refine wl_insert (by kernel_rfl) hM hB hT 63 2 90 _ _ _ rfl Try.underlying63 Try.underlying2 rfl 9 rfl (.func (.func 51) #[] #[]) rfl (by kernel_rfl) ?_
  clear hM hT; intro W2 hM hT
  go_frame
  refine wl_insert (by kernel_rfl) hM hB hT 63 2 90 _ _ _ rfl Try.underlying63 Try.underlying2 rfl 10 rfl (.func (.func 52) #[] #[]) rfl (by kernel_rfl) ?_
  clear hM hT; intro W3 hM hT
  go_frame
  refine wl_insert (by kernel_rfl) hM hB hT 63 2 90 _ _ _ rfl Try.underlying63 Try.underlying2 rfl 11 rfl (.func (.func 53) #[] #[]) rfl (by kernel_rfl) ?_
  clear hM hT; intro W4 hM hT
  go_frame
  refine wl_insert (by kernel_rfl) hM hB hT 63 2 90 _ _ _ rfl Try.underlying63 Try.underlying2 rfl 12 rfl (.func (.func 54) #[] #[]) rfl (by kernel_rfl) ?_
  clear hM hT; intro W5 hM hT
  go_frame
  refine wl_insert (by kernel_rfl) hM hB hT 63 2 90 _ _ _ rfl Try.underlying63 Try.underlying2 rfl 13 rfl (.func (.func 55) #[] #[]) rfl (by kernel_rfl) ?_
  clear hM hT; intro W6 hM hT
  go_frame
  refine wl_pure (by kernel_rfl) (.map (some mb'1)) (by kernel_rfl) ?_
  go_frame
  refine wl_pure (by kernel_rfl) (.map (some mb'1)) (by kernel_rfl) ?_
  go_frame
  refine wl_nil ?_
  refine cn2 _ _ ?_
  clear cn2
  refine wp_ret ?_
  exact bodyPost_ret (v := .map (some mb'1)) (ret_tmp 0 rfl rfl) rfl ⟨mb'1, rfl, hB, hT, hM.below⟩
def cutT (l : List ND) (task : Int) (h : HD) : TR :=
  if h.at_ == 9 then holdT l task h h.cur 10 else if h.at_ == 10 then .done l (checkCutH l h) else if h.at_ == 11 then markT l h else if h.at_ == 12 then liftT l h else bumpT l h
theorem setK_len (l : List ND) (i : Int) (f : ND → ND) : (setK l i f).length = l.length := by simp [setK]
theorem checkCutT_right {l : List ND} {h : HD} (hl : l.length ≤ 1048576) : (TR.done l (checkCutH l h)).right := hl
theorem markT_right {l : List ND} {h : HD} (hl : l.length ≤ 1048576) : (markT l h).right := by
  show (setK l h.cur goneN).length ≤ 1048576
  rw [setK_len]
  exact hl
theorem liftT_right {l : List ND} {h : HD} (hl : l.length ≤ 1048576) : (liftT l h).right := by
  unfold liftT
  split
  · show (setK l h.prev _).length ≤ 1048576
    rw [setK_len]
    exact hl
  · show (setK l h.prev _).length ≤ 1048576
    rw [setK_len]
    exact hl
theorem bumpT_right {l : List ND} {h : HD} (hl : l.length ≤ 1048576) : (bumpT l h).right := by
  unfold bumpT
  split
  · show (setK l h.prev _).length ≤ 1048576
    rw [setK_len]
    exact hl
  · split <;> exact hl
theorem cutR_can {l : List ND} {c : List Int} {task : Int} {h : HD} (hat : 9 ≤ h.at_ ∧ h.at_ ≤ 13) (hb : cutB h = true) : cutR l c task h = if canB l c task h then faceR l c h (cutT l task h) else noR := by
  have hb' := hb
  simp only [cutB, Bool.and_eq_true, beq_iff_eq, bne_iff_ne] at hb'
  obtain ⟨hc3, hcur⟩ := hb'
  unfold cutR
  rw [can_l7, show inB h.at_ 9 13 = true by simp [inB]; omega]
  rcases Bool.eq_false_or_eq_true (canB l c task h) with hok | hok
  · have e2 := lockR_hold hok (by omega) h.cur 10 (by omega)
    rw [hok]
    unfold cutT
    rcases (show h.at_ = 9 ∨ h.at_ = 10 ∨ h.at_ = 11 ∨ h.at_ = 12 ∨ h.at_ = 13 by omega) with d | d | d | d | d
    · simp [d, hc3, hcur, ← e2]
    · simp [d, hc3, hcur, faceR]
    · simp [d, hc3, hcur, markT, faceR]
    · simp only [d, hc3, liftT, liftR]
      by_cases hk : cutKid l h = 0 <;> simp [hcur, hk, faceR]
    · simp [d, hc3, hcur, bumpT, faceR]
  · rw [hok]
    rfl
theorem cutR_out {l : List ND} {c : List Int} {task : Int} {h : HD} (hat : ¬ (9 ≤ h.at_ ∧ h.at_ ≤ 13)) : cutR l c task h = noR := by
  unfold cutR
  rw [can_l7, show inB h.at_ 9 13 = false by (rw [Bool.eq_false_iff]; simp [inB]; omega)]
  simp
theorem cutR_no {l : List ND} {c : List Int} {task : Int} {h : HD} (hb : cutB h = false) : cutR l c task h = noR := by
  unfold cutR
  rw [if_pos]
  simp only [cutB, Bool.and_eq_false_iff, beq_eq_false_iff_ne, bne_eq_false_iff_eq] at hb
  rcases hb with hb | hb <;> simp [hb]
theorem cut_tried (ua : Option Addr) (uc : Nat) (xa : Option Addr) (xc : Nat) (l : List ND) (c : List Int) (task : Int) (h : HD) (hl : l.length ≤ 1048576) (hc : c.length ≤ 1048576) (hb : cutB h = true) (w0 : World) (bT : Nat) (h1 : NSl w0 (.slice ua l.length uc) l) (h2 : SlI w0 (.slice xa c.length xc) c) (hTb : Tbl w0 bT cutTbl 5) :
    Calls Try.prog 27 #[.map (some bT), .agg #[.slice ua l.length uc, .slice xa c.length xc], .int .i64 task, h.val] w0 (Says3 (cutR l c task h) w0) := by
  by_cases hat : 9 ≤ h.at_ ∧ h.at_ ≤ 13
  · rw [cutR_can hat hb]
    unfold cutT
    rcases (show h.at_ = 9 ∨ h.at_ = 10 ∨ h.at_ = 11 ∨ h.at_ = 12 ∨ h.at_ = 13 by omega) with e | e | e | e | e
    · rw [show ((h.at_ == 9) = true) from by simp [e]]
      exact tried_at ua uc xa xc l c task h bT cutTbl 5 w0 h1 h2 hl hc hTb 0 51 (by rw [e]; rfl) (fun _ _ => by kernel_rfl) (holdT l task h h.cur 10) (fun _ => holdT_right hl) fun hok => impl_lockCur l c task h hok
    · rw [show ((h.at_ == 9) = false) from by simp [e], show ((h.at_ == 10) = true) from by simp [e]]
      exact tried_at ua uc xa xc l c task h bT cutTbl 5 w0 h1 h2 hl hc hTb 1 52 (by rw [e]; rfl) (fun _ _ => by kernel_rfl) (TR.done l (checkCutH l h)) (fun _ => checkCutT_right hl) fun hok => impl_checkCut l c task h hok
    · rw [show ((h.at_ == 9) = false) from by simp [e], show ((h.at_ == 10) = false) from by simp [e], show ((h.at_ == 11) = true) from by simp [e]]
      exact tried_at ua uc xa xc l c task h bT cutTbl 5 w0 h1 h2 hl hc hTb 2 53 (by rw [e]; rfl) (fun _ _ => by kernel_rfl) (markT l h) (fun _ => markT_right hl) fun hok => impl_markCur l c task h hok
    · rw [show ((h.at_ == 9) = false) from by simp [e], show ((h.at_ == 10) = false) from by simp [e], show ((h.at_ == 11) = false) from by simp [e], show ((h.at_ == 12) = true) from by simp [e]]
      exact tried_at ua uc xa xc l c task h bT cutTbl 5 w0 h1 h2 hl hc hTb 3 54 (by rw [e]; rfl) (fun _ _ => by kernel_rfl) (liftT l h) (fun _ => liftT_right hl) fun hok => impl_liftKid l c task h hok e
    · rw [show ((h.at_ == 9) = false) from by simp [e], show ((h.at_ == 10) = false) from by simp [e], show ((h.at_ == 11) = false) from by simp [e], show ((h.at_ == 12) = false) from by simp [e]]
      exact tried_at ua uc xa xc l c task h bT cutTbl 5 w0 h1 h2 hl hc hTb 4 55 (by rw [e]; rfl) (fun _ _ => by kernel_rfl) (bumpT l h) (fun _ => bumpT_right hl) fun hok => impl_endCut l c task h hok
  · rw [cutR_out hat]
    refine tried_miss ua uc xa xc l c task h bT cutTbl 5 w0 h1 h2 hl hc hTb ?_
    have e1 : (h.at_ == 9) = false := by simp; omega
    have e2 : (h.at_ == 10) = false := by simp; omega
    have e3 : (h.at_ == 11) = false := by simp; omega
    have e4 : (h.at_ == 12) = false := by simp; omega
    have e5 : (h.at_ == 13) = false := by simp; omega
    simp [cutTbl, Instr.findNow, Instr.sameNow, e1, e2, e3, e4, e5]
theorem cutR_cases (l : List ND) (c : List Int) (task : Int) (h : HD) : (∃ lo co ho bo, cutR l c task h = (lo, co, ho, bo) ∧ (0 < lo.length ∧ lo.length ≤ 30) ∧ (0 < co.length ∧ co.length ≤ 6)) ∨ cutR l c task h = ([], [], HD.zero, false) := by
  rcases Bool.eq_false_or_eq_true (cutB h) with hb | hb
  · by_cases hat : 9 ≤ h.at_ ∧ h.at_ ≤ 13
    · rw [cutR_can hat hb]
      rcases Bool.eq_false_or_eq_true (canB l c task h) with hok | hok
      · rw [hok]
        obtain ⟨hl0, hc0, hl1, hc1, -, kt, -, hkt, -, hn, -⟩ := ok_facts (can_ok hok)
        have hl30 := (nodes_some hn).2
        cases hT : cutT l task h with
        | done lo ho =>
          show (∃ lo' co ho' bo, doneR lo c ho = _ ∧ _) ∨ doneR lo c ho = _
          rcases doneR_cases lo c ho with ⟨a, b, e⟩ | e
          · exact .inl ⟨_, _, _, _, e, a, b⟩
          · exact .inr e
        | gives k =>
          show (∃ lo' co ho' bo, (if k == 1 then (l, c, h, false) else noR) = _ ∧ _) ∨ (if k == 1 then (l, c, h, false) else noR) = _
          split
          · refine .inl ⟨_, _, _, _, rfl, ⟨hl1, hl30⟩, hc1, ?_⟩
            have h3 := can_ok hok
            simp only [l7okB, Bool.and_eq_true, sharedB] at h3
            exact (countsB_some h3.1.1.1.1.2).2.1
          · exact .inr rfl
      · rw [hok]
        exact .inr rfl
    · exact .inr (cutR_out hat)
  · exact .inr (cutR_no hb)

set_option maxRecDepth 100000 in
set_option maxHeartbeats 4000000 in
theorem impl_CutStep (ua : Option Addr) (uc : Nat) (xa : Option Addr) (xc : Nat) (l : List ND) (c : List Int) (task : Int) (h : HD) (w0 : World) (h1 : NSl w0 (.slice ua l.length uc) l) (h2 : SlI w0 (.slice xa c.length xc) c) (hl : l.length ≤ 1048576) (hc : c.length ≤ 1048576) :
    Calls Try.prog 8 #[.agg #[.slice ua l.length uc, .slice xa c.length xc], .int .i64 task, h.val] w0 (Says3 (cutR l c task h) w0) := by
  rcases Bool.eq_false_or_eq_true (cutB h) with hcb | hcb
  case inr =>
    have e : cutR l c task h = noR := cutR_no hcb
    rw [e]
    clear e
    unfold HD.val at *
    have hM := Mem.start w0
    go_enter Try.func8, Try.ntmps8
    refine wp_seq_k fun Kn1 cn1 => ?_
    refine wl_region ?_
    refine wl_box (by kernel_rfl) hM 33 _ rfl [.slice ua l.length uc, .slice xa c.length xc] rfl ?_
    clear hM; intro g1 W1 hM
    go_frame
    refine wl_box (by kernel_rfl) hM 36 _ rfl (HD.cells h) rfl ?_
    clear hM; intro g2 W2 hM
    go_frame
    refine wl_alloc (by kernel_rfl) hM 33 rfl [.slice none 0 0, .slice none 0 0] Z_impl_Shared ?_
    clear hM; intro g3 W3 hM
    go_frame
    refine wl_alloc (by kernel_rfl) hM 36 rfl (HD.cells HD.zero) Z_impl_Hand ?_
    clear hM; intro g4 W4 hM
    go_frame
    refine wl_pure (by kernel_rfl) (.bool false) (by kernel_rfl) ?_
    go_frame
    refine wl_nil ?_
    refine cn1 _ _ ?_
    clear cn1
    refine wp_seq_k fun Kn2 cn2 => ?_
    refine wp_seq_k fun Kn3 cn3 => ?_
    refine wl_region ?_
    refine wl_load (by kernel_rfl) hM 2 rfl 36 _ rfl rfl Try.underlying36 I_impl_Hand ?_
    go_frame
    refine wl_call (by kernel_rfl) 26 #[.agg (HD.cells h).toArray] (by kernel_rfl) (impl_hasCut h _) ?_
    rintro e W5 ⟨rfl, hb⟩
    refine ⟨.bool false, congrArg (fun b => Ending.returned (.bool b)) hcb, ?_⟩
    replace hM := hM.call hb
    go_frame
    refine wl_pure (by kernel_rfl) (.bool true) (by kernel_rfl) ?_
    go_frame
    refine wl_nil ?_
    refine cn3 _ _ ?_
    clear cn3
    refine wp_cond_true rfl ?_
    refine wp_seq_k fun Kn4 cn4 => ?_
    refine wl_region ?_
    refine wl_pure (by kernel_rfl) (.agg #[.slice none 0 0, .slice none 0 0]) (by kernel_rfl) ?_
    go_frame
    refine wl_pure (by kernel_rfl) (.agg (HD.cells HD.zero).toArray) (by kernel_rfl) ?_
    go_frame
    refine wl_store (by kernel_rfl) hM 1 rfl 33 _ _ rfl rfl rfl [.slice none 0 0, .slice none 0 0] rfl I_impl_Shared rfl rfl ?_
    clear hM; intro W6 hM
    refine wl_store (by kernel_rfl) hM 0 rfl 36 _ _ rfl rfl rfl (HD.cells HD.zero) rfl I_impl_Hand rfl (hd_one' _) ?_
    clear hM; intro W7 hM
    refine wl_pure (by kernel_rfl) (.bool false) (by kernel_rfl) ?_
    go_frame
    refine wl_nil ?_
    refine cn4 _ _ ?_
    clear cn4
    refine wp_ret ?_
    simp only [Exit.then, Exit.inBlock]
    exact bodyPost_ret (ret_three (p := 6) (q := 7) (u := 8) (v := .bool false) rfl hM 1 0 rfl rfl rfl rfl rfl Try.underlying33 Try.underlying36 I_impl_Shared I_impl_Hand) rfl ⟨_, _, rfl, OwnR.nil _ _ _ _ _ _ _ (by simp [maxLen]), OwnR.nil _ _ _ _ _ _ _ (by simp [maxLen]), hM.below⟩
  have hC := fun (w : World) (bT : Nat) => cut_tried ua uc xa xc l c task h hl hc hcb w bT
  rcases cutR_cases l c task h with ⟨lo, co, ho, bo, e, ⟨hlo, -⟩, ⟨hco, -⟩⟩ | e
  · rw [e] at hC ⊢
    clear e
    unfold HD.val at *
    have hM := Mem.start w0
    go_enter Try.func8, Try.ntmps8
    refine wp_seq_k fun Kn1 cn1 => ?_
    refine wl_region ?_
    refine wl_box (by kernel_rfl) hM 33 _ rfl [.slice ua l.length uc, .slice xa c.length xc] rfl ?_
    clear hM; intro g1 W1 hM
    go_frame
    refine wl_box (by kernel_rfl) hM 36 _ rfl (HD.cells h) rfl ?_
    clear hM; intro g2 W2 hM
    go_frame
    refine wl_alloc (by kernel_rfl) hM 33 rfl [.slice none 0 0, .slice none 0 0] Z_impl_Shared ?_
    clear hM; intro g3 W3 hM
    go_frame
    refine wl_alloc (by kernel_rfl) hM 36 rfl (HD.cells HD.zero) Z_impl_Hand ?_
    clear hM; intro g4 W4 hM
    go_frame
    refine wl_pure (by kernel_rfl) (.bool false) (by kernel_rfl) ?_
    go_frame
    refine wl_nil ?_
    refine cn1 _ _ ?_
    clear cn1
    refine wp_seq_k fun Kn2 cn2 => ?_
    refine wp_seq_k fun Kn3 cn3 => ?_
    refine wl_region ?_
    refine wl_load (by kernel_rfl) hM 2 rfl 36 _ rfl rfl Try.underlying36 I_impl_Hand ?_
    go_frame
    refine wl_call (by kernel_rfl) 26 #[.agg (HD.cells h).toArray] (by kernel_rfl) (impl_hasCut h _) ?_
    rintro e W5 ⟨rfl, hb⟩
    refine ⟨.bool true, congrArg (fun b => Ending.returned (.bool b)) hcb, ?_⟩
    replace hM := hM.call hb
    go_frame
    refine wl_pure (by kernel_rfl) (.bool false) (by kernel_rfl) ?_
    go_frame
    refine wl_nil ?_
    refine cn3 _ _ ?_
    clear cn3
    refine wp_cond_false rfl ?_
    refine wp_skip ?_
    refine cn2 _ _ ?_
    clear cn2
    refine wp_seq_k fun Kn4 cn4 => ?_
    -- region 3, drawn: one after the other
    refine wa_start (fun w => Below w0.heap.size w0 w ∧ Blk w g1 33 [.slice ua l.length uc, .slice xa c.length xc] ∧ Blk w g2 36 (HD.cells h)) 11 rfl (by kernel_rfl) ?_
    replace hM := hM.drew
    refine wa_take 1 (some 15) (.agg #[.slice ua l.length uc, .slice xa c.length xc]) rfl rfl (by kernel_rfl) (by kernel_rfl) (by kernel_rfl) (fun _ _ _ h => h) (by kernel_rfl) (fun w hS => r_load hS.2.1 33 _ rfl rfl Try.underlying33 I_impl_Shared) ⟨hM.below, hM.blk 3 rfl, hM.blk 2 rfl⟩ ?_
    go_frame
    refine wa_take 2 (some 16) (.int .i64 task) rfl rfl (by kernel_rfl) (by kernel_rfl) (by kernel_rfl) (fun _ _ _ h => h) (by kernel_rfl) (fun w hS => by kernel_rfl) ⟨hM.below, hM.blk 3 rfl, hM.blk 2 rfl⟩ ?_
    go_frame
    refine wa_take 3 (some 17) (.agg (HD.cells h).toArray) rfl rfl (by kernel_rfl) (by kernel_rfl) (by kernel_rfl) (fun _ _ _ h => h) (by kernel_rfl) (fun w hS => r_load hS.2.2 36 _ rfl rfl Try.underlying36 I_impl_Hand) ⟨hM.below, hM.blk 3 rfl, hM.blk 2 rfl⟩ ?_
    go_frame
    refine wa_one 0 (by kernel_rfl) ?_
    refine wo_call (some 14) rfl rfl (by kernel_rfl) 28 #[] (by kernel_rfl) (impl_cutTouches _) ?_
    rintro e W6 ⟨bT, rfl, hB, hT, hb⟩
    replace hM := hM.call hb
    refine ⟨_, rfl, ⟨hM.below, hM.blk 3 rfl, hM.blk 2 rfl⟩, ?_⟩
    go_frame
    refine wa_one 4 (by kernel_rfl) ?_
    refine wo_call (some 18) rfl rfl (by kernel_rfl) 27 #[.map (some bT), .agg #[.slice ua l.length uc, .slice xa c.length xc], .int .i64 task, .agg (HD.cells h).toArray] (by kernel_rfl) (hC _ bT (h1.below hM.below) (h2.below hM.below) hT) ?_
    rintro e W7 ⟨u', x', rfl, hO1, hO2, hb⟩
    obtain ⟨v1, j1, r1, rfl, s11, s12, s13, s14, s19⟩ := ownr_blk hO1 hlo
    obtain ⟨y1, i1, e1, rfl, s15, s16, s17, s18, s10⟩ := ownr_blk hO2 hco
    replace hM := hM.join (Mem.two hb s14 s18 s13 s17 ne_types)
    refine ⟨_, rfl, ⟨hM.below, hM.blk 5 rfl, hM.blk 4 rfl⟩, ?_⟩
    go_frame
    refine wa_take 5 (some 19) (.agg #[.slice (some ⟨v1, 0, none⟩) lo.length j1, .slice (some ⟨y1, 0, none⟩) co.length i1]) rfl rfl (by kernel_rfl) (by kernel_rfl) (by kernel_rfl) (fun _ _ _ h => h) (by kernel_rfl) (fun w hS => by kernel_rfl) ⟨hM.below, hM.blk 5 rfl, hM.blk 4 rfl⟩ ?_
    go_frame
    refine wa_take 6 (some 20) (.agg (HD.cells ho).toArray) rfl rfl (by kernel_rfl) (by kernel_rfl) (by kernel_rfl) (fun _ _ _ h => h) (by kernel_rfl) (fun w hS => by kernel_rfl) ⟨hM.below, hM.blk 5 rfl, hM.blk 4 rfl⟩ ?_
    go_frame
    refine wa_take 7 (some 21) (.bool bo) rfl rfl (by kernel_rfl) (by kernel_rfl) (by kernel_rfl) (fun _ _ _ h => h) (by kernel_rfl) (fun w hS => by kernel_rfl) ⟨hM.below, hM.blk 5 rfl, hM.blk 4 rfl⟩ ?_
    go_frame
    refine wa_one 8 (by kernel_rfl) ?_
    refine wo_store rfl (by kernel_rfl) hM 3 rfl 33 _ _ rfl rfl (by kernel_rfl) [.slice (some ⟨v1, 0, none⟩) lo.length j1, .slice (some ⟨y1, 0, none⟩) co.length i1] (by kernel_rfl) I_impl_Shared rfl rfl ?_
    clear hM; intro W8 hM
    refine ⟨⟨hM.below, hM.blk 5 rfl, hM.blk 4 rfl⟩, ?_⟩
    refine wa_one 9 (by kernel_rfl) ?_
    refine wo_store rfl (by kernel_rfl) hM 2 rfl 36 _ _ rfl rfl (by kernel_rfl) (HD.cells ho) (by kernel_rfl) I_impl_Hand rfl (hd_one' _) ?_
    clear hM; intro W9 hM
    refine ⟨⟨hM.below, hM.blk 5 rfl, hM.blk 4 rfl⟩, ?_⟩
    refine wa_take 10 (some 8) (.bool bo) rfl rfl (by kernel_rfl) (by kernel_rfl) (by kernel_rfl) (fun _ _ _ h => h) (by kernel_rfl) (fun w hS => by kernel_rfl) ⟨hM.below, hM.blk 5 rfl, hM.blk 4 rfl⟩ ?_
    go_frame
    refine wa_done (by kernel_rfl) ?_
    refine cn4 _ _ ?_
    clear cn4
    refine wp_ret ?_
    exact bodyPost_ret (ret_three (p := 6) (q := 7) (u := 8) (v := .bool bo) rfl hM 3 2 rfl rfl rfl rfl rfl Try.underlying33 Try.underlying36 I_impl_Shared I_impl_Hand) rfl ⟨_, _, rfl, own_nblk (hM.blk 0 rfl) s11 s12 (hM.base 0 rfl) hlo s19, own_iblk (hM.blk 1 rfl) s15 s16 (hM.base 1 rfl) hco s10, hM.below⟩
  · rw [e] at hC ⊢
    clear e
    unfold HD.val at *
    have hM := Mem.start w0
    go_enter Try.func8, Try.ntmps8
    refine wp_seq_k fun Kn1 cn1 => ?_
    refine wl_region ?_
    refine wl_box (by kernel_rfl) hM 33 _ rfl [.slice ua l.length uc, .slice xa c.length xc] rfl ?_
    clear hM; intro g1 W1 hM
    go_frame
    refine wl_box (by kernel_rfl) hM 36 _ rfl (HD.cells h) rfl ?_
    clear hM; intro g2 W2 hM
    go_frame
    refine wl_alloc (by kernel_rfl) hM 33 rfl [.slice none 0 0, .slice none 0 0] Z_impl_Shared ?_
    clear hM; intro g3 W3 hM
    go_frame
    refine wl_alloc (by kernel_rfl) hM 36 rfl (HD.cells HD.zero) Z_impl_Hand ?_
    clear hM; intro g4 W4 hM
    go_frame
    refine wl_pure (by kernel_rfl) (.bool false) (by kernel_rfl) ?_
    go_frame
    refine wl_nil ?_
    refine cn1 _ _ ?_
    clear cn1
    refine wp_seq_k fun Kn2 cn2 => ?_
    refine wp_seq_k fun Kn3 cn3 => ?_
    refine wl_region ?_
    refine wl_load (by kernel_rfl) hM 2 rfl 36 _ rfl rfl Try.underlying36 I_impl_Hand ?_
    go_frame
    refine wl_call (by kernel_rfl) 26 #[.agg (HD.cells h).toArray] (by kernel_rfl) (impl_hasCut h _) ?_
    rintro e W5 ⟨rfl, hb⟩
    refine ⟨.bool true, congrArg (fun b => Ending.returned (.bool b)) hcb, ?_⟩
    replace hM := hM.call hb
    go_frame
    refine wl_pure (by kernel_rfl) (.bool false) (by kernel_rfl) ?_
    go_frame
    refine wl_nil ?_
    refine cn3 _ _ ?_
    clear cn3
    refine wp_cond_false rfl ?_
    refine wp_skip ?_
    refine cn2 _ _ ?_
    clear cn2
    refine wp_seq_k fun Kn4 cn4 => ?_
    -- region 3, drawn: one after the other
    refine wa_start (fun w => Below w0.heap.size w0 w ∧ Blk w g1 33 [.slice ua l.length uc, .slice xa c.length xc] ∧ Blk w g2 36 (HD.cells h)) 11 rfl (by kernel_rfl) ?_
    replace hM := hM.drew
    refine wa_take 1 (some 15) (.agg #[.slice ua l.length uc, .slice xa c.length xc]) rfl rfl (by kernel_rfl) (by kernel_rfl) (by kernel_rfl) (fun _ _ _ h => h) (by kernel_rfl) (fun w hS => r_load hS.2.1 33 _ rfl rfl Try.underlying33 I_impl_Shared) ⟨hM.below, hM.blk 3 rfl, hM.blk 2 rfl⟩ ?_
    go_frame
    refine wa_take 2 (some 16) (.int .i64 task) rfl rfl (by kernel_rfl) (by kernel_rfl) (by kernel_rfl) (fun _ _ _ h => h) (by kernel_rfl) (fun w hS => by kernel_rfl) ⟨hM.below, hM.blk 3 rfl, hM.blk 2 rfl⟩ ?_
    go_frame
    refine wa_take 3 (some 17) (.agg (HD.cells h).toArray) rfl rfl (by kernel_rfl) (by kernel_rfl) (by kernel_rfl) (fun _ _ _ h => h) (by kernel_rfl) (fun w hS => r_load hS.2.2 36 _ rfl rfl Try.underlying36 I_impl_Hand) ⟨hM.below, hM.blk 3 rfl, hM.blk 2 rfl⟩ ?_
    go_frame
    refine wa_one 0 (by kernel_rfl) ?_
    refine wo_call (some 14) rfl rfl (by kernel_rfl) 28 #[] (by kernel_rfl) (impl_cutTouches _) ?_
    rintro e W6 ⟨bT, rfl, hB, hT, hb⟩
    replace hM := hM.call hb
    refine ⟨_, rfl, ⟨hM.below, hM.blk 3 rfl, hM.blk 2 rfl⟩, ?_⟩
    go_frame
    refine wa_one 4 (by kernel_rfl) ?_
    refine wo_call (some 18) rfl rfl (by kernel_rfl) 27 #[.map (some bT), .agg #[.slice ua l.length uc, .slice xa c.length xc], .int .i64 task, .agg (HD.cells h).toArray] (by kernel_rfl) (hC _ bT (h1.below hM.below) (h2.below hM.below) hT) ?_
    rintro e W7 ⟨u', x', rfl, hO1, hO2, hb⟩
    obtain ⟨v1, j1, rfl, -, s11⟩ := (show OwnR _ _ _ _ 8 0 [] _ from hO1).slice
    obtain ⟨y1, i1, rfl, -, s12⟩ := (show OwnR _ _ _ _ 1 0 [] _ from hO2).slice
    replace hM := hM.call hb
    refine ⟨_, rfl, ⟨hM.below, hM.blk 3 rfl, hM.blk 2 rfl⟩, ?_⟩
    go_frame
    refine wa_take 5 (some 19) (.agg #[.slice v1 0 j1, .slice y1 0 i1]) rfl rfl (by kernel_rfl) (by kernel_rfl) (by kernel_rfl) (fun _ _ _ h => h) (by kernel_rfl) (fun w hS => by kernel_rfl) ⟨hM.below, hM.blk 3 rfl, hM.blk 2 rfl⟩ ?_
    go_frame
    refine wa_take 6 (some 20) (.agg (HD.cells HD.zero).toArray) rfl rfl (by kernel_rfl) (by kernel_rfl) (by kernel_rfl) (fun _ _ _ h => h) (by kernel_rfl) (fun w hS => by kernel_rfl) ⟨hM.below, hM.blk 3 rfl, hM.blk 2 rfl⟩ ?_
    go_frame
    refine wa_take 7 (some 21) (.bool false) rfl rfl (by kernel_rfl) (by kernel_rfl) (by kernel_rfl) (fun _ _ _ h => h) (by kernel_rfl) (fun w hS => by kernel_rfl) ⟨hM.below, hM.blk 3 rfl, hM.blk 2 rfl⟩ ?_
    go_frame
    refine wa_one 8 (by kernel_rfl) ?_
    refine wo_store rfl (by kernel_rfl) hM 1 rfl 33 _ _ rfl rfl (by kernel_rfl) [.slice v1 0 j1, .slice y1 0 i1] (by kernel_rfl) I_impl_Shared rfl rfl ?_
    clear hM; intro W8 hM
    refine ⟨⟨hM.below, hM.blk 3 rfl, hM.blk 2 rfl⟩, ?_⟩
    refine wa_one 9 (by kernel_rfl) ?_
    refine wo_store rfl (by kernel_rfl) hM 0 rfl 36 _ _ rfl rfl (by kernel_rfl) (HD.cells HD.zero) (by kernel_rfl) I_impl_Hand rfl (hd_one' _) ?_
    clear hM; intro W9 hM
    refine ⟨⟨hM.below, hM.blk 3 rfl, hM.blk 2 rfl⟩, ?_⟩
    refine wa_take 10 (some 8) (.bool false) rfl rfl (by kernel_rfl) (by kernel_rfl) (by kernel_rfl) (fun _ _ _ h => h) (by kernel_rfl) (fun w hS => by kernel_rfl) ⟨hM.below, hM.blk 3 rfl, hM.blk 2 rfl⟩ ?_
    go_frame
    refine wa_done (by kernel_rfl) ?_
    refine cn4 _ _ ?_
    clear cn4
    refine wp_ret ?_
    exact bodyPost_ret (ret_three (p := 6) (q := 7) (u := 8) (v := .bool false) rfl hM 1 0 rfl rfl rfl rfl rfl Try.underlying33 Try.underlying36 I_impl_Shared I_impl_Hand) rfl ⟨_, _, rfl, OwnR.nil _ _ _ _ _ _ _ s11, OwnR.nil _ _ _ _ _ _ _ s12, hM.below⟩
end Go.Proofs.Ythllpgjggmdmmaa
