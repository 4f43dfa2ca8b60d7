/- Letting go: the model. -/
import Derived.Test.YtbfndoajchibbaaGreatShort
import Derived.Test.YtbfndoajchibbaaGreatStep12
import Derived.Test.YtbfndoajchibbaaGreatHand3
namespace Go.Proofs.YtbfndoajchibbaaGreat
open Go.ChangeShapes Go.WideShapes Go.ChangeAt Go.RowKit
set_option linter.unusedVariables false
set_option maxRecDepth 100000
set_option maxHeartbeats 16000000
set_option linter.unusedSimpArgs false

theorem own_blk {w' : World} {B E sz n : Nat} {t : TypeId} {cs : List Value} {u : Value} (h : OwnR w' B E t sz n cs u) (h0 : 0 < n) : ∃ (g k : Nat) (p : List Value), u = .slice (some ⟨g, 0, none⟩) n k ∧ n ≤ k ∧ k ≤ maxLen ∧ B ≤ g ∧ Blk w' g t (cs ++ p) ∧ (cs ++ p).length = k * sz := by
  rcases h with ⟨h1, -⟩ | ⟨-, g, hg, -, k, p, rfl, h1, h2, ⟨-, hx⟩, hb⟩
  · omega
  · exact ⟨g, k, p, rfl, h1, h2, hg, hb, hx⟩
theorem held_last {l : List ND} {task : Int} (hz : 0 < (heldB l task).length) : ∃ (kL : Nat) (iL : Int), (heldB l task).length = kL + 1 ∧ (heldB l task)[kL]? = some iL ∧ (heldB l task).getLast? = some iL ∧ hasB l iL = true := by
  obtain ⟨kL, hL⟩ : ∃ k, (heldB l task).length = k + 1 := ⟨(heldB l task).length - 1, by omega⟩
  have hi : kL < (heldB l task).length := by omega
  refine ⟨kL, (heldB l task)[kL], hL, List.getElem?_eq_getElem hi, ?_, ?_⟩
  · rw [List.getLast?_eq_getElem?, hL, Nat.add_sub_cancel, List.getElem?_eq_getElem hi]
  · have hm : (heldB l task)[kL] ∈ heldB l task := List.getElem_mem hi
    generalize (heldB l task)[kL] = x at hm
    unfold heldB at hm
    split at hm
    · simp only [ownedBy, List.mem_map, List.mem_filter, List.mem_range] at hm
      obtain ⟨i, ⟨h1, -⟩, rfl⟩ := hm
      simp [hasB, inB]
      omega
    · simp at hm
theorem held_len (l : List ND) (task : Int) : (heldB l task).length ≤ l.length := by
  unfold heldB
  split
  · unfold ownedBy
    rw [List.length_map]
    exact Nat.le_trans (List.length_filter_le _ _) (by simp)
  · simp

theorem spec_l11Free0 (l : List ND) (task : Int) (h : HD) (g0 k0 : Nat) (p0 : List Value) (xa : Option Addr) (xn xk : Nat) (L : List Bk) (w00 w0 : World) (hM0 : Mem w00 w0 ((g0, 49, cellsOf l ++ p0) :: L)) (q1 : l.length ≤ k0) (q2 : k0 ≤ maxLen) (q5 : (cellsOf l ++ p0).length = k0 * 8) (hl30 : l.length ≤ 30) (hz : (heldB l task).length = 0) :
    Calls Tryz.prog 109 #[.agg #[.slice (some ⟨g0, 0, none⟩) l.length k0, .slice xa xn xk], .int .i64 task, h.val] w0 (SaysM w00 L (fun s => .tuple #[.agg #[s, .slice xa xn xk], (freeR l task h).2.val]) (freeR l task h).1) := by
  unfold HD.val
  have hln := held_len l task
  have hz0 : heldB l task = [] := List.length_eq_zero_iff.1 hz
  have hf0 : decide (((heldB l task).length : Int) > 0) = false := by simp; omega
  have hf1 : decide (((heldB l task).length : Int) > 1) = false := by simp; omega
  have hM := hM0
  go_enter Tryz.func109, Tryz.ntmps109
  refine wp_seq_k fun _ cn1 => wl_region ?_
  refine nx hM 55 [.slice (some ⟨g0, 0, none⟩) l.length k0, .slice xa xn xk] ?_
  clear hM; intro g1 W1 hM
  refine nx hM 73 (HD.cells h) ?_
  clear hM; intro g2 W2 hM
  refine na hM [.slice none 0 0, .slice none 0 0] Z_impl_Shared ?_
  clear hM; intro g3 W3 hM
  refine na hM (HD.cells HD.zero) Z_impl_Hand ?_
  clear hM; intro g4 W4 hM
  go_frame
  refine wl_nil (cn1 _ _ ?_)
  clear cn1
  refine wp_seq_k fun _ cn2 => wl_region ?_
  refine np (.pointer (some ⟨g1, 0, none⟩)) ?_
  refine ng hM 3 rfl 0 Tryz.underlying24 rfl ?_
  refine np (.int .i64 task) ?_
  refine nc (spec_HeldBy _ l task _ (nsl_blk (hM.blk 4 rfl) q1 q2) (by omega)) ?_
  rintro e W5 ⟨uH, rfl, hO, hb⟩
  obtain ⟨aH, cH, rfl, -, -⟩ := hO.slice
  replace hM := hM.call hb
  refine ⟨_, rfl, ?_⟩
  go_frame
  refine np (.slice aH ((heldB l task).length) cH) ?_
  go_frame
  refine wl_nil (cn2 _ _ ?_)
  clear cn2
  refine wp_seq_k fun Kn3 cn3 => ?_
  refine wp_seq_k fun _ cn4 => wl_region ?_
  refine np (.slice aH ((heldB l task).length) cH) ?_
  refine np (.int .i64 ((heldB l task).length : Int)) ?_
  refine nB (hf0) ?_
  go_frame
  refine wl_nil (cn4 _ _ ?_)
  clear cn4
  refine wp_cond_false rfl ?_
  refine wp_skip ?_
  refine cn3 _ _ ?_
  clear cn3
  refine wp_seq_k fun Kn5 cn5 => ?_
  refine wp_seq_k fun _ cn6 => wl_region ?_
  refine np (.slice aH ((heldB l task).length) cH) ?_
  refine np (.int .i64 ((heldB l task).length : Int)) ?_
  refine nB (hf1) ?_
  go_frame
  refine wl_nil (cn6 _ _ ?_)
  clear cn6
  refine wp_cond_false rfl ?_
  refine wp_skip ?_
  refine cn5 _ _ ?_
  clear cn5
  refine wp_seq_k fun Kn7 cn7 => ?_
  refine wp_seq_k fun _ cn8 => wl_region ?_
  refine np (.pointer (some ⟨g2, 13, none⟩)) ?_
  refine ng hM 2 rfl 13 Tryz.underlying4 rfl ?_
  go_frame
  refine wl_nil (cn8 _ _ ?_)
  clear cn8
  rcases tf (h.again) with hx1 | hx1
  rw [hx1]
  refine wp_cond_true rfl ?_
  refine wp_seq_k fun Kn9 cn9 => ?_
  refine wa_join (fun act W => ∃ (g5 : Nat), act = ⟨#[.agg #[.slice (some ⟨g0, 0, none⟩) l.length k0, .slice xa xn xk], .int .i64 task, .agg (HD.cells h).toArray, .pointer (some ⟨g1, 0, none⟩), undef, .pointer (some ⟨g2, 0, none⟩), .pointer (some ⟨g3, 0, none⟩), .pointer (some ⟨g4, 0, none⟩), .slice aH ((heldB l task).length) cH, .pointer (some ⟨g5, 0, none⟩), .int .i64 ((calledR (restH 0 0) h.c h.k h.v).2), .pointer (some ⟨g1, 0, none⟩), .slice (some ⟨g0, 0, none⟩) l.length k0, .int .i64 task, .slice aH ((heldB l task).length) cH, .slice aH ((heldB l task).length) cH, .int .i64 ((heldB l task).length : Int), .bool false, undef, undef, undef, undef, undef, undef, undef, undef, undef, undef, .slice aH ((heldB l task).length) cH, .int .i64 ((heldB l task).length : Int), .bool false, undef, undef, .pointer (some ⟨g2, 13, none⟩), .bool true, .tuple #[.agg (HD.cells ((calledR (restH 0 0) h.c h.k h.v).1)).toArray, .int .i64 ((calledR (restH 0 0) h.c h.k h.v).2)], .agg (HD.cells (restH 0 0)).toArray, .pointer (some ⟨g2, 1, none⟩), .agg #[.int .i64 h.c, .int .i64 h.k, .int .i64 h.v], .tuple #[.agg (HD.cells ((calledR (restH 0 0) h.c h.k h.v).1)).toArray, .int .i64 ((calledR (restH 0 0) h.c h.k h.v).2)], .agg (HD.cells ((calledR (restH 0 0) h.c h.k h.v).1)).toArray, .int .i64 ((calledR (restH 0 0) h.c h.k h.v).2), undef, undef, undef, undef, undef, undef, undef, undef, undef], []⟩ ∧ Mem w00 W ((g5, 73, (HD.cells ((calledR (restH 0 0) h.c h.k h.v).1))) :: (g4, 73, (HD.cells HD.zero)) :: (g3, 55, [.slice none 0 0, .slice none 0 0]) :: (g2, 73, (HD.cells h)) :: (g1, 55, [.slice (some ⟨g0, 0, none⟩) l.length k0, .slice xa xn xk]) :: (g0, 49, (cellsOf l ++ p0)) :: L)) ?_ ?_
  clear hM
  rintro act W10 ⟨g5, rfl, hM⟩
  refine cn9 _ _ ?_
  clear cn9
  refine wp_seq_k fun _ cn10 => wl_region ?_
  refine np (.pointer (some ⟨g2, 14, none⟩)) ?_
  refine ng hM 3 rfl 14 Tryz.underlying2 rfl ?_
  refine np (.pointer (some ⟨g5, 14, none⟩)) ?_
  refine nk hM 0 rfl 14 (.int .i64 h.begin_) I_int64 (by simp [HD.cells, splice_len]) ?_
  clear hM; intro W11 hM
  refine wl_nil (cn10 _ _ ?_)
  clear cn10
  refine wp_seq_k fun Kn11 cn11 => ?_
  refine wa_start (fun w => Below w00.heap.size w00 w ∧ Blk w g1 55 [.slice (some ⟨g0, 0, none⟩) l.length k0, .slice xa xn xk] ∧ Blk w g5 73 (HD.cells { (calledR (restH 0 0) h.c h.k h.v).1 with begin_ := h.begin_ })) 4 rfl (by kernel_rfl) ?_
  replace hM := hM.drew
  refine wq 0 (some 45) (.agg #[.slice (some ⟨g0, 0, none⟩) l.length k0, .slice xa xn xk]) ⟨hM.below, hM.blk 4 rfl, hM.blk 0 rfl⟩ rfl (fun w hS => r_load hS.2.1 55 _ rfl rfl Tryz.underlying55 I_impl_Shared) ?_
  go_frame
  refine wq 1 (some 46) (.agg (HD.cells { (calledR (restH 0 0) h.c h.k h.v).1 with begin_ := h.begin_ }).toArray) ⟨hM.below, hM.blk 4 rfl, hM.blk 0 rfl⟩ rfl (fun w hS => r_load hS.2.2 73 _ rfl rfl Tryz.underlying73 I_impl_Hand) ?_
  go_frame
  refine wn 2 ?_
  refine oS hM 2 rfl [.slice (some ⟨g0, 0, none⟩) l.length k0, .slice xa xn xk] I_impl_Shared rfl ?_
  clear hM; intro W12 hM
  refine ⟨⟨hM.below, hM.blk 4 rfl, hM.blk 0 rfl⟩, ?_⟩
  refine wn 3 ?_
  refine oS hM 1 rfl (HD.cells { (calledR (restH 0 0) h.c h.k h.v).1 with begin_ := h.begin_ }) I_impl_Hand (hd_one' _) ?_
  clear hM; intro W13 hM
  refine ⟨⟨hM.below, hM.blk 4 rfl, hM.blk 0 rfl⟩, ?_⟩
  refine wa_done (by kernel_rfl) ?_
  refine cn11 _ _ ?_
  clear cn11
  refine wp_ret ?_
  simp only [Exit.then, Exit.inBlock]
  have hR : freeR l task h = (l, { (calledR (restH 0 0) h.c h.k h.v).1 with begin_ := h.begin_ }) := by simp [freeR, freeL, setK, setO, hf0, hf1, hx1, hz0]
  rw [hR]
  have hN : (l : List ND).length = l.length := by first | rfl | simp
  refine bodyPost_ret (ret_cc (p := 6) (q := 7) rfl hM 2 1 rfl rfl rfl rfl Tryz.underlying55 Tryz.underlying73 I_impl_Shared I_impl_Hand) rfl ⟨g0, k0, p0, congrArg (fun q : Nat => Ending.returned ((fun s => .tuple #[.agg #[s, .slice xa xn xk], (((l, { (calledR (restH 0 0) h.c h.k h.v).1 with begin_ := h.begin_ }) : List ND × HD)).2.val]) (Value.slice (some ⟨g0, 0, none⟩) q k0))) hN.symm, ⟨by rw [hN]; exact q1, q2, q5⟩, ?_⟩
  exact (hM.pull 5 rfl).sub (fun i => if i = 0 then 0 else i + 5) (fun i x hx => by cases i with | zero => exact hx | succ i => simpa [Nat.add_assoc, Nat.add_comm] using hx) (fun i j _ _ e => by (try simp only at e); split at e <;> split at e <;> omega)
  refine wa_start (fun w => Below w00.heap.size w00 w ∧ Blk w g2 73 (HD.cells h)) 10 rfl (by kernel_rfl) ?_
  replace hM := hM.drew
  refine wt 1 (some 37) (.pointer (some ⟨g2, 1, none⟩)) ⟨hM.below, hM.blk 2 rfl⟩ ?_
  go_frame
  refine wq 2 (some 38) (.agg #[.int .i64 h.c, .int .i64 h.k, .int .i64 h.v]) ⟨hM.below, hM.blk 2 rfl⟩ rfl (fun w hS => r_part hS.2 71 _ rfl 1 rfl Tryz.underlying71 [.int .i64 h.c, .int .i64 h.k, .int .i64 h.v] I_impl_Call rfl) ?_
  go_frame
  refine wa_two 0 7 (by kernel_rfl) ?_ ?_
  refine oc (some 36) (spec_Resting 0 0 _) ?_
  rintro e W6 ⟨rfl, hb⟩
  replace hM := hM.call hb
  refine ⟨_, rfl, ⟨hM.below, hM.blk 2 rfl⟩, ?_⟩
  go_frame
  refine wa_two 3 7 (by kernel_rfl) ?_ ?_
  refine oc (some 39) (spec_Called (restH 0 0) h.c h.k h.v _) ?_
  rintro e W7 ⟨rfl, hb⟩
  replace hM := hM.call hb
  refine ⟨_, rfl, wk ⟨hM.below, hM.blk 2 rfl⟩ fun hs => ?_⟩
  go_frame
  refine wt 4 (some 35) (.tuple #[.agg (HD.cells ((calledR (restH 0 0) h.c h.k h.v).1)).toArray, .int .i64 ((calledR (restH 0 0) h.c h.k h.v).2)]) hs ?_
  refine wt 5 (some 40) (.agg (HD.cells ((calledR (restH 0 0) h.c h.k h.v).1)).toArray) hs ?_
  refine wt 6 (some 41) (.int .i64 ((calledR (restH 0 0) h.c h.k h.v).2)) hs ?_
  go_frame
  refine wn 7 ?_
  refine oa (some 9) hM (HD.cells HD.zero) Z_impl_Hand ?_
  clear hM; intro g5 W8 hM
  refine ⟨⟨hM.below, hM.blk 3 rfl⟩, ?_⟩
  go_frame
  refine wn 8 ?_
  refine oS hM 0 rfl (HD.cells ((calledR (restH 0 0) h.c h.k h.v).1)) I_impl_Hand (hd_one' _) ?_
  clear hM; intro W9 hM
  refine wk ⟨hM.below, hM.blk 3 rfl⟩ fun hs => ?_
  refine wt 9 (some 10) (.int .i64 ((calledR (restH 0 0) h.c h.k h.v).2)) hs ?_
  go_frame
  refine wa_doneJ (by kernel_rfl) ?_
  exact ⟨g5, rfl, hM⟩
  refine oa (some 9) hM (HD.cells HD.zero) Z_impl_Hand ?_
  clear hM; intro g5 W7 hM
  refine ⟨⟨hM.below, hM.blk 3 rfl⟩, ?_⟩
  go_frame
  refine wn 3 ?_
  refine oc (some 39) (spec_Called (restH 0 0) h.c h.k h.v _) ?_
  rintro e W8 ⟨rfl, hb⟩
  replace hM := hM.call hb
  refine ⟨_, rfl, wk ⟨hM.below, hM.blk 3 rfl⟩ fun hs => ?_⟩
  go_frame
  refine wt 4 (some 35) (.tuple #[.agg (HD.cells ((calledR (restH 0 0) h.c h.k h.v).1)).toArray, .int .i64 ((calledR (restH 0 0) h.c h.k h.v).2)]) hs ?_
  refine wt 5 (some 40) (.agg (HD.cells ((calledR (restH 0 0) h.c h.k h.v).1)).toArray) hs ?_
  refine wt 6 (some 41) (.int .i64 ((calledR (restH 0 0) h.c h.k h.v).2)) hs ?_
  go_frame
  refine wn 8 ?_
  refine oS hM 0 rfl (HD.cells ((calledR (restH 0 0) h.c h.k h.v).1)) I_impl_Hand (hd_one' _) ?_
  clear hM; intro W9 hM
  refine wk ⟨hM.below, hM.blk 3 rfl⟩ fun hs => ?_
  refine wt 9 (some 10) (.int .i64 ((calledR (restH 0 0) h.c h.k h.v).2)) hs ?_
  go_frame
  refine wa_doneJ (by kernel_rfl) ?_
  exact ⟨g5, rfl, hM⟩
  refine oa (some 9) hM (HD.cells HD.zero) Z_impl_Hand ?_
  clear hM; intro g5 W6 hM
  refine ⟨⟨hM.below, hM.blk 3 rfl⟩, ?_⟩
  go_frame
  refine wn 0 ?_
  refine oc (some 36) (spec_Resting 0 0 _) ?_
  rintro e W7 ⟨rfl, hb⟩
  replace hM := hM.call hb
  refine ⟨_, rfl, ⟨hM.below, hM.blk 3 rfl⟩, ?_⟩
  go_frame
  refine wn 3 ?_
  refine oc (some 39) (spec_Called (restH 0 0) h.c h.k h.v _) ?_
  rintro e W8 ⟨rfl, hb⟩
  replace hM := hM.call hb
  refine ⟨_, rfl, wk ⟨hM.below, hM.blk 3 rfl⟩ fun hs => ?_⟩
  go_frame
  refine wt 4 (some 35) (.tuple #[.agg (HD.cells ((calledR (restH 0 0) h.c h.k h.v).1)).toArray, .int .i64 ((calledR (restH 0 0) h.c h.k h.v).2)]) hs ?_
  refine wt 5 (some 40) (.agg (HD.cells ((calledR (restH 0 0) h.c h.k h.v).1)).toArray) hs ?_
  refine wt 6 (some 41) (.int .i64 ((calledR (restH 0 0) h.c h.k h.v).2)) hs ?_
  go_frame
  refine wn 8 ?_
  refine oS hM 0 rfl (HD.cells ((calledR (restH 0 0) h.c h.k h.v).1)) I_impl_Hand (hd_one' _) ?_
  clear hM; intro W9 hM
  refine wk ⟨hM.below, hM.blk 3 rfl⟩ fun hs => ?_
  refine wt 9 (some 10) (.int .i64 ((calledR (restH 0 0) h.c h.k h.v).2)) hs ?_
  go_frame
  refine wa_doneJ (by kernel_rfl) ?_
  exact ⟨g5, rfl, hM⟩
  rw [hx1]
  refine wp_cond_false rfl ?_
  refine wp_skip ?_
  refine cn7 _ _ ?_
  clear cn7
  refine wp_seq_k fun Kn9 cn9 => ?_
  refine wa_start (fun w => Below w00.heap.size w00 w ∧ Blk w g1 55 [.slice (some ⟨g0, 0, none⟩) l.length k0, .slice xa xn xk] ∧ Blk w g2 73 (HD.cells h)) 6 rfl (by kernel_rfl) ?_
  replace hM := hM.drew
  refine wq 0 (some 47) (.agg #[.slice (some ⟨g0, 0, none⟩) l.length k0, .slice xa xn xk]) ⟨hM.below, hM.blk 3 rfl, hM.blk 2 rfl⟩ rfl (fun w hS => r_load hS.2.1 55 _ rfl rfl Tryz.underlying55 I_impl_Shared) ?_
  refine wt 1 (some 48) (.pointer (some ⟨g2, 15, none⟩)) ⟨hM.below, hM.blk 3 rfl, hM.blk 2 rfl⟩ ?_
  go_frame
  refine wq 2 (some 49) (.int .i64 h.reply) ⟨hM.below, hM.blk 3 rfl, hM.blk 2 rfl⟩ rfl (fun w hS => r_loadc hS.2.2 2 _ rfl 15 rfl Tryz.underlying2 rfl rfl) ?_
  go_frame
  refine wn 3 ?_
  refine oc (some 50) (spec_Resting h.reply 0 _) ?_
  rintro e W6 ⟨rfl, hb⟩
  replace hM := hM.call hb
  refine ⟨_, rfl, ⟨hM.below, hM.blk 3 rfl, hM.blk 2 rfl⟩, ?_⟩
  go_frame
  refine wn 4 ?_
  refine oS hM 1 rfl [.slice (some ⟨g0, 0, none⟩) l.length k0, .slice xa xn xk] I_impl_Shared rfl ?_
  clear hM; intro W7 hM
  refine ⟨⟨hM.below, hM.blk 3 rfl, hM.blk 2 rfl⟩, ?_⟩
  refine wn 5 ?_
  refine oS hM 0 rfl (HD.cells (restH h.reply 0)) I_impl_Hand (hd_one' _) ?_
  clear hM; intro W8 hM
  refine ⟨⟨hM.below, hM.blk 3 rfl, hM.blk 2 rfl⟩, ?_⟩
  refine wa_done (by kernel_rfl) ?_
  refine cn9 _ _ ?_
  clear cn9
  refine wp_ret ?_
  have hR : freeR l task h = (l, (restH h.reply 0)) := by simp [freeR, freeL, setK, setO, hf0, hf1, hx1, hz0]
  rw [hR]
  have hN : (l : List ND).length = l.length := by first | rfl | simp
  refine bodyPost_ret (ret_cc (p := 6) (q := 7) rfl hM 1 0 rfl rfl rfl rfl Tryz.underlying55 Tryz.underlying73 I_impl_Shared I_impl_Hand) rfl ⟨g0, k0, p0, congrArg (fun q : Nat => Ending.returned ((fun s => .tuple #[.agg #[s, .slice xa xn xk], (((l, (restH h.reply 0)) : List ND × HD)).2.val]) (Value.slice (some ⟨g0, 0, none⟩) q k0))) hN.symm, ⟨by rw [hN]; exact q1, q2, q5⟩, ?_⟩
  exact (hM.pull 4 rfl).sub (fun i => if i = 0 then 0 else i + 4) (fun i x hx => by cases i with | zero => exact hx | succ i => simpa [Nat.add_assoc, Nat.add_comm] using hx) (fun i j _ _ e => by (try simp only at e); split at e <;> split at e <;> omega)

theorem spec_l11Free1 (l : List ND) (task : Int) (h : HD) (g0 k0 : Nat) (p0 : List Value) (xa : Option Addr) (xn xk : Nat) (L : List Bk) (w00 w0 : World) (hM0 : Mem w00 w0 ((g0, 49, cellsOf l ++ p0) :: L)) (q1 : l.length ≤ k0) (q2 : k0 ≤ maxLen) (q5 : (cellsOf l ++ p0).length = k0 * 8) (hl30 : l.length ≤ 30) (hz : 0 < (heldB l task).length) :
    Calls Tryz.prog 109 #[.agg #[.slice (some ⟨g0, 0, none⟩) l.length k0, .slice xa xn xk], .int .i64 task, h.val] w0 (SaysM w00 L (fun s => .tuple #[.agg #[s, .slice xa xn xk], (freeR l task h).2.val]) (freeR l task h).1) := by
  unfold HD.val
  have hln := held_len l task
  obtain ⟨kL, iL, hL, hiL, hgl, hhL⟩ := held_last hz
  obtain ⟨knh, ⟨nhk, nhv, nhl, nhr, nho, nhg, nhlt, nhrt⟩, hknh, nhe, hlnh, hnnh⟩ := nd_at hhL
  have tnh : iL.toNat = knh := by omega
  have hf0 : decide (((heldB l task).length : Int) > 0) = true := by simp; omega
  have hM := hM0
  go_enter Tryz.func109, Tryz.ntmps109
  refine wp_seq_k fun _ cn1 => wl_region ?_
  refine nx hM 55 [.slice (some ⟨g0, 0, none⟩) l.length k0, .slice xa xn xk] ?_
  clear hM; intro g1 W1 hM
  refine nx hM 73 (HD.cells h) ?_
  clear hM; intro g2 W2 hM
  refine na hM [.slice none 0 0, .slice none 0 0] Z_impl_Shared ?_
  clear hM; intro g3 W3 hM
  refine na hM (HD.cells HD.zero) Z_impl_Hand ?_
  clear hM; intro g4 W4 hM
  go_frame
  refine wl_nil (cn1 _ _ ?_)
  clear cn1
  refine wp_seq_k fun _ cn2 => wl_region ?_
  refine np (.pointer (some ⟨g1, 0, none⟩)) ?_
  refine ng hM 3 rfl 0 Tryz.underlying24 rfl ?_
  refine np (.int .i64 task) ?_
  refine nc (spec_HeldBy _ l task _ (nsl_blk (hM.blk 4 rfl) q1 q2) (by omega)) ?_
  rintro e W5 ⟨uH, rfl, hO, hb⟩
  obtain ⟨mh, kh, ph, rfl, qh1, qh2, hgh, hBh, -⟩ := own_blk hO hz
  replace hM := hM.got hb hgh hBh
  refine ⟨_, rfl, ?_⟩
  go_frame
  refine np (.slice (some ⟨mh, 0, none⟩) ((heldB l task).length) kh) ?_
  go_frame
  refine wl_nil (cn2 _ _ ?_)
  clear cn2
  refine wp_seq_k fun Kn3 cn3 => ?_
  refine wp_seq_k fun _ cn4 => wl_region ?_
  refine np (.slice (some ⟨mh, 0, none⟩) ((heldB l task).length) kh) ?_
  refine np (.int .i64 ((heldB l task).length : Int)) ?_
  refine nB (hf0) ?_
  go_frame
  refine wl_nil (cn4 _ _ ?_)
  clear cn4
  refine wp_cond_true rfl ?_
  refine wa_start (fun w => Below w00.heap.size w00 w ∧ Blk w g1 55 [.slice (some ⟨g0, 0, none⟩) l.length k0, .slice xa xn xk]) 11 rfl (by kernel_rfl) ?_
  replace hM := hM.drew
  refine wt 0 (some 18) (.pointer (some ⟨g1, 0, none⟩)) ⟨hM.below, hM.blk 4 rfl⟩ ?_
  go_frame
  refine wq 1 (some 19) (.slice (some ⟨g0, 0, none⟩) l.length k0) ⟨hM.below, hM.blk 4 rfl⟩ rfl (fun w hS => r_loadc hS.2 24 _ rfl 0 rfl Tryz.underlying24 rfl rfl) ?_
  refine wt 2 (some 20) (.slice (some ⟨mh, 0, none⟩) ((heldB l task).length) kh) ⟨hM.below, hM.blk 4 rfl⟩ ?_
  refine wt 3 (some 21) (.slice (some ⟨mh, 0, none⟩) ((heldB l task).length) kh) ⟨hM.below, hM.blk 4 rfl⟩ ?_
  refine wt 4 (some 22) (.int .i64 ((heldB l task).length : Int)) ⟨hM.below, hM.blk 4 rfl⟩ ?_
  go_frame
  refine wq 5 (some 23) (.int .i64 (((heldB l task).length : Int) - 1)) ⟨hM.below, hM.blk 4 rfl⟩ rfl (fun w hS => r_int (n := ((heldB l task).length : Int) - 1) (by kernel_rfl) (by omega) (by omega)) ?_
  go_frame
  refine wq 6 (some 24) (.pointer (some ⟨mh, 0 + kL * 1, none⟩)) ⟨hM.below, hM.blk 4 rfl⟩ rfl (fun w hS => r_index 33 2 _ _ rfl mh 0 ((heldB l task).length) kh 1 kL rfl rfl (by omega) (by omega) Tryz.underlying33 I_int64) ?_
  go_frame
  refine wn 7 ?_
  refine oq (some 25) (.int .i64 iL) ⟨hM.below, hM.blk 4 rfl⟩ rfl (r_loadc (hM.blk 0 rfl) 2 _ rfl (0 + kL * 1) rfl Tryz.underlying2 rfl (five_el hiL)) ?_
  go_frame
  refine wq 8 (some 26) (.pointer (some ⟨g0, 0 + knh * 8, none⟩)) ⟨hM.below, hM.blk 4 rfl⟩ rfl (fun w hS => r_index 24 49 _ _ rfl g0 0 l.length k0 8 knh rfl rfl hknh (by omega) Tryz.underlying24 I_impl_Node) ?_
  refine wt 9 (some 27) (.pointer (some ⟨g0, 0 + knh * 8 + 4, none⟩)) ⟨hM.below, hM.blk 4 rfl⟩ ?_
  go_frame
  refine wn 10 ?_
  refine ok' hM 5 rfl (0 + knh * 8 + 4) (.int .i64 0) I_int64 (node_room1 hlnh (by decide)) ?_
  clear hM; intro W6 hM; rw [node_set (j := 4) (n' := ⟨nhk, nhv, nhl, nhr, 0, nhg, nhlt, nhrt⟩) hnnh (by decide) rfl] at hM
  refine ⟨⟨hM.below, hM.blk 4 rfl⟩, ?_⟩
  refine wa_done (by kernel_rfl) ?_
  refine cn3 _ _ ?_
  clear cn3
  refine wp_seq_k fun Kn5 cn5 => ?_
  refine wp_seq_k fun _ cn6 => wl_region ?_
  refine np (.slice (some ⟨mh, 0, none⟩) ((heldB l task).length) kh) ?_
  refine np (.int .i64 ((heldB l task).length : Int)) ?_
  refine np (.bool (decide (((heldB l task).length : Int) > 1))) ?_
  go_frame
  refine wl_nil (cn6 _ _ ?_)
  clear cn6
  rcases tf (decide (((heldB l task).length : Int) > 1)) with hx1 | hx1
  rw [hx1]
  refine wp_cond_true rfl ?_
  refine wp_seq_k fun Kn7 cn7 => ?_
  refine wa_start (fun w => Below w00.heap.size w00 w ∧ Blk w g1 55 [.slice (some ⟨g0, 0, none⟩) l.length k0, .slice xa xn xk] ∧ Blk w g2 73 (HD.cells h)) 4 rfl (by kernel_rfl) ?_
  replace hM := hM.drew
  refine wq 0 (some 31) (.agg #[.slice (some ⟨g0, 0, none⟩) l.length k0, .slice xa xn xk]) ⟨hM.below, hM.blk 4 rfl, hM.blk 3 rfl⟩ rfl (fun w hS => r_load hS.2.1 55 _ rfl rfl Tryz.underlying55 I_impl_Shared) ?_
  go_frame
  refine wq 1 (some 32) (.agg (HD.cells h).toArray) ⟨hM.below, hM.blk 4 rfl, hM.blk 3 rfl⟩ rfl (fun w hS => r_load hS.2.2 73 _ rfl rfl Tryz.underlying73 I_impl_Hand) ?_
  go_frame
  refine wn 2 ?_
  refine oS hM 2 rfl [.slice (some ⟨g0, 0, none⟩) l.length k0, .slice xa xn xk] I_impl_Shared rfl ?_
  clear hM; intro W7 hM
  refine ⟨⟨hM.below, hM.blk 4 rfl, hM.blk 3 rfl⟩, ?_⟩
  refine wn 3 ?_
  refine oS hM 1 rfl (HD.cells h) I_impl_Hand (hd_one' _) ?_
  clear hM; intro W8 hM
  refine ⟨⟨hM.below, hM.blk 4 rfl, hM.blk 3 rfl⟩, ?_⟩
  refine wa_done (by kernel_rfl) ?_
  refine cn7 _ _ ?_
  clear cn7
  refine wp_ret ?_
  simp only [Exit.then, Exit.inBlock]
  have hR : freeR l task h = ((l.set knh ⟨nhk, nhv, nhl, nhr, 0, nhg, nhlt, nhrt⟩), h) := by simp [freeR, freeL, setK, setO, hf0, hx1, hgl, nhe, tnh]
  rw [hR]
  have hN : ((l.set knh ⟨nhk, nhv, nhl, nhr, 0, nhg, nhlt, nhrt⟩) : List ND).length = l.length := by first | rfl | simp
  refine bodyPost_ret (ret_cc (p := 6) (q := 7) rfl hM 2 1 rfl rfl rfl rfl Tryz.underlying55 Tryz.underlying73 I_impl_Shared I_impl_Hand) rfl ⟨g0, k0, p0, congrArg (fun q : Nat => Ending.returned ((fun s => .tuple #[.agg #[s, .slice xa xn xk], ((((l.set knh ⟨nhk, nhv, nhl, nhr, 0, nhg, nhlt, nhrt⟩), h) : List ND × HD)).2.val]) (Value.slice (some ⟨g0, 0, none⟩) q k0))) hN.symm, ⟨by rw [hN]; exact q1, q2, (by rw [node_keep]; exact q5)⟩, ?_⟩
  exact (hM.pull 5 rfl).sub (fun i => if i = 0 then 0 else i + 5) (fun i x hx => by cases i with | zero => exact hx | succ i => simpa [Nat.add_assoc, Nat.add_comm] using hx) (fun i j _ _ e => by (try simp only at e); split at e <;> split at e <;> omega)
  rw [hx1]
  refine wp_cond_false rfl ?_
  refine wp_skip ?_
  refine cn5 _ _ ?_
  clear cn5
  refine wp_seq_k fun Kn7 cn7 => ?_
  refine wp_seq_k fun _ cn8 => wl_region ?_
  refine np (.pointer (some ⟨g2, 13, none⟩)) ?_
  refine ng hM 3 rfl 13 Tryz.underlying4 rfl ?_
  go_frame
  refine wl_nil (cn8 _ _ ?_)
  clear cn8
  rcases tf (h.again) with hx2 | hx2
  rw [hx2]
  refine wp_cond_true rfl ?_
  refine wp_seq_k fun Kn9 cn9 => ?_
  refine wa_join (fun act W => ∃ (g5 : Nat), act = ⟨#[.agg #[.slice (some ⟨g0, 0, none⟩) l.length k0, .slice xa xn xk], .int .i64 task, .agg (HD.cells h).toArray, .pointer (some ⟨g1, 0, none⟩), undef, .pointer (some ⟨g2, 0, none⟩), .pointer (some ⟨g3, 0, none⟩), .pointer (some ⟨g4, 0, none⟩), .slice (some ⟨mh, 0, none⟩) ((heldB l task).length) kh, .pointer (some ⟨g5, 0, none⟩), .int .i64 ((calledR (restH 0 0) h.c h.k h.v).2), .pointer (some ⟨g1, 0, none⟩), .slice (some ⟨g0, 0, none⟩) l.length k0, .int .i64 task, .slice (some ⟨mh, 0, none⟩) ((heldB l task).length) kh, .slice (some ⟨mh, 0, none⟩) ((heldB l task).length) kh, .int .i64 ((heldB l task).length : Int), .bool true, .pointer (some ⟨g1, 0, none⟩), .slice (some ⟨g0, 0, none⟩) l.length k0, .slice (some ⟨mh, 0, none⟩) ((heldB l task).length) kh, .slice (some ⟨mh, 0, none⟩) ((heldB l task).length) kh, .int .i64 ((heldB l task).length : Int), .int .i64 (((heldB l task).length : Int) - 1), .pointer (some ⟨mh, 0 + kL * 1, none⟩), .int .i64 iL, .pointer (some ⟨g0, 0 + knh * 8, none⟩), .pointer (some ⟨g0, 0 + knh * 8 + 4, none⟩), .slice (some ⟨mh, 0, none⟩) ((heldB l task).length) kh, .int .i64 ((heldB l task).length : Int), .bool false, undef, undef, .pointer (some ⟨g2, 13, none⟩), .bool true, .tuple #[.agg (HD.cells ((calledR (restH 0 0) h.c h.k h.v).1)).toArray, .int .i64 ((calledR (restH 0 0) h.c h.k h.v).2)], .agg (HD.cells (restH 0 0)).toArray, .pointer (some ⟨g2, 1, none⟩), .agg #[.int .i64 h.c, .int .i64 h.k, .int .i64 h.v], .tuple #[.agg (HD.cells ((calledR (restH 0 0) h.c h.k h.v).1)).toArray, .int .i64 ((calledR (restH 0 0) h.c h.k h.v).2)], .agg (HD.cells ((calledR (restH 0 0) h.c h.k h.v).1)).toArray, .int .i64 ((calledR (restH 0 0) h.c h.k h.v).2), undef, undef, undef, undef, undef, undef, undef, undef, undef], []⟩ ∧ Mem w00 W ((g5, 73, (HD.cells ((calledR (restH 0 0) h.c h.k h.v).1))) :: (mh, 2, (cellsI (heldB l task) ++ ph)) :: (g4, 73, (HD.cells HD.zero)) :: (g3, 55, [.slice none 0 0, .slice none 0 0]) :: (g2, 73, (HD.cells h)) :: (g1, 55, [.slice (some ⟨g0, 0, none⟩) l.length k0, .slice xa xn xk]) :: (g0, 49, (cellsOf (l.set knh ⟨nhk, nhv, nhl, nhr, 0, nhg, nhlt, nhrt⟩) ++ p0)) :: L)) ?_ ?_
  clear hM
  rintro act W11 ⟨g5, rfl, hM⟩
  refine cn9 _ _ ?_
  clear cn9
  refine wp_seq_k fun _ cn10 => wl_region ?_
  refine np (.pointer (some ⟨g2, 14, none⟩)) ?_
  refine ng hM 4 rfl 14 Tryz.underlying2 rfl ?_
  refine np (.pointer (some ⟨g5, 14, none⟩)) ?_
  refine nk hM 0 rfl 14 (.int .i64 h.begin_) I_int64 (by simp [HD.cells, splice_len]) ?_
  clear hM; intro W12 hM
  refine wl_nil (cn10 _ _ ?_)
  clear cn10
  refine wp_seq_k fun Kn11 cn11 => ?_
  refine wa_start (fun w => Below w00.heap.size w00 w ∧ Blk w g1 55 [.slice (some ⟨g0, 0, none⟩) l.length k0, .slice xa xn xk] ∧ Blk w g5 73 (HD.cells { (calledR (restH 0 0) h.c h.k h.v).1 with begin_ := h.begin_ })) 4 rfl (by kernel_rfl) ?_
  replace hM := hM.drew
  refine wq 0 (some 45) (.agg #[.slice (some ⟨g0, 0, none⟩) l.length k0, .slice xa xn xk]) ⟨hM.below, hM.blk 5 rfl, hM.blk 0 rfl⟩ rfl (fun w hS => r_load hS.2.1 55 _ rfl rfl Tryz.underlying55 I_impl_Shared) ?_
  go_frame
  refine wq 1 (some 46) (.agg (HD.cells { (calledR (restH 0 0) h.c h.k h.v).1 with begin_ := h.begin_ }).toArray) ⟨hM.below, hM.blk 5 rfl, hM.blk 0 rfl⟩ rfl (fun w hS => r_load hS.2.2 73 _ rfl rfl Tryz.underlying73 I_impl_Hand) ?_
  go_frame
  refine wn 2 ?_
  refine oS hM 3 rfl [.slice (some ⟨g0, 0, none⟩) l.length k0, .slice xa xn xk] I_impl_Shared rfl ?_
  clear hM; intro W13 hM
  refine ⟨⟨hM.below, hM.blk 5 rfl, hM.blk 0 rfl⟩, ?_⟩
  refine wn 3 ?_
  refine oS hM 2 rfl (HD.cells { (calledR (restH 0 0) h.c h.k h.v).1 with begin_ := h.begin_ }) I_impl_Hand (hd_one' _) ?_
  clear hM; intro W14 hM
  refine ⟨⟨hM.below, hM.blk 5 rfl, hM.blk 0 rfl⟩, ?_⟩
  refine wa_done (by kernel_rfl) ?_
  refine cn11 _ _ ?_
  clear cn11
  refine wp_ret ?_
  simp only [Exit.then, Exit.inBlock]
  have hR : freeR l task h = ((l.set knh ⟨nhk, nhv, nhl, nhr, 0, nhg, nhlt, nhrt⟩), { (calledR (restH 0 0) h.c h.k h.v).1 with begin_ := h.begin_ }) := by simp [freeR, freeL, setK, setO, hf0, hx1, hx2, hgl, nhe, tnh]
  rw [hR]
  have hN : ((l.set knh ⟨nhk, nhv, nhl, nhr, 0, nhg, nhlt, nhrt⟩) : List ND).length = l.length := by first | rfl | simp
  refine bodyPost_ret (ret_cc (p := 6) (q := 7) rfl hM 3 2 rfl rfl rfl rfl Tryz.underlying55 Tryz.underlying73 I_impl_Shared I_impl_Hand) rfl ⟨g0, k0, p0, congrArg (fun q : Nat => Ending.returned ((fun s => .tuple #[.agg #[s, .slice xa xn xk], ((((l.set knh ⟨nhk, nhv, nhl, nhr, 0, nhg, nhlt, nhrt⟩), { (calledR (restH 0 0) h.c h.k h.v).1 with begin_ := h.begin_ }) : List ND × HD)).2.val]) (Value.slice (some ⟨g0, 0, none⟩) q k0))) hN.symm, ⟨by rw [hN]; exact q1, q2, (by rw [node_keep]; exact q5)⟩, ?_⟩
  exact (hM.pull 6 rfl).sub (fun i => if i = 0 then 0 else i + 6) (fun i x hx => by cases i with | zero => exact hx | succ i => simpa [Nat.add_assoc, Nat.add_comm] using hx) (fun i j _ _ e => by (try simp only at e); split at e <;> split at e <;> omega)
  refine wa_start (fun w => Below w00.heap.size w00 w ∧ Blk w g2 73 (HD.cells h)) 10 rfl (by kernel_rfl) ?_
  replace hM := hM.drew
  refine wt 1 (some 37) (.pointer (some ⟨g2, 1, none⟩)) ⟨hM.below, hM.blk 3 rfl⟩ ?_
  go_frame
  refine wq 2 (some 38) (.agg #[.int .i64 h.c, .int .i64 h.k, .int .i64 h.v]) ⟨hM.below, hM.blk 3 rfl⟩ rfl (fun w hS => r_part hS.2 71 _ rfl 1 rfl Tryz.underlying71 [.int .i64 h.c, .int .i64 h.k, .int .i64 h.v] I_impl_Call rfl) ?_
  go_frame
  refine wa_two 0 7 (by kernel_rfl) ?_ ?_
  refine oc (some 36) (spec_Resting 0 0 _) ?_
  rintro e W7 ⟨rfl, hb⟩
  replace hM := hM.call hb
  refine ⟨_, rfl, ⟨hM.below, hM.blk 3 rfl⟩, ?_⟩
  go_frame
  refine wa_two 3 7 (by kernel_rfl) ?_ ?_
  refine oc (some 39) (spec_Called (restH 0 0) h.c h.k h.v _) ?_
  rintro e W8 ⟨rfl, hb⟩
  replace hM := hM.call hb
  refine ⟨_, rfl, wk ⟨hM.below, hM.blk 3 rfl⟩ fun hs => ?_⟩
  go_frame
  refine wt 4 (some 35) (.tuple #[.agg (HD.cells ((calledR (restH 0 0) h.c h.k h.v).1)).toArray, .int .i64 ((calledR (restH 0 0) h.c h.k h.v).2)]) hs ?_
  refine wt 5 (some 40) (.agg (HD.cells ((calledR (restH 0 0) h.c h.k h.v).1)).toArray) hs ?_
  refine wt 6 (some 41) (.int .i64 ((calledR (restH 0 0) h.c h.k h.v).2)) hs ?_
  go_frame
  refine wn 7 ?_
  refine oa (some 9) hM (HD.cells HD.zero) Z_impl_Hand ?_
  clear hM; intro g5 W9 hM
  refine ⟨⟨hM.below, hM.blk 4 rfl⟩, ?_⟩
  go_frame
  refine wn 8 ?_
  refine oS hM 0 rfl (HD.cells ((calledR (restH 0 0) h.c h.k h.v).1)) I_impl_Hand (hd_one' _) ?_
  clear hM; intro W10 hM
  refine wk ⟨hM.below, hM.blk 4 rfl⟩ fun hs => ?_
  refine wt 9 (some 10) (.int .i64 ((calledR (restH 0 0) h.c h.k h.v).2)) hs ?_
  go_frame
  refine wa_doneJ (by kernel_rfl) ?_
  exact ⟨g5, rfl, hM⟩
  refine oa (some 9) hM (HD.cells HD.zero) Z_impl_Hand ?_
  clear hM; intro g5 W8 hM
  refine ⟨⟨hM.below, hM.blk 4 rfl⟩, ?_⟩
  go_frame
  refine wn 3 ?_
  refine oc (some 39) (spec_Called (restH 0 0) h.c h.k h.v _) ?_
  rintro e W9 ⟨rfl, hb⟩
  replace hM := hM.call hb
  refine ⟨_, rfl, wk ⟨hM.below, hM.blk 4 rfl⟩ fun hs => ?_⟩
  go_frame
  refine wt 4 (some 35) (.tuple #[.agg (HD.cells ((calledR (restH 0 0) h.c h.k h.v).1)).toArray, .int .i64 ((calledR (restH 0 0) h.c h.k h.v).2)]) hs ?_
  refine wt 5 (some 40) (.agg (HD.cells ((calledR (restH 0 0) h.c h.k h.v).1)).toArray) hs ?_
  refine wt 6 (some 41) (.int .i64 ((calledR (restH 0 0) h.c h.k h.v).2)) hs ?_
  go_frame
  refine wn 8 ?_
  refine oS hM 0 rfl (HD.cells ((calledR (restH 0 0) h.c h.k h.v).1)) I_impl_Hand (hd_one' _) ?_
  clear hM; intro W10 hM
  refine wk ⟨hM.below, hM.blk 4 rfl⟩ fun hs => ?_
  refine wt 9 (some 10) (.int .i64 ((calledR (restH 0 0) h.c h.k h.v).2)) hs ?_
  go_frame
  refine wa_doneJ (by kernel_rfl) ?_
  exact ⟨g5, rfl, hM⟩
  refine oa (some 9) hM (HD.cells HD.zero) Z_impl_Hand ?_
  clear hM; intro g5 W7 hM
  refine ⟨⟨hM.below, hM.blk 4 rfl⟩, ?_⟩
  go_frame
  refine wn 0 ?_
  refine oc (some 36) (spec_Resting 0 0 _) ?_
  rintro e W8 ⟨rfl, hb⟩
  replace hM := hM.call hb
  refine ⟨_, rfl, ⟨hM.below, hM.blk 4 rfl⟩, ?_⟩
  go_frame
  refine wn 3 ?_
  refine oc (some 39) (spec_Called (restH 0 0) h.c h.k h.v _) ?_
  rintro e W9 ⟨rfl, hb⟩
  replace hM := hM.call hb
  refine ⟨_, rfl, wk ⟨hM.below, hM.blk 4 rfl⟩ fun hs => ?_⟩
  go_frame
  refine wt 4 (some 35) (.tuple #[.agg (HD.cells ((calledR (restH 0 0) h.c h.k h.v).1)).toArray, .int .i64 ((calledR (restH 0 0) h.c h.k h.v).2)]) hs ?_
  refine wt 5 (some 40) (.agg (HD.cells ((calledR (restH 0 0) h.c h.k h.v).1)).toArray) hs ?_
  refine wt 6 (some 41) (.int .i64 ((calledR (restH 0 0) h.c h.k h.v).2)) hs ?_
  go_frame
  refine wn 8 ?_
  refine oS hM 0 rfl (HD.cells ((calledR (restH 0 0) h.c h.k h.v).1)) I_impl_Hand (hd_one' _) ?_
  clear hM; intro W10 hM
  refine wk ⟨hM.below, hM.blk 4 rfl⟩ fun hs => ?_
  refine wt 9 (some 10) (.int .i64 ((calledR (restH 0 0) h.c h.k h.v).2)) hs ?_
  go_frame
  refine wa_doneJ (by kernel_rfl) ?_
  exact ⟨g5, rfl, hM⟩
  rw [hx2]
  refine wp_cond_false rfl ?_
  refine wp_skip ?_
  refine cn7 _ _ ?_
  clear cn7
  refine wp_seq_k fun Kn9 cn9 => ?_
  refine wa_start (fun w => Below w00.heap.size w00 w ∧ Blk w g1 55 [.slice (some ⟨g0, 0, none⟩) l.length k0, .slice xa xn xk] ∧ Blk w g2 73 (HD.cells h)) 6 rfl (by kernel_rfl) ?_
  replace hM := hM.drew
  refine wq 0 (some 47) (.agg #[.slice (some ⟨g0, 0, none⟩) l.length k0, .slice xa xn xk]) ⟨hM.below, hM.blk 4 rfl, hM.blk 3 rfl⟩ rfl (fun w hS => r_load hS.2.1 55 _ rfl rfl Tryz.underlying55 I_impl_Shared) ?_
  refine wt 1 (some 48) (.pointer (some ⟨g2, 15, none⟩)) ⟨hM.below, hM.blk 4 rfl, hM.blk 3 rfl⟩ ?_
  go_frame
  refine wq 2 (some 49) (.int .i64 h.reply) ⟨hM.below, hM.blk 4 rfl, hM.blk 3 rfl⟩ rfl (fun w hS => r_loadc hS.2.2 2 _ rfl 15 rfl Tryz.underlying2 rfl rfl) ?_
  go_frame
  refine wn 3 ?_
  refine oc (some 50) (spec_Resting h.reply 0 _) ?_
  rintro e W7 ⟨rfl, hb⟩
  replace hM := hM.call hb
  refine ⟨_, rfl, ⟨hM.below, hM.blk 4 rfl, hM.blk 3 rfl⟩, ?_⟩
  go_frame
  refine wn 4 ?_
  refine oS hM 2 rfl [.slice (some ⟨g0, 0, none⟩) l.length k0, .slice xa xn xk] I_impl_Shared rfl ?_
  clear hM; intro W8 hM
  refine ⟨⟨hM.below, hM.blk 4 rfl, hM.blk 3 rfl⟩, ?_⟩
  refine wn 5 ?_
  refine oS hM 1 rfl (HD.cells (restH h.reply 0)) I_impl_Hand (hd_one' _) ?_
  clear hM; intro W9 hM
  refine ⟨⟨hM.below, hM.blk 4 rfl, hM.blk 3 rfl⟩, ?_⟩
  refine wa_done (by kernel_rfl) ?_
  refine cn9 _ _ ?_
  clear cn9
  refine wp_ret ?_
  have hR : freeR l task h = ((l.set knh ⟨nhk, nhv, nhl, nhr, 0, nhg, nhlt, nhrt⟩), (restH h.reply 0)) := by simp [freeR, freeL, setK, setO, hf0, hx1, hx2, hgl, nhe, tnh]
  rw [hR]
  have hN : ((l.set knh ⟨nhk, nhv, nhl, nhr, 0, nhg, nhlt, nhrt⟩) : List ND).length = l.length := by first | rfl | simp
  refine bodyPost_ret (ret_cc (p := 6) (q := 7) rfl hM 2 1 rfl rfl rfl rfl Tryz.underlying55 Tryz.underlying73 I_impl_Shared I_impl_Hand) rfl ⟨g0, k0, p0, congrArg (fun q : Nat => Ending.returned ((fun s => .tuple #[.agg #[s, .slice xa xn xk], ((((l.set knh ⟨nhk, nhv, nhl, nhr, 0, nhg, nhlt, nhrt⟩), (restH h.reply 0)) : List ND × HD)).2.val]) (Value.slice (some ⟨g0, 0, none⟩) q k0))) hN.symm, ⟨by rw [hN]; exact q1, q2, (by rw [node_keep]; exact q5)⟩, ?_⟩
  exact (hM.pull 5 rfl).sub (fun i => if i = 0 then 0 else i + 5) (fun i x hx => by cases i with | zero => exact hx | succ i => simpa [Nat.add_assoc, Nat.add_comm] using hx) (fun i j _ _ e => by (try simp only at e); split at e <;> split at e <;> omega)
theorem spec_l11Free (l : List ND) (task : Int) (h : HD) (g0 k0 : Nat) (p0 : List Value) (xa : Option Addr) (xn xk : Nat) (L : List Bk) (w00 w0 : World) (hM0 : Mem w00 w0 ((g0, 49, cellsOf l ++ p0) :: L)) (q1 : l.length ≤ k0) (q2 : k0 ≤ maxLen) (q5 : (cellsOf l ++ p0).length = k0 * 8) (hl30 : l.length ≤ 30) :
    Calls Tryz.prog 109 #[.agg #[.slice (some ⟨g0, 0, none⟩) l.length k0, .slice xa xn xk], .int .i64 task, h.val] w0 (SaysM w00 L (fun s => .tuple #[.agg #[s, .slice xa xn xk], (freeR l task h).2.val]) (freeR l task h).1) := by
  rcases Nat.eq_zero_or_pos (heldB l task).length with hz | hz
  · exact spec_l11Free0 l task h g0 k0 p0 xa xn xk L w00 w0 hM0 q1 q2 q5 hl30 hz
  · exact spec_l11Free1 l task h g0 k0 p0 xa xn xk L w00 w0 hM0 q1 q2 q5 hl30 hz
end Go.Proofs.YtbfndoajchibbaaGreat
