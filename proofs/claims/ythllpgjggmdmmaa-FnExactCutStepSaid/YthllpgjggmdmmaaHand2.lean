/- HandOk of the model: by the operations' laws. -/
import Derived.Test.YthllpgjggmdmmaaHand
import Derived.Test.YthllpgjggmdmmaaTypes
import Derived.Test.YthllpgjggmdmmaaReads
namespace Go.Proofs.Ythllpgjggmdmmaa
open Go.ChangeShapes Go.WideShapes Go.ChangeAt Go.RowKit
set_option linter.unusedVariables false
set_option linter.unusedSimpArgs false


set_option maxRecDepth 100000 in
set_option maxHeartbeats 1000000 in
theorem spec_l6Nodes (h : HD) (w : World) : Calls Try.prog 39 #[h.val] w (FreshI w (five h)) := by
  obtain ⟨at_, c, k, v, prev, cur, side, tag, up, next, new, index, seen, again, begin_, reply, out⟩ := h
  simp only [HD.val, HD.cells, five]
  go_enter Try.func39, Try.ntmps39
  go_wp2
  go_ret
  refine ⟨w.heap.size + 1, _, rfl, by omega, ⟨5, [], rfl, Nat.le_refl _, by simp [maxLen], ⟨rfl, rfl⟩, ?_⟩, ((Below.refl _ _).alloc (Nat.le_refl _) _).alloc (by simp) _⟩
  exact heap_alloc2_new w _ _

def fiveTo (l : List Int) (k : Nat) : Prop := ∀ (j : Nat) (n : Int), j < k → l[j]? = some n → inB n 0 29 = true
theorem fiveTo.all {l : List Int} (h : fiveTo l l.length) : l.all (fun n => inB n 0 29) = true := by
  rw [List.all_eq_true]
  intro n hn
  obtain ⟨j, hj, e⟩ := List.getElem_of_mem hn
  exact h j n hj (by rw [List.getElem?_eq_getElem hj, e])
theorem five_off {l : List Int} {k : Nat} {n : Int} (hn : l[k]? = some n) (h : inB n 0 29 = false) : l.all (fun n => inB n 0 29) = false := by
  rw [Bool.eq_false_iff]
  intro hc
  rw [List.all_eq_true] at hc
  rw [hc n (List.mem_of_getElem? hn)] at h
  cases h

theorem five_el {l : List Int} {k : Nat} {n : Int} {sp : List Value} (h : l[k]? = some n) : (cellsI l ++ sp)[0 + k * 1]? = some (.int .i64 n) := by
  have hk : k < l.length := (List.getElem?_eq_some_iff.1 h).1
  rw [Nat.zero_add, Nat.mul_one, List.getElem?_append_left (by simpa [cellsI] using hk)]
  simp [cellsI, h]
set_option maxRecDepth 100000 in
set_option maxHeartbeats 4000000 in
theorem spec_HandOk (h : HD) (w0 : World) : Calls Try.prog 37 #[h.val] w0 fun e w' => e = .returned (.bool (handB h)) ∧ Below w0.heap.size w0 w' := by
  unfold HD.val
  have hM := Mem.start w0
  go_enter Try.func37, Try.ntmps37
  refine wp_seq_k fun Kn1 cn1 => ?_
  refine wl_region ?_
  refine wl_box (by kernel_rfl) hM 36 _ rfl (HD.cells h) rfl ?_
  clear hM; intro g1 W1 hM
  go_frame
  refine wl_pure (by kernel_rfl) (.bool false) (by kernel_rfl) ?_
  go_frame
  refine wl_nil ?_
  refine cn1 _ _ ?_
  clear cn1
  refine wp_seq_k fun Kn2 cn2 => ?_
  refine wp_seq_k fun Kn3 cn3 => ?_
  obtain ⟨xg1, hxg1⟩ : ∃ x : Bool, x = ((!inB h.at_ 0 26) || ((!callB h.c h.k h.v) && (!((h.at_ == 0) && noneB h.c h.k h.v)))) := ⟨_, rfl⟩
  refine wa_join (fun act W => ∃ (U1 : Nat → Value), act = ⟨#[.agg (HD.cells h).toArray, .pointer (some ⟨g1, 0, none⟩), .bool false, undef, undef, (U1 0), (U1 1), (U1 2), (U1 3), (U1 4), (U1 5), (U1 6), (U1 7), (U1 8), (U1 9), (U1 10), (U1 11), (U1 12), (U1 13), (U1 14), (U1 15), (U1 16), (U1 17), (U1 18), (U1 19), (U1 20), undef, undef, undef, undef, undef, undef, undef, undef, undef, undef, undef, undef, undef, undef, undef, undef, undef, undef, undef, undef, undef, undef, undef, undef, undef, undef, undef, undef, undef, undef, undef, undef, undef, undef, undef, undef, undef, undef, undef, undef, undef, undef, undef, undef, undef, undef, undef], []⟩ ∧ U1 20 = .bool xg1 ∧ Mem w0 W [(g1, 36, (HD.cells h))]) ?_ ?_
  clear hM
  rintro act W2 ⟨U1, rfl, hU1, hM⟩
  refine cn3 _ _ ?_
  clear cn3
  rcases Bool.eq_false_or_eq_true (((!inB h.at_ 0 26) || ((!callB h.c h.k h.v) && (!((h.at_ == 0) && noneB h.c h.k h.v))))) with hx1 | hx1
  have hhd : headB h = false := by unfold headB; revert hx1; cases inB h.at_ 0 26 <;> cases callB h.c h.k h.v <;> cases (h.at_ == 0) <;> cases noneB h.c h.k h.v <;> simp
  refine wp_cond_true (hU1.trans (congrArg Value.bool (hxg1.trans hx1))) ?_
  refine wp_seq_k fun Kn4 cn4 => ?_
  refine wl_region ?_
  refine wl_pure (by kernel_rfl) (.bool false) (by kernel_rfl) ?_
  go_frame
  refine wl_nil ?_
  refine cn4 _ _ ?_
  clear cn4
  refine wp_ret ?_
  simp only [Exit.then, Exit.inBlock]
  exact bodyPost_ret (v := .bool false) (ret_tmp 2 rfl rfl) rfl ⟨ret_b (by first | (simp [handB, handL, *]; done) | (simp [handB, headB, handL, *]; done)), hM.below⟩
  have hhd : headB h = true := by unfold headB; revert hx1; cases inB h.at_ 0 26 <;> cases callB h.c h.k h.v <;> cases (h.at_ == 0) <;> cases noneB h.c h.k h.v <;> simp
  refine wp_cond_false (hU1.trans (congrArg Value.bool (hxg1.trans hx1))) ?_
  refine wp_skip ?_
  refine cn2 _ _ ?_
  clear cn2
  refine wp_seq_k fun Kn4 cn4 => ?_
  refine wl_region ?_
  refine wl_load (by kernel_rfl) hM 0 rfl 36 _ rfl rfl Try.underlying36 I_impl_Hand ?_
  go_frame
  refine wl_call (by kernel_rfl) 39 #[.agg (HD.cells h).toArray] (by kernel_rfl) (spec_l6Nodes h _) ?_
  rintro e W5 ⟨g5, u5, rfl, hg5, ⟨c5, sp5, rfl, hc5, hm5, hl5, hO5b⟩, hB5⟩
  refine ⟨_, rfl, ?_⟩
  replace hM := hM.got hB5 hg5 hO5b
  go_frame
  refine wl_pure (by kernel_rfl) (.slice (some ⟨g5, 0, none⟩) 5 c5) (by kernel_rfl) ?_
  go_frame
  refine wl_nil ?_
  refine cn4 _ _ ?_
  clear cn4
  refine wp_seq_k fun Kn5 cn5 => ?_
  refine wp_seq_k fun Kn6 cn6 => ?_
  refine wl_region ?_
  refine wl_pure (by kernel_rfl) (.int .i64 0) (by kernel_rfl) ?_
  go_frame
  refine wl_nil ?_
  refine cn6 _ _ ?_
  clear cn6
  refine wp_block ?_
  refine wp_loop (fun act w => ∃ (k : Nat) (U2 : Nat → Value), act = ⟨#[.agg (HD.cells h).toArray, .pointer (some ⟨g1, 0, none⟩), (U2 0), .slice (some ⟨g5, 0, none⟩) 5 c5, .int .i64 (k : Int), (U1 0), (U1 1), (U1 2), (U1 3), (U1 4), (U1 5), (U1 6), (U1 7), (U1 8), (U1 9), (U1 10), (U1 11), (U1 12), (U1 13), (U1 14), (U1 15), (U1 16), (U1 17), (U1 18), (U1 19), (U1 20), .agg (HD.cells h).toArray, .slice (some ⟨g5, 0, none⟩) 5 c5, (U2 1), (U2 2), (U2 3), (U2 4), (U2 5), (U2 6), (U2 7), (U2 8), (U2 9), (U2 10), (U2 11), (U2 12), undef, undef, undef, undef, undef, undef, undef, undef, undef, undef, undef, undef, undef, undef, undef, undef, undef, undef, undef, undef, undef, undef, undef, undef, undef, undef, undef, undef, undef, undef, undef, undef, undef], []⟩ ∧ Mem w0 w [(g5, 2, (cellsI (five h) ++ sp5)), (g1, 36, (HD.cells h))] ∧ (k ≤ 5 ∧ fiveTo (five h) k)) (fun act _ => 5 - (intOf (act.tmps.getD 4 undef)).toNat) ?_ ?_
  exact ⟨0, (fun i => [.bool false, undef, undef, undef, undef, undef, undef, undef, undef, undef, undef, undef, undef].getD i undef), rfl, hM, by omega, fun j n hj => by omega⟩
  clear hM
  rintro act w ⟨k, U2, rfl, hM, hk, hP⟩
  refine wp_seq_k fun Kn7 cn7 => ?_
  refine wp_seq_k fun Kn8 cn8 => ?_
  refine wl_region ?_
  refine wl_pure (by kernel_rfl) (.int .i64 (k : Int)) (by kernel_rfl) ?_
  go_frame
  refine wl_pure (by kernel_rfl) (.slice (some ⟨g5, 0, none⟩) 5 c5) (by kernel_rfl) ?_
  go_frame
  refine wl_pure (by kernel_rfl) (.int .i64 5) (by kernel_rfl) ?_
  go_frame
  refine wl_pure (by kernel_rfl) (.bool (decide ((k : Int) < 5))) (by kernel_rfl) ?_
  go_frame
  refine wl_nil ?_
  refine cn8 _ _ ?_
  clear cn8
  rcases Bool.eq_false_or_eq_true (decide ((k : Int) < 5)) with hx2 | hx2
  rw [hx2]
  have hk5 : k < 5 := by simp at hx2; omega
  obtain ⟨n, hn⟩ : ∃ n, (five h)[k]? = some n := ⟨_, List.getElem?_eq_getElem hk5⟩
  refine wp_cond_true rfl ?_
  refine wp_skip ?_
  refine cn7 _ _ ?_
  clear cn7
  refine wp_seq_k fun Kn9 cn9 => ?_
  refine wp_block ?_
  refine wp_seq_k fun Kn10 cn10 => ?_
  refine wl_region ?_
  refine wl_pure (by kernel_rfl) (.slice (some ⟨g5, 0, none⟩) 5 c5) (by kernel_rfl) ?_
  go_frame
  refine wl_pure (by kernel_rfl) (.int .i64 (k : Int)) (by kernel_rfl) ?_
  go_frame
  refine wl_index (by kernel_rfl) 23 2 _ _ rfl g5 0 5 c5 1 k rfl rfl rfl (by omega) Try.underlying23 I_int64 ?_
  go_frame
  refine wl_loadc (by kernel_rfl) hM 0 rfl 2 _ rfl (0 + k * 1) rfl Try.underlying2 rfl (five_el hn) ?_
  go_frame
  refine wl_call (by kernel_rfl) 38 #[.int .i64 n, .int .i64 0, .int .i64 29] (by kernel_rfl) (spec_in n 0 29 _) ?_
  rintro e W3 ⟨rfl, rfl⟩
  refine ⟨_, rfl, ?_⟩
  go_frame
  rcases Bool.eq_false_or_eq_true (inB n 0 29) with hx4 | hx4
  rw [hx4]
  have HE := hx4
  refine wl_pure (by kernel_rfl) (.bool false) (by kernel_rfl) ?_
  go_frame
  refine wl_nil ?_
  refine cn10 _ _ ?_
  clear cn10
  refine wp_cond_false rfl ?_
  refine wp_skip ?_
  refine cn9 _ _ ?_
  clear cn9
  refine wl_region ?_
  refine wl_pure (by kernel_rfl) (.int .i64 (k : Int)) (by kernel_rfl) ?_
  go_frame
  refine wl_pureI (by kernel_rfl) (n := (k : Int) + 1) (by kernel_rfl) (by omega) (by omega) ?_
  go_frame
  refine wl_pure (by kernel_rfl) (.int .i64 ((k : Int) + 1)) (by kernel_rfl) ?_
  go_frame
  refine wl_nil ?_
  rw [show ((k : Int) + 1) = ((k + 1 : Nat) : Int) by omega]
  exact ⟨⟨k + 1, (fun i => [(U2 0), .int .i64 (k : Int), .slice (some ⟨g5, 0, none⟩) 5 c5, .int .i64 5, .bool true, .int .i64 (k : Int), .int .i64 ((k : Int) + 1), .slice (some ⟨g5, 0, none⟩) 5 c5, .int .i64 (k : Int), .pointer (some ⟨g5, 0 + k * 1, none⟩), .int .i64 n, .bool true, .bool false].getD i undef), rfl, hM, by omega, fun j m hj hm => if e : j = k then (by subst e; rw [hn] at hm; cases hm; exact HE) else hP j m (by omega) hm⟩, by simp [intOf]; omega⟩
  rw [hx4]
  have hall : (five h).all (fun n => inB n 0 29) = false := five_off hn hx4
  refine wl_pure (by kernel_rfl) (.bool true) (by kernel_rfl) ?_
  go_frame
  refine wl_nil ?_
  refine cn10 _ _ ?_
  clear cn10
  refine wp_cond_true rfl ?_
  refine wp_seq_k fun Kn11 cn11 => ?_
  refine wl_region ?_
  refine wl_pure (by kernel_rfl) (.bool false) (by kernel_rfl) ?_
  go_frame
  refine wl_nil ?_
  refine cn11 _ _ ?_
  clear cn11
  refine wp_ret ?_
  simp only [Exit.then, Exit.inBlock]
  exact bodyPost_ret (v := .bool false) (ret_tmp 2 rfl rfl) rfl ⟨ret_b (by first | (simp [handB, handL, *]; done) | (simp [handB, headB, handL, *]; done)), hM.below⟩
  rw [hx2]
  obtain rfl : k = 5 := by simp at hx2; omega
  have hall : (five h).all (fun n => inB n 0 29) = true := fiveTo.all hP
  refine wp_cond_false rfl ?_
  refine wp_exit ?_
  refine cn5 _ _ ?_
  clear cn5
  refine wp_seq_k fun Kn9 cn9 => ?_
  refine wl_region ?_
  refine wl_pure (by kernel_rfl) (.pointer (some ⟨g1, 6, none⟩)) (by kernel_rfl) ?_
  go_frame
  refine wl_loadc (by kernel_rfl) hM 1 rfl 2 _ rfl 6 rfl Try.underlying2 rfl rfl ?_
  go_frame
  refine wl_call (by kernel_rfl) 38 #[.int .i64 h.side, .int .i64 0, .int .i64 1] (by kernel_rfl) (spec_in h.side 0 1 _) ?_
  rintro e W3 ⟨rfl, rfl⟩
  refine ⟨_, rfl, ?_⟩
  go_frame
  refine wl_pure (by kernel_rfl) (.bool (inB h.side 0 1)) (by kernel_rfl) ?_
  go_frame
  rcases Bool.eq_false_or_eq_true (inB h.side 0 1) with hx11 | hx11
  rw [hx11]
  refine wl_pure (by kernel_rfl) (.pointer (some ⟨g1, 7, none⟩)) (by kernel_rfl) ?_
  go_frame
  refine wl_loadc (by kernel_rfl) hM 1 rfl 2 _ rfl 7 rfl Try.underlying2 rfl rfl ?_
  go_frame
  refine wl_call (by kernel_rfl) 61 #[.int .i64 h.tag] (by kernel_rfl) (spec_tag h.tag _) ?_
  rintro e W4 ⟨rfl, rfl⟩
  refine ⟨_, rfl, ?_⟩
  go_frame
  refine wl_pure (by kernel_rfl) (.bool (inB h.tag 0 10000)) (by kernel_rfl) ?_
  go_frame
  refine wl_pure (by kernel_rfl) (.bool (inB h.tag 0 10000)) (by kernel_rfl) ?_
  go_frame
  rcases Bool.eq_false_or_eq_true (inB h.tag 0 10000) with hx12 | hx12
  rw [hx12]
  refine wl_pure (by kernel_rfl) (.pointer (some ⟨g1, 11, none⟩)) (by kernel_rfl) ?_
  go_frame
  refine wl_loadc (by kernel_rfl) hM 1 rfl 2 _ rfl 11 rfl Try.underlying2 rfl rfl ?_
  go_frame
  refine wl_call (by kernel_rfl) 38 #[.int .i64 h.index, .int .i64 0, .int .i64 6] (by kernel_rfl) (spec_in h.index 0 6 _) ?_
  rintro e W5 ⟨rfl, rfl⟩
  refine ⟨_, rfl, ?_⟩
  go_frame
  refine wl_pure (by kernel_rfl) (.bool (inB h.index 0 6)) (by kernel_rfl) ?_
  go_frame
  refine wl_pure (by kernel_rfl) (.bool (inB h.index 0 6)) (by kernel_rfl) ?_
  go_frame
  rcases Bool.eq_false_or_eq_true (inB h.index 0 6) with hx13 | hx13
  rw [hx13]
  refine wl_pure (by kernel_rfl) (.pointer (some ⟨g1, 12, none⟩)) (by kernel_rfl) ?_
  go_frame
  refine wl_loadc (by kernel_rfl) hM 1 rfl 2 _ rfl 12 rfl Try.underlying2 rfl rfl ?_
  go_frame
  refine wl_call (by kernel_rfl) 38 #[.int .i64 h.seen, .int .i64 (-1), .int .i64 100000] (by kernel_rfl) (spec_in h.seen (-1) 100000 _) ?_
  rintro e W6 ⟨rfl, rfl⟩
  refine ⟨_, rfl, ?_⟩
  go_frame
  refine wl_pure (by kernel_rfl) (.bool (inB h.seen (-1) 100000)) (by kernel_rfl) ?_
  go_frame
  refine wl_pure (by kernel_rfl) (.bool (inB h.seen (-1) 100000)) (by kernel_rfl) ?_
  go_frame
  rcases Bool.eq_false_or_eq_true (inB h.seen (-1) 100000) with hx14 | hx14
  rw [hx14]
  refine wl_pure (by kernel_rfl) (.pointer (some ⟨g1, 14, none⟩)) (by kernel_rfl) ?_
  go_frame
  refine wl_loadc (by kernel_rfl) hM 1 rfl 2 _ rfl 14 rfl Try.underlying2 rfl rfl ?_
  go_frame
  refine wl_call (by kernel_rfl) 38 #[.int .i64 h.begin_, .int .i64 0, .int .i64 20000] (by kernel_rfl) (spec_in h.begin_ 0 20000 _) ?_
  rintro e W7 ⟨rfl, rfl⟩
  refine ⟨_, rfl, ?_⟩
  go_frame
  refine wl_pure (by kernel_rfl) (.bool (inB h.begin_ 0 20000)) (by kernel_rfl) ?_
  go_frame
  refine wl_pure (by kernel_rfl) (.bool (inB h.begin_ 0 20000)) (by kernel_rfl) ?_
  go_frame
  rcases Bool.eq_false_or_eq_true (inB h.begin_ 0 20000) with hx15 | hx15
  rw [hx15]
  refine wl_pure (by kernel_rfl) (.pointer (some ⟨g1, 15, none⟩)) (by kernel_rfl) ?_
  go_frame
  refine wl_loadc (by kernel_rfl) hM 1 rfl 2 _ rfl 15 rfl Try.underlying2 rfl rfl ?_
  go_frame
  refine wl_call (by kernel_rfl) 38 #[.int .i64 h.reply, .int .i64 0, .int .i64 3] (by kernel_rfl) (spec_in h.reply 0 3 _) ?_
  rintro e W8 ⟨rfl, rfl⟩
  refine ⟨_, rfl, ?_⟩
  go_frame
  refine wl_pure (by kernel_rfl) (.bool (inB h.reply 0 3)) (by kernel_rfl) ?_
  go_frame
  refine wl_pure (by kernel_rfl) (.bool (inB h.reply 0 3)) (by kernel_rfl) ?_
  go_frame
  rcases Bool.eq_false_or_eq_true (inB h.reply 0 3) with hx16 | hx16
  rw [hx16]
  refine wl_pure (by kernel_rfl) (.pointer (some ⟨g1, 16, none⟩)) (by kernel_rfl) ?_
  go_frame
  refine wl_loadc (by kernel_rfl) hM 1 rfl 2 _ rfl 16 rfl Try.underlying2 rfl rfl ?_
  go_frame
  refine wl_call (by kernel_rfl) 38 #[.int .i64 h.out, .int .i64 0, .int .i64 999] (by kernel_rfl) (spec_in h.out 0 999 _) ?_
  rintro e W9 ⟨rfl, rfl⟩
  refine ⟨_, rfl, ?_⟩
  go_frame
  refine wl_pure (by kernel_rfl) (.bool (inB h.out 0 999)) (by kernel_rfl) ?_
  go_frame
  refine wl_pure (by kernel_rfl) (.bool (inB h.out 0 999)) (by kernel_rfl) ?_
  go_frame
  refine wl_nil ?_
  refine cn9 _ _ ?_
  clear cn9
  refine wp_ret ?_
  exact bodyPost_ret (v := .bool (inB h.out 0 999)) (ret_tmp 2 rfl rfl) rfl ⟨ret_b (by first | (simp [handB, handL, *]; done) | (simp [handB, headB, handL, *]; done)), hM.below⟩
  rw [hx16]
  refine wl_skip (by kernel_rfl) ?_
  go_frame
  refine wl_skip (by kernel_rfl) ?_
  go_frame
  refine wl_skip (by kernel_rfl) ?_
  go_frame
  refine wl_pure (by kernel_rfl) (.bool false) (by kernel_rfl) ?_
  go_frame
  refine wl_pure (by kernel_rfl) (.bool false) (by kernel_rfl) ?_
  go_frame
  refine wl_nil ?_
  refine cn9 _ _ ?_
  clear cn9
  refine wp_ret ?_
  exact bodyPost_ret (v := .bool false) (ret_tmp 2 rfl rfl) rfl ⟨ret_b (by first | (simp [handB, handL, *]; done) | (simp [handB, headB, handL, *]; done)), hM.below⟩
  rw [hx15]
  refine wl_skip (by kernel_rfl) ?_
  go_frame
  refine wl_skip (by kernel_rfl) ?_
  go_frame
  refine wl_skip (by kernel_rfl) ?_
  go_frame
  refine wl_pure (by kernel_rfl) (.bool false) (by kernel_rfl) ?_
  go_frame
  refine wl_pure (by kernel_rfl) (.bool false) (by kernel_rfl) ?_
  go_frame
  refine wl_skip (by kernel_rfl) ?_
  go_frame
  refine wl_skip (by kernel_rfl) ?_
  go_frame
  refine wl_skip (by kernel_rfl) ?_
  go_frame
  refine wl_pure (by kernel_rfl) (.bool false) (by kernel_rfl) ?_
  go_frame
  refine wl_pure (by kernel_rfl) (.bool false) (by kernel_rfl) ?_
  go_frame
  refine wl_nil ?_
  refine cn9 _ _ ?_
  clear cn9
  refine wp_ret ?_
  exact bodyPost_ret (v := .bool false) (ret_tmp 2 rfl rfl) rfl ⟨ret_b (by first | (simp [handB, handL, *]; done) | (simp [handB, headB, handL, *]; done)), hM.below⟩
  rw [hx14]
  refine wl_skip (by kernel_rfl) ?_
  go_frame
  refine wl_skip (by kernel_rfl) ?_
  go_frame
  refine wl_skip (by kernel_rfl) ?_
  go_frame
  refine wl_pure (by kernel_rfl) (.bool false) (by kernel_rfl) ?_
  go_frame
  refine wl_pure (by kernel_rfl) (.bool false) (by kernel_rfl) ?_
  go_frame
  refine wl_skip (by kernel_rfl) ?_
  go_frame
  refine wl_skip (by kernel_rfl) ?_
  go_frame
  refine wl_skip (by kernel_rfl) ?_
  go_frame
  refine wl_pure (by kernel_rfl) (.bool false) (by kernel_rfl) ?_
  go_frame
  refine wl_pure (by kernel_rfl) (.bool false) (by kernel_rfl) ?_
  go_frame
  refine wl_skip (by kernel_rfl) ?_
  go_frame
  refine wl_skip (by kernel_rfl) ?_
  go_frame
  refine wl_skip (by kernel_rfl) ?_
  go_frame
  refine wl_pure (by kernel_rfl) (.bool false) (by kernel_rfl) ?_
  go_frame
  refine wl_pure (by kernel_rfl) (.bool false) (by kernel_rfl) ?_
  go_frame
  refine wl_nil ?_
  refine cn9 _ _ ?_
  clear cn9
  refine wp_ret ?_
  exact bodyPost_ret (v := .bool false) (ret_tmp 2 rfl rfl) rfl ⟨ret_b (by first | (simp [handB, handL, *]; done) | (simp [handB, headB, handL, *]; done)), hM.below⟩
  rw [hx13]
  refine wl_skip (by kernel_rfl) ?_
  go_frame
  refine wl_skip (by kernel_rfl) ?_
  go_frame
  refine wl_skip (by kernel_rfl) ?_
  go_frame
  refine wl_pure (by kernel_rfl) (.bool false) (by kernel_rfl) ?_
  go_frame
  refine wl_pure (by kernel_rfl) (.bool false) (by kernel_rfl) ?_
  go_frame
  refine wl_skip (by kernel_rfl) ?_
  go_frame
  refine wl_skip (by kernel_rfl) ?_
  go_frame
  refine wl_skip (by kernel_rfl) ?_
  go_frame
  refine wl_pure (by kernel_rfl) (.bool false) (by kernel_rfl) ?_
  go_frame
  refine wl_pure (by kernel_rfl) (.bool false) (by kernel_rfl) ?_
  go_frame
  refine wl_skip (by kernel_rfl) ?_
  go_frame
  refine wl_skip (by kernel_rfl) ?_
  go_frame
  refine wl_skip (by kernel_rfl) ?_
  go_frame
  refine wl_pure (by kernel_rfl) (.bool false) (by kernel_rfl) ?_
  go_frame
  refine wl_pure (by kernel_rfl) (.bool false) (by kernel_rfl) ?_
  go_frame
  refine wl_skip (by kernel_rfl) ?_
  go_frame
  refine wl_skip (by kernel_rfl) ?_
  go_frame
  refine wl_skip (by kernel_rfl) ?_
  go_frame
  refine wl_pure (by kernel_rfl) (.bool false) (by kernel_rfl) ?_
  go_frame
  refine wl_pure (by kernel_rfl) (.bool false) (by kernel_rfl) ?_
  go_frame
  refine wl_nil ?_
  refine cn9 _ _ ?_
  clear cn9
  refine wp_ret ?_
  exact bodyPost_ret (v := .bool false) (ret_tmp 2 rfl rfl) rfl ⟨ret_b (by first | (simp [handB, handL, *]; done) | (simp [handB, headB, handL, *]; done)), hM.below⟩
  rw [hx12]
  refine wl_skip (by kernel_rfl) ?_
  go_frame
  refine wl_skip (by kernel_rfl) ?_
  go_frame
  refine wl_skip (by kernel_rfl) ?_
  go_frame
  refine wl_pure (by kernel_rfl) (.bool false) (by kernel_rfl) ?_
  go_frame
  refine wl_pure (by kernel_rfl) (.bool false) (by kernel_rfl) ?_
  go_frame
  refine wl_skip (by kernel_rfl) ?_
  go_frame
  refine wl_skip (by kernel_rfl) ?_
  go_frame
  refine wl_skip (by kernel_rfl) ?_
  go_frame
  refine wl_pure (by kernel_rfl) (.bool false) (by kernel_rfl) ?_
  go_frame
  refine wl_pure (by kernel_rfl) (.bool false) (by kernel_rfl) ?_
  go_frame
  refine wl_skip (by kernel_rfl) ?_
  go_frame
  refine wl_skip (by kernel_rfl) ?_
  go_frame
  refine wl_skip (by kernel_rfl) ?_
  go_frame
  refine wl_pure (by kernel_rfl) (.bool false) (by kernel_rfl) ?_
  go_frame
  refine wl_pure (by kernel_rfl) (.bool false) (by kernel_rfl) ?_
  go_frame
  refine wl_skip (by kernel_rfl) ?_
  go_frame
  refine wl_skip (by kernel_rfl) ?_
  go_frame
  refine wl_skip (by kernel_rfl) ?_
  go_frame
  refine wl_pure (by kernel_rfl) (.bool false) (by kernel_rfl) ?_
  go_frame
  refine wl_pure (by kernel_rfl) (.bool false) (by kernel_rfl) ?_
  go_frame
  refine wl_skip (by kernel_rfl) ?_
  go_frame
  refine wl_skip (by kernel_rfl) ?_
  go_frame
  refine wl_skip (by kernel_rfl) ?_
  go_frame
  refine wl_pure (by kernel_rfl) (.bool false) (by kernel_rfl) ?_
  go_frame
  refine wl_pure (by kernel_rfl) (.bool false) (by kernel_rfl) ?_
  go_frame
  refine wl_nil ?_
  refine cn9 _ _ ?_
  clear cn9
  refine wp_ret ?_
  exact bodyPost_ret (v := .bool false) (ret_tmp 2 rfl rfl) rfl ⟨ret_b (by first | (simp [handB, handL, *]; done) | (simp [handB, headB, handL, *]; done)), hM.below⟩
  rw [hx11]
  refine wl_skip (by kernel_rfl) ?_
  go_frame
  refine wl_skip (by kernel_rfl) ?_
  go_frame
  refine wl_skip (by kernel_rfl) ?_
  go_frame
  refine wl_pure (by kernel_rfl) (.bool false) (by kernel_rfl) ?_
  go_frame
  refine wl_pure (by kernel_rfl) (.bool false) (by kernel_rfl) ?_
  go_frame
  refine wl_skip (by kernel_rfl) ?_
  go_frame
  refine wl_skip (by kernel_rfl) ?_
  go_frame
  refine wl_skip (by kernel_rfl) ?_
  go_frame
  refine wl_pure (by kernel_rfl) (.bool false) (by kernel_rfl) ?_
  go_frame
  refine wl_pure (by kernel_rfl) (.bool false) (by kernel_rfl) ?_
  go_frame
  refine wl_skip (by kernel_rfl) ?_
  go_frame
  refine wl_skip (by kernel_rfl) ?_
  go_frame
  refine wl_skip (by kernel_rfl) ?_
  go_frame
  refine wl_pure (by kernel_rfl) (.bool false) (by kernel_rfl) ?_
  go_frame
  refine wl_pure (by kernel_rfl) (.bool false) (by kernel_rfl) ?_
  go_frame
  refine wl_skip (by kernel_rfl) ?_
  go_frame
  refine wl_skip (by kernel_rfl) ?_
  go_frame
  refine wl_skip (by kernel_rfl) ?_
  go_frame
  refine wl_pure (by kernel_rfl) (.bool false) (by kernel_rfl) ?_
  go_frame
  refine wl_pure (by kernel_rfl) (.bool false) (by kernel_rfl) ?_
  go_frame
  refine wl_skip (by kernel_rfl) ?_
  go_frame
  refine wl_skip (by kernel_rfl) ?_
  go_frame
  refine wl_skip (by kernel_rfl) ?_
  go_frame
  refine wl_pure (by kernel_rfl) (.bool false) (by kernel_rfl) ?_
  go_frame
  refine wl_pure (by kernel_rfl) (.bool false) (by kernel_rfl) ?_
  go_frame
  refine wl_skip (by kernel_rfl) ?_
  go_frame
  refine wl_skip (by kernel_rfl) ?_
  go_frame
  refine wl_skip (by kernel_rfl) ?_
  go_frame
  refine wl_pure (by kernel_rfl) (.bool false) (by kernel_rfl) ?_
  go_frame
  refine wl_pure (by kernel_rfl) (.bool false) (by kernel_rfl) ?_
  go_frame
  refine wl_nil ?_
  refine cn9 _ _ ?_
  clear cn9
  refine wp_ret ?_
  exact bodyPost_ret (v := .bool false) (ret_tmp 2 rfl rfl) rfl ⟨ret_b (by first | (simp [handB, handL, *]; done) | (simp [handB, headB, handL, *]; done)), hM.below⟩
  refine wl_region ?_
  refine wl_pure (by kernel_rfl) (.pointer (some ⟨g1, 0, none⟩)) (by kernel_rfl) ?_
  go_frame
  refine wl_loadc (by kernel_rfl) hM 0 rfl 2 _ rfl 0 rfl Try.underlying2 rfl rfl ?_
  go_frame
  refine wl_call (by kernel_rfl) 38 #[.int .i64 h.at_, .int .i64 0, .int .i64 26] (by kernel_rfl) (spec_in h.at_ 0 26 _) ?_
  rintro e W3 ⟨rfl, rfl⟩
  refine ⟨_, rfl, ?_⟩
  go_frame
  rcases Bool.eq_false_or_eq_true (inB h.at_ 0 26) with hx17 | hx17
  rw [hx17]
  refine wl_pure (by kernel_rfl) (.bool false) (by kernel_rfl) ?_
  go_frame
  refine wl_pure (by kernel_rfl) (.bool false) (by kernel_rfl) ?_
  go_frame
  refine wl_pure (by kernel_rfl) (.pointer (some ⟨g1, 1, none⟩)) (by kernel_rfl) ?_
  go_frame
  refine wl_part (by kernel_rfl) hM 0 rfl 34 _ rfl 1 rfl Try.underlying34 [.int .i64 h.c, .int .i64 h.k, .int .i64 h.v] I_impl_Call rfl ?_
  go_frame
  refine wl_call (by kernel_rfl) 59 #[.agg #[.int .i64 h.c, .int .i64 h.k, .int .i64 h.v]] (by kernel_rfl) (spec_CallOk h.c h.k h.v _) ?_
  rintro e W4 ⟨rfl, hb⟩
  refine ⟨_, rfl, ?_⟩
  replace hM := hM.call hb
  go_frame
  rcases Bool.eq_false_or_eq_true (callB h.c h.k h.v) with hx18 | hx18
  rw [hx18]
  refine wl_pure (by kernel_rfl) (.bool false) (by kernel_rfl) ?_
  go_frame
  refine wl_pure (by kernel_rfl) (.bool false) (by kernel_rfl) ?_
  go_frame
  refine wl_skip (by kernel_rfl) ?_
  go_frame
  refine wl_skip (by kernel_rfl) ?_
  go_frame
  refine wl_skip (by kernel_rfl) ?_
  go_frame
  refine wl_skip (by kernel_rfl) ?_
  go_frame
  refine wl_skip (by kernel_rfl) ?_
  go_frame
  refine wl_skip (by kernel_rfl) ?_
  go_frame
  refine wl_skip (by kernel_rfl) ?_
  go_frame
  refine wl_skip (by kernel_rfl) ?_
  go_frame
  refine wl_skip (by kernel_rfl) ?_
  go_frame
  refine wl_pure (by kernel_rfl) (.bool false) (by kernel_rfl) ?_
  go_frame
  refine wl_pure (by kernel_rfl) (.bool false) (by kernel_rfl) ?_
  go_frame
  refine wl_nil ?_
  exact ⟨(fun i => ([.pointer (some ⟨g1, 0, none⟩), .int .i64 h.at_, .bool true, .bool false, .bool false, .pointer (some ⟨g1, 1, none⟩), .agg #[.int .i64 h.c, .int .i64 h.k, .int .i64 h.v], .bool true, .bool false, .bool false, undef, undef, undef, undef, undef, undef, undef, undef, undef, .bool false, .bool false] : List Value).getD i undef), rfl, congrArg Value.bool (show false = xg1 by rw [hxg1]; simp [hx17, hx18]), hM⟩
  rw [hx18]
  refine wl_pure (by kernel_rfl) (.bool true) (by kernel_rfl) ?_
  go_frame
  refine wl_pure (by kernel_rfl) (.bool true) (by kernel_rfl) ?_
  go_frame
  refine wl_pure (by kernel_rfl) (.pointer (some ⟨g1, 0, none⟩)) (by kernel_rfl) ?_
  go_frame
  refine wl_loadc (by kernel_rfl) hM 0 rfl 2 _ rfl 0 rfl Try.underlying2 rfl rfl ?_
  go_frame
  refine wl_pure (by kernel_rfl) (.bool (h.at_ == 0)) (by kernel_rfl) ?_
  go_frame
  refine wl_pure (by kernel_rfl) (.bool (h.at_ == 0)) (by kernel_rfl) ?_
  go_frame
  rcases Bool.eq_false_or_eq_true ((h.at_ == 0)) with hx19 | hx19
  rw [hx19]
  refine wl_pure (by kernel_rfl) (.pointer (some ⟨g1, 1, none⟩)) (by kernel_rfl) ?_
  go_frame
  refine wl_part (by kernel_rfl) hM 0 rfl 34 _ rfl 1 rfl Try.underlying34 [.int .i64 h.c, .int .i64 h.k, .int .i64 h.v] I_impl_Call rfl ?_
  go_frame
  refine wl_call (by kernel_rfl) 60 #[.agg #[.int .i64 h.c, .int .i64 h.k, .int .i64 h.v]] (by kernel_rfl) (spec_none h.c h.k h.v _) ?_
  rintro e W5 ⟨rfl, hb⟩
  refine ⟨_, rfl, ?_⟩
  replace hM := hM.call hb
  go_frame
  refine wl_pure (by kernel_rfl) (.bool (noneB h.c h.k h.v)) (by kernel_rfl) ?_
  go_frame
  rcases Bool.eq_false_or_eq_true (noneB h.c h.k h.v) with hx20 | hx20
  rw [hx20]
  refine wl_pure (by kernel_rfl) (.bool false) (by kernel_rfl) ?_
  go_frame
  refine wl_pure (by kernel_rfl) (.bool false) (by kernel_rfl) ?_
  go_frame
  refine wl_pure (by kernel_rfl) (.bool false) (by kernel_rfl) ?_
  go_frame
  refine wl_nil ?_
  exact ⟨(fun i => ([.pointer (some ⟨g1, 0, none⟩), .int .i64 h.at_, .bool true, .bool false, .bool false, .pointer (some ⟨g1, 1, none⟩), .agg #[.int .i64 h.c, .int .i64 h.k, .int .i64 h.v], .bool false, .bool true, .bool true, .pointer (some ⟨g1, 0, none⟩), .int .i64 h.at_, .bool true, .bool true, .pointer (some ⟨g1, 1, none⟩), .agg #[.int .i64 h.c, .int .i64 h.k, .int .i64 h.v], .bool true, .bool true, .bool false, .bool false, .bool false] : List Value).getD i undef), rfl, congrArg Value.bool (show false = xg1 by rw [hxg1]; simp [hx17, hx18, hx19, hx20]), hM⟩
  rw [hx20]
  refine wl_pure (by kernel_rfl) (.bool true) (by kernel_rfl) ?_
  go_frame
  refine wl_pure (by kernel_rfl) (.bool true) (by kernel_rfl) ?_
  go_frame
  refine wl_pure (by kernel_rfl) (.bool true) (by kernel_rfl) ?_
  go_frame
  refine wl_nil ?_
  exact ⟨(fun i => ([.pointer (some ⟨g1, 0, none⟩), .int .i64 h.at_, .bool true, .bool false, .bool false, .pointer (some ⟨g1, 1, none⟩), .agg #[.int .i64 h.c, .int .i64 h.k, .int .i64 h.v], .bool false, .bool true, .bool true, .pointer (some ⟨g1, 0, none⟩), .int .i64 h.at_, .bool true, .bool true, .pointer (some ⟨g1, 1, none⟩), .agg #[.int .i64 h.c, .int .i64 h.k, .int .i64 h.v], .bool false, .bool false, .bool true, .bool true, .bool true] : List Value).getD i undef), rfl, congrArg Value.bool (show true = xg1 by rw [hxg1]; simp [hx17, hx18, hx19, hx20]), hM⟩
  rw [hx19]
  refine wl_skip (by kernel_rfl) ?_
  go_frame
  refine wl_skip (by kernel_rfl) ?_
  go_frame
  refine wl_skip (by kernel_rfl) ?_
  go_frame
  refine wl_pure (by kernel_rfl) (.bool false) (by kernel_rfl) ?_
  go_frame
  refine wl_pure (by kernel_rfl) (.bool true) (by kernel_rfl) ?_
  go_frame
  refine wl_pure (by kernel_rfl) (.bool true) (by kernel_rfl) ?_
  go_frame
  refine wl_pure (by kernel_rfl) (.bool true) (by kernel_rfl) ?_
  go_frame
  refine wl_nil ?_
  exact ⟨(fun i => ([.pointer (some ⟨g1, 0, none⟩), .int .i64 h.at_, .bool true, .bool false, .bool false, .pointer (some ⟨g1, 1, none⟩), .agg #[.int .i64 h.c, .int .i64 h.k, .int .i64 h.v], .bool false, .bool true, .bool true, .pointer (some ⟨g1, 0, none⟩), .int .i64 h.at_, .bool false, .bool false, undef, undef, undef, .bool false, .bool true, .bool true, .bool true] : List Value).getD i undef), rfl, congrArg Value.bool (show true = xg1 by rw [hxg1]; simp [hx17, hx18, hx19]), hM⟩
  rw [hx17]
  refine wl_pure (by kernel_rfl) (.bool true) (by kernel_rfl) ?_
  go_frame
  refine wl_pure (by kernel_rfl) (.bool true) (by kernel_rfl) ?_
  go_frame
  refine wl_skip (by kernel_rfl) ?_
  go_frame
  refine wl_skip (by kernel_rfl) ?_
  go_frame
  refine wl_skip (by kernel_rfl) ?_
  go_frame
  refine wl_skip (by kernel_rfl) ?_
  go_frame
  refine wl_skip (by kernel_rfl) ?_
  go_frame
  refine wl_skip (by kernel_rfl) ?_
  go_frame
  refine wl_skip (by kernel_rfl) ?_
  go_frame
  refine wl_skip (by kernel_rfl) ?_
  go_frame
  refine wl_skip (by kernel_rfl) ?_
  go_frame
  refine wl_skip (by kernel_rfl) ?_
  go_frame
  refine wl_skip (by kernel_rfl) ?_
  go_frame
  refine wl_skip (by kernel_rfl) ?_
  go_frame
  refine wl_skip (by kernel_rfl) ?_
  go_frame
  refine wl_skip (by kernel_rfl) ?_
  go_frame
  refine wl_skip (by kernel_rfl) ?_
  go_frame
  refine wl_pure (by kernel_rfl) (.bool true) (by kernel_rfl) ?_
  go_frame
  refine wl_nil ?_
  exact ⟨(fun i => ([.pointer (some ⟨g1, 0, none⟩), .int .i64 h.at_, .bool false, .bool true, .bool true, undef, undef, undef, undef, undef, undef, undef, undef, undef, undef, undef, undef, undef, undef, undef, .bool true] : List Value).getD i undef), rfl, congrArg Value.bool (show true = xg1 by rw [hxg1]; simp [hx17]), hM⟩
end Go.Proofs.Ythllpgjggmdmmaa
