/- HandOk of the model: by the operations' laws. -/
import Derived.Test.YtoamnecoiicljaaHand
import Derived.Test.YtoamnecoiicljaaTypes
namespace Go.Proofs.Ytoamnecoiicljaa
open Go.ChangeShapes Go.WideShapes Go.ChangeAt Go.RowKit
set_option linter.unusedVariables false
set_option linter.unusedSimpArgs false


set_option maxRecDepth 100000 in
set_option maxHeartbeats 1000000 in
theorem spec_l6Nodes (h : HD) (w : World) : Calls Try.prog 50 #[h.val] w (FreshI w (five h)) := by
  obtain ⟨at_, c, k, v, prev, cur, side, tag, up, next, new, index, seen, again, begin_, reply, out⟩ := h
  simp only [HD.val, HD.cells, five]
  go_enter Try.func50, Try.ntmps50
  go_wp2
  go_ret
  refine ⟨w.heap.size + 1, _, rfl, by omega, ⟨5, [], rfl, Nat.le_refl _, by simp [maxLen], rfl, ?_⟩, ((Below.refl _ _).alloc (Nat.le_refl _) _).alloc (by simp) _⟩
  exact heap_alloc2_new w _ _

/-- The seventeen cells of a hand that stands in a block. -/
theorem hd_cells {w : World} {g : Nat} {t : TypeId} {h : HD} (b : Blk w g t h.cells) : w.cell? ⟨g, 0, none⟩ = some (.int .i64 h.at_) ∧ w.cell? ⟨g, 1, none⟩ = some (.int .i64 h.c) ∧ w.cell? ⟨g, 2, none⟩ = some (.int .i64 h.k) ∧ w.cell? ⟨g, 3, none⟩ = some (.int .i64 h.v) ∧ w.cell? ⟨g, 4, none⟩ = some (.int .i64 h.prev) ∧ w.cell? ⟨g, 5, none⟩ = some (.int .i64 h.cur) ∧ w.cell? ⟨g, 6, none⟩ = some (.int .i64 h.side) ∧ w.cell? ⟨g, 7, none⟩ = some (.int .i64 h.tag) ∧ w.cell? ⟨g, 8, none⟩ = some (.int .i64 h.up) ∧ w.cell? ⟨g, 9, none⟩ = some (.int .i64 h.next) ∧ w.cell? ⟨g, 10, none⟩ = some (.int .i64 h.new) ∧ w.cell? ⟨g, 11, none⟩ = some (.int .i64 h.index) ∧ w.cell? ⟨g, 12, none⟩ = some (.int .i64 h.seen) ∧ w.cell? ⟨g, 13, none⟩ = some (.bool h.again) ∧ w.cell? ⟨g, 14, none⟩ = some (.int .i64 h.begin_) ∧ w.cell? ⟨g, 15, none⟩ = some (.int .i64 h.reply) ∧ w.cell? ⟨g, 16, none⟩ = some (.int .i64 h.out) ∧ ∀ i, w.frozen? ⟨g, i, none⟩ = false :=
  ⟨b.cell 0, b.cell 1, b.cell 2, b.cell 3, b.cell 4, b.cell 5, b.cell 6, b.cell 7, b.cell 8, b.cell 9, b.cell 10, b.cell 11, b.cell 12, b.cell 13, b.cell 14, b.cell 15, b.cell 16, fun i => b.free i⟩
def fiveTo (l : List Int) (k : Nat) : Prop := ∀ (j : Nat) (n : Int), j < k → l[j]? = some n → inB n 0 29 = true
theorem fiveTo.all {l : List Int} (h : fiveTo l l.length) : l.all (fun n => inB n 0 29) = true := by
  rw [List.all_eq_true]
  intro n hn
  obtain ⟨j, hj, e⟩ := List.getElem_of_mem hn
  exact h j n hj (by rw [List.getElem?_eq_getElem hj, e])
theorem five_off {l : List Int} {k : Nat} {n : Int} (hn : l[k]? = some n) (h : inB n 0 29 = false) : l.all (fun n => inB n 0 29) = false := by
  rw [Bool.eq_false_iff]
  intro hc
  rw [List.all_eq_true] at hc
  rw [hc n (List.mem_of_getElem? hn)] at h
  cases h

theorem five_el {l : List Int} {k : Nat} {n : Int} {sp : List Value} (h : l[k]? = some n) : (cellsI l ++ sp)[0 + k * 1]? = some (.int .i64 n) := by
  have hk : k < l.length := (List.getElem?_eq_some_iff.1 h).1
  rw [Nat.zero_add, Nat.mul_one, List.getElem?_append_left (by simpa [cellsI] using hk)]
  simp [cellsI, h]
set_option maxRecDepth 100000 in
set_option maxHeartbeats 4000000 in
theorem spec_HandOk (h : HD) (w0 : World) : Calls Try.prog 49 #[h.val] w0 fun e w' => e = .returned (.bool (handB h)) ∧ Below w0.heap.size w0 w' := by
  unfold HD.val
  have hM := Mem.start w0
  go_enter Try.func49, Try.ntmps49
  refine wp_seq_k fun K1 h1 => ?_
  refine wl_region ?_
  refine wl_box (by kernel_rfl) hM 40 _ rfl (HD.cells h) rfl ?_
  clear hM; intro g1 W1 hM
  go_frame
  refine wl_pure (by kernel_rfl) (.bool false) (by kernel_rfl) ?_
  go_frame
  refine wl_nil ?_
  refine h1 _ _ ?_
  clear h1
  refine wp_seq_k fun K2 h2 => ?_
  refine wp_seq_k fun K3 h3 => ?_
  rcases Bool.eq_false_or_eq_true (inB h.at_ 0 26) with hx1 | hx1
  · rcases Bool.eq_false_or_eq_true (callB h.c h.k h.v) with hx2 | hx2
    · refine wl_region ?_
      refine wl_pure (by kernel_rfl) (.pointer (some ⟨g1, 0, none⟩)) (by kernel_rfl) ?_
      go_frame
      refine wl_loadc (by kernel_rfl) hM 0 rfl 2 _ rfl 0 rfl Try.underlying2 rfl rfl ?_
      go_frame
      refine wl_call (by kernel_rfl) 41 #[.int .i64 h.at_, .int .i64 0, .int .i64 26] (by kernel_rfl) (spec_in h.at_ 0 26 _) ?_
      rintro e W2 ⟨rfl, rfl⟩
      refine ⟨.bool true, congrArg (fun b => Ending.returned (.bool b)) hx1, ?_⟩
      go_frame
      refine wl_pure (by kernel_rfl) (.bool false) (by kernel_rfl) ?_
      go_frame
      refine wl_pure (by kernel_rfl) (.bool false) (by kernel_rfl) ?_
      go_frame
      refine wl_pure (by kernel_rfl) (.pointer (some ⟨g1, 1, none⟩)) (by kernel_rfl) ?_
      go_frame
      refine wl_part (by kernel_rfl) hM 0 rfl 38 _ rfl 1 rfl Try.underlying38 [.int .i64 h.c, .int .i64 h.k, .int .i64 h.v] I_impl_Call rfl ?_
      go_frame
      refine wl_call (by kernel_rfl) 69 #[.agg #[.int .i64 h.c, .int .i64 h.k, .int .i64 h.v]] (by kernel_rfl) (spec_CallOk h.c h.k h.v _) ?_
      rintro e W3 ⟨rfl, hb⟩
      refine ⟨.bool true, congrArg (fun b => Ending.returned (.bool b)) hx2, ?_⟩
      replace hM := hM.call hb
      go_frame
      refine wl_pure (by kernel_rfl) (.bool false) (by kernel_rfl) ?_
      go_frame
      refine wl_pure (by kernel_rfl) (.bool false) (by kernel_rfl) ?_
      go_frame
      refine wl_skip (by kernel_rfl) ?_
      go_frame
      refine wl_skip (by kernel_rfl) ?_
      go_frame
      refine wl_skip (by kernel_rfl) ?_
      go_frame
      refine wl_skip (by kernel_rfl) ?_
      go_frame
      refine wl_skip (by kernel_rfl) ?_
      go_frame
      refine wl_skip (by kernel_rfl) ?_
      go_frame
      refine wl_skip (by kernel_rfl) ?_
      go_frame
      refine wl_skip (by kernel_rfl) ?_
      go_frame
      refine wl_skip (by kernel_rfl) ?_
      go_frame
      refine wl_pure (by kernel_rfl) (.bool false) (by kernel_rfl) ?_
      go_frame
      refine wl_pure (by kernel_rfl) (.bool false) (by kernel_rfl) ?_
      go_frame
      refine wl_nil ?_
      refine h3 _ _ ?_
      clear h3
      refine wp_cond_false rfl ?_
      refine wp_skip ?_
      refine h2 _ _ ?_
      clear h2
      refine wp_seq_k fun K4 h4 => ?_
      refine wl_region ?_
      refine wl_load (by kernel_rfl) hM 0 rfl 40 _ rfl rfl Try.underlying40 I_impl_Hand ?_
      go_frame
      refine wl_call (by kernel_rfl) 50 #[.agg (HD.cells h).toArray] (by kernel_rfl) (spec_l6Nodes h _) ?_
      rintro e W5 ⟨g5, u5, rfl, hg5, ⟨c5, sp5, rfl, hc5, hm5, hl5, hO5b⟩, hB5⟩
      refine ⟨_, rfl, ?_⟩
      replace hM := hM.got hB5 hg5 hO5b
      go_frame
      refine wl_pure (by kernel_rfl) (.slice (some ⟨g5, 0, none⟩) 5 c5) (by kernel_rfl) ?_
      go_frame
      refine wl_nil ?_
      refine h4 _ _ ?_
      clear h4
      refine wp_seq_k fun K5 h5 => ?_
      refine wp_seq_k fun K6 h6 => ?_
      refine wl_region ?_
      refine wl_pure (by kernel_rfl) (.int .i64 0) (by kernel_rfl) ?_
      go_frame
      refine wl_nil ?_
      refine h6 _ _ ?_
      clear h6
      refine wp_block ?_
      refine wp_loop (fun act w => ∃ (k : Nat) (u2 u28 u29 u30 u31 u32 u33 u34 u35 u36 u37 u38 u39 : Value), act = ⟨#[.agg (HD.cells h).toArray, .pointer (some ⟨g1, 0, none⟩), u2, .slice (some ⟨g5, 0, none⟩) 5 c5, .int .i64 (k : Int), .pointer (some ⟨g1, 0, none⟩), .int .i64 h.at_, .bool true, .bool false, .bool false, .pointer (some ⟨g1, 1, none⟩), .agg #[.int .i64 h.c, .int .i64 h.k, .int .i64 h.v], .bool true, .bool false, .bool false, undef, undef, undef, undef, undef, undef, undef, undef, undef, .bool false, .bool false, .agg (HD.cells h).toArray, .slice (some ⟨g5, 0, none⟩) 5 c5, u28, u29, u30, u31, u32, u33, u34, u35, u36, u37, u38, u39, undef, undef, undef, undef, undef, undef, undef, undef, undef, undef, undef, undef, undef, undef, undef, undef, undef, undef, undef, undef, undef, undef, undef, undef, undef, undef, undef, undef, undef, undef, undef, undef, undef], []⟩ ∧ Mem w0 w [(g5, 2, (cellsI (five h) ++ sp5)), (g1, 40, (HD.cells h))] ∧ (k ≤ 5 ∧ fiveTo (five h) k)) (fun act _ => 5 - (intOf (act.tmps.getD 4 undef)).toNat) ?_ ?_
      · exact ⟨0, .bool false, undef, undef, undef, undef, undef, undef, undef, undef, undef, undef, undef, undef, rfl, hM, by omega, fun j n hj => by omega⟩
      clear hM
      rintro act w ⟨k, u2, u28, u29, u30, u31, u32, u33, u34, u35, u36, u37, u38, u39, rfl, hM, hk, hP⟩
      refine wp_seq_k fun K7 h7 => ?_
      refine wp_seq_k fun K8 h8 => ?_
      refine wl_region ?_
      refine wl_pure (by kernel_rfl) (.int .i64 (k : Int)) (by kernel_rfl) ?_
      go_frame
      refine wl_pure (by kernel_rfl) (.slice (some ⟨g5, 0, none⟩) 5 c5) (by kernel_rfl) ?_
      go_frame
      refine wl_pure (by kernel_rfl) (.int .i64 5) (by kernel_rfl) ?_
      go_frame
      refine wl_pure (by kernel_rfl) (.bool (decide ((k : Int) < 5))) (by kernel_rfl) ?_
      go_frame
      refine wl_nil ?_
      refine h8 _ _ ?_
      clear h8
      rcases Bool.eq_false_or_eq_true (decide ((k : Int) < 5)) with hx3 | hx3
      · have hk5 : k < 5 := by simp at hx3; omega
        obtain ⟨n, hn⟩ : ∃ n, (five h)[k]? = some n := ⟨_, List.getElem?_eq_getElem hk5⟩
        refine wp_cond_true (congrArg Value.bool hx3) ?_
        refine wp_skip ?_
        refine h7 _ _ ?_
        clear h7
        refine wp_seq_k fun K9 h9 => ?_
        refine wp_block ?_
        refine wp_seq_k fun K10 h10 => ?_
        rcases Bool.eq_false_or_eq_true (inB n 0 29) with hx4 | hx4
        · have HE := hx4
          refine wl_region ?_
          refine wl_pure (by kernel_rfl) (.slice (some ⟨g5, 0, none⟩) 5 c5) (by kernel_rfl) ?_
          go_frame
          refine wl_pure (by kernel_rfl) (.int .i64 (k : Int)) (by kernel_rfl) ?_
          go_frame
          refine wl_index (by kernel_rfl) 23 2 _ _ rfl g5 0 5 c5 1 k rfl rfl rfl (by omega) Try.underlying23 I_int64 ?_
          go_frame
          refine wl_loadc (by kernel_rfl) hM 0 rfl 2 _ rfl (0 + k * 1) rfl Try.underlying2 rfl (five_el hn) ?_
          go_frame
          refine wl_call (by kernel_rfl) 41 #[.int .i64 n, .int .i64 0, .int .i64 29] (by kernel_rfl) (spec_in n 0 29 _) ?_
          rintro e W4 ⟨rfl, rfl⟩
          refine ⟨.bool true, congrArg (fun b => Ending.returned (.bool b)) hx4, ?_⟩
          go_frame
          refine wl_pure (by kernel_rfl) (.bool false) (by kernel_rfl) ?_
          go_frame
          refine wl_nil ?_
          refine h10 _ _ ?_
          clear h10
          refine wp_cond_false rfl ?_
          refine wp_skip ?_
          refine h9 _ _ ?_
          clear h9
          refine wl_region ?_
          refine wl_pure (by kernel_rfl) (.int .i64 (k : Int)) (by kernel_rfl) ?_
          go_frame
          refine wl_pureI (by kernel_rfl) (n := (k : Int) + 1) (by kernel_rfl) (by omega) (by omega) ?_
          go_frame
          refine wl_pure (by kernel_rfl) (.int .i64 ((k : Int) + 1)) (by kernel_rfl) ?_
          go_frame
          refine wl_nil ?_
          rw [show ((k : Int) + 1) = ((k + 1 : Nat) : Int) by omega]
          exact ⟨⟨k + 1, _, _, _, _, _, _, _, _, _, _, _, _, _, rfl, hM, by omega, fun j m hj hm => if e : j = k then (by subst e; rw [hn] at hm; cases hm; exact HE) else hP j m (by omega) hm⟩, by simp [intOf]; omega⟩
        · have hall : (five h).all (fun n => inB n 0 29) = false := five_off hn hx4
          refine wl_region ?_
          refine wl_pure (by kernel_rfl) (.slice (some ⟨g5, 0, none⟩) 5 c5) (by kernel_rfl) ?_
          go_frame
          refine wl_pure (by kernel_rfl) (.int .i64 (k : Int)) (by kernel_rfl) ?_
          go_frame
          refine wl_index (by kernel_rfl) 23 2 _ _ rfl g5 0 5 c5 1 k rfl rfl rfl (by omega) Try.underlying23 I_int64 ?_
          go_frame
          refine wl_loadc (by kernel_rfl) hM 0 rfl 2 _ rfl (0 + k * 1) rfl Try.underlying2 rfl (five_el hn) ?_
          go_frame
          refine wl_call (by kernel_rfl) 41 #[.int .i64 n, .int .i64 0, .int .i64 29] (by kernel_rfl) (spec_in n 0 29 _) ?_
          rintro e W4 ⟨rfl, rfl⟩
          refine ⟨.bool false, congrArg (fun b => Ending.returned (.bool b)) hx4, ?_⟩
          go_frame
          refine wl_pure (by kernel_rfl) (.bool true) (by kernel_rfl) ?_
          go_frame
          refine wl_nil ?_
          refine h10 _ _ ?_
          clear h10
          refine wp_cond_true rfl ?_
          refine wp_seq_k fun K11 h11 => ?_
          refine wl_region ?_
          refine wl_pure (by kernel_rfl) (.bool false) (by kernel_rfl) ?_
          go_frame
          refine wl_nil ?_
          refine h11 _ _ ?_
          clear h11
          refine wp_ret ?_
          simp only [Exit.then, Exit.inBlock]
          exact bodyPost_ret (v := .bool false) (ret_tmp 2 rfl rfl) rfl ⟨ret_b (by simp [handB, headB, handL, *]), hM.below⟩
      · obtain rfl : k = 5 := by simp at hx3; omega
        have hall : (five h).all (fun n => inB n 0 29) = true := fiveTo.all hP
        refine wp_cond_false (congrArg Value.bool hx3) ?_
        refine wp_exit ?_
        refine h5 _ _ ?_
        clear h5
        refine wp_seq_k fun K9 h9 => ?_
        rcases Bool.eq_false_or_eq_true (inB h.side 0 1) with hx5 | hx5
        · rcases Bool.eq_false_or_eq_true (inB h.tag 0 10000) with hx6 | hx6
          · rcases Bool.eq_false_or_eq_true (inB h.index 0 6) with hx7 | hx7
            · rcases Bool.eq_false_or_eq_true (inB h.seen (-1) 100000) with hx8 | hx8
              · rcases Bool.eq_false_or_eq_true (inB h.begin_ 0 20000) with hx9 | hx9
                · rcases Bool.eq_false_or_eq_true (inB h.reply 0 3) with hx10 | hx10
                  · refine wl_region ?_
                    refine wl_pure (by kernel_rfl) (.pointer (some ⟨g1, 6, none⟩)) (by kernel_rfl) ?_
                    go_frame
                    refine wl_loadc (by kernel_rfl) hM 1 rfl 2 _ rfl 6 rfl Try.underlying2 rfl rfl ?_
                    go_frame
                    refine wl_call (by kernel_rfl) 41 #[.int .i64 h.side, .int .i64 0, .int .i64 1] (by kernel_rfl) (spec_in h.side 0 1 _) ?_
                    rintro e W4 ⟨rfl, rfl⟩
                    refine ⟨.bool true, congrArg (fun b => Ending.returned (.bool b)) hx5, ?_⟩
                    go_frame
                    refine wl_pure (by kernel_rfl) (.bool true) (by kernel_rfl) ?_
                    go_frame
                    refine wl_pure (by kernel_rfl) (.pointer (some ⟨g1, 7, none⟩)) (by kernel_rfl) ?_
                    go_frame
                    refine wl_loadc (by kernel_rfl) hM 1 rfl 2 _ rfl 7 rfl Try.underlying2 rfl rfl ?_
                    go_frame
                    refine wl_call (by kernel_rfl) 64 #[.int .i64 h.tag] (by kernel_rfl) (spec_tag h.tag _) ?_
                    rintro e W5 ⟨rfl, rfl⟩
                    refine ⟨.bool true, congrArg (fun b => Ending.returned (.bool b)) hx6, ?_⟩
                    go_frame
                    refine wl_pure (by kernel_rfl) (.bool true) (by kernel_rfl) ?_
                    go_frame
                    refine wl_pure (by kernel_rfl) (.bool true) (by kernel_rfl) ?_
                    go_frame
                    refine wl_pure (by kernel_rfl) (.pointer (some ⟨g1, 11, none⟩)) (by kernel_rfl) ?_
                    go_frame
                    refine wl_loadc (by kernel_rfl) hM 1 rfl 2 _ rfl 11 rfl Try.underlying2 rfl rfl ?_
                    go_frame
                    refine wl_call (by kernel_rfl) 41 #[.int .i64 h.index, .int .i64 0, .int .i64 6] (by kernel_rfl) (spec_in h.index 0 6 _) ?_
                    rintro e W6 ⟨rfl, rfl⟩
                    refine ⟨.bool true, congrArg (fun b => Ending.returned (.bool b)) hx7, ?_⟩
                    go_frame
                    refine wl_pure (by kernel_rfl) (.bool true) (by kernel_rfl) ?_
                    go_frame
                    refine wl_pure (by kernel_rfl) (.bool true) (by kernel_rfl) ?_
                    go_frame
                    refine wl_pure (by kernel_rfl) (.pointer (some ⟨g1, 12, none⟩)) (by kernel_rfl) ?_
                    go_frame
                    refine wl_loadc (by kernel_rfl) hM 1 rfl 2 _ rfl 12 rfl Try.underlying2 rfl rfl ?_
                    go_frame
                    refine wl_call (by kernel_rfl) 41 #[.int .i64 h.seen, .int .i64 (-1), .int .i64 100000] (by kernel_rfl) (spec_in h.seen (-1) 100000 _) ?_
                    rintro e W7 ⟨rfl, rfl⟩
                    refine ⟨.bool true, congrArg (fun b => Ending.returned (.bool b)) hx8, ?_⟩
                    go_frame
                    refine wl_pure (by kernel_rfl) (.bool true) (by kernel_rfl) ?_
                    go_frame
                    refine wl_pure (by kernel_rfl) (.bool true) (by kernel_rfl) ?_
                    go_frame
                    refine wl_pure (by kernel_rfl) (.pointer (some ⟨g1, 14, none⟩)) (by kernel_rfl) ?_
                    go_frame
                    refine wl_loadc (by kernel_rfl) hM 1 rfl 2 _ rfl 14 rfl Try.underlying2 rfl rfl ?_
                    go_frame
                    refine wl_call (by kernel_rfl) 41 #[.int .i64 h.begin_, .int .i64 0, .int .i64 20000] (by kernel_rfl) (spec_in h.begin_ 0 20000 _) ?_
                    rintro e W8 ⟨rfl, rfl⟩
                    refine ⟨.bool true, congrArg (fun b => Ending.returned (.bool b)) hx9, ?_⟩
                    go_frame
                    refine wl_pure (by kernel_rfl) (.bool true) (by kernel_rfl) ?_
                    go_frame
                    refine wl_pure (by kernel_rfl) (.bool true) (by kernel_rfl) ?_
                    go_frame
                    refine wl_pure (by kernel_rfl) (.pointer (some ⟨g1, 15, none⟩)) (by kernel_rfl) ?_
                    go_frame
                    refine wl_loadc (by kernel_rfl) hM 1 rfl 2 _ rfl 15 rfl Try.underlying2 rfl rfl ?_
                    go_frame
                    refine wl_call (by kernel_rfl) 41 #[.int .i64 h.reply, .int .i64 0, .int .i64 3] (by kernel_rfl) (spec_in h.reply 0 3 _) ?_
                    rintro e W9 ⟨rfl, rfl⟩
                    refine ⟨.bool true, congrArg (fun b => Ending.returned (.bool b)) hx10, ?_⟩
                    go_frame
                    refine wl_pure (by kernel_rfl) (.bool true) (by kernel_rfl) ?_
                    go_frame
                    refine wl_pure (by kernel_rfl) (.bool true) (by kernel_rfl) ?_
                    go_frame
                    refine wl_pure (by kernel_rfl) (.pointer (some ⟨g1, 16, none⟩)) (by kernel_rfl) ?_
                    go_frame
                    refine wl_loadc (by kernel_rfl) hM 1 rfl 2 _ rfl 16 rfl Try.underlying2 rfl rfl ?_
                    go_frame
                    refine wl_call (by kernel_rfl) 41 #[.int .i64 h.out, .int .i64 0, .int .i64 999] (by kernel_rfl) (spec_in h.out 0 999 _) ?_
                    rintro e W10 ⟨rfl, rfl⟩
                    refine ⟨_, rfl, ?_⟩
                    go_frame
                    refine wl_pure (by kernel_rfl) (.bool (inB h.out 0 999)) (by kernel_rfl) ?_
                    go_frame
                    refine wl_pure (by kernel_rfl) (.bool (inB h.out 0 999)) (by kernel_rfl) ?_
                    go_frame
                    refine wl_nil ?_
                    refine h9 _ _ ?_
                    clear h9
                    refine wp_ret ?_
                    exact bodyPost_ret (v := .bool (inB h.out 0 999)) (ret_tmp 2 rfl rfl) rfl ⟨ret_b (by simp [handB, headB, handL, *]), hM.below⟩
                  · refine wl_region ?_
                    refine wl_pure (by kernel_rfl) (.pointer (some ⟨g1, 6, none⟩)) (by kernel_rfl) ?_
                    go_frame
                    refine wl_loadc (by kernel_rfl) hM 1 rfl 2 _ rfl 6 rfl Try.underlying2 rfl rfl ?_
                    go_frame
                    refine wl_call (by kernel_rfl) 41 #[.int .i64 h.side, .int .i64 0, .int .i64 1] (by kernel_rfl) (spec_in h.side 0 1 _) ?_
                    rintro e W4 ⟨rfl, rfl⟩
                    refine ⟨.bool true, congrArg (fun b => Ending.returned (.bool b)) hx5, ?_⟩
                    go_frame
                    refine wl_pure (by kernel_rfl) (.bool true) (by kernel_rfl) ?_
                    go_frame
                    refine wl_pure (by kernel_rfl) (.pointer (some ⟨g1, 7, none⟩)) (by kernel_rfl) ?_
                    go_frame
                    refine wl_loadc (by kernel_rfl) hM 1 rfl 2 _ rfl 7 rfl Try.underlying2 rfl rfl ?_
                    go_frame
                    refine wl_call (by kernel_rfl) 64 #[.int .i64 h.tag] (by kernel_rfl) (spec_tag h.tag _) ?_
                    rintro e W5 ⟨rfl, rfl⟩
                    refine ⟨.bool true, congrArg (fun b => Ending.returned (.bool b)) hx6, ?_⟩
                    go_frame
                    refine wl_pure (by kernel_rfl) (.bool true) (by kernel_rfl) ?_
                    go_frame
                    refine wl_pure (by kernel_rfl) (.bool true) (by kernel_rfl) ?_
                    go_frame
                    refine wl_pure (by kernel_rfl) (.pointer (some ⟨g1, 11, none⟩)) (by kernel_rfl) ?_
                    go_frame
                    refine wl_loadc (by kernel_rfl) hM 1 rfl 2 _ rfl 11 rfl Try.underlying2 rfl rfl ?_
                    go_frame
                    refine wl_call (by kernel_rfl) 41 #[.int .i64 h.index, .int .i64 0, .int .i64 6] (by kernel_rfl) (spec_in h.index 0 6 _) ?_
                    rintro e W6 ⟨rfl, rfl⟩
                    refine ⟨.bool true, congrArg (fun b => Ending.returned (.bool b)) hx7, ?_⟩
                    go_frame
                    refine wl_pure (by kernel_rfl) (.bool true) (by kernel_rfl) ?_
                    go_frame
                    refine wl_pure (by kernel_rfl) (.bool true) (by kernel_rfl) ?_
                    go_frame
                    refine wl_pure (by kernel_rfl) (.pointer (some ⟨g1, 12, none⟩)) (by kernel_rfl) ?_
                    go_frame
                    refine wl_loadc (by kernel_rfl) hM 1 rfl 2 _ rfl 12 rfl Try.underlying2 rfl rfl ?_
                    go_frame
                    refine wl_call (by kernel_rfl) 41 #[.int .i64 h.seen, .int .i64 (-1), .int .i64 100000] (by kernel_rfl) (spec_in h.seen (-1) 100000 _) ?_
                    rintro e W7 ⟨rfl, rfl⟩
                    refine ⟨.bool true, congrArg (fun b => Ending.returned (.bool b)) hx8, ?_⟩
                    go_frame
                    refine wl_pure (by kernel_rfl) (.bool true) (by kernel_rfl) ?_
                    go_frame
                    refine wl_pure (by kernel_rfl) (.bool true) (by kernel_rfl) ?_
                    go_frame
                    refine wl_pure (by kernel_rfl) (.pointer (some ⟨g1, 14, none⟩)) (by kernel_rfl) ?_
                    go_frame
                    refine wl_loadc (by kernel_rfl) hM 1 rfl 2 _ rfl 14 rfl Try.underlying2 rfl rfl ?_
                    go_frame
                    refine wl_call (by kernel_rfl) 41 #[.int .i64 h.begin_, .int .i64 0, .int .i64 20000] (by kernel_rfl) (spec_in h.begin_ 0 20000 _) ?_
                    rintro e W8 ⟨rfl, rfl⟩
                    refine ⟨.bool true, congrArg (fun b => Ending.returned (.bool b)) hx9, ?_⟩
                    go_frame
                    refine wl_pure (by kernel_rfl) (.bool true) (by kernel_rfl) ?_
                    go_frame
                    refine wl_pure (by kernel_rfl) (.bool true) (by kernel_rfl) ?_
                    go_frame
                    refine wl_pure (by kernel_rfl) (.pointer (some ⟨g1, 15, none⟩)) (by kernel_rfl) ?_
                    go_frame
                    refine wl_loadc (by kernel_rfl) hM 1 rfl 2 _ rfl 15 rfl Try.underlying2 rfl rfl ?_
                    go_frame
                    refine wl_call (by kernel_rfl) 41 #[.int .i64 h.reply, .int .i64 0, .int .i64 3] (by kernel_rfl) (spec_in h.reply 0 3 _) ?_
                    rintro e W9 ⟨rfl, rfl⟩
                    refine ⟨.bool false, congrArg (fun b => Ending.returned (.bool b)) hx10, ?_⟩
                    go_frame
                    refine wl_pure (by kernel_rfl) (.bool false) (by kernel_rfl) ?_
                    go_frame
                    refine wl_pure (by kernel_rfl) (.bool false) (by kernel_rfl) ?_
                    go_frame
                    refine wl_skip (by kernel_rfl) ?_
                    go_frame
                    refine wl_skip (by kernel_rfl) ?_
                    go_frame
                    refine wl_skip (by kernel_rfl) ?_
                    go_frame
                    refine wl_pure (by kernel_rfl) (.bool false) (by kernel_rfl) ?_
                    go_frame
                    refine wl_pure (by kernel_rfl) (.bool false) (by kernel_rfl) ?_
                    go_frame
                    refine wl_nil ?_
                    refine h9 _ _ ?_
                    clear h9
                    refine wp_ret ?_
                    exact bodyPost_ret (v := .bool false) (ret_tmp 2 rfl rfl) rfl ⟨ret_b (by simp [handB, headB, handL, *]), hM.below⟩
                · refine wl_region ?_
                  refine wl_pure (by kernel_rfl) (.pointer (some ⟨g1, 6, none⟩)) (by kernel_rfl) ?_
                  go_frame
                  refine wl_loadc (by kernel_rfl) hM 1 rfl 2 _ rfl 6 rfl Try.underlying2 rfl rfl ?_
                  go_frame
                  refine wl_call (by kernel_rfl) 41 #[.int .i64 h.side, .int .i64 0, .int .i64 1] (by kernel_rfl) (spec_in h.side 0 1 _) ?_
                  rintro e W4 ⟨rfl, rfl⟩
                  refine ⟨.bool true, congrArg (fun b => Ending.returned (.bool b)) hx5, ?_⟩
                  go_frame
                  refine wl_pure (by kernel_rfl) (.bool true) (by kernel_rfl) ?_
                  go_frame
                  refine wl_pure (by kernel_rfl) (.pointer (some ⟨g1, 7, none⟩)) (by kernel_rfl) ?_
                  go_frame
                  refine wl_loadc (by kernel_rfl) hM 1 rfl 2 _ rfl 7 rfl Try.underlying2 rfl rfl ?_
                  go_frame
                  refine wl_call (by kernel_rfl) 64 #[.int .i64 h.tag] (by kernel_rfl) (spec_tag h.tag _) ?_
                  rintro e W5 ⟨rfl, rfl⟩
                  refine ⟨.bool true, congrArg (fun b => Ending.returned (.bool b)) hx6, ?_⟩
                  go_frame
                  refine wl_pure (by kernel_rfl) (.bool true) (by kernel_rfl) ?_
                  go_frame
                  refine wl_pure (by kernel_rfl) (.bool true) (by kernel_rfl) ?_
                  go_frame
                  refine wl_pure (by kernel_rfl) (.pointer (some ⟨g1, 11, none⟩)) (by kernel_rfl) ?_
                  go_frame
                  refine wl_loadc (by kernel_rfl) hM 1 rfl 2 _ rfl 11 rfl Try.underlying2 rfl rfl ?_
                  go_frame
                  refine wl_call (by kernel_rfl) 41 #[.int .i64 h.index, .int .i64 0, .int .i64 6] (by kernel_rfl) (spec_in h.index 0 6 _) ?_
                  rintro e W6 ⟨rfl, rfl⟩
                  refine ⟨.bool true, congrArg (fun b => Ending.returned (.bool b)) hx7, ?_⟩
                  go_frame
                  refine wl_pure (by kernel_rfl) (.bool true) (by kernel_rfl) ?_
                  go_frame
                  refine wl_pure (by kernel_rfl) (.bool true) (by kernel_rfl) ?_
                  go_frame
                  refine wl_pure (by kernel_rfl) (.pointer (some ⟨g1, 12, none⟩)) (by kernel_rfl) ?_
                  go_frame
                  refine wl_loadc (by kernel_rfl) hM 1 rfl 2 _ rfl 12 rfl Try.underlying2 rfl rfl ?_
                  go_frame
                  refine wl_call (by kernel_rfl) 41 #[.int .i64 h.seen, .int .i64 (-1), .int .i64 100000] (by kernel_rfl) (spec_in h.seen (-1) 100000 _) ?_
                  rintro e W7 ⟨rfl, rfl⟩
                  refine ⟨.bool true, congrArg (fun b => Ending.returned (.bool b)) hx8, ?_⟩
                  go_frame
                  refine wl_pure (by kernel_rfl) (.bool true) (by kernel_rfl) ?_
                  go_frame
                  refine wl_pure (by kernel_rfl) (.bool true) (by kernel_rfl) ?_
                  go_frame
                  refine wl_pure (by kernel_rfl) (.pointer (some ⟨g1, 14, none⟩)) (by kernel_rfl) ?_
                  go_frame
                  refine wl_loadc (by kernel_rfl) hM 1 rfl 2 _ rfl 14 rfl Try.underlying2 rfl rfl ?_
                  go_frame
                  refine wl_call (by kernel_rfl) 41 #[.int .i64 h.begin_, .int .i64 0, .int .i64 20000] (by kernel_rfl) (spec_in h.begin_ 0 20000 _) ?_
                  rintro e W8 ⟨rfl, rfl⟩
                  refine ⟨.bool false, congrArg (fun b => Ending.returned (.bool b)) hx9, ?_⟩
                  go_frame
                  refine wl_pure (by kernel_rfl) (.bool false) (by kernel_rfl) ?_
                  go_frame
                  refine wl_pure (by kernel_rfl) (.bool false) (by kernel_rfl) ?_
                  go_frame
                  refine wl_skip (by kernel_rfl) ?_
                  go_frame
                  refine wl_skip (by kernel_rfl) ?_
                  go_frame
                  refine wl_skip (by kernel_rfl) ?_
                  go_frame
                  refine wl_pure (by kernel_rfl) (.bool false) (by kernel_rfl) ?_
                  go_frame
                  refine wl_pure (by kernel_rfl) (.bool false) (by kernel_rfl) ?_
                  go_frame
                  refine wl_skip (by kernel_rfl) ?_
                  go_frame
                  refine wl_skip (by kernel_rfl) ?_
                  go_frame
                  refine wl_skip (by kernel_rfl) ?_
                  go_frame
                  refine wl_pure (by kernel_rfl) (.bool false) (by kernel_rfl) ?_
                  go_frame
                  refine wl_pure (by kernel_rfl) (.bool false) (by kernel_rfl) ?_
                  go_frame
                  refine wl_nil ?_
                  refine h9 _ _ ?_
                  clear h9
                  refine wp_ret ?_
                  exact bodyPost_ret (v := .bool false) (ret_tmp 2 rfl rfl) rfl ⟨ret_b (by simp [handB, headB, handL, *]), hM.below⟩
              · refine wl_region ?_
                refine wl_pure (by kernel_rfl) (.pointer (some ⟨g1, 6, none⟩)) (by kernel_rfl) ?_
                go_frame
                refine wl_loadc (by kernel_rfl) hM 1 rfl 2 _ rfl 6 rfl Try.underlying2 rfl rfl ?_
                go_frame
                refine wl_call (by kernel_rfl) 41 #[.int .i64 h.side, .int .i64 0, .int .i64 1] (by kernel_rfl) (spec_in h.side 0 1 _) ?_
                rintro e W4 ⟨rfl, rfl⟩
                refine ⟨.bool true, congrArg (fun b => Ending.returned (.bool b)) hx5, ?_⟩
                go_frame
                refine wl_pure (by kernel_rfl) (.bool true) (by kernel_rfl) ?_
                go_frame
                refine wl_pure (by kernel_rfl) (.pointer (some ⟨g1, 7, none⟩)) (by kernel_rfl) ?_
                go_frame
                refine wl_loadc (by kernel_rfl) hM 1 rfl 2 _ rfl 7 rfl Try.underlying2 rfl rfl ?_
                go_frame
                refine wl_call (by kernel_rfl) 64 #[.int .i64 h.tag] (by kernel_rfl) (spec_tag h.tag _) ?_
                rintro e W5 ⟨rfl, rfl⟩
                refine ⟨.bool true, congrArg (fun b => Ending.returned (.bool b)) hx6, ?_⟩
                go_frame
                refine wl_pure (by kernel_rfl) (.bool true) (by kernel_rfl) ?_
                go_frame
                refine wl_pure (by kernel_rfl) (.bool true) (by kernel_rfl) ?_
                go_frame
                refine wl_pure (by kernel_rfl) (.pointer (some ⟨g1, 11, none⟩)) (by kernel_rfl) ?_
                go_frame
                refine wl_loadc (by kernel_rfl) hM 1 rfl 2 _ rfl 11 rfl Try.underlying2 rfl rfl ?_
                go_frame
                refine wl_call (by kernel_rfl) 41 #[.int .i64 h.index, .int .i64 0, .int .i64 6] (by kernel_rfl) (spec_in h.index 0 6 _) ?_
                rintro e W6 ⟨rfl, rfl⟩
                refine ⟨.bool true, congrArg (fun b => Ending.returned (.bool b)) hx7, ?_⟩
                go_frame
                refine wl_pure (by kernel_rfl) (.bool true) (by kernel_rfl) ?_
                go_frame
                refine wl_pure (by kernel_rfl) (.bool true) (by kernel_rfl) ?_
                go_frame
                refine wl_pure (by kernel_rfl) (.pointer (some ⟨g1, 12, none⟩)) (by kernel_rfl) ?_
                go_frame
                refine wl_loadc (by kernel_rfl) hM 1 rfl 2 _ rfl 12 rfl Try.underlying2 rfl rfl ?_
                go_frame
                refine wl_call (by kernel_rfl) 41 #[.int .i64 h.seen, .int .i64 (-1), .int .i64 100000] (by kernel_rfl) (spec_in h.seen (-1) 100000 _) ?_
                rintro e W7 ⟨rfl, rfl⟩
                refine ⟨.bool false, congrArg (fun b => Ending.returned (.bool b)) hx8, ?_⟩
                go_frame
                refine wl_pure (by kernel_rfl) (.bool false) (by kernel_rfl) ?_
                go_frame
                refine wl_pure (by kernel_rfl) (.bool false) (by kernel_rfl) ?_
                go_frame
                refine wl_skip (by kernel_rfl) ?_
                go_frame
                refine wl_skip (by kernel_rfl) ?_
                go_frame
                refine wl_skip (by kernel_rfl) ?_
                go_frame
                refine wl_pure (by kernel_rfl) (.bool false) (by kernel_rfl) ?_
                go_frame
                refine wl_pure (by kernel_rfl) (.bool false) (by kernel_rfl) ?_
                go_frame
                refine wl_skip (by kernel_rfl) ?_
                go_frame
                refine wl_skip (by kernel_rfl) ?_
                go_frame
                refine wl_skip (by kernel_rfl) ?_
                go_frame
                refine wl_pure (by kernel_rfl) (.bool false) (by kernel_rfl) ?_
                go_frame
                refine wl_pure (by kernel_rfl) (.bool false) (by kernel_rfl) ?_
                go_frame
                refine wl_skip (by kernel_rfl) ?_
                go_frame
                refine wl_skip (by kernel_rfl) ?_
                go_frame
                refine wl_skip (by kernel_rfl) ?_
                go_frame
                refine wl_pure (by kernel_rfl) (.bool false) (by kernel_rfl) ?_
                go_frame
                refine wl_pure (by kernel_rfl) (.bool false) (by kernel_rfl) ?_
                go_frame
                refine wl_nil ?_
                refine h9 _ _ ?_
                clear h9
                refine wp_ret ?_
                exact bodyPost_ret (v := .bool false) (ret_tmp 2 rfl rfl) rfl ⟨ret_b (by simp [handB, headB, handL, *]), hM.below⟩
            · refine wl_region ?_
              refine wl_pure (by kernel_rfl) (.pointer (some ⟨g1, 6, none⟩)) (by kernel_rfl) ?_
              go_frame
              refine wl_loadc (by kernel_rfl) hM 1 rfl 2 _ rfl 6 rfl Try.underlying2 rfl rfl ?_
              go_frame
              refine wl_call (by kernel_rfl) 41 #[.int .i64 h.side, .int .i64 0, .int .i64 1] (by kernel_rfl) (spec_in h.side 0 1 _) ?_
              rintro e W4 ⟨rfl, rfl⟩
              refine ⟨.bool true, congrArg (fun b => Ending.returned (.bool b)) hx5, ?_⟩
              go_frame
              refine wl_pure (by kernel_rfl) (.bool true) (by kernel_rfl) ?_
              go_frame
              refine wl_pure (by kernel_rfl) (.pointer (some ⟨g1, 7, none⟩)) (by kernel_rfl) ?_
              go_frame
              refine wl_loadc (by kernel_rfl) hM 1 rfl 2 _ rfl 7 rfl Try.underlying2 rfl rfl ?_
              go_frame
              refine wl_call (by kernel_rfl) 64 #[.int .i64 h.tag] (by kernel_rfl) (spec_tag h.tag _) ?_
              rintro e W5 ⟨rfl, rfl⟩
              refine ⟨.bool true, congrArg (fun b => Ending.returned (.bool b)) hx6, ?_⟩
              go_frame
              refine wl_pure (by kernel_rfl) (.bool true) (by kernel_rfl) ?_
              go_frame
              refine wl_pure (by kernel_rfl) (.bool true) (by kernel_rfl) ?_
              go_frame
              refine wl_pure (by kernel_rfl) (.pointer (some ⟨g1, 11, none⟩)) (by kernel_rfl) ?_
              go_frame
              refine wl_loadc (by kernel_rfl) hM 1 rfl 2 _ rfl 11 rfl Try.underlying2 rfl rfl ?_
              go_frame
              refine wl_call (by kernel_rfl) 41 #[.int .i64 h.index, .int .i64 0, .int .i64 6] (by kernel_rfl) (spec_in h.index 0 6 _) ?_
              rintro e W6 ⟨rfl, rfl⟩
              refine ⟨.bool false, congrArg (fun b => Ending.returned (.bool b)) hx7, ?_⟩
              go_frame
              refine wl_pure (by kernel_rfl) (.bool false) (by kernel_rfl) ?_
              go_frame
              refine wl_pure (by kernel_rfl) (.bool false) (by kernel_rfl) ?_
              go_frame
              refine wl_skip (by kernel_rfl) ?_
              go_frame
              refine wl_skip (by kernel_rfl) ?_
              go_frame
              refine wl_skip (by kernel_rfl) ?_
              go_frame
              refine wl_pure (by kernel_rfl) (.bool false) (by kernel_rfl) ?_
              go_frame
              refine wl_pure (by kernel_rfl) (.bool false) (by kernel_rfl) ?_
              go_frame
              refine wl_skip (by kernel_rfl) ?_
              go_frame
              refine wl_skip (by kernel_rfl) ?_
              go_frame
              refine wl_skip (by kernel_rfl) ?_
              go_frame
              refine wl_pure (by kernel_rfl) (.bool false) (by kernel_rfl) ?_
              go_frame
              refine wl_pure (by kernel_rfl) (.bool false) (by kernel_rfl) ?_
              go_frame
              refine wl_skip (by kernel_rfl) ?_
              go_frame
              refine wl_skip (by kernel_rfl) ?_
              go_frame
              refine wl_skip (by kernel_rfl) ?_
              go_frame
              refine wl_pure (by kernel_rfl) (.bool false) (by kernel_rfl) ?_
              go_frame
              refine wl_pure (by kernel_rfl) (.bool false) (by kernel_rfl) ?_
              go_frame
              refine wl_skip (by kernel_rfl) ?_
              go_frame
              refine wl_skip (by kernel_rfl) ?_
              go_frame
              refine wl_skip (by kernel_rfl) ?_
              go_frame
              refine wl_pure (by kernel_rfl) (.bool false) (by kernel_rfl) ?_
              go_frame
              refine wl_pure (by kernel_rfl) (.bool false) (by kernel_rfl) ?_
              go_frame
              refine wl_nil ?_
              refine h9 _ _ ?_
              clear h9
              refine wp_ret ?_
              exact bodyPost_ret (v := .bool false) (ret_tmp 2 rfl rfl) rfl ⟨ret_b (by simp [handB, headB, handL, *]), hM.below⟩
          · refine wl_region ?_
            refine wl_pure (by kernel_rfl) (.pointer (some ⟨g1, 6, none⟩)) (by kernel_rfl) ?_
            go_frame
            refine wl_loadc (by kernel_rfl) hM 1 rfl 2 _ rfl 6 rfl Try.underlying2 rfl rfl ?_
            go_frame
            refine wl_call (by kernel_rfl) 41 #[.int .i64 h.side, .int .i64 0, .int .i64 1] (by kernel_rfl) (spec_in h.side 0 1 _) ?_
            rintro e W4 ⟨rfl, rfl⟩
            refine ⟨.bool true, congrArg (fun b => Ending.returned (.bool b)) hx5, ?_⟩
            go_frame
            refine wl_pure (by kernel_rfl) (.bool true) (by kernel_rfl) ?_
            go_frame
            refine wl_pure (by kernel_rfl) (.pointer (some ⟨g1, 7, none⟩)) (by kernel_rfl) ?_
            go_frame
            refine wl_loadc (by kernel_rfl) hM 1 rfl 2 _ rfl 7 rfl Try.underlying2 rfl rfl ?_
            go_frame
            refine wl_call (by kernel_rfl) 64 #[.int .i64 h.tag] (by kernel_rfl) (spec_tag h.tag _) ?_
            rintro e W5 ⟨rfl, rfl⟩
            refine ⟨.bool false, congrArg (fun b => Ending.returned (.bool b)) hx6, ?_⟩
            go_frame
            refine wl_pure (by kernel_rfl) (.bool false) (by kernel_rfl) ?_
            go_frame
            refine wl_pure (by kernel_rfl) (.bool false) (by kernel_rfl) ?_
            go_frame
            refine wl_skip (by kernel_rfl) ?_
            go_frame
            refine wl_skip (by kernel_rfl) ?_
            go_frame
            refine wl_skip (by kernel_rfl) ?_
            go_frame
            refine wl_pure (by kernel_rfl) (.bool false) (by kernel_rfl) ?_
            go_frame
            refine wl_pure (by kernel_rfl) (.bool false) (by kernel_rfl) ?_
            go_frame
            refine wl_skip (by kernel_rfl) ?_
            go_frame
            refine wl_skip (by kernel_rfl) ?_
            go_frame
            refine wl_skip (by kernel_rfl) ?_
            go_frame
            refine wl_pure (by kernel_rfl) (.bool false) (by kernel_rfl) ?_
            go_frame
            refine wl_pure (by kernel_rfl) (.bool false) (by kernel_rfl) ?_
            go_frame
            refine wl_skip (by kernel_rfl) ?_
            go_frame
            refine wl_skip (by kernel_rfl) ?_
            go_frame
            refine wl_skip (by kernel_rfl) ?_
            go_frame
            refine wl_pure (by kernel_rfl) (.bool false) (by kernel_rfl) ?_
            go_frame
            refine wl_pure (by kernel_rfl) (.bool false) (by kernel_rfl) ?_
            go_frame
            refine wl_skip (by kernel_rfl) ?_
            go_frame
            refine wl_skip (by kernel_rfl) ?_
            go_frame
            refine wl_skip (by kernel_rfl) ?_
            go_frame
            refine wl_pure (by kernel_rfl) (.bool false) (by kernel_rfl) ?_
            go_frame
            refine wl_pure (by kernel_rfl) (.bool false) (by kernel_rfl) ?_
            go_frame
            refine wl_skip (by kernel_rfl) ?_
            go_frame
            refine wl_skip (by kernel_rfl) ?_
            go_frame
            refine wl_skip (by kernel_rfl) ?_
            go_frame
            refine wl_pure (by kernel_rfl) (.bool false) (by kernel_rfl) ?_
            go_frame
            refine wl_pure (by kernel_rfl) (.bool false) (by kernel_rfl) ?_
            go_frame
            refine wl_nil ?_
            refine h9 _ _ ?_
            clear h9
            refine wp_ret ?_
            exact bodyPost_ret (v := .bool false) (ret_tmp 2 rfl rfl) rfl ⟨ret_b (by simp [handB, headB, handL, *]), hM.below⟩
        · refine wl_region ?_
          refine wl_pure (by kernel_rfl) (.pointer (some ⟨g1, 6, none⟩)) (by kernel_rfl) ?_
          go_frame
          refine wl_loadc (by kernel_rfl) hM 1 rfl 2 _ rfl 6 rfl Try.underlying2 rfl rfl ?_
          go_frame
          refine wl_call (by kernel_rfl) 41 #[.int .i64 h.side, .int .i64 0, .int .i64 1] (by kernel_rfl) (spec_in h.side 0 1 _) ?_
          rintro e W4 ⟨rfl, rfl⟩
          refine ⟨.bool false, congrArg (fun b => Ending.returned (.bool b)) hx5, ?_⟩
          go_frame
          refine wl_pure (by kernel_rfl) (.bool false) (by kernel_rfl) ?_
          go_frame
          refine wl_skip (by kernel_rfl) ?_
          go_frame
          refine wl_skip (by kernel_rfl) ?_
          go_frame
          refine wl_skip (by kernel_rfl) ?_
          go_frame
          refine wl_pure (by kernel_rfl) (.bool false) (by kernel_rfl) ?_
          go_frame
          refine wl_pure (by kernel_rfl) (.bool false) (by kernel_rfl) ?_
          go_frame
          refine wl_skip (by kernel_rfl) ?_
          go_frame
          refine wl_skip (by kernel_rfl) ?_
          go_frame
          refine wl_skip (by kernel_rfl) ?_
          go_frame
          refine wl_pure (by kernel_rfl) (.bool false) (by kernel_rfl) ?_
          go_frame
          refine wl_pure (by kernel_rfl) (.bool false) (by kernel_rfl) ?_
          go_frame
          refine wl_skip (by kernel_rfl) ?_
          go_frame
          refine wl_skip (by kernel_rfl) ?_
          go_frame
          refine wl_skip (by kernel_rfl) ?_
          go_frame
          refine wl_pure (by kernel_rfl) (.bool false) (by kernel_rfl) ?_
          go_frame
          refine wl_pure (by kernel_rfl) (.bool false) (by kernel_rfl) ?_
          go_frame
          refine wl_skip (by kernel_rfl) ?_
          go_frame
          refine wl_skip (by kernel_rfl) ?_
          go_frame
          refine wl_skip (by kernel_rfl) ?_
          go_frame
          refine wl_pure (by kernel_rfl) (.bool false) (by kernel_rfl) ?_
          go_frame
          refine wl_pure (by kernel_rfl) (.bool false) (by kernel_rfl) ?_
          go_frame
          refine wl_skip (by kernel_rfl) ?_
          go_frame
          refine wl_skip (by kernel_rfl) ?_
          go_frame
          refine wl_skip (by kernel_rfl) ?_
          go_frame
          refine wl_pure (by kernel_rfl) (.bool false) (by kernel_rfl) ?_
          go_frame
          refine wl_pure (by kernel_rfl) (.bool false) (by kernel_rfl) ?_
          go_frame
          refine wl_skip (by kernel_rfl) ?_
          go_frame
          refine wl_skip (by kernel_rfl) ?_
          go_frame
          refine wl_skip (by kernel_rfl) ?_
          go_frame
          refine wl_pure (by kernel_rfl) (.bool false) (by kernel_rfl) ?_
          go_frame
          refine wl_pure (by kernel_rfl) (.bool false) (by kernel_rfl) ?_
          go_frame
          refine wl_nil ?_
          refine h9 _ _ ?_
          clear h9
          refine wp_ret ?_
          exact bodyPost_ret (v := .bool false) (ret_tmp 2 rfl rfl) rfl ⟨ret_b (by simp [handB, headB, handL, *]), hM.below⟩
    · rcases Bool.eq_false_or_eq_true ((h.at_ == 0)) with hx11 | hx11
      · rcases Bool.eq_false_or_eq_true (noneB h.c h.k h.v) with hx12 | hx12
        · refine wl_region ?_
          refine wl_pure (by kernel_rfl) (.pointer (some ⟨g1, 0, none⟩)) (by kernel_rfl) ?_
          go_frame
          refine wl_loadc (by kernel_rfl) hM 0 rfl 2 _ rfl 0 rfl Try.underlying2 rfl rfl ?_
          go_frame
          refine wl_call (by kernel_rfl) 41 #[.int .i64 h.at_, .int .i64 0, .int .i64 26] (by kernel_rfl) (spec_in h.at_ 0 26 _) ?_
          rintro e W2 ⟨rfl, rfl⟩
          refine ⟨.bool true, congrArg (fun b => Ending.returned (.bool b)) hx1, ?_⟩
          go_frame
          refine wl_pure (by kernel_rfl) (.bool false) (by kernel_rfl) ?_
          go_frame
          refine wl_pure (by kernel_rfl) (.bool false) (by kernel_rfl) ?_
          go_frame
          refine wl_pure (by kernel_rfl) (.pointer (some ⟨g1, 1, none⟩)) (by kernel_rfl) ?_
          go_frame
          refine wl_part (by kernel_rfl) hM 0 rfl 38 _ rfl 1 rfl Try.underlying38 [.int .i64 h.c, .int .i64 h.k, .int .i64 h.v] I_impl_Call rfl ?_
          go_frame
          refine wl_call (by kernel_rfl) 69 #[.agg #[.int .i64 h.c, .int .i64 h.k, .int .i64 h.v]] (by kernel_rfl) (spec_CallOk h.c h.k h.v _) ?_
          rintro e W3 ⟨rfl, hb⟩
          refine ⟨.bool false, congrArg (fun b => Ending.returned (.bool b)) hx2, ?_⟩
          replace hM := hM.call hb
          go_frame
          refine wl_pure (by kernel_rfl) (.bool true) (by kernel_rfl) ?_
          go_frame
          refine wl_pure (by kernel_rfl) (.bool true) (by kernel_rfl) ?_
          go_frame
          refine wl_pure (by kernel_rfl) (.pointer (some ⟨g1, 0, none⟩)) (by kernel_rfl) ?_
          go_frame
          refine wl_loadc (by kernel_rfl) hM 0 rfl 2 _ rfl 0 rfl Try.underlying2 rfl rfl ?_
          go_frame
          refine wl_pureB (by kernel_rfl) (b := (h.at_ == 0)) (by kernel_rfl) (hx11) ?_
          go_frame
          refine wl_pure (by kernel_rfl) (.bool true) (by kernel_rfl) ?_
          go_frame
          refine wl_pure (by kernel_rfl) (.pointer (some ⟨g1, 1, none⟩)) (by kernel_rfl) ?_
          go_frame
          refine wl_part (by kernel_rfl) hM 0 rfl 38 _ rfl 1 rfl Try.underlying38 [.int .i64 h.c, .int .i64 h.k, .int .i64 h.v] I_impl_Call rfl ?_
          go_frame
          refine wl_call (by kernel_rfl) 70 #[.agg #[.int .i64 h.c, .int .i64 h.k, .int .i64 h.v]] (by kernel_rfl) (spec_none h.c h.k h.v _) ?_
          rintro e W4 ⟨rfl, hb⟩
          refine ⟨.bool true, congrArg (fun b => Ending.returned (.bool b)) hx12, ?_⟩
          replace hM := hM.call hb
          go_frame
          refine wl_pure (by kernel_rfl) (.bool true) (by kernel_rfl) ?_
          go_frame
          refine wl_pure (by kernel_rfl) (.bool false) (by kernel_rfl) ?_
          go_frame
          refine wl_pure (by kernel_rfl) (.bool false) (by kernel_rfl) ?_
          go_frame
          refine wl_pure (by kernel_rfl) (.bool false) (by kernel_rfl) ?_
          go_frame
          refine wl_nil ?_
          refine h3 _ _ ?_
          clear h3
          refine wp_cond_false rfl ?_
          refine wp_skip ?_
          refine h2 _ _ ?_
          clear h2
          refine wp_seq_k fun K4 h4 => ?_
          refine wl_region ?_
          refine wl_load (by kernel_rfl) hM 0 rfl 40 _ rfl rfl Try.underlying40 I_impl_Hand ?_
          go_frame
          refine wl_call (by kernel_rfl) 50 #[.agg (HD.cells h).toArray] (by kernel_rfl) (spec_l6Nodes h _) ?_
          rintro e W5 ⟨g5, u5, rfl, hg5, ⟨c5, sp5, rfl, hc5, hm5, hl5, hO5b⟩, hB5⟩
          refine ⟨_, rfl, ?_⟩
          replace hM := hM.got hB5 hg5 hO5b
          go_frame
          refine wl_pure (by kernel_rfl) (.slice (some ⟨g5, 0, none⟩) 5 c5) (by kernel_rfl) ?_
          go_frame
          refine wl_nil ?_
          refine h4 _ _ ?_
          clear h4
          refine wp_seq_k fun K5 h5 => ?_
          refine wp_seq_k fun K6 h6 => ?_
          refine wl_region ?_
          refine wl_pure (by kernel_rfl) (.int .i64 0) (by kernel_rfl) ?_
          go_frame
          refine wl_nil ?_
          refine h6 _ _ ?_
          clear h6
          refine wp_block ?_
          refine wp_loop (fun act w => ∃ (k : Nat) (u2 u28 u29 u30 u31 u32 u33 u34 u35 u36 u37 u38 u39 : Value), act = ⟨#[.agg (HD.cells h).toArray, .pointer (some ⟨g1, 0, none⟩), u2, .slice (some ⟨g5, 0, none⟩) 5 c5, .int .i64 (k : Int), .pointer (some ⟨g1, 0, none⟩), .int .i64 h.at_, .bool true, .bool false, .bool false, .pointer (some ⟨g1, 1, none⟩), .agg #[.int .i64 h.c, .int .i64 h.k, .int .i64 h.v], .bool false, .bool true, .bool true, .pointer (some ⟨g1, 0, none⟩), .int .i64 h.at_, .bool true, .bool true, .pointer (some ⟨g1, 1, none⟩), .agg #[.int .i64 h.c, .int .i64 h.k, .int .i64 h.v], .bool true, .bool true, .bool false, .bool false, .bool false, .agg (HD.cells h).toArray, .slice (some ⟨g5, 0, none⟩) 5 c5, u28, u29, u30, u31, u32, u33, u34, u35, u36, u37, u38, u39, undef, undef, undef, undef, undef, undef, undef, undef, undef, undef, undef, undef, undef, undef, undef, undef, undef, undef, undef, undef, undef, undef, undef, undef, undef, undef, undef, undef, undef, undef, undef, undef, undef], []⟩ ∧ Mem w0 w [(g5, 2, (cellsI (five h) ++ sp5)), (g1, 40, (HD.cells h))] ∧ (k ≤ 5 ∧ fiveTo (five h) k)) (fun act _ => 5 - (intOf (act.tmps.getD 4 undef)).toNat) ?_ ?_
          · exact ⟨0, .bool false, undef, undef, undef, undef, undef, undef, undef, undef, undef, undef, undef, undef, rfl, hM, by omega, fun j n hj => by omega⟩
          clear hM
          rintro act w ⟨k, u2, u28, u29, u30, u31, u32, u33, u34, u35, u36, u37, u38, u39, rfl, hM, hk, hP⟩
          refine wp_seq_k fun K7 h7 => ?_
          refine wp_seq_k fun K8 h8 => ?_
          refine wl_region ?_
          refine wl_pure (by kernel_rfl) (.int .i64 (k : Int)) (by kernel_rfl) ?_
          go_frame
          refine wl_pure (by kernel_rfl) (.slice (some ⟨g5, 0, none⟩) 5 c5) (by kernel_rfl) ?_
          go_frame
          refine wl_pure (by kernel_rfl) (.int .i64 5) (by kernel_rfl) ?_
          go_frame
          refine wl_pure (by kernel_rfl) (.bool (decide ((k : Int) < 5))) (by kernel_rfl) ?_
          go_frame
          refine wl_nil ?_
          refine h8 _ _ ?_
          clear h8
          rcases Bool.eq_false_or_eq_true (decide ((k : Int) < 5)) with hx13 | hx13
          · have hk5 : k < 5 := by simp at hx13; omega
            obtain ⟨n, hn⟩ : ∃ n, (five h)[k]? = some n := ⟨_, List.getElem?_eq_getElem hk5⟩
            refine wp_cond_true (congrArg Value.bool hx13) ?_
            refine wp_skip ?_
            refine h7 _ _ ?_
            clear h7
            refine wp_seq_k fun K9 h9 => ?_
            refine wp_block ?_
            refine wp_seq_k fun K10 h10 => ?_
            rcases Bool.eq_false_or_eq_true (inB n 0 29) with hx14 | hx14
            · have HE := hx14
              refine wl_region ?_
              refine wl_pure (by kernel_rfl) (.slice (some ⟨g5, 0, none⟩) 5 c5) (by kernel_rfl) ?_
              go_frame
              refine wl_pure (by kernel_rfl) (.int .i64 (k : Int)) (by kernel_rfl) ?_
              go_frame
              refine wl_index (by kernel_rfl) 23 2 _ _ rfl g5 0 5 c5 1 k rfl rfl rfl (by omega) Try.underlying23 I_int64 ?_
              go_frame
              refine wl_loadc (by kernel_rfl) hM 0 rfl 2 _ rfl (0 + k * 1) rfl Try.underlying2 rfl (five_el hn) ?_
              go_frame
              refine wl_call (by kernel_rfl) 41 #[.int .i64 n, .int .i64 0, .int .i64 29] (by kernel_rfl) (spec_in n 0 29 _) ?_
              rintro e W5 ⟨rfl, rfl⟩
              refine ⟨.bool true, congrArg (fun b => Ending.returned (.bool b)) hx14, ?_⟩
              go_frame
              refine wl_pure (by kernel_rfl) (.bool false) (by kernel_rfl) ?_
              go_frame
              refine wl_nil ?_
              refine h10 _ _ ?_
              clear h10
              refine wp_cond_false rfl ?_
              refine wp_skip ?_
              refine h9 _ _ ?_
              clear h9
              refine wl_region ?_
              refine wl_pure (by kernel_rfl) (.int .i64 (k : Int)) (by kernel_rfl) ?_
              go_frame
              refine wl_pureI (by kernel_rfl) (n := (k : Int) + 1) (by kernel_rfl) (by omega) (by omega) ?_
              go_frame
              refine wl_pure (by kernel_rfl) (.int .i64 ((k : Int) + 1)) (by kernel_rfl) ?_
              go_frame
              refine wl_nil ?_
              rw [show ((k : Int) + 1) = ((k + 1 : Nat) : Int) by omega]
              exact ⟨⟨k + 1, _, _, _, _, _, _, _, _, _, _, _, _, _, rfl, hM, by omega, fun j m hj hm => if e : j = k then (by subst e; rw [hn] at hm; cases hm; exact HE) else hP j m (by omega) hm⟩, by simp [intOf]; omega⟩
            · have hall : (five h).all (fun n => inB n 0 29) = false := five_off hn hx14
              refine wl_region ?_
              refine wl_pure (by kernel_rfl) (.slice (some ⟨g5, 0, none⟩) 5 c5) (by kernel_rfl) ?_
              go_frame
              refine wl_pure (by kernel_rfl) (.int .i64 (k : Int)) (by kernel_rfl) ?_
              go_frame
              refine wl_index (by kernel_rfl) 23 2 _ _ rfl g5 0 5 c5 1 k rfl rfl rfl (by omega) Try.underlying23 I_int64 ?_
              go_frame
              refine wl_loadc (by kernel_rfl) hM 0 rfl 2 _ rfl (0 + k * 1) rfl Try.underlying2 rfl (five_el hn) ?_
              go_frame
              refine wl_call (by kernel_rfl) 41 #[.int .i64 n, .int .i64 0, .int .i64 29] (by kernel_rfl) (spec_in n 0 29 _) ?_
              rintro e W5 ⟨rfl, rfl⟩
              refine ⟨.bool false, congrArg (fun b => Ending.returned (.bool b)) hx14, ?_⟩
              go_frame
              refine wl_pure (by kernel_rfl) (.bool true) (by kernel_rfl) ?_
              go_frame
              refine wl_nil ?_
              refine h10 _ _ ?_
              clear h10
              refine wp_cond_true rfl ?_
              refine wp_seq_k fun K11 h11 => ?_
              refine wl_region ?_
              refine wl_pure (by kernel_rfl) (.bool false) (by kernel_rfl) ?_
              go_frame
              refine wl_nil ?_
              refine h11 _ _ ?_
              clear h11
              refine wp_ret ?_
              simp only [Exit.then, Exit.inBlock]
              exact bodyPost_ret (v := .bool false) (ret_tmp 2 rfl rfl) rfl ⟨ret_b (by simp [handB, headB, handL, *]), hM.below⟩
          · obtain rfl : k = 5 := by simp at hx13; omega
            have hall : (five h).all (fun n => inB n 0 29) = true := fiveTo.all hP
            refine wp_cond_false (congrArg Value.bool hx13) ?_
            refine wp_exit ?_
            refine h5 _ _ ?_
            clear h5
            refine wp_seq_k fun K9 h9 => ?_
            rcases Bool.eq_false_or_eq_true (inB h.side 0 1) with hx15 | hx15
            · rcases Bool.eq_false_or_eq_true (inB h.tag 0 10000) with hx16 | hx16
              · rcases Bool.eq_false_or_eq_true (inB h.index 0 6) with hx17 | hx17
                · rcases Bool.eq_false_or_eq_true (inB h.seen (-1) 100000) with hx18 | hx18
                  · rcases Bool.eq_false_or_eq_true (inB h.begin_ 0 20000) with hx19 | hx19
                    · rcases Bool.eq_false_or_eq_true (inB h.reply 0 3) with hx20 | hx20
                      · refine wl_region ?_
                        refine wl_pure (by kernel_rfl) (.pointer (some ⟨g1, 6, none⟩)) (by kernel_rfl) ?_
                        go_frame
                        refine wl_loadc (by kernel_rfl) hM 1 rfl 2 _ rfl 6 rfl Try.underlying2 rfl rfl ?_
                        go_frame
                        refine wl_call (by kernel_rfl) 41 #[.int .i64 h.side, .int .i64 0, .int .i64 1] (by kernel_rfl) (spec_in h.side 0 1 _) ?_
                        rintro e W5 ⟨rfl, rfl⟩
                        refine ⟨.bool true, congrArg (fun b => Ending.returned (.bool b)) hx15, ?_⟩
                        go_frame
                        refine wl_pure (by kernel_rfl) (.bool true) (by kernel_rfl) ?_
                        go_frame
                        refine wl_pure (by kernel_rfl) (.pointer (some ⟨g1, 7, none⟩)) (by kernel_rfl) ?_
                        go_frame
                        refine wl_loadc (by kernel_rfl) hM 1 rfl 2 _ rfl 7 rfl Try.underlying2 rfl rfl ?_
                        go_frame
                        refine wl_call (by kernel_rfl) 64 #[.int .i64 h.tag] (by kernel_rfl) (spec_tag h.tag _) ?_
                        rintro e W6 ⟨rfl, rfl⟩
                        refine ⟨.bool true, congrArg (fun b => Ending.returned (.bool b)) hx16, ?_⟩
                        go_frame
                        refine wl_pure (by kernel_rfl) (.bool true) (by kernel_rfl) ?_
                        go_frame
                        refine wl_pure (by kernel_rfl) (.bool true) (by kernel_rfl) ?_
                        go_frame
                        refine wl_pure (by kernel_rfl) (.pointer (some ⟨g1, 11, none⟩)) (by kernel_rfl) ?_
                        go_frame
                        refine wl_loadc (by kernel_rfl) hM 1 rfl 2 _ rfl 11 rfl Try.underlying2 rfl rfl ?_
                        go_frame
                        refine wl_call (by kernel_rfl) 41 #[.int .i64 h.index, .int .i64 0, .int .i64 6] (by kernel_rfl) (spec_in h.index 0 6 _) ?_
                        rintro e W7 ⟨rfl, rfl⟩
                        refine ⟨.bool true, congrArg (fun b => Ending.returned (.bool b)) hx17, ?_⟩
                        go_frame
                        refine wl_pure (by kernel_rfl) (.bool true) (by kernel_rfl) ?_
                        go_frame
                        refine wl_pure (by kernel_rfl) (.bool true) (by kernel_rfl) ?_
                        go_frame
                        refine wl_pure (by kernel_rfl) (.pointer (some ⟨g1, 12, none⟩)) (by kernel_rfl) ?_
                        go_frame
                        refine wl_loadc (by kernel_rfl) hM 1 rfl 2 _ rfl 12 rfl Try.underlying2 rfl rfl ?_
                        go_frame
                        refine wl_call (by kernel_rfl) 41 #[.int .i64 h.seen, .int .i64 (-1), .int .i64 100000] (by kernel_rfl) (spec_in h.seen (-1) 100000 _) ?_
                        rintro e W8 ⟨rfl, rfl⟩
                        refine ⟨.bool true, congrArg (fun b => Ending.returned (.bool b)) hx18, ?_⟩
                        go_frame
                        refine wl_pure (by kernel_rfl) (.bool true) (by kernel_rfl) ?_
                        go_frame
                        refine wl_pure (by kernel_rfl) (.bool true) (by kernel_rfl) ?_
                        go_frame
                        refine wl_pure (by kernel_rfl) (.pointer (some ⟨g1, 14, none⟩)) (by kernel_rfl) ?_
                        go_frame
                        refine wl_loadc (by kernel_rfl) hM 1 rfl 2 _ rfl 14 rfl Try.underlying2 rfl rfl ?_
                        go_frame
                        refine wl_call (by kernel_rfl) 41 #[.int .i64 h.begin_, .int .i64 0, .int .i64 20000] (by kernel_rfl) (spec_in h.begin_ 0 20000 _) ?_
                        rintro e W9 ⟨rfl, rfl⟩
                        refine ⟨.bool true, congrArg (fun b => Ending.returned (.bool b)) hx19, ?_⟩
                        go_frame
                        refine wl_pure (by kernel_rfl) (.bool true) (by kernel_rfl) ?_
                        go_frame
                        refine wl_pure (by kernel_rfl) (.bool true) (by kernel_rfl) ?_
                        go_frame
                        refine wl_pure (by kernel_rfl) (.pointer (some ⟨g1, 15, none⟩)) (by kernel_rfl) ?_
                        go_frame
                        refine wl_loadc (by kernel_rfl) hM 1 rfl 2 _ rfl 15 rfl Try.underlying2 rfl rfl ?_
                        go_frame
                        refine wl_call (by kernel_rfl) 41 #[.int .i64 h.reply, .int .i64 0, .int .i64 3] (by kernel_rfl) (spec_in h.reply 0 3 _) ?_
                        rintro e W10 ⟨rfl, rfl⟩
                        refine ⟨.bool true, congrArg (fun b => Ending.returned (.bool b)) hx20, ?_⟩
                        go_frame
                        refine wl_pure (by kernel_rfl) (.bool true) (by kernel_rfl) ?_
                        go_frame
                        refine wl_pure (by kernel_rfl) (.bool true) (by kernel_rfl) ?_
                        go_frame
                        refine wl_pure (by kernel_rfl) (.pointer (some ⟨g1, 16, none⟩)) (by kernel_rfl) ?_
                        go_frame
                        refine wl_loadc (by kernel_rfl) hM 1 rfl 2 _ rfl 16 rfl Try.underlying2 rfl rfl ?_
                        go_frame
                        refine wl_call (by kernel_rfl) 41 #[.int .i64 h.out, .int .i64 0, .int .i64 999] (by kernel_rfl) (spec_in h.out 0 999 _) ?_
                        rintro e W11 ⟨rfl, rfl⟩
                        refine ⟨_, rfl, ?_⟩
                        go_frame
                        refine wl_pure (by kernel_rfl) (.bool (inB h.out 0 999)) (by kernel_rfl) ?_
                        go_frame
                        refine wl_pure (by kernel_rfl) (.bool (inB h.out 0 999)) (by kernel_rfl) ?_
                        go_frame
                        refine wl_nil ?_
                        refine h9 _ _ ?_
                        clear h9
                        refine wp_ret ?_
                        exact bodyPost_ret (v := .bool (inB h.out 0 999)) (ret_tmp 2 rfl rfl) rfl ⟨ret_b (by simp [handB, headB, handL, *]), hM.below⟩
                      · refine wl_region ?_
                        refine wl_pure (by kernel_rfl) (.pointer (some ⟨g1, 6, none⟩)) (by kernel_rfl) ?_
                        go_frame
                        refine wl_loadc (by kernel_rfl) hM 1 rfl 2 _ rfl 6 rfl Try.underlying2 rfl rfl ?_
                        go_frame
                        refine wl_call (by kernel_rfl) 41 #[.int .i64 h.side, .int .i64 0, .int .i64 1] (by kernel_rfl) (spec_in h.side 0 1 _) ?_
                        rintro e W5 ⟨rfl, rfl⟩
                        refine ⟨.bool true, congrArg (fun b => Ending.returned (.bool b)) hx15, ?_⟩
                        go_frame
                        refine wl_pure (by kernel_rfl) (.bool true) (by kernel_rfl) ?_
                        go_frame
                        refine wl_pure (by kernel_rfl) (.pointer (some ⟨g1, 7, none⟩)) (by kernel_rfl) ?_
                        go_frame
                        refine wl_loadc (by kernel_rfl) hM 1 rfl 2 _ rfl 7 rfl Try.underlying2 rfl rfl ?_
                        go_frame
                        refine wl_call (by kernel_rfl) 64 #[.int .i64 h.tag] (by kernel_rfl) (spec_tag h.tag _) ?_
                        rintro e W6 ⟨rfl, rfl⟩
                        refine ⟨.bool true, congrArg (fun b => Ending.returned (.bool b)) hx16, ?_⟩
                        go_frame
                        refine wl_pure (by kernel_rfl) (.bool true) (by kernel_rfl) ?_
                        go_frame
                        refine wl_pure (by kernel_rfl) (.bool true) (by kernel_rfl) ?_
                        go_frame
                        refine wl_pure (by kernel_rfl) (.pointer (some ⟨g1, 11, none⟩)) (by kernel_rfl) ?_
                        go_frame
                        refine wl_loadc (by kernel_rfl) hM 1 rfl 2 _ rfl 11 rfl Try.underlying2 rfl rfl ?_
                        go_frame
                        refine wl_call (by kernel_rfl) 41 #[.int .i64 h.index, .int .i64 0, .int .i64 6] (by kernel_rfl) (spec_in h.index 0 6 _) ?_
                        rintro e W7 ⟨rfl, rfl⟩
                        refine ⟨.bool true, congrArg (fun b => Ending.returned (.bool b)) hx17, ?_⟩
                        go_frame
                        refine wl_pure (by kernel_rfl) (.bool true) (by kernel_rfl) ?_
                        go_frame
                        refine wl_pure (by kernel_rfl) (.bool true) (by kernel_rfl) ?_
                        go_frame
                        refine wl_pure (by kernel_rfl) (.pointer (some ⟨g1, 12, none⟩)) (by kernel_rfl) ?_
                        go_frame
                        refine wl_loadc (by kernel_rfl) hM 1 rfl 2 _ rfl 12 rfl Try.underlying2 rfl rfl ?_
                        go_frame
                        refine wl_call (by kernel_rfl) 41 #[.int .i64 h.seen, .int .i64 (-1), .int .i64 100000] (by kernel_rfl) (spec_in h.seen (-1) 100000 _) ?_
                        rintro e W8 ⟨rfl, rfl⟩
                        refine ⟨.bool true, congrArg (fun b => Ending.returned (.bool b)) hx18, ?_⟩
                        go_frame
                        refine wl_pure (by kernel_rfl) (.bool true) (by kernel_rfl) ?_
                        go_frame
                        refine wl_pure (by kernel_rfl) (.bool true) (by kernel_rfl) ?_
                        go_frame
                        refine wl_pure (by kernel_rfl) (.pointer (some ⟨g1, 14, none⟩)) (by kernel_rfl) ?_
                        go_frame
                        refine wl_loadc (by kernel_rfl) hM 1 rfl 2 _ rfl 14 rfl Try.underlying2 rfl rfl ?_
                        go_frame
                        refine wl_call (by kernel_rfl) 41 #[.int .i64 h.begin_, .int .i64 0, .int .i64 20000] (by kernel_rfl) (spec_in h.begin_ 0 20000 _) ?_
                        rintro e W9 ⟨rfl, rfl⟩
                        refine ⟨.bool true, congrArg (fun b => Ending.returned (.bool b)) hx19, ?_⟩
                        go_frame
                        refine wl_pure (by kernel_rfl) (.bool true) (by kernel_rfl) ?_
                        go_frame
                        refine wl_pure (by kernel_rfl) (.bool true) (by kernel_rfl) ?_
                        go_frame
                        refine wl_pure (by kernel_rfl) (.pointer (some ⟨g1, 15, none⟩)) (by kernel_rfl) ?_
                        go_frame
                        refine wl_loadc (by kernel_rfl) hM 1 rfl 2 _ rfl 15 rfl Try.underlying2 rfl rfl ?_
                        go_frame
                        refine wl_call (by kernel_rfl) 41 #[.int .i64 h.reply, .int .i64 0, .int .i64 3] (by kernel_rfl) (spec_in h.reply 0 3 _) ?_
                        rintro e W10 ⟨rfl, rfl⟩
                        refine ⟨.bool false, congrArg (fun b => Ending.returned (.bool b)) hx20, ?_⟩
                        go_frame
                        refine wl_pure (by kernel_rfl) (.bool false) (by kernel_rfl) ?_
                        go_frame
                        refine wl_pure (by kernel_rfl) (.bool false) (by kernel_rfl) ?_
                        go_frame
                        refine wl_skip (by kernel_rfl) ?_
                        go_frame
                        refine wl_skip (by kernel_rfl) ?_
                        go_frame
                        refine wl_skip (by kernel_rfl) ?_
                        go_frame
                        refine wl_pure (by kernel_rfl) (.bool false) (by kernel_rfl) ?_
                        go_frame
                        refine wl_pure (by kernel_rfl) (.bool false) (by kernel_rfl) ?_
                        go_frame
                        refine wl_nil ?_
                        refine h9 _ _ ?_
                        clear h9
                        refine wp_ret ?_
                        exact bodyPost_ret (v := .bool false) (ret_tmp 2 rfl rfl) rfl ⟨ret_b (by simp [handB, headB, handL, *]), hM.below⟩
                    · refine wl_region ?_
                      refine wl_pure (by kernel_rfl) (.pointer (some ⟨g1, 6, none⟩)) (by kernel_rfl) ?_
                      go_frame
                      refine wl_loadc (by kernel_rfl) hM 1 rfl 2 _ rfl 6 rfl Try.underlying2 rfl rfl ?_
                      go_frame
                      refine wl_call (by kernel_rfl) 41 #[.int .i64 h.side, .int .i64 0, .int .i64 1] (by kernel_rfl) (spec_in h.side 0 1 _) ?_
                      rintro e W5 ⟨rfl, rfl⟩
                      refine ⟨.bool true, congrArg (fun b => Ending.returned (.bool b)) hx15, ?_⟩
                      go_frame
                      refine wl_pure (by kernel_rfl) (.bool true) (by kernel_rfl) ?_
                      go_frame
                      refine wl_pure (by kernel_rfl) (.pointer (some ⟨g1, 7, none⟩)) (by kernel_rfl) ?_
                      go_frame
                      refine wl_loadc (by kernel_rfl) hM 1 rfl 2 _ rfl 7 rfl Try.underlying2 rfl rfl ?_
                      go_frame
                      refine wl_call (by kernel_rfl) 64 #[.int .i64 h.tag] (by kernel_rfl) (spec_tag h.tag _) ?_
                      rintro e W6 ⟨rfl, rfl⟩
                      refine ⟨.bool true, congrArg (fun b => Ending.returned (.bool b)) hx16, ?_⟩
                      go_frame
                      refine wl_pure (by kernel_rfl) (.bool true) (by kernel_rfl) ?_
                      go_frame
                      refine wl_pure (by kernel_rfl) (.bool true) (by kernel_rfl) ?_
                      go_frame
                      refine wl_pure (by kernel_rfl) (.pointer (some ⟨g1, 11, none⟩)) (by kernel_rfl) ?_
                      go_frame
                      refine wl_loadc (by kernel_rfl) hM 1 rfl 2 _ rfl 11 rfl Try.underlying2 rfl rfl ?_
                      go_frame
                      refine wl_call (by kernel_rfl) 41 #[.int .i64 h.index, .int .i64 0, .int .i64 6] (by kernel_rfl) (spec_in h.index 0 6 _) ?_
                      rintro e W7 ⟨rfl, rfl⟩
                      refine ⟨.bool true, congrArg (fun b => Ending.returned (.bool b)) hx17, ?_⟩
                      go_frame
                      refine wl_pure (by kernel_rfl) (.bool true) (by kernel_rfl) ?_
                      go_frame
                      refine wl_pure (by kernel_rfl) (.bool true) (by kernel_rfl) ?_
                      go_frame
                      refine wl_pure (by kernel_rfl) (.pointer (some ⟨g1, 12, none⟩)) (by kernel_rfl) ?_
                      go_frame
                      refine wl_loadc (by kernel_rfl) hM 1 rfl 2 _ rfl 12 rfl Try.underlying2 rfl rfl ?_
                      go_frame
                      refine wl_call (by kernel_rfl) 41 #[.int .i64 h.seen, .int .i64 (-1), .int .i64 100000] (by kernel_rfl) (spec_in h.seen (-1) 100000 _) ?_
                      rintro e W8 ⟨rfl, rfl⟩
                      refine ⟨.bool true, congrArg (fun b => Ending.returned (.bool b)) hx18, ?_⟩
                      go_frame
                      refine wl_pure (by kernel_rfl) (.bool true) (by kernel_rfl) ?_
                      go_frame
                      refine wl_pure (by kernel_rfl) (.bool true) (by kernel_rfl) ?_
                      go_frame
                      refine wl_pure (by kernel_rfl) (.pointer (some ⟨g1, 14, none⟩)) (by kernel_rfl) ?_
                      go_frame
                      refine wl_loadc (by kernel_rfl) hM 1 rfl 2 _ rfl 14 rfl Try.underlying2 rfl rfl ?_
                      go_frame
                      refine wl_call (by kernel_rfl) 41 #[.int .i64 h.begin_, .int .i64 0, .int .i64 20000] (by kernel_rfl) (spec_in h.begin_ 0 20000 _) ?_
                      rintro e W9 ⟨rfl, rfl⟩
                      refine ⟨.bool false, congrArg (fun b => Ending.returned (.bool b)) hx19, ?_⟩
                      go_frame
                      refine wl_pure (by kernel_rfl) (.bool false) (by kernel_rfl) ?_
                      go_frame
                      refine wl_pure (by kernel_rfl) (.bool false) (by kernel_rfl) ?_
                      go_frame
                      refine wl_skip (by kernel_rfl) ?_
                      go_frame
                      refine wl_skip (by kernel_rfl) ?_
                      go_frame
                      refine wl_skip (by kernel_rfl) ?_
                      go_frame
                      refine wl_pure (by kernel_rfl) (.bool false) (by kernel_rfl) ?_
                      go_frame
                      refine wl_pure (by kernel_rfl) (.bool false) (by kernel_rfl) ?_
                      go_frame
                      refine wl_skip (by kernel_rfl) ?_
                      go_frame
                      refine wl_skip (by kernel_rfl) ?_
                      go_frame
                      refine wl_skip (by kernel_rfl) ?_
                      go_frame
                      refine wl_pure (by kernel_rfl) (.bool false) (by kernel_rfl) ?_
                      go_frame
                      refine wl_pure (by kernel_rfl) (.bool false) (by kernel_rfl) ?_
                      go_frame
                      refine wl_nil ?_
                      refine h9 _ _ ?_
                      clear h9
                      refine wp_ret ?_
                      exact bodyPost_ret (v := .bool false) (ret_tmp 2 rfl rfl) rfl ⟨ret_b (by simp [handB, headB, handL, *]), hM.below⟩
                  · refine wl_region ?_
                    refine wl_pure (by kernel_rfl) (.pointer (some ⟨g1, 6, none⟩)) (by kernel_rfl) ?_
                    go_frame
                    refine wl_loadc (by kernel_rfl) hM 1 rfl 2 _ rfl 6 rfl Try.underlying2 rfl rfl ?_
                    go_frame
                    refine wl_call (by kernel_rfl) 41 #[.int .i64 h.side, .int .i64 0, .int .i64 1] (by kernel_rfl) (spec_in h.side 0 1 _) ?_
                    rintro e W5 ⟨rfl, rfl⟩
                    refine ⟨.bool true, congrArg (fun b => Ending.returned (.bool b)) hx15, ?_⟩
                    go_frame
                    refine wl_pure (by kernel_rfl) (.bool true) (by kernel_rfl) ?_
                    go_frame
                    refine wl_pure (by kernel_rfl) (.pointer (some ⟨g1, 7, none⟩)) (by kernel_rfl) ?_
                    go_frame
                    refine wl_loadc (by kernel_rfl) hM 1 rfl 2 _ rfl 7 rfl Try.underlying2 rfl rfl ?_
                    go_frame
                    refine wl_call (by kernel_rfl) 64 #[.int .i64 h.tag] (by kernel_rfl) (spec_tag h.tag _) ?_
                    rintro e W6 ⟨rfl, rfl⟩
                    refine ⟨.bool true, congrArg (fun b => Ending.returned (.bool b)) hx16, ?_⟩
                    go_frame
                    refine wl_pure (by kernel_rfl) (.bool true) (by kernel_rfl) ?_
                    go_frame
                    refine wl_pure (by kernel_rfl) (.bool true) (by kernel_rfl) ?_
                    go_frame
                    refine wl_pure (by kernel_rfl) (.pointer (some ⟨g1, 11, none⟩)) (by kernel_rfl) ?_
                    go_frame
                    refine wl_loadc (by kernel_rfl) hM 1 rfl 2 _ rfl 11 rfl Try.underlying2 rfl rfl ?_
                    go_frame
                    refine wl_call (by kernel_rfl) 41 #[.int .i64 h.index, .int .i64 0, .int .i64 6] (by kernel_rfl) (spec_in h.index 0 6 _) ?_
                    rintro e W7 ⟨rfl, rfl⟩
                    refine ⟨.bool true, congrArg (fun b => Ending.returned (.bool b)) hx17, ?_⟩
                    go_frame
                    refine wl_pure (by kernel_rfl) (.bool true) (by kernel_rfl) ?_
                    go_frame
                    refine wl_pure (by kernel_rfl) (.bool true) (by kernel_rfl) ?_
                    go_frame
                    refine wl_pure (by kernel_rfl) (.pointer (some ⟨g1, 12, none⟩)) (by kernel_rfl) ?_
                    go_frame
                    refine wl_loadc (by kernel_rfl) hM 1 rfl 2 _ rfl 12 rfl Try.underlying2 rfl rfl ?_
                    go_frame
                    refine wl_call (by kernel_rfl) 41 #[.int .i64 h.seen, .int .i64 (-1), .int .i64 100000] (by kernel_rfl) (spec_in h.seen (-1) 100000 _) ?_
                    rintro e W8 ⟨rfl, rfl⟩
                    refine ⟨.bool false, congrArg (fun b => Ending.returned (.bool b)) hx18, ?_⟩
                    go_frame
                    refine wl_pure (by kernel_rfl) (.bool false) (by kernel_rfl) ?_
                    go_frame
                    refine wl_pure (by kernel_rfl) (.bool false) (by kernel_rfl) ?_
                    go_frame
                    refine wl_skip (by kernel_rfl) ?_
                    go_frame
                    refine wl_skip (by kernel_rfl) ?_
                    go_frame
                    refine wl_skip (by kernel_rfl) ?_
                    go_frame
                    refine wl_pure (by kernel_rfl) (.bool false) (by kernel_rfl) ?_
                    go_frame
                    refine wl_pure (by kernel_rfl) (.bool false) (by kernel_rfl) ?_
                    go_frame
                    refine wl_skip (by kernel_rfl) ?_
                    go_frame
                    refine wl_skip (by kernel_rfl) ?_
                    go_frame
                    refine wl_skip (by kernel_rfl) ?_
                    go_frame
                    refine wl_pure (by kernel_rfl) (.bool false) (by kernel_rfl) ?_
                    go_frame
                    refine wl_pure (by kernel_rfl) (.bool false) (by kernel_rfl) ?_
                    go_frame
                    refine wl_skip (by kernel_rfl) ?_
                    go_frame
                    refine wl_skip (by kernel_rfl) ?_
                    go_frame
                    refine wl_skip (by kernel_rfl) ?_
                    go_frame
                    refine wl_pure (by kernel_rfl) (.bool false) (by kernel_rfl) ?_
                    go_frame
                    refine wl_pure (by kernel_rfl) (.bool false) (by kernel_rfl) ?_
                    go_frame
                    refine wl_nil ?_
                    refine h9 _ _ ?_
                    clear h9
                    refine wp_ret ?_
                    exact bodyPost_ret (v := .bool false) (ret_tmp 2 rfl rfl) rfl ⟨ret_b (by simp [handB, headB, handL, *]), hM.below⟩
                · refine wl_region ?_
                  refine wl_pure (by kernel_rfl) (.pointer (some ⟨g1, 6, none⟩)) (by kernel_rfl) ?_
                  go_frame
                  refine wl_loadc (by kernel_rfl) hM 1 rfl 2 _ rfl 6 rfl Try.underlying2 rfl rfl ?_
                  go_frame
                  refine wl_call (by kernel_rfl) 41 #[.int .i64 h.side, .int .i64 0, .int .i64 1] (by kernel_rfl) (spec_in h.side 0 1 _) ?_
                  rintro e W5 ⟨rfl, rfl⟩
                  refine ⟨.bool true, congrArg (fun b => Ending.returned (.bool b)) hx15, ?_⟩
                  go_frame
                  refine wl_pure (by kernel_rfl) (.bool true) (by kernel_rfl) ?_
                  go_frame
                  refine wl_pure (by kernel_rfl) (.pointer (some ⟨g1, 7, none⟩)) (by kernel_rfl) ?_
                  go_frame
                  refine wl_loadc (by kernel_rfl) hM 1 rfl 2 _ rfl 7 rfl Try.underlying2 rfl rfl ?_
                  go_frame
                  refine wl_call (by kernel_rfl) 64 #[.int .i64 h.tag] (by kernel_rfl) (spec_tag h.tag _) ?_
                  rintro e W6 ⟨rfl, rfl⟩
                  refine ⟨.bool true, congrArg (fun b => Ending.returned (.bool b)) hx16, ?_⟩
                  go_frame
                  refine wl_pure (by kernel_rfl) (.bool true) (by kernel_rfl) ?_
                  go_frame
                  refine wl_pure (by kernel_rfl) (.bool true) (by kernel_rfl) ?_
                  go_frame
                  refine wl_pure (by kernel_rfl) (.pointer (some ⟨g1, 11, none⟩)) (by kernel_rfl) ?_
                  go_frame
                  refine wl_loadc (by kernel_rfl) hM 1 rfl 2 _ rfl 11 rfl Try.underlying2 rfl rfl ?_
                  go_frame
                  refine wl_call (by kernel_rfl) 41 #[.int .i64 h.index, .int .i64 0, .int .i64 6] (by kernel_rfl) (spec_in h.index 0 6 _) ?_
                  rintro e W7 ⟨rfl, rfl⟩
                  refine ⟨.bool false, congrArg (fun b => Ending.returned (.bool b)) hx17, ?_⟩
                  go_frame
                  refine wl_pure (by kernel_rfl) (.bool false) (by kernel_rfl) ?_
                  go_frame
                  refine wl_pure (by kernel_rfl) (.bool false) (by kernel_rfl) ?_
                  go_frame
                  refine wl_skip (by kernel_rfl) ?_
                  go_frame
                  refine wl_skip (by kernel_rfl) ?_
                  go_frame
                  refine wl_skip (by kernel_rfl) ?_
                  go_frame
                  refine wl_pure (by kernel_rfl) (.bool false) (by kernel_rfl) ?_
                  go_frame
                  refine wl_pure (by kernel_rfl) (.bool false) (by kernel_rfl) ?_
                  go_frame
                  refine wl_skip (by kernel_rfl) ?_
                  go_frame
                  refine wl_skip (by kernel_rfl) ?_
                  go_frame
                  refine wl_skip (by kernel_rfl) ?_
                  go_frame
                  refine wl_pure (by kernel_rfl) (.bool false) (by kernel_rfl) ?_
                  go_frame
                  refine wl_pure (by kernel_rfl) (.bool false) (by kernel_rfl) ?_
                  go_frame
                  refine wl_skip (by kernel_rfl) ?_
                  go_frame
                  refine wl_skip (by kernel_rfl) ?_
                  go_frame
                  refine wl_skip (by kernel_rfl) ?_
                  go_frame
                  refine wl_pure (by kernel_rfl) (.bool false) (by kernel_rfl) ?_
                  go_frame
                  refine wl_pure (by kernel_rfl) (.bool false) (by kernel_rfl) ?_
                  go_frame
                  refine wl_skip (by kernel_rfl) ?_
                  go_frame
                  refine wl_skip (by kernel_rfl) ?_
                  go_frame
                  refine wl_skip (by kernel_rfl) ?_
                  go_frame
                  refine wl_pure (by kernel_rfl) (.bool false) (by kernel_rfl) ?_
                  go_frame
                  refine wl_pure (by kernel_rfl) (.bool false) (by kernel_rfl) ?_
                  go_frame
                  refine wl_nil ?_
                  refine h9 _ _ ?_
                  clear h9
                  refine wp_ret ?_
                  exact bodyPost_ret (v := .bool false) (ret_tmp 2 rfl rfl) rfl ⟨ret_b (by simp [handB, headB, handL, *]), hM.below⟩
              · refine wl_region ?_
                refine wl_pure (by kernel_rfl) (.pointer (some ⟨g1, 6, none⟩)) (by kernel_rfl) ?_
                go_frame
                refine wl_loadc (by kernel_rfl) hM 1 rfl 2 _ rfl 6 rfl Try.underlying2 rfl rfl ?_
                go_frame
                refine wl_call (by kernel_rfl) 41 #[.int .i64 h.side, .int .i64 0, .int .i64 1] (by kernel_rfl) (spec_in h.side 0 1 _) ?_
                rintro e W5 ⟨rfl, rfl⟩
                refine ⟨.bool true, congrArg (fun b => Ending.returned (.bool b)) hx15, ?_⟩
                go_frame
                refine wl_pure (by kernel_rfl) (.bool true) (by kernel_rfl) ?_
                go_frame
                refine wl_pure (by kernel_rfl) (.pointer (some ⟨g1, 7, none⟩)) (by kernel_rfl) ?_
                go_frame
                refine wl_loadc (by kernel_rfl) hM 1 rfl 2 _ rfl 7 rfl Try.underlying2 rfl rfl ?_
                go_frame
                refine wl_call (by kernel_rfl) 64 #[.int .i64 h.tag] (by kernel_rfl) (spec_tag h.tag _) ?_
                rintro e W6 ⟨rfl, rfl⟩
                refine ⟨.bool false, congrArg (fun b => Ending.returned (.bool b)) hx16, ?_⟩
                go_frame
                refine wl_pure (by kernel_rfl) (.bool false) (by kernel_rfl) ?_
                go_frame
                refine wl_pure (by kernel_rfl) (.bool false) (by kernel_rfl) ?_
                go_frame
                refine wl_skip (by kernel_rfl) ?_
                go_frame
                refine wl_skip (by kernel_rfl) ?_
                go_frame
                refine wl_skip (by kernel_rfl) ?_
                go_frame
                refine wl_pure (by kernel_rfl) (.bool false) (by kernel_rfl) ?_
                go_frame
                refine wl_pure (by kernel_rfl) (.bool false) (by kernel_rfl) ?_
                go_frame
                refine wl_skip (by kernel_rfl) ?_
                go_frame
                refine wl_skip (by kernel_rfl) ?_
                go_frame
                refine wl_skip (by kernel_rfl) ?_
                go_frame
                refine wl_pure (by kernel_rfl) (.bool false) (by kernel_rfl) ?_
                go_frame
                refine wl_pure (by kernel_rfl) (.bool false) (by kernel_rfl) ?_
                go_frame
                refine wl_skip (by kernel_rfl) ?_
                go_frame
                refine wl_skip (by kernel_rfl) ?_
                go_frame
                refine wl_skip (by kernel_rfl) ?_
                go_frame
                refine wl_pure (by kernel_rfl) (.bool false) (by kernel_rfl) ?_
                go_frame
                refine wl_pure (by kernel_rfl) (.bool false) (by kernel_rfl) ?_
                go_frame
                refine wl_skip (by kernel_rfl) ?_
                go_frame
                refine wl_skip (by kernel_rfl) ?_
                go_frame
                refine wl_skip (by kernel_rfl) ?_
                go_frame
                refine wl_pure (by kernel_rfl) (.bool false) (by kernel_rfl) ?_
                go_frame
                refine wl_pure (by kernel_rfl) (.bool false) (by kernel_rfl) ?_
                go_frame
                refine wl_skip (by kernel_rfl) ?_
                go_frame
                refine wl_skip (by kernel_rfl) ?_
                go_frame
                refine wl_skip (by kernel_rfl) ?_
                go_frame
                refine wl_pure (by kernel_rfl) (.bool false) (by kernel_rfl) ?_
                go_frame
                refine wl_pure (by kernel_rfl) (.bool false) (by kernel_rfl) ?_
                go_frame
                refine wl_nil ?_
                refine h9 _ _ ?_
                clear h9
                refine wp_ret ?_
                exact bodyPost_ret (v := .bool false) (ret_tmp 2 rfl rfl) rfl ⟨ret_b (by simp [handB, headB, handL, *]), hM.below⟩
            · refine wl_region ?_
              refine wl_pure (by kernel_rfl) (.pointer (some ⟨g1, 6, none⟩)) (by kernel_rfl) ?_
              go_frame
              refine wl_loadc (by kernel_rfl) hM 1 rfl 2 _ rfl 6 rfl Try.underlying2 rfl rfl ?_
              go_frame
              refine wl_call (by kernel_rfl) 41 #[.int .i64 h.side, .int .i64 0, .int .i64 1] (by kernel_rfl) (spec_in h.side 0 1 _) ?_
              rintro e W5 ⟨rfl, rfl⟩
              refine ⟨.bool false, congrArg (fun b => Ending.returned (.bool b)) hx15, ?_⟩
              go_frame
              refine wl_pure (by kernel_rfl) (.bool false) (by kernel_rfl) ?_
              go_frame
              refine wl_skip (by kernel_rfl) ?_
              go_frame
              refine wl_skip (by kernel_rfl) ?_
              go_frame
              refine wl_skip (by kernel_rfl) ?_
              go_frame
              refine wl_pure (by kernel_rfl) (.bool false) (by kernel_rfl) ?_
              go_frame
              refine wl_pure (by kernel_rfl) (.bool false) (by kernel_rfl) ?_
              go_frame
              refine wl_skip (by kernel_rfl) ?_
              go_frame
              refine wl_skip (by kernel_rfl) ?_
              go_frame
              refine wl_skip (by kernel_rfl) ?_
              go_frame
              refine wl_pure (by kernel_rfl) (.bool false) (by kernel_rfl) ?_
              go_frame
              refine wl_pure (by kernel_rfl) (.bool false) (by kernel_rfl) ?_
              go_frame
              refine wl_skip (by kernel_rfl) ?_
              go_frame
              refine wl_skip (by kernel_rfl) ?_
              go_frame
              refine wl_skip (by kernel_rfl) ?_
              go_frame
              refine wl_pure (by kernel_rfl) (.bool false) (by kernel_rfl) ?_
              go_frame
              refine wl_pure (by kernel_rfl) (.bool false) (by kernel_rfl) ?_
              go_frame
              refine wl_skip (by kernel_rfl) ?_
              go_frame
              refine wl_skip (by kernel_rfl) ?_
              go_frame
              refine wl_skip (by kernel_rfl) ?_
              go_frame
              refine wl_pure (by kernel_rfl) (.bool false) (by kernel_rfl) ?_
              go_frame
              refine wl_pure (by kernel_rfl) (.bool false) (by kernel_rfl) ?_
              go_frame
              refine wl_skip (by kernel_rfl) ?_
              go_frame
              refine wl_skip (by kernel_rfl) ?_
              go_frame
              refine wl_skip (by kernel_rfl) ?_
              go_frame
              refine wl_pure (by kernel_rfl) (.bool false) (by kernel_rfl) ?_
              go_frame
              refine wl_pure (by kernel_rfl) (.bool false) (by kernel_rfl) ?_
              go_frame
              refine wl_skip (by kernel_rfl) ?_
              go_frame
              refine wl_skip (by kernel_rfl) ?_
              go_frame
              refine wl_skip (by kernel_rfl) ?_
              go_frame
              refine wl_pure (by kernel_rfl) (.bool false) (by kernel_rfl) ?_
              go_frame
              refine wl_pure (by kernel_rfl) (.bool false) (by kernel_rfl) ?_
              go_frame
              refine wl_nil ?_
              refine h9 _ _ ?_
              clear h9
              refine wp_ret ?_
              exact bodyPost_ret (v := .bool false) (ret_tmp 2 rfl rfl) rfl ⟨ret_b (by simp [handB, headB, handL, *]), hM.below⟩
        · refine wl_region ?_
          refine wl_pure (by kernel_rfl) (.pointer (some ⟨g1, 0, none⟩)) (by kernel_rfl) ?_
          go_frame
          refine wl_loadc (by kernel_rfl) hM 0 rfl 2 _ rfl 0 rfl Try.underlying2 rfl rfl ?_
          go_frame
          refine wl_call (by kernel_rfl) 41 #[.int .i64 h.at_, .int .i64 0, .int .i64 26] (by kernel_rfl) (spec_in h.at_ 0 26 _) ?_
          rintro e W2 ⟨rfl, rfl⟩
          refine ⟨.bool true, congrArg (fun b => Ending.returned (.bool b)) hx1, ?_⟩
          go_frame
          refine wl_pure (by kernel_rfl) (.bool false) (by kernel_rfl) ?_
          go_frame
          refine wl_pure (by kernel_rfl) (.bool false) (by kernel_rfl) ?_
          go_frame
          refine wl_pure (by kernel_rfl) (.pointer (some ⟨g1, 1, none⟩)) (by kernel_rfl) ?_
          go_frame
          refine wl_part (by kernel_rfl) hM 0 rfl 38 _ rfl 1 rfl Try.underlying38 [.int .i64 h.c, .int .i64 h.k, .int .i64 h.v] I_impl_Call rfl ?_
          go_frame
          refine wl_call (by kernel_rfl) 69 #[.agg #[.int .i64 h.c, .int .i64 h.k, .int .i64 h.v]] (by kernel_rfl) (spec_CallOk h.c h.k h.v _) ?_
          rintro e W3 ⟨rfl, hb⟩
          refine ⟨.bool false, congrArg (fun b => Ending.returned (.bool b)) hx2, ?_⟩
          replace hM := hM.call hb
          go_frame
          refine wl_pure (by kernel_rfl) (.bool true) (by kernel_rfl) ?_
          go_frame
          refine wl_pure (by kernel_rfl) (.bool true) (by kernel_rfl) ?_
          go_frame
          refine wl_pure (by kernel_rfl) (.pointer (some ⟨g1, 0, none⟩)) (by kernel_rfl) ?_
          go_frame
          refine wl_loadc (by kernel_rfl) hM 0 rfl 2 _ rfl 0 rfl Try.underlying2 rfl rfl ?_
          go_frame
          refine wl_pureB (by kernel_rfl) (b := (h.at_ == 0)) (by kernel_rfl) (hx11) ?_
          go_frame
          refine wl_pure (by kernel_rfl) (.bool true) (by kernel_rfl) ?_
          go_frame
          refine wl_pure (by kernel_rfl) (.pointer (some ⟨g1, 1, none⟩)) (by kernel_rfl) ?_
          go_frame
          refine wl_part (by kernel_rfl) hM 0 rfl 38 _ rfl 1 rfl Try.underlying38 [.int .i64 h.c, .int .i64 h.k, .int .i64 h.v] I_impl_Call rfl ?_
          go_frame
          refine wl_call (by kernel_rfl) 70 #[.agg #[.int .i64 h.c, .int .i64 h.k, .int .i64 h.v]] (by kernel_rfl) (spec_none h.c h.k h.v _) ?_
          rintro e W4 ⟨rfl, hb⟩
          refine ⟨.bool false, congrArg (fun b => Ending.returned (.bool b)) hx12, ?_⟩
          replace hM := hM.call hb
          go_frame
          refine wl_pure (by kernel_rfl) (.bool false) (by kernel_rfl) ?_
          go_frame
          refine wl_pure (by kernel_rfl) (.bool true) (by kernel_rfl) ?_
          go_frame
          refine wl_pure (by kernel_rfl) (.bool true) (by kernel_rfl) ?_
          go_frame
          refine wl_pure (by kernel_rfl) (.bool true) (by kernel_rfl) ?_
          go_frame
          refine wl_nil ?_
          refine h3 _ _ ?_
          clear h3
          refine wp_cond_true rfl ?_
          refine wp_seq_k fun K4 h4 => ?_
          refine wl_region ?_
          refine wl_pure (by kernel_rfl) (.bool false) (by kernel_rfl) ?_
          go_frame
          refine wl_nil ?_
          refine h4 _ _ ?_
          clear h4
          refine wp_ret ?_
          simp only [Exit.then, Exit.inBlock]
          exact bodyPost_ret (v := .bool false) (ret_tmp 2 rfl rfl) rfl ⟨ret_b (by simp [handB, headB, handL, *]), hM.below⟩
      · refine wl_region ?_
        refine wl_pure (by kernel_rfl) (.pointer (some ⟨g1, 0, none⟩)) (by kernel_rfl) ?_
        go_frame
        refine wl_loadc (by kernel_rfl) hM 0 rfl 2 _ rfl 0 rfl Try.underlying2 rfl rfl ?_
        go_frame
        refine wl_call (by kernel_rfl) 41 #[.int .i64 h.at_, .int .i64 0, .int .i64 26] (by kernel_rfl) (spec_in h.at_ 0 26 _) ?_
        rintro e W2 ⟨rfl, rfl⟩
        refine ⟨.bool true, congrArg (fun b => Ending.returned (.bool b)) hx1, ?_⟩
        go_frame
        refine wl_pure (by kernel_rfl) (.bool false) (by kernel_rfl) ?_
        go_frame
        refine wl_pure (by kernel_rfl) (.bool false) (by kernel_rfl) ?_
        go_frame
        refine wl_pure (by kernel_rfl) (.pointer (some ⟨g1, 1, none⟩)) (by kernel_rfl) ?_
        go_frame
        refine wl_part (by kernel_rfl) hM 0 rfl 38 _ rfl 1 rfl Try.underlying38 [.int .i64 h.c, .int .i64 h.k, .int .i64 h.v] I_impl_Call rfl ?_
        go_frame
        refine wl_call (by kernel_rfl) 69 #[.agg #[.int .i64 h.c, .int .i64 h.k, .int .i64 h.v]] (by kernel_rfl) (spec_CallOk h.c h.k h.v _) ?_
        rintro e W3 ⟨rfl, hb⟩
        refine ⟨.bool false, congrArg (fun b => Ending.returned (.bool b)) hx2, ?_⟩
        replace hM := hM.call hb
        go_frame
        refine wl_pure (by kernel_rfl) (.bool true) (by kernel_rfl) ?_
        go_frame
        refine wl_pure (by kernel_rfl) (.bool true) (by kernel_rfl) ?_
        go_frame
        refine wl_pure (by kernel_rfl) (.pointer (some ⟨g1, 0, none⟩)) (by kernel_rfl) ?_
        go_frame
        refine wl_loadc (by kernel_rfl) hM 0 rfl 2 _ rfl 0 rfl Try.underlying2 rfl rfl ?_
        go_frame
        refine wl_pureB (by kernel_rfl) (b := (h.at_ == 0)) (by kernel_rfl) (hx11) ?_
        go_frame
        refine wl_pure (by kernel_rfl) (.bool false) (by kernel_rfl) ?_
        go_frame
        refine wl_skip (by kernel_rfl) ?_
        go_frame
        refine wl_skip (by kernel_rfl) ?_
        go_frame
        refine wl_skip (by kernel_rfl) ?_
        go_frame
        refine wl_pure (by kernel_rfl) (.bool false) (by kernel_rfl) ?_
        go_frame
        refine wl_pure (by kernel_rfl) (.bool true) (by kernel_rfl) ?_
        go_frame
        refine wl_pure (by kernel_rfl) (.bool true) (by kernel_rfl) ?_
        go_frame
        refine wl_pure (by kernel_rfl) (.bool true) (by kernel_rfl) ?_
        go_frame
        refine wl_nil ?_
        refine h3 _ _ ?_
        clear h3
        refine wp_cond_true rfl ?_
        refine wp_seq_k fun K4 h4 => ?_
        refine wl_region ?_
        refine wl_pure (by kernel_rfl) (.bool false) (by kernel_rfl) ?_
        go_frame
        refine wl_nil ?_
        refine h4 _ _ ?_
        clear h4
        refine wp_ret ?_
        simp only [Exit.then, Exit.inBlock]
        exact bodyPost_ret (v := .bool false) (ret_tmp 2 rfl rfl) rfl ⟨ret_b (by simp [handB, headB, handL, *]), hM.below⟩
  · refine wl_region ?_
    refine wl_pure (by kernel_rfl) (.pointer (some ⟨g1, 0, none⟩)) (by kernel_rfl) ?_
    go_frame
    refine wl_loadc (by kernel_rfl) hM 0 rfl 2 _ rfl 0 rfl Try.underlying2 rfl rfl ?_
    go_frame
    refine wl_call (by kernel_rfl) 41 #[.int .i64 h.at_, .int .i64 0, .int .i64 26] (by kernel_rfl) (spec_in h.at_ 0 26 _) ?_
    rintro e W2 ⟨rfl, rfl⟩
    refine ⟨.bool false, congrArg (fun b => Ending.returned (.bool b)) hx1, ?_⟩
    go_frame
    refine wl_pure (by kernel_rfl) (.bool true) (by kernel_rfl) ?_
    go_frame
    refine wl_pure (by kernel_rfl) (.bool true) (by kernel_rfl) ?_
    go_frame
    refine wl_skip (by kernel_rfl) ?_
    go_frame
    refine wl_skip (by kernel_rfl) ?_
    go_frame
    refine wl_skip (by kernel_rfl) ?_
    go_frame
    refine wl_skip (by kernel_rfl) ?_
    go_frame
    refine wl_skip (by kernel_rfl) ?_
    go_frame
    refine wl_skip (by kernel_rfl) ?_
    go_frame
    refine wl_skip (by kernel_rfl) ?_
    go_frame
    refine wl_skip (by kernel_rfl) ?_
    go_frame
    refine wl_skip (by kernel_rfl) ?_
    go_frame
    refine wl_skip (by kernel_rfl) ?_
    go_frame
    refine wl_skip (by kernel_rfl) ?_
    go_frame
    refine wl_skip (by kernel_rfl) ?_
    go_frame
    refine wl_skip (by kernel_rfl) ?_
    go_frame
    refine wl_skip (by kernel_rfl) ?_
    go_frame
    refine wl_skip (by kernel_rfl) ?_
    go_frame
    refine wl_pure (by kernel_rfl) (.bool true) (by kernel_rfl) ?_
    go_frame
    refine wl_nil ?_
    refine h3 _ _ ?_
    clear h3
    refine wp_cond_true rfl ?_
    refine wp_seq_k fun K4 h4 => ?_
    refine wl_region ?_
    refine wl_pure (by kernel_rfl) (.bool false) (by kernel_rfl) ?_
    go_frame
    refine wl_nil ?_
    refine h4 _ _ ?_
    clear h4
    refine wp_ret ?_
    simp only [Exit.then, Exit.inBlock]
    exact bodyPost_ret (v := .bool false) (ret_tmp 2 rfl rfl) rfl ⟨ret_b (by simp [handB, headB, handL, *]), hM.below⟩
end Go.Proofs.Ytoamnecoiicljaa
