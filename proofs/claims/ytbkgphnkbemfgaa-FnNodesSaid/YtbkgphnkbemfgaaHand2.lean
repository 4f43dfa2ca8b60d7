/- HandOk of the model: by the operations' laws. -/
import Derived.Test.YtbkgphnkbemfgaaShort
import Derived.Test.YtbkgphnkbemfgaaHand
import Derived.Test.YtbkgphnkbemfgaaTypes
namespace Go.Proofs.Ytbkgphnkbemfgaa
open Go.ChangeShapes Go.WideShapes Go.ChangeAt Go.RowKit
set_option linter.unusedVariables false
set_option maxRecDepth 100000
set_option maxHeartbeats 16000000
set_option linter.unusedSimpArgs false


theorem spec_l6Nodes (h : HD) (w : World) : Calls Try.prog 67 #[h.val] w (FreshI w (five h)) := by
  obtain ⟨at_, c, k, v, prev, cur, side, tag, up, next, new, index, seen, again, begin_, reply, out⟩ := h
  simp only [HD.val, HD.cells, five]
  go_enter Try.func67, Try.ntmps67
  go_wp2
  go_ret
  refine ⟨w.heap.size + 1, _, rfl, by omega, ⟨5, [], rfl, Nat.le_refl _, by simp [maxLen], ⟨rfl, rfl⟩, ?_⟩, ((Below.refl _ _).alloc (Nat.le_refl _) _).alloc (by simp) _⟩
  exact heap_alloc2_new w _ _

def fiveTo (l : List Int) (k : Nat) : Prop := ∀ (j : Nat) (n : Int), j < k → l[j]? = some n → inB n 0 29 = true
theorem fiveTo.all {l : List Int} (h : fiveTo l l.length) : l.all (fun n => inB n 0 29) = true := by
  rw [List.all_eq_true]
  intro n hn
  obtain ⟨j, hj, e⟩ := List.getElem_of_mem hn
  exact h j n hj (by rw [List.getElem?_eq_getElem hj, e])
theorem five_off {l : List Int} {k : Nat} {n : Int} (hn : l[k]? = some n) (h : inB n 0 29 = false) : l.all (fun n => inB n 0 29) = false := by
  rw [Bool.eq_false_iff]
  intro hc
  rw [List.all_eq_true] at hc
  rw [hc n (List.mem_of_getElem? hn)] at h
  cases h

theorem five_el {l : List Int} {k : Nat} {n : Int} {sp : List Value} (h : l[k]? = some n) : (cellsI l ++ sp)[0 + k * 1]? = some (.int .i64 n) := by
  have hk : k < l.length := (List.getElem?_eq_some_iff.1 h).1
  rw [Nat.zero_add, Nat.mul_one, List.getElem?_append_left (by simpa [cellsI] using hk)]
  simp [cellsI, h]
theorem spec_HandOk (h : HD) (w0 : World) : Calls Try.prog 60 #[h.val] w0 fun e w' => e = .returned (.bool (handB h)) ∧ Below w0.heap.size w0 w' := by
  unfold HD.val
  have hM := Mem.start w0
  go_enter Try.func60, Try.ntmps60
  refine wp_seq_k fun _ h1 => wl_region ?_
  refine nx hM 69 (HD.cells h) ?_
  clear hM; intro g1 W1 hM
  refine np (.bool false) ?_
  go_frame
  refine wl_nil (h1 _ _ ?_)
  clear h1
  refine wp_seq_k fun K2 h2 => ?_
  refine wp_seq_k fun K3 h3 => ?_
  rcases tf (inB h.at_ 0 26) with hx1 | hx1
  · rcases tf (callB h.c h.k h.v) with hx2 | hx2
    · refine wl_region ?_
      refine np (.pointer (some ⟨g1, 0, none⟩)) ?_
      refine ng hM 0 rfl 0 Try.underlying2 rfl ?_
      refine nc (spec_in h.at_ 0 26 _) ?_
      rintro e W2 ⟨rfl, rfl⟩
      refine ⟨.bool true, rb hx1, ?_⟩
      go_frame
      refine np (.bool false) ?_
      refine np (.bool false) ?_
      refine np (.pointer (some ⟨g1, 1, none⟩)) ?_
      go_frame
      refine wl_part (by kernel_rfl) hM 0 rfl 67 _ rfl 1 rfl Try.underlying67 [.int .i64 h.c, .int .i64 h.k, .int .i64 h.v] I_impl_Call rfl ?_
      go_frame
      refine nc (spec_CallOk h.c h.k h.v _) ?_
      rintro e W3 ⟨rfl, hb⟩
      refine ⟨.bool true, rb hx2, ?_⟩
      replace hM := hM.call hb
      go_frame
      refine np (.bool false) ?_
      refine np (.bool false) ?_
      iterate 9 refine ns ?_
      refine np (.bool false) ?_
      refine np (.bool false) ?_
      go_frame
      refine wl_nil (h3 _ _ ?_)
      clear h3
      refine wp_cond_false rfl ?_
      refine wp_skip ?_
      refine h2 _ _ ?_
      clear h2
      refine wp_seq_k fun _ h4 => wl_region ?_
      refine nl hM 0 rfl Try.underlying69 I_impl_Hand ?_
      refine nc (spec_l6Nodes h _) ?_
      rintro e W5 ⟨g5, u5, rfl, hg5, ⟨c5, sp5, rfl, hc5, hm5, hl5, hO5b⟩, hB5⟩
      refine ⟨_, rfl, ?_⟩
      replace hM := hM.got hB5 hg5 hO5b
      go_frame
      refine np (.slice (some ⟨g5, 0, none⟩) 5 c5) ?_
      go_frame
      refine wl_nil (h4 _ _ ?_)
      clear h4
      refine wp_seq_k fun K5 h5 => ?_
      refine wp_seq_k fun _ h6 => wl_region ?_
      refine np (.int .i64 0) ?_
      go_frame
      refine wl_nil (h6 _ _ ?_)
      clear h6
      refine wp_block ?_
      refine wp_loop (fun act w => ∃ (k : Nat) (u2 u28 u29 u30 u31 u32 u33 u34 u35 u36 u37 u38 u39 : Value), act = ⟨#[.agg (HD.cells h).toArray, .pointer (some ⟨g1, 0, none⟩), u2, .slice (some ⟨g5, 0, none⟩) 5 c5, .int .i64 (k : Int), .pointer (some ⟨g1, 0, none⟩), .int .i64 h.at_, .bool true, .bool false, .bool false, .pointer (some ⟨g1, 1, none⟩), .agg #[.int .i64 h.c, .int .i64 h.k, .int .i64 h.v], .bool true, .bool false, .bool false, undef, undef, undef, undef, undef, undef, undef, undef, undef, .bool false, .bool false, .agg (HD.cells h).toArray, .slice (some ⟨g5, 0, none⟩) 5 c5, u28, u29, u30, u31, u32, u33, u34, u35, u36, u37, u38, u39, undef, undef, undef, undef, undef, undef, undef, undef, undef, undef, undef, undef, undef, undef, undef, undef, undef, undef, undef, undef, undef, undef, undef, undef, undef, undef, undef, undef, undef, undef, undef, undef, undef], []⟩ ∧ Mem w0 w [(g5, 2, (cellsI (five h) ++ sp5)), (g1, 69, (HD.cells h))] ∧ (k ≤ 5 ∧ fiveTo (five h) k)) (fun act _ => 5 - (intOf (act.tmps.getD 4 undef)).toNat) ?_ ?_
      · exact ⟨0, .bool false, undef, undef, undef, undef, undef, undef, undef, undef, undef, undef, undef, undef, rfl, hM, by omega, fun j n hj => by omega⟩
      clear hM
      rintro act w ⟨k, u2, u28, u29, u30, u31, u32, u33, u34, u35, u36, u37, u38, u39, rfl, hM, hk, hP⟩
      refine wp_seq_k fun K7 h7 => ?_
      refine wp_seq_k fun _ h8 => wl_region ?_
      refine np (.int .i64 (k : Int)) ?_
      refine np (.slice (some ⟨g5, 0, none⟩) 5 c5) ?_
      refine np (.int .i64 5) ?_
      refine np (.bool (decide ((k : Int) < 5))) ?_
      go_frame
      refine wl_nil (h8 _ _ ?_)
      clear h8
      rcases tf (decide ((k : Int) < 5)) with hx3 | hx3
      · have hk5 : k < 5 := by simp at hx3; omega
        obtain ⟨n, hn⟩ : ∃ n, (five h)[k]? = some n := ⟨_, List.getElem?_eq_getElem hk5⟩
        refine wp_cond_true (congrArg Value.bool hx3) ?_
        refine wp_skip ?_
        refine h7 _ _ ?_
        clear h7
        refine wp_seq_k fun K9 h9 => ?_
        refine wp_block ?_
        refine wp_seq_k fun K10 h10 => ?_
        rcases tf (inB n 0 29) with hx4 | hx4
        · have HE := hx4
          refine wl_region ?_
          refine np (.slice (some ⟨g5, 0, none⟩) 5 c5) ?_
          refine np (.int .i64 (k : Int)) ?_
          go_frame
          refine wl_index (by kernel_rfl) 51 2 _ _ rfl g5 0 5 c5 1 k rfl rfl rfl (by omega) Try.underlying51 I_int64 ?_
          go_frame
          refine ng hM 0 rfl (0 + k * 1) Try.underlying2 (five_el hn) ?_
          refine nc (spec_in n 0 29 _) ?_
          rintro e W4 ⟨rfl, rfl⟩
          refine ⟨.bool true, rb hx4, ?_⟩
          go_frame
          refine np (.bool false) ?_
          go_frame
          refine wl_nil (h10 _ _ ?_)
          clear h10
          refine wp_cond_false rfl ?_
          refine wp_skip ?_
          refine h9 _ _ ?_
          clear h9
          refine wl_region ?_
          refine np (.int .i64 (k : Int)) ?_
          refine nI ((k : Int) + 1) ?_
          refine np (.int .i64 ((k : Int) + 1)) ?_
          go_frame
          refine wl_nil ?_
          rw [show ((k : Int) + 1) = ((k + 1 : Nat) : Int) by omega]
          exact ⟨⟨k + 1, _, _, _, _, _, _, _, _, _, _, _, _, _, rfl, hM, by omega, fun j m hj hm => if e : j = k then (by subst e; rw [hn] at hm; cases hm; exact HE) else hP j m (by omega) hm⟩, by simp [intOf]; omega⟩
        · have hall : (five h).all (fun n => inB n 0 29) = false := five_off hn hx4
          refine wl_region ?_
          refine np (.slice (some ⟨g5, 0, none⟩) 5 c5) ?_
          refine np (.int .i64 (k : Int)) ?_
          go_frame
          refine wl_index (by kernel_rfl) 51 2 _ _ rfl g5 0 5 c5 1 k rfl rfl rfl (by omega) Try.underlying51 I_int64 ?_
          go_frame
          refine ng hM 0 rfl (0 + k * 1) Try.underlying2 (five_el hn) ?_
          refine nc (spec_in n 0 29 _) ?_
          rintro e W4 ⟨rfl, rfl⟩
          refine ⟨.bool false, rb hx4, ?_⟩
          go_frame
          refine np (.bool true) ?_
          go_frame
          refine wl_nil (h10 _ _ ?_)
          clear h10
          refine wp_cond_true rfl ?_
          refine wp_seq_k fun _ h11 => wl_region ?_
          refine np (.bool false) ?_
          go_frame
          refine wl_nil (h11 _ _ ?_)
          clear h11
          refine wp_ret ?_
          simp only [Exit.then, Exit.inBlock]
          exact bodyPost_ret (v := .bool false) (ret_tmp 2 rfl rfl) rfl ⟨ret_b (by simp [handB, headB, handL, *]), hM.below⟩
      · obtain rfl : k = 5 := by simp at hx3; omega
        have hall : (five h).all (fun n => inB n 0 29) = true := fiveTo.all hP
        refine wp_cond_false (congrArg Value.bool hx3) ?_
        refine wp_exit ?_
        refine h5 _ _ ?_
        clear h5
        refine wp_seq_k fun K9 h9 => ?_
        rcases tf (inB h.side 0 1) with hx5 | hx5
        · rcases tf (inB h.tag 0 10000) with hx6 | hx6
          · rcases tf (inB h.index 0 6) with hx7 | hx7
            · rcases tf (inB h.seen (-1) 100000) with hx8 | hx8
              · rcases tf (inB h.begin_ 0 20000) with hx9 | hx9
                · rcases tf (inB h.reply 0 3) with hx10 | hx10
                  · refine wl_region ?_
                    refine np (.pointer (some ⟨g1, 6, none⟩)) ?_
                    refine ng hM 1 rfl 6 Try.underlying2 rfl ?_
                    refine nc (spec_in h.side 0 1 _) ?_
                    rintro e W4 ⟨rfl, rfl⟩
                    refine ⟨.bool true, rb hx5, ?_⟩
                    go_frame
                    refine np (.bool true) ?_
                    refine np (.pointer (some ⟨g1, 7, none⟩)) ?_
                    refine ng hM 1 rfl 7 Try.underlying2 rfl ?_
                    refine nc (spec_tag h.tag _) ?_
                    rintro e W5 ⟨rfl, rfl⟩
                    refine ⟨.bool true, rb hx6, ?_⟩
                    go_frame
                    refine np (.bool true) ?_
                    refine np (.bool true) ?_
                    refine np (.pointer (some ⟨g1, 11, none⟩)) ?_
                    refine ng hM 1 rfl 11 Try.underlying2 rfl ?_
                    refine nc (spec_in h.index 0 6 _) ?_
                    rintro e W6 ⟨rfl, rfl⟩
                    refine ⟨.bool true, rb hx7, ?_⟩
                    go_frame
                    refine np (.bool true) ?_
                    refine np (.bool true) ?_
                    refine np (.pointer (some ⟨g1, 12, none⟩)) ?_
                    refine ng hM 1 rfl 12 Try.underlying2 rfl ?_
                    refine nc (spec_in h.seen (-1) 100000 _) ?_
                    rintro e W7 ⟨rfl, rfl⟩
                    refine ⟨.bool true, rb hx8, ?_⟩
                    go_frame
                    refine np (.bool true) ?_
                    refine np (.bool true) ?_
                    refine np (.pointer (some ⟨g1, 14, none⟩)) ?_
                    refine ng hM 1 rfl 14 Try.underlying2 rfl ?_
                    refine nc (spec_in h.begin_ 0 20000 _) ?_
                    rintro e W8 ⟨rfl, rfl⟩
                    refine ⟨.bool true, rb hx9, ?_⟩
                    go_frame
                    refine np (.bool true) ?_
                    refine np (.bool true) ?_
                    refine np (.pointer (some ⟨g1, 15, none⟩)) ?_
                    refine ng hM 1 rfl 15 Try.underlying2 rfl ?_
                    refine nc (spec_in h.reply 0 3 _) ?_
                    rintro e W9 ⟨rfl, rfl⟩
                    refine ⟨.bool true, rb hx10, ?_⟩
                    go_frame
                    refine np (.bool true) ?_
                    refine np (.bool true) ?_
                    refine np (.pointer (some ⟨g1, 16, none⟩)) ?_
                    refine ng hM 1 rfl 16 Try.underlying2 rfl ?_
                    refine nc (spec_in h.out 0 999 _) ?_
                    rintro e W10 ⟨rfl, rfl⟩
                    refine ⟨_, rfl, ?_⟩
                    go_frame
                    refine np (.bool (inB h.out 0 999)) ?_
                    refine np (.bool (inB h.out 0 999)) ?_
                    go_frame
                    refine wl_nil (h9 _ _ ?_)
                    clear h9
                    refine wp_ret ?_
                    exact bodyPost_ret (v := .bool (inB h.out 0 999)) (ret_tmp 2 rfl rfl) rfl ⟨ret_b (by simp [handB, headB, handL, *]), hM.below⟩
                  · refine wl_region ?_
                    refine np (.pointer (some ⟨g1, 6, none⟩)) ?_
                    refine ng hM 1 rfl 6 Try.underlying2 rfl ?_
                    refine nc (spec_in h.side 0 1 _) ?_
                    rintro e W4 ⟨rfl, rfl⟩
                    refine ⟨.bool true, rb hx5, ?_⟩
                    go_frame
                    refine np (.bool true) ?_
                    refine np (.pointer (some ⟨g1, 7, none⟩)) ?_
                    refine ng hM 1 rfl 7 Try.underlying2 rfl ?_
                    refine nc (spec_tag h.tag _) ?_
                    rintro e W5 ⟨rfl, rfl⟩
                    refine ⟨.bool true, rb hx6, ?_⟩
                    go_frame
                    refine np (.bool true) ?_
                    refine np (.bool true) ?_
                    refine np (.pointer (some ⟨g1, 11, none⟩)) ?_
                    refine ng hM 1 rfl 11 Try.underlying2 rfl ?_
                    refine nc (spec_in h.index 0 6 _) ?_
                    rintro e W6 ⟨rfl, rfl⟩
                    refine ⟨.bool true, rb hx7, ?_⟩
                    go_frame
                    refine np (.bool true) ?_
                    refine np (.bool true) ?_
                    refine np (.pointer (some ⟨g1, 12, none⟩)) ?_
                    refine ng hM 1 rfl 12 Try.underlying2 rfl ?_
                    refine nc (spec_in h.seen (-1) 100000 _) ?_
                    rintro e W7 ⟨rfl, rfl⟩
                    refine ⟨.bool true, rb hx8, ?_⟩
                    go_frame
                    refine np (.bool true) ?_
                    refine np (.bool true) ?_
                    refine np (.pointer (some ⟨g1, 14, none⟩)) ?_
                    refine ng hM 1 rfl 14 Try.underlying2 rfl ?_
                    refine nc (spec_in h.begin_ 0 20000 _) ?_
                    rintro e W8 ⟨rfl, rfl⟩
                    refine ⟨.bool true, rb hx9, ?_⟩
                    go_frame
                    refine np (.bool true) ?_
                    refine np (.bool true) ?_
                    refine np (.pointer (some ⟨g1, 15, none⟩)) ?_
                    refine ng hM 1 rfl 15 Try.underlying2 rfl ?_
                    refine nc (spec_in h.reply 0 3 _) ?_
                    rintro e W9 ⟨rfl, rfl⟩
                    refine ⟨.bool false, rb hx10, ?_⟩
                    go_frame
                    refine np (.bool false) ?_
                    refine np (.bool false) ?_
                    iterate 3 refine ns ?_
                    refine np (.bool false) ?_
                    refine np (.bool false) ?_
                    go_frame
                    refine wl_nil (h9 _ _ ?_)
                    clear h9
                    refine wp_ret ?_
                    exact bodyPost_ret (v := .bool false) (ret_tmp 2 rfl rfl) rfl ⟨ret_b (by simp [handB, headB, handL, *]), hM.below⟩
                · refine wl_region ?_
                  refine np (.pointer (some ⟨g1, 6, none⟩)) ?_
                  refine ng hM 1 rfl 6 Try.underlying2 rfl ?_
                  refine nc (spec_in h.side 0 1 _) ?_
                  rintro e W4 ⟨rfl, rfl⟩
                  refine ⟨.bool true, rb hx5, ?_⟩
                  go_frame
                  refine np (.bool true) ?_
                  refine np (.pointer (some ⟨g1, 7, none⟩)) ?_
                  refine ng hM 1 rfl 7 Try.underlying2 rfl ?_
                  refine nc (spec_tag h.tag _) ?_
                  rintro e W5 ⟨rfl, rfl⟩
                  refine ⟨.bool true, rb hx6, ?_⟩
                  go_frame
                  refine np (.bool true) ?_
                  refine np (.bool true) ?_
                  refine np (.pointer (some ⟨g1, 11, none⟩)) ?_
                  refine ng hM 1 rfl 11 Try.underlying2 rfl ?_
                  refine nc (spec_in h.index 0 6 _) ?_
                  rintro e W6 ⟨rfl, rfl⟩
                  refine ⟨.bool true, rb hx7, ?_⟩
                  go_frame
                  refine np (.bool true) ?_
                  refine np (.bool true) ?_
                  refine np (.pointer (some ⟨g1, 12, none⟩)) ?_
                  refine ng hM 1 rfl 12 Try.underlying2 rfl ?_
                  refine nc (spec_in h.seen (-1) 100000 _) ?_
                  rintro e W7 ⟨rfl, rfl⟩
                  refine ⟨.bool true, rb hx8, ?_⟩
                  go_frame
                  refine np (.bool true) ?_
                  refine np (.bool true) ?_
                  refine np (.pointer (some ⟨g1, 14, none⟩)) ?_
                  refine ng hM 1 rfl 14 Try.underlying2 rfl ?_
                  refine nc (spec_in h.begin_ 0 20000 _) ?_
                  rintro e W8 ⟨rfl, rfl⟩
                  refine ⟨.bool false, rb hx9, ?_⟩
                  go_frame
                  refine np (.bool false) ?_
                  refine np (.bool false) ?_
                  iterate 3 refine ns ?_
                  refine np (.bool false) ?_
                  refine np (.bool false) ?_
                  iterate 3 refine ns ?_
                  refine np (.bool false) ?_
                  refine np (.bool false) ?_
                  go_frame
                  refine wl_nil (h9 _ _ ?_)
                  clear h9
                  refine wp_ret ?_
                  exact bodyPost_ret (v := .bool false) (ret_tmp 2 rfl rfl) rfl ⟨ret_b (by simp [handB, headB, handL, *]), hM.below⟩
              · refine wl_region ?_
                refine np (.pointer (some ⟨g1, 6, none⟩)) ?_
                refine ng hM 1 rfl 6 Try.underlying2 rfl ?_
                refine nc (spec_in h.side 0 1 _) ?_
                rintro e W4 ⟨rfl, rfl⟩
                refine ⟨.bool true, rb hx5, ?_⟩
                go_frame
                refine np (.bool true) ?_
                refine np (.pointer (some ⟨g1, 7, none⟩)) ?_
                refine ng hM 1 rfl 7 Try.underlying2 rfl ?_
                refine nc (spec_tag h.tag _) ?_
                rintro e W5 ⟨rfl, rfl⟩
                refine ⟨.bool true, rb hx6, ?_⟩
                go_frame
                refine np (.bool true) ?_
                refine np (.bool true) ?_
                refine np (.pointer (some ⟨g1, 11, none⟩)) ?_
                refine ng hM 1 rfl 11 Try.underlying2 rfl ?_
                refine nc (spec_in h.index 0 6 _) ?_
                rintro e W6 ⟨rfl, rfl⟩
                refine ⟨.bool true, rb hx7, ?_⟩
                go_frame
                refine np (.bool true) ?_
                refine np (.bool true) ?_
                refine np (.pointer (some ⟨g1, 12, none⟩)) ?_
                refine ng hM 1 rfl 12 Try.underlying2 rfl ?_
                refine nc (spec_in h.seen (-1) 100000 _) ?_
                rintro e W7 ⟨rfl, rfl⟩
                refine ⟨.bool false, rb hx8, ?_⟩
                go_frame
                refine np (.bool false) ?_
                refine np (.bool false) ?_
                iterate 3 refine ns ?_
                refine np (.bool false) ?_
                refine np (.bool false) ?_
                iterate 3 refine ns ?_
                refine np (.bool false) ?_
                refine np (.bool false) ?_
                iterate 3 refine ns ?_
                refine np (.bool false) ?_
                refine np (.bool false) ?_
                go_frame
                refine wl_nil (h9 _ _ ?_)
                clear h9
                refine wp_ret ?_
                exact bodyPost_ret (v := .bool false) (ret_tmp 2 rfl rfl) rfl ⟨ret_b (by simp [handB, headB, handL, *]), hM.below⟩
            · refine wl_region ?_
              refine np (.pointer (some ⟨g1, 6, none⟩)) ?_
              refine ng hM 1 rfl 6 Try.underlying2 rfl ?_
              refine nc (spec_in h.side 0 1 _) ?_
              rintro e W4 ⟨rfl, rfl⟩
              refine ⟨.bool true, rb hx5, ?_⟩
              go_frame
              refine np (.bool true) ?_
              refine np (.pointer (some ⟨g1, 7, none⟩)) ?_
              refine ng hM 1 rfl 7 Try.underlying2 rfl ?_
              refine nc (spec_tag h.tag _) ?_
              rintro e W5 ⟨rfl, rfl⟩
              refine ⟨.bool true, rb hx6, ?_⟩
              go_frame
              refine np (.bool true) ?_
              refine np (.bool true) ?_
              refine np (.pointer (some ⟨g1, 11, none⟩)) ?_
              refine ng hM 1 rfl 11 Try.underlying2 rfl ?_
              refine nc (spec_in h.index 0 6 _) ?_
              rintro e W6 ⟨rfl, rfl⟩
              refine ⟨.bool false, rb hx7, ?_⟩
              go_frame
              refine np (.bool false) ?_
              refine np (.bool false) ?_
              iterate 3 refine ns ?_
              refine np (.bool false) ?_
              refine np (.bool false) ?_
              iterate 3 refine ns ?_
              refine np (.bool false) ?_
              refine np (.bool false) ?_
              iterate 3 refine ns ?_
              refine np (.bool false) ?_
              refine np (.bool false) ?_
              iterate 3 refine ns ?_
              refine np (.bool false) ?_
              refine np (.bool false) ?_
              go_frame
              refine wl_nil (h9 _ _ ?_)
              clear h9
              refine wp_ret ?_
              exact bodyPost_ret (v := .bool false) (ret_tmp 2 rfl rfl) rfl ⟨ret_b (by simp [handB, headB, handL, *]), hM.below⟩
          · refine wl_region ?_
            refine np (.pointer (some ⟨g1, 6, none⟩)) ?_
            refine ng hM 1 rfl 6 Try.underlying2 rfl ?_
            refine nc (spec_in h.side 0 1 _) ?_
            rintro e W4 ⟨rfl, rfl⟩
            refine ⟨.bool true, rb hx5, ?_⟩
            go_frame
            refine np (.bool true) ?_
            refine np (.pointer (some ⟨g1, 7, none⟩)) ?_
            refine ng hM 1 rfl 7 Try.underlying2 rfl ?_
            refine nc (spec_tag h.tag _) ?_
            rintro e W5 ⟨rfl, rfl⟩
            refine ⟨.bool false, rb hx6, ?_⟩
            go_frame
            refine np (.bool false) ?_
            refine np (.bool false) ?_
            iterate 3 refine ns ?_
            refine np (.bool false) ?_
            refine np (.bool false) ?_
            iterate 3 refine ns ?_
            refine np (.bool false) ?_
            refine np (.bool false) ?_
            iterate 3 refine ns ?_
            refine np (.bool false) ?_
            refine np (.bool false) ?_
            iterate 3 refine ns ?_
            refine np (.bool false) ?_
            refine np (.bool false) ?_
            iterate 3 refine ns ?_
            refine np (.bool false) ?_
            refine np (.bool false) ?_
            go_frame
            refine wl_nil (h9 _ _ ?_)
            clear h9
            refine wp_ret ?_
            exact bodyPost_ret (v := .bool false) (ret_tmp 2 rfl rfl) rfl ⟨ret_b (by simp [handB, headB, handL, *]), hM.below⟩
        · refine wl_region ?_
          refine np (.pointer (some ⟨g1, 6, none⟩)) ?_
          refine ng hM 1 rfl 6 Try.underlying2 rfl ?_
          refine nc (spec_in h.side 0 1 _) ?_
          rintro e W4 ⟨rfl, rfl⟩
          refine ⟨.bool false, rb hx5, ?_⟩
          go_frame
          refine np (.bool false) ?_
          iterate 3 refine ns ?_
          refine np (.bool false) ?_
          refine np (.bool false) ?_
          iterate 3 refine ns ?_
          refine np (.bool false) ?_
          refine np (.bool false) ?_
          iterate 3 refine ns ?_
          refine np (.bool false) ?_
          refine np (.bool false) ?_
          iterate 3 refine ns ?_
          refine np (.bool false) ?_
          refine np (.bool false) ?_
          iterate 3 refine ns ?_
          refine np (.bool false) ?_
          refine np (.bool false) ?_
          iterate 3 refine ns ?_
          refine np (.bool false) ?_
          refine np (.bool false) ?_
          go_frame
          refine wl_nil (h9 _ _ ?_)
          clear h9
          refine wp_ret ?_
          exact bodyPost_ret (v := .bool false) (ret_tmp 2 rfl rfl) rfl ⟨ret_b (by simp [handB, headB, handL, *]), hM.below⟩
    · rcases tf ((h.at_ == 0)) with hx11 | hx11
      · rcases tf (noneB h.c h.k h.v) with hx12 | hx12
        · refine wl_region ?_
          refine np (.pointer (some ⟨g1, 0, none⟩)) ?_
          refine ng hM 0 rfl 0 Try.underlying2 rfl ?_
          refine nc (spec_in h.at_ 0 26 _) ?_
          rintro e W2 ⟨rfl, rfl⟩
          refine ⟨.bool true, rb hx1, ?_⟩
          go_frame
          refine np (.bool false) ?_
          refine np (.bool false) ?_
          refine np (.pointer (some ⟨g1, 1, none⟩)) ?_
          go_frame
          refine wl_part (by kernel_rfl) hM 0 rfl 67 _ rfl 1 rfl Try.underlying67 [.int .i64 h.c, .int .i64 h.k, .int .i64 h.v] I_impl_Call rfl ?_
          go_frame
          refine nc (spec_CallOk h.c h.k h.v _) ?_
          rintro e W3 ⟨rfl, hb⟩
          refine ⟨.bool false, rb hx2, ?_⟩
          replace hM := hM.call hb
          go_frame
          refine np (.bool true) ?_
          refine np (.bool true) ?_
          refine np (.pointer (some ⟨g1, 0, none⟩)) ?_
          refine ng hM 0 rfl 0 Try.underlying2 rfl ?_
          refine nB (hx11) ?_
          refine np (.bool true) ?_
          refine np (.pointer (some ⟨g1, 1, none⟩)) ?_
          go_frame
          refine wl_part (by kernel_rfl) hM 0 rfl 67 _ rfl 1 rfl Try.underlying67 [.int .i64 h.c, .int .i64 h.k, .int .i64 h.v] I_impl_Call rfl ?_
          go_frame
          refine nc (spec_none h.c h.k h.v _) ?_
          rintro e W4 ⟨rfl, hb⟩
          refine ⟨.bool true, rb hx12, ?_⟩
          replace hM := hM.call hb
          go_frame
          refine np (.bool true) ?_
          refine np (.bool false) ?_
          refine np (.bool false) ?_
          refine np (.bool false) ?_
          go_frame
          refine wl_nil (h3 _ _ ?_)
          clear h3
          refine wp_cond_false rfl ?_
          refine wp_skip ?_
          refine h2 _ _ ?_
          clear h2
          refine wp_seq_k fun _ h4 => wl_region ?_
          refine nl hM 0 rfl Try.underlying69 I_impl_Hand ?_
          refine nc (spec_l6Nodes h _) ?_
          rintro e W5 ⟨g5, u5, rfl, hg5, ⟨c5, sp5, rfl, hc5, hm5, hl5, hO5b⟩, hB5⟩
          refine ⟨_, rfl, ?_⟩
          replace hM := hM.got hB5 hg5 hO5b
          go_frame
          refine np (.slice (some ⟨g5, 0, none⟩) 5 c5) ?_
          go_frame
          refine wl_nil (h4 _ _ ?_)
          clear h4
          refine wp_seq_k fun K5 h5 => ?_
          refine wp_seq_k fun _ h6 => wl_region ?_
          refine np (.int .i64 0) ?_
          go_frame
          refine wl_nil (h6 _ _ ?_)
          clear h6
          refine wp_block ?_
          refine wp_loop (fun act w => ∃ (k : Nat) (u2 u28 u29 u30 u31 u32 u33 u34 u35 u36 u37 u38 u39 : Value), act = ⟨#[.agg (HD.cells h).toArray, .pointer (some ⟨g1, 0, none⟩), u2, .slice (some ⟨g5, 0, none⟩) 5 c5, .int .i64 (k : Int), .pointer (some ⟨g1, 0, none⟩), .int .i64 h.at_, .bool true, .bool false, .bool false, .pointer (some ⟨g1, 1, none⟩), .agg #[.int .i64 h.c, .int .i64 h.k, .int .i64 h.v], .bool false, .bool true, .bool true, .pointer (some ⟨g1, 0, none⟩), .int .i64 h.at_, .bool true, .bool true, .pointer (some ⟨g1, 1, none⟩), .agg #[.int .i64 h.c, .int .i64 h.k, .int .i64 h.v], .bool true, .bool true, .bool false, .bool false, .bool false, .agg (HD.cells h).toArray, .slice (some ⟨g5, 0, none⟩) 5 c5, u28, u29, u30, u31, u32, u33, u34, u35, u36, u37, u38, u39, undef, undef, undef, undef, undef, undef, undef, undef, undef, undef, undef, undef, undef, undef, undef, undef, undef, undef, undef, undef, undef, undef, undef, undef, undef, undef, undef, undef, undef, undef, undef, undef, undef], []⟩ ∧ Mem w0 w [(g5, 2, (cellsI (five h) ++ sp5)), (g1, 69, (HD.cells h))] ∧ (k ≤ 5 ∧ fiveTo (five h) k)) (fun act _ => 5 - (intOf (act.tmps.getD 4 undef)).toNat) ?_ ?_
          · exact ⟨0, .bool false, undef, undef, undef, undef, undef, undef, undef, undef, undef, undef, undef, undef, rfl, hM, by omega, fun j n hj => by omega⟩
          clear hM
          rintro act w ⟨k, u2, u28, u29, u30, u31, u32, u33, u34, u35, u36, u37, u38, u39, rfl, hM, hk, hP⟩
          refine wp_seq_k fun K7 h7 => ?_
          refine wp_seq_k fun _ h8 => wl_region ?_
          refine np (.int .i64 (k : Int)) ?_
          refine np (.slice (some ⟨g5, 0, none⟩) 5 c5) ?_
          refine np (.int .i64 5) ?_
          refine np (.bool (decide ((k : Int) < 5))) ?_
          go_frame
          refine wl_nil (h8 _ _ ?_)
          clear h8
          rcases tf (decide ((k : Int) < 5)) with hx13 | hx13
          · have hk5 : k < 5 := by simp at hx13; omega
            obtain ⟨n, hn⟩ : ∃ n, (five h)[k]? = some n := ⟨_, List.getElem?_eq_getElem hk5⟩
            refine wp_cond_true (congrArg Value.bool hx13) ?_
            refine wp_skip ?_
            refine h7 _ _ ?_
            clear h7
            refine wp_seq_k fun K9 h9 => ?_
            refine wp_block ?_
            refine wp_seq_k fun K10 h10 => ?_
            rcases tf (inB n 0 29) with hx14 | hx14
            · have HE := hx14
              refine wl_region ?_
              refine np (.slice (some ⟨g5, 0, none⟩) 5 c5) ?_
              refine np (.int .i64 (k : Int)) ?_
              go_frame
              refine wl_index (by kernel_rfl) 51 2 _ _ rfl g5 0 5 c5 1 k rfl rfl rfl (by omega) Try.underlying51 I_int64 ?_
              go_frame
              refine ng hM 0 rfl (0 + k * 1) Try.underlying2 (five_el hn) ?_
              refine nc (spec_in n 0 29 _) ?_
              rintro e W5 ⟨rfl, rfl⟩
              refine ⟨.bool true, rb hx14, ?_⟩
              go_frame
              refine np (.bool false) ?_
              go_frame
              refine wl_nil (h10 _ _ ?_)
              clear h10
              refine wp_cond_false rfl ?_
              refine wp_skip ?_
              refine h9 _ _ ?_
              clear h9
              refine wl_region ?_
              refine np (.int .i64 (k : Int)) ?_
              refine nI ((k : Int) + 1) ?_
              refine np (.int .i64 ((k : Int) + 1)) ?_
              go_frame
              refine wl_nil ?_
              rw [show ((k : Int) + 1) = ((k + 1 : Nat) : Int) by omega]
              exact ⟨⟨k + 1, _, _, _, _, _, _, _, _, _, _, _, _, _, rfl, hM, by omega, fun j m hj hm => if e : j = k then (by subst e; rw [hn] at hm; cases hm; exact HE) else hP j m (by omega) hm⟩, by simp [intOf]; omega⟩
            · have hall : (five h).all (fun n => inB n 0 29) = false := five_off hn hx14
              refine wl_region ?_
              refine np (.slice (some ⟨g5, 0, none⟩) 5 c5) ?_
              refine np (.int .i64 (k : Int)) ?_
              go_frame
              refine wl_index (by kernel_rfl) 51 2 _ _ rfl g5 0 5 c5 1 k rfl rfl rfl (by omega) Try.underlying51 I_int64 ?_
              go_frame
              refine ng hM 0 rfl (0 + k * 1) Try.underlying2 (five_el hn) ?_
              refine nc (spec_in n 0 29 _) ?_
              rintro e W5 ⟨rfl, rfl⟩
              refine ⟨.bool false, rb hx14, ?_⟩
              go_frame
              refine np (.bool true) ?_
              go_frame
              refine wl_nil (h10 _ _ ?_)
              clear h10
              refine wp_cond_true rfl ?_
              refine wp_seq_k fun _ h11 => wl_region ?_
              refine np (.bool false) ?_
              go_frame
              refine wl_nil (h11 _ _ ?_)
              clear h11
              refine wp_ret ?_
              simp only [Exit.then, Exit.inBlock]
              exact bodyPost_ret (v := .bool false) (ret_tmp 2 rfl rfl) rfl ⟨ret_b (by simp [handB, headB, handL, *]), hM.below⟩
          · obtain rfl : k = 5 := by simp at hx13; omega
            have hall : (five h).all (fun n => inB n 0 29) = true := fiveTo.all hP
            refine wp_cond_false (congrArg Value.bool hx13) ?_
            refine wp_exit ?_
            refine h5 _ _ ?_
            clear h5
            refine wp_seq_k fun K9 h9 => ?_
            rcases tf (inB h.side 0 1) with hx15 | hx15
            · rcases tf (inB h.tag 0 10000) with hx16 | hx16
              · rcases tf (inB h.index 0 6) with hx17 | hx17
                · rcases tf (inB h.seen (-1) 100000) with hx18 | hx18
                  · rcases tf (inB h.begin_ 0 20000) with hx19 | hx19
                    · rcases tf (inB h.reply 0 3) with hx20 | hx20
                      · refine wl_region ?_
                        refine np (.pointer (some ⟨g1, 6, none⟩)) ?_
                        refine ng hM 1 rfl 6 Try.underlying2 rfl ?_
                        refine nc (spec_in h.side 0 1 _) ?_
                        rintro e W5 ⟨rfl, rfl⟩
                        refine ⟨.bool true, rb hx15, ?_⟩
                        go_frame
                        refine np (.bool true) ?_
                        refine np (.pointer (some ⟨g1, 7, none⟩)) ?_
                        refine ng hM 1 rfl 7 Try.underlying2 rfl ?_
                        refine nc (spec_tag h.tag _) ?_
                        rintro e W6 ⟨rfl, rfl⟩
                        refine ⟨.bool true, rb hx16, ?_⟩
                        go_frame
                        refine np (.bool true) ?_
                        refine np (.bool true) ?_
                        refine np (.pointer (some ⟨g1, 11, none⟩)) ?_
                        refine ng hM 1 rfl 11 Try.underlying2 rfl ?_
                        refine nc (spec_in h.index 0 6 _) ?_
                        rintro e W7 ⟨rfl, rfl⟩
                        refine ⟨.bool true, rb hx17, ?_⟩
                        go_frame
                        refine np (.bool true) ?_
                        refine np (.bool true) ?_
                        refine np (.pointer (some ⟨g1, 12, none⟩)) ?_
                        refine ng hM 1 rfl 12 Try.underlying2 rfl ?_
                        refine nc (spec_in h.seen (-1) 100000 _) ?_
                        rintro e W8 ⟨rfl, rfl⟩
                        refine ⟨.bool true, rb hx18, ?_⟩
                        go_frame
                        refine np (.bool true) ?_
                        refine np (.bool true) ?_
                        refine np (.pointer (some ⟨g1, 14, none⟩)) ?_
                        refine ng hM 1 rfl 14 Try.underlying2 rfl ?_
                        refine nc (spec_in h.begin_ 0 20000 _) ?_
                        rintro e W9 ⟨rfl, rfl⟩
                        refine ⟨.bool true, rb hx19, ?_⟩
                        go_frame
                        refine np (.bool true) ?_
                        refine np (.bool true) ?_
                        refine np (.pointer (some ⟨g1, 15, none⟩)) ?_
                        refine ng hM 1 rfl 15 Try.underlying2 rfl ?_
                        refine nc (spec_in h.reply 0 3 _) ?_
                        rintro e W10 ⟨rfl, rfl⟩
                        refine ⟨.bool true, rb hx20, ?_⟩
                        go_frame
                        refine np (.bool true) ?_
                        refine np (.bool true) ?_
                        refine np (.pointer (some ⟨g1, 16, none⟩)) ?_
                        refine ng hM 1 rfl 16 Try.underlying2 rfl ?_
                        refine nc (spec_in h.out 0 999 _) ?_
                        rintro e W11 ⟨rfl, rfl⟩
                        refine ⟨_, rfl, ?_⟩
                        go_frame
                        refine np (.bool (inB h.out 0 999)) ?_
                        refine np (.bool (inB h.out 0 999)) ?_
                        go_frame
                        refine wl_nil (h9 _ _ ?_)
                        clear h9
                        refine wp_ret ?_
                        exact bodyPost_ret (v := .bool (inB h.out 0 999)) (ret_tmp 2 rfl rfl) rfl ⟨ret_b (by simp [handB, headB, handL, *]), hM.below⟩
                      · refine wl_region ?_
                        refine np (.pointer (some ⟨g1, 6, none⟩)) ?_
                        refine ng hM 1 rfl 6 Try.underlying2 rfl ?_
                        refine nc (spec_in h.side 0 1 _) ?_
                        rintro e W5 ⟨rfl, rfl⟩
                        refine ⟨.bool true, rb hx15, ?_⟩
                        go_frame
                        refine np (.bool true) ?_
                        refine np (.pointer (some ⟨g1, 7, none⟩)) ?_
                        refine ng hM 1 rfl 7 Try.underlying2 rfl ?_
                        refine nc (spec_tag h.tag _) ?_
                        rintro e W6 ⟨rfl, rfl⟩
                        refine ⟨.bool true, rb hx16, ?_⟩
                        go_frame
                        refine np (.bool true) ?_
                        refine np (.bool true) ?_
                        refine np (.pointer (some ⟨g1, 11, none⟩)) ?_
                        refine ng hM 1 rfl 11 Try.underlying2 rfl ?_
                        refine nc (spec_in h.index 0 6 _) ?_
                        rintro e W7 ⟨rfl, rfl⟩
                        refine ⟨.bool true, rb hx17, ?_⟩
                        go_frame
                        refine np (.bool true) ?_
                        refine np (.bool true) ?_
                        refine np (.pointer (some ⟨g1, 12, none⟩)) ?_
                        refine ng hM 1 rfl 12 Try.underlying2 rfl ?_
                        refine nc (spec_in h.seen (-1) 100000 _) ?_
                        rintro e W8 ⟨rfl, rfl⟩
                        refine ⟨.bool true, rb hx18, ?_⟩
                        go_frame
                        refine np (.bool true) ?_
                        refine np (.bool true) ?_
                        refine np (.pointer (some ⟨g1, 14, none⟩)) ?_
                        refine ng hM 1 rfl 14 Try.underlying2 rfl ?_
                        refine nc (spec_in h.begin_ 0 20000 _) ?_
                        rintro e W9 ⟨rfl, rfl⟩
                        refine ⟨.bool true, rb hx19, ?_⟩
                        go_frame
                        refine np (.bool true) ?_
                        refine np (.bool true) ?_
                        refine np (.pointer (some ⟨g1, 15, none⟩)) ?_
                        refine ng hM 1 rfl 15 Try.underlying2 rfl ?_
                        refine nc (spec_in h.reply 0 3 _) ?_
                        rintro e W10 ⟨rfl, rfl⟩
                        refine ⟨.bool false, rb hx20, ?_⟩
                        go_frame
                        refine np (.bool false) ?_
                        refine np (.bool false) ?_
                        iterate 3 refine ns ?_
                        refine np (.bool false) ?_
                        refine np (.bool false) ?_
                        go_frame
                        refine wl_nil (h9 _ _ ?_)
                        clear h9
                        refine wp_ret ?_
                        exact bodyPost_ret (v := .bool false) (ret_tmp 2 rfl rfl) rfl ⟨ret_b (by simp [handB, headB, handL, *]), hM.below⟩
                    · refine wl_region ?_
                      refine np (.pointer (some ⟨g1, 6, none⟩)) ?_
                      refine ng hM 1 rfl 6 Try.underlying2 rfl ?_
                      refine nc (spec_in h.side 0 1 _) ?_
                      rintro e W5 ⟨rfl, rfl⟩
                      refine ⟨.bool true, rb hx15, ?_⟩
                      go_frame
                      refine np (.bool true) ?_
                      refine np (.pointer (some ⟨g1, 7, none⟩)) ?_
                      refine ng hM 1 rfl 7 Try.underlying2 rfl ?_
                      refine nc (spec_tag h.tag _) ?_
                      rintro e W6 ⟨rfl, rfl⟩
                      refine ⟨.bool true, rb hx16, ?_⟩
                      go_frame
                      refine np (.bool true) ?_
                      refine np (.bool true) ?_
                      refine np (.pointer (some ⟨g1, 11, none⟩)) ?_
                      refine ng hM 1 rfl 11 Try.underlying2 rfl ?_
                      refine nc (spec_in h.index 0 6 _) ?_
                      rintro e W7 ⟨rfl, rfl⟩
                      refine ⟨.bool true, rb hx17, ?_⟩
                      go_frame
                      refine np (.bool true) ?_
                      refine np (.bool true) ?_
                      refine np (.pointer (some ⟨g1, 12, none⟩)) ?_
                      refine ng hM 1 rfl 12 Try.underlying2 rfl ?_
                      refine nc (spec_in h.seen (-1) 100000 _) ?_
                      rintro e W8 ⟨rfl, rfl⟩
                      refine ⟨.bool true, rb hx18, ?_⟩
                      go_frame
                      refine np (.bool true) ?_
                      refine np (.bool true) ?_
                      refine np (.pointer (some ⟨g1, 14, none⟩)) ?_
                      refine ng hM 1 rfl 14 Try.underlying2 rfl ?_
                      refine nc (spec_in h.begin_ 0 20000 _) ?_
                      rintro e W9 ⟨rfl, rfl⟩
                      refine ⟨.bool false, rb hx19, ?_⟩
                      go_frame
                      refine np (.bool false) ?_
                      refine np (.bool false) ?_
                      iterate 3 refine ns ?_
                      refine np (.bool false) ?_
                      refine np (.bool false) ?_
                      iterate 3 refine ns ?_
                      refine np (.bool false) ?_
                      refine np (.bool false) ?_
                      go_frame
                      refine wl_nil (h9 _ _ ?_)
                      clear h9
                      refine wp_ret ?_
                      exact bodyPost_ret (v := .bool false) (ret_tmp 2 rfl rfl) rfl ⟨ret_b (by simp [handB, headB, handL, *]), hM.below⟩
                  · refine wl_region ?_
                    refine np (.pointer (some ⟨g1, 6, none⟩)) ?_
                    refine ng hM 1 rfl 6 Try.underlying2 rfl ?_
                    refine nc (spec_in h.side 0 1 _) ?_
                    rintro e W5 ⟨rfl, rfl⟩
                    refine ⟨.bool true, rb hx15, ?_⟩
                    go_frame
                    refine np (.bool true) ?_
                    refine np (.pointer (some ⟨g1, 7, none⟩)) ?_
                    refine ng hM 1 rfl 7 Try.underlying2 rfl ?_
                    refine nc (spec_tag h.tag _) ?_
                    rintro e W6 ⟨rfl, rfl⟩
                    refine ⟨.bool true, rb hx16, ?_⟩
                    go_frame
                    refine np (.bool true) ?_
                    refine np (.bool true) ?_
                    refine np (.pointer (some ⟨g1, 11, none⟩)) ?_
                    refine ng hM 1 rfl 11 Try.underlying2 rfl ?_
                    refine nc (spec_in h.index 0 6 _) ?_
                    rintro e W7 ⟨rfl, rfl⟩
                    refine ⟨.bool true, rb hx17, ?_⟩
                    go_frame
                    refine np (.bool true) ?_
                    refine np (.bool true) ?_
                    refine np (.pointer (some ⟨g1, 12, none⟩)) ?_
                    refine ng hM 1 rfl 12 Try.underlying2 rfl ?_
                    refine nc (spec_in h.seen (-1) 100000 _) ?_
                    rintro e W8 ⟨rfl, rfl⟩
                    refine ⟨.bool false, rb hx18, ?_⟩
                    go_frame
                    refine np (.bool false) ?_
                    refine np (.bool false) ?_
                    iterate 3 refine ns ?_
                    refine np (.bool false) ?_
                    refine np (.bool false) ?_
                    iterate 3 refine ns ?_
                    refine np (.bool false) ?_
                    refine np (.bool false) ?_
                    iterate 3 refine ns ?_
                    refine np (.bool false) ?_
                    refine np (.bool false) ?_
                    go_frame
                    refine wl_nil (h9 _ _ ?_)
                    clear h9
                    refine wp_ret ?_
                    exact bodyPost_ret (v := .bool false) (ret_tmp 2 rfl rfl) rfl ⟨ret_b (by simp [handB, headB, handL, *]), hM.below⟩
                · refine wl_region ?_
                  refine np (.pointer (some ⟨g1, 6, none⟩)) ?_
                  refine ng hM 1 rfl 6 Try.underlying2 rfl ?_
                  refine nc (spec_in h.side 0 1 _) ?_
                  rintro e W5 ⟨rfl, rfl⟩
                  refine ⟨.bool true, rb hx15, ?_⟩
                  go_frame
                  refine np (.bool true) ?_
                  refine np (.pointer (some ⟨g1, 7, none⟩)) ?_
                  refine ng hM 1 rfl 7 Try.underlying2 rfl ?_
                  refine nc (spec_tag h.tag _) ?_
                  rintro e W6 ⟨rfl, rfl⟩
                  refine ⟨.bool true, rb hx16, ?_⟩
                  go_frame
                  refine np (.bool true) ?_
                  refine np (.bool true) ?_
                  refine np (.pointer (some ⟨g1, 11, none⟩)) ?_
                  refine ng hM 1 rfl 11 Try.underlying2 rfl ?_
                  refine nc (spec_in h.index 0 6 _) ?_
                  rintro e W7 ⟨rfl, rfl⟩
                  refine ⟨.bool false, rb hx17, ?_⟩
                  go_frame
                  refine np (.bool false) ?_
                  refine np (.bool false) ?_
                  iterate 3 refine ns ?_
                  refine np (.bool false) ?_
                  refine np (.bool false) ?_
                  iterate 3 refine ns ?_
                  refine np (.bool false) ?_
                  refine np (.bool false) ?_
                  iterate 3 refine ns ?_
                  refine np (.bool false) ?_
                  refine np (.bool false) ?_
                  iterate 3 refine ns ?_
                  refine np (.bool false) ?_
                  refine np (.bool false) ?_
                  go_frame
                  refine wl_nil (h9 _ _ ?_)
                  clear h9
                  refine wp_ret ?_
                  exact bodyPost_ret (v := .bool false) (ret_tmp 2 rfl rfl) rfl ⟨ret_b (by simp [handB, headB, handL, *]), hM.below⟩
              · refine wl_region ?_
                refine np (.pointer (some ⟨g1, 6, none⟩)) ?_
                refine ng hM 1 rfl 6 Try.underlying2 rfl ?_
                refine nc (spec_in h.side 0 1 _) ?_
                rintro e W5 ⟨rfl, rfl⟩
                refine ⟨.bool true, rb hx15, ?_⟩
                go_frame
                refine np (.bool true) ?_
                refine np (.pointer (some ⟨g1, 7, none⟩)) ?_
                refine ng hM 1 rfl 7 Try.underlying2 rfl ?_
                refine nc (spec_tag h.tag _) ?_
                rintro e W6 ⟨rfl, rfl⟩
                refine ⟨.bool false, rb hx16, ?_⟩
                go_frame
                refine np (.bool false) ?_
                refine np (.bool false) ?_
                iterate 3 refine ns ?_
                refine np (.bool false) ?_
                refine np (.bool false) ?_
                iterate 3 refine ns ?_
                refine np (.bool false) ?_
                refine np (.bool false) ?_
                iterate 3 refine ns ?_
                refine np (.bool false) ?_
                refine np (.bool false) ?_
                iterate 3 refine ns ?_
                refine np (.bool false) ?_
                refine np (.bool false) ?_
                iterate 3 refine ns ?_
                refine np (.bool false) ?_
                refine np (.bool false) ?_
                go_frame
                refine wl_nil (h9 _ _ ?_)
                clear h9
                refine wp_ret ?_
                exact bodyPost_ret (v := .bool false) (ret_tmp 2 rfl rfl) rfl ⟨ret_b (by simp [handB, headB, handL, *]), hM.below⟩
            · refine wl_region ?_
              refine np (.pointer (some ⟨g1, 6, none⟩)) ?_
              refine ng hM 1 rfl 6 Try.underlying2 rfl ?_
              refine nc (spec_in h.side 0 1 _) ?_
              rintro e W5 ⟨rfl, rfl⟩
              refine ⟨.bool false, rb hx15, ?_⟩
              go_frame
              refine np (.bool false) ?_
              iterate 3 refine ns ?_
              refine np (.bool false) ?_
              refine np (.bool false) ?_
              iterate 3 refine ns ?_
              refine np (.bool false) ?_
              refine np (.bool false) ?_
              iterate 3 refine ns ?_
              refine np (.bool false) ?_
              refine np (.bool false) ?_
              iterate 3 refine ns ?_
              refine np (.bool false) ?_
              refine np (.bool false) ?_
              iterate 3 refine ns ?_
              refine np (.bool false) ?_
              refine np (.bool false) ?_
              iterate 3 refine ns ?_
              refine np (.bool false) ?_
              refine np (.bool false) ?_
              go_frame
              refine wl_nil (h9 _ _ ?_)
              clear h9
              refine wp_ret ?_
              exact bodyPost_ret (v := .bool false) (ret_tmp 2 rfl rfl) rfl ⟨ret_b (by simp [handB, headB, handL, *]), hM.below⟩
        · refine wl_region ?_
          refine np (.pointer (some ⟨g1, 0, none⟩)) ?_
          refine ng hM 0 rfl 0 Try.underlying2 rfl ?_
          refine nc (spec_in h.at_ 0 26 _) ?_
          rintro e W2 ⟨rfl, rfl⟩
          refine ⟨.bool true, rb hx1, ?_⟩
          go_frame
          refine np (.bool false) ?_
          refine np (.bool false) ?_
          refine np (.pointer (some ⟨g1, 1, none⟩)) ?_
          go_frame
          refine wl_part (by kernel_rfl) hM 0 rfl 67 _ rfl 1 rfl Try.underlying67 [.int .i64 h.c, .int .i64 h.k, .int .i64 h.v] I_impl_Call rfl ?_
          go_frame
          refine nc (spec_CallOk h.c h.k h.v _) ?_
          rintro e W3 ⟨rfl, hb⟩
          refine ⟨.bool false, rb hx2, ?_⟩
          replace hM := hM.call hb
          go_frame
          refine np (.bool true) ?_
          refine np (.bool true) ?_
          refine np (.pointer (some ⟨g1, 0, none⟩)) ?_
          refine ng hM 0 rfl 0 Try.underlying2 rfl ?_
          refine nB (hx11) ?_
          refine np (.bool true) ?_
          refine np (.pointer (some ⟨g1, 1, none⟩)) ?_
          go_frame
          refine wl_part (by kernel_rfl) hM 0 rfl 67 _ rfl 1 rfl Try.underlying67 [.int .i64 h.c, .int .i64 h.k, .int .i64 h.v] I_impl_Call rfl ?_
          go_frame
          refine nc (spec_none h.c h.k h.v _) ?_
          rintro e W4 ⟨rfl, hb⟩
          refine ⟨.bool false, rb hx12, ?_⟩
          replace hM := hM.call hb
          go_frame
          refine np (.bool false) ?_
          refine np (.bool true) ?_
          refine np (.bool true) ?_
          refine np (.bool true) ?_
          go_frame
          refine wl_nil (h3 _ _ ?_)
          clear h3
          refine wp_cond_true rfl ?_
          refine wp_seq_k fun _ h4 => wl_region ?_
          refine np (.bool false) ?_
          go_frame
          refine wl_nil (h4 _ _ ?_)
          clear h4
          refine wp_ret ?_
          simp only [Exit.then, Exit.inBlock]
          exact bodyPost_ret (v := .bool false) (ret_tmp 2 rfl rfl) rfl ⟨ret_b (by simp [handB, headB, handL, *]), hM.below⟩
      · refine wl_region ?_
        refine np (.pointer (some ⟨g1, 0, none⟩)) ?_
        refine ng hM 0 rfl 0 Try.underlying2 rfl ?_
        refine nc (spec_in h.at_ 0 26 _) ?_
        rintro e W2 ⟨rfl, rfl⟩
        refine ⟨.bool true, rb hx1, ?_⟩
        go_frame
        refine np (.bool false) ?_
        refine np (.bool false) ?_
        refine np (.pointer (some ⟨g1, 1, none⟩)) ?_
        go_frame
        refine wl_part (by kernel_rfl) hM 0 rfl 67 _ rfl 1 rfl Try.underlying67 [.int .i64 h.c, .int .i64 h.k, .int .i64 h.v] I_impl_Call rfl ?_
        go_frame
        refine nc (spec_CallOk h.c h.k h.v _) ?_
        rintro e W3 ⟨rfl, hb⟩
        refine ⟨.bool false, rb hx2, ?_⟩
        replace hM := hM.call hb
        go_frame
        refine np (.bool true) ?_
        refine np (.bool true) ?_
        refine np (.pointer (some ⟨g1, 0, none⟩)) ?_
        refine ng hM 0 rfl 0 Try.underlying2 rfl ?_
        refine nB (hx11) ?_
        refine np (.bool false) ?_
        iterate 3 refine ns ?_
        refine np (.bool false) ?_
        refine np (.bool true) ?_
        refine np (.bool true) ?_
        refine np (.bool true) ?_
        go_frame
        refine wl_nil (h3 _ _ ?_)
        clear h3
        refine wp_cond_true rfl ?_
        refine wp_seq_k fun _ h4 => wl_region ?_
        refine np (.bool false) ?_
        go_frame
        refine wl_nil (h4 _ _ ?_)
        clear h4
        refine wp_ret ?_
        simp only [Exit.then, Exit.inBlock]
        exact bodyPost_ret (v := .bool false) (ret_tmp 2 rfl rfl) rfl ⟨ret_b (by simp [handB, headB, handL, *]), hM.below⟩
  · refine wl_region ?_
    refine np (.pointer (some ⟨g1, 0, none⟩)) ?_
    refine ng hM 0 rfl 0 Try.underlying2 rfl ?_
    refine nc (spec_in h.at_ 0 26 _) ?_
    rintro e W2 ⟨rfl, rfl⟩
    refine ⟨.bool false, rb hx1, ?_⟩
    go_frame
    refine np (.bool true) ?_
    refine np (.bool true) ?_
    iterate 15 refine ns ?_
    refine np (.bool true) ?_
    go_frame
    refine wl_nil (h3 _ _ ?_)
    clear h3
    refine wp_cond_true rfl ?_
    refine wp_seq_k fun _ h4 => wl_region ?_
    refine np (.bool false) ?_
    go_frame
    refine wl_nil (h4 _ _ ?_)
    clear h4
    refine wp_ret ?_
    simp only [Exit.then, Exit.inBlock]
    exact bodyPost_ret (v := .bool false) (ret_tmp 2 rfl rfl) rfl ⟨ret_b (by simp [handB, headB, handL, *]), hM.below⟩
end Go.Proofs.Ytbkgphnkbemfgaa
