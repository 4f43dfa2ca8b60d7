/- Drawn nodes, who has hold of them: the model. -/
import Derived.Test.YtbfndoajchibbaaGreatShort
import Derived.Test.YtbfndoajchibbaaGreatShort2
import Derived.Test.YtbfndoajchibbaaGreatDrawNode
namespace Go.Proofs.YtbfndoajchibbaaGreat
open Go.ChangeShapes Go.WideShapes Go.ChangeAt Go.RowKit
set_option linter.unusedVariables false
set_option maxRecDepth 100000
set_option maxHeartbeats 16000000
set_option linter.unusedSimpArgs false

theorem nsl_e_row {w : World} {b o c : Nat} {l : List ND} {k : Nat} {n : ND} (h : NSl w (.slice (some ⟨b, o, none⟩) l.length c) l) (hk : l[k]? = some n) : ∀ j v, n.cells[j]? = some v → w.cell? ⟨b, o + k * 8 + j, none⟩ = some v := by
  intro j v hv
  have hl : l ≠ [] := fun e => by subst e; simp at hk
  obtain ⟨b', o', c', e, -, -, hb, H⟩ := h.at hl
  cases e
  exact row_of (Mem.start w) hb (H k n hk) j v hv
theorem ret_ttt {fn : Func} {p q u : Tmp} (h : fn.results = #[.tmp p, .tmp q, .tmp u]) {tmps : Array Value} {w : World} {v v' v'' : Value} (hp : tmps.getD p undef = v) (hq : tmps.getD q undef = v') (hu : tmps.getD u undef = v'') : (results fn tmps).run Tryz.prog w = .ok (.tuple #[v, v', v'']) w := by
  have hp' : tmps[p]?.getD undef = v := by simpa using hp
  have hq' : tmps[q]?.getD undef = v' := by simpa using hq
  have hu' : tmps[u]?.getD undef = v'' := by simpa using hu
  simp [results, h, hp', hq', hu', Sem.run_bind, Result.andThen]
theorem ret_tt {fn : Func} {p q : Tmp} (h : fn.results = #[.tmp p, .tmp q]) {tmps : Array Value} {w : World} {v v' : Value} (hp : tmps.getD p undef = v) (hq : tmps.getD q undef = v') : (results fn tmps).run Tryz.prog w = .ok (.tuple #[v, v']) w := by
  have hp' : tmps[p]?.getD undef = v := by simpa using hp
  have hq' : tmps[q]?.getD undef = v' := by simpa using hq
  simp [results, h, hp', hq', Sem.run_bind, Result.andThen]

theorem spec_DrawLocked (va : Option Addr) (vc : Nat) (lb : List Int) (w0 : World) (hb0 : Bts w0.heap.size w0 (.slice va lb.length vc) lb) (hl4 : lb.length ≤ 4096) :
    Calls Tryz.prog 5 #[(.slice va lb.length vc)] w0 fun e w' => (∃ (l : List ND) (b o k : Nat) (a t : Int), e = .returned (.tuple #[.slice (some ⟨b, o, none⟩) l.length k, .int .i64 a, .int .i64 t]) ∧ l.length ≤ 31 ∧ (-1 ≤ a ∧ a ≤ 31) ∧ (-1 ≤ t ∧ t ≤ 6) ∧ NSl w' (.slice (some ⟨b, o, none⟩) l.length k) l) ∧ Below w0.heap.size w0 w' := by
  obtain ⟨B, hcur⟩ : ∃ B, CurW w0 B (.slice va lb.length vc) lb := ⟨_, Nat.le_refl _, hl4, hb0⟩
  have hM := Mem.start w0
  go_enter Tryz.func5, Tryz.ntmps5
  refine wp_seq_k fun _ cn1 => wl_region ?_
  refine np (.slice none 0 0) ?_
  refine np (.int .i64 0) ?_
  refine np (.int .i64 0) ?_
  go_frame
  refine wl_nil (cn1 _ _ ?_)
  clear cn1
  refine wp_seq_k fun _ cn2 => wl_region ?_
  refine np (.slice va lb.length vc) ?_
  refine nc (l1New_any B (.slice va lb.length vc) lb _ (hcur.2.2.below hM.below) hcur.2.1 (Nat.le_trans hcur.1 hM.size)) ?_
  rintro e W1 ⟨gc, rfl, hcg, hcA, hcb⟩
  obtain ⟨-, -, -, ci0, ch0, hi0, hi1, hcB⟩ := hcA
  have hci0 : CurI lb ci0 ch0 := ⟨hi0, hi1⟩
  replace hM := hM.got hcb hcg hcB
  refine ⟨_, rfl, ?_⟩
  go_frame
  refine np (.pointer (some ⟨gc, 0, none⟩)) ?_
  go_frame
  refine wl_nil (cn2 _ _ ?_)
  clear cn2
  refine wp_seq_k fun _ cn3 => wl_region ?_
  refine np (.pointer (some ⟨gc, 0, none⟩)) ?_
  go_frame
  refine nC #[.pointer (some ⟨gc, 0, none⟩)] (spec_l1DrawAny B gc va vc lb ci0 ch0 _ _ _ hM hcur hci0) ?_
  rintro e W2 ⟨ln, bn, on, kn, En, c2, h2, rfl, hln, hc2, hM2, hRd⟩
  replace hM := hM2; clear hM2
  refine ⟨_, rfl, ?_⟩
  go_frame
  refine np (.slice (some ⟨bn, on, none⟩) ln.length kn) ?_
  go_frame
  refine wl_nil (cn3 _ _ ?_)
  clear cn3
  refine wp_seq_k fun _ cn4 => wl_region ?_
  refine np (.pointer (some ⟨gc, 0, none⟩)) ?_
  refine np (.slice (some ⟨bn, on, none⟩) ln.length kn) ?_
  refine np (.int .i64 (ln.length : Int)) ?_
  refine nc (l1From_any B gc (.slice va lb.length vc) lb (-1) (ln.length : Int) _ (cur_at hM (i := 0) rfl hcur hc2) (by omega) (by omega) (by omega) (by omega)) ?_
  rintro e W3 ⟨rr'1, rfl, hr'2, hcA, hcB⟩
  obtain ⟨ci'3, ch'4, hc'5, hM3⟩ := cur_back hM (i := 0) rfl hcA hcB
  clear hM hcA hcB; have hM := hM3; clear hM3
  replace hr'2 : ((-1) ≤ rr'1 ∧ (rr'1 ≤ (ln.length : Int) ∨ rr'1 = (-1))) := hr'2
  refine ⟨_, rfl, ?_⟩
  go_frame
  refine np (.int .i64 rr'1) ?_
  go_frame
  refine wl_nil (cn4 _ _ ?_)
  clear cn4
  refine wp_seq_k fun _ cn5 => wl_region ?_
  refine np (.slice (some ⟨bn, on, none⟩) ln.length kn) ?_
  refine np (.int .i64 rr'1) ?_
  refine np (.pointer (some ⟨gc, 0, none⟩)) ?_
  refine nc (l1From_any B gc (.slice va lb.length vc) lb (-1) 6 _ (cur_at hM (i := 0) rfl hcur hc'5) (by omega) (by omega) (by omega) (by omega)) ?_
  rintro e W4 ⟨rr'6, rfl, hr'7, hcA, hcB⟩
  obtain ⟨ci'8, ch'9, hc'10, hM3⟩ := cur_back hM (i := 0) rfl hcA hcB
  clear hM hcA hcB; have hM := hM3; clear hM3
  replace hr'7 : ((-1) ≤ rr'6 ∧ (rr'6 ≤ 6 ∨ rr'6 = (-1))) := hr'7
  refine ⟨_, rfl, ?_⟩
  go_frame
  refine np (.slice (some ⟨bn, on, none⟩) ln.length kn) ?_
  refine np (.int .i64 rr'1) ?_
  refine np (.int .i64 rr'6) ?_
  go_frame
  refine wl_nil (cn5 _ _ ?_)
  clear cn5
  refine wp_ret ?_
  exact bodyPost_ret (ret_ttt (p := 2) (q := 3) (u := 4) (v := .slice (some ⟨bn, on, none⟩) ln.length kn) (v' := .int .i64 rr'1) (v'' := .int .i64 rr'6) rfl rfl rfl rfl) rfl ⟨⟨ln, bn, on, kn, rr'1, rr'6, rfl, hln, by omega, by omega, (hRd _ (fun b hb => (hM.mem (List.mem_cons_of_mem _ (List.mem_append_left _ hb))).2))⟩, hM.below⟩

theorem spec_DrawUnlocked (va : Option Addr) (vc : Nat) (lb : List Int) (w0 : World) (hb0 : Bts w0.heap.size w0 (.slice va lb.length vc) lb) (hl4 : lb.length ≤ 4096) :
    Calls Tryz.prog 8 #[(.slice va lb.length vc)] w0 fun e w' => (∃ (l : List ND) (b o k : Nat) (a t : Int), e = .returned (.tuple #[.slice (some ⟨b, o, none⟩) l.length k, .int .i64 a, .int .i64 t]) ∧ l.length ≤ 31 ∧ (-1 ≤ a ∧ a ≤ 31) ∧ NSl w' (.slice (some ⟨b, o, none⟩) l.length k) l) ∧ Below w0.heap.size w0 w' := by
  obtain ⟨B, hcur⟩ : ∃ B, CurW w0 B (.slice va lb.length vc) lb := ⟨_, Nat.le_refl _, hl4, hb0⟩
  have hM := Mem.start w0
  go_enter Tryz.func8, Tryz.ntmps8
  refine wp_seq_k fun _ cn1 => wl_region ?_
  refine np (.slice none 0 0) ?_
  refine np (.int .i64 0) ?_
  refine np (.int .i64 0) ?_
  go_frame
  refine wl_nil (cn1 _ _ ?_)
  clear cn1
  refine wp_seq_k fun _ cn2 => wl_region ?_
  refine np (.slice va lb.length vc) ?_
  refine nc (l1New_any B (.slice va lb.length vc) lb _ (hcur.2.2.below hM.below) hcur.2.1 (Nat.le_trans hcur.1 hM.size)) ?_
  rintro e W1 ⟨gc, rfl, hcg, hcA, hcb⟩
  obtain ⟨-, -, -, ci0, ch0, hi0, hi1, hcB⟩ := hcA
  have hci0 : CurI lb ci0 ch0 := ⟨hi0, hi1⟩
  replace hM := hM.got hcb hcg hcB
  refine ⟨_, rfl, ?_⟩
  go_frame
  refine np (.pointer (some ⟨gc, 0, none⟩)) ?_
  go_frame
  refine wl_nil (cn2 _ _ ?_)
  clear cn2
  refine wp_seq_k fun _ cn3 => wl_region ?_
  refine np (.pointer (some ⟨gc, 0, none⟩)) ?_
  go_frame
  refine nC #[.pointer (some ⟨gc, 0, none⟩)] (spec_l1DrawAny B gc va vc lb ci0 ch0 _ _ _ hM hcur hci0) ?_
  rintro e W2 ⟨ln, bn, on, kn, En, c2, h2, rfl, hln, hc2, hM2, hRd⟩
  replace hM := hM2; clear hM2
  refine ⟨_, rfl, ?_⟩
  go_frame
  refine np (.slice (some ⟨bn, on, none⟩) ln.length kn) ?_
  go_frame
  refine wl_nil (cn3 _ _ ?_)
  clear cn3
  refine wp_seq_k fun Kn4 cn4 => ?_
  refine wp_seq_k fun _ cn5 => wl_region ?_
  refine np (.pointer (some ⟨gc, 0, none⟩)) ?_
  refine nc (l1Once_any B gc (.slice va lb.length vc) lb 2 _ (cur_at hM (i := 0) rfl hcur hc2) (by omega)) ?_
  rintro e W3 ⟨bb'1, rfl, hcA, hcB⟩
  obtain ⟨ci'2, ch'3, hc'4, hM3⟩ := cur_back hM (i := 0) rfl hcA hcB
  clear hM hcA hcB; have hM := hM3; clear hM3
  refine ⟨_, rfl, ?_⟩
  go_frame
  refine wl_nil (cn5 _ _ ?_)
  clear cn5
  rcases tf (bb'1) with hx1 | hx1
  rw [hx1]
  refine wp_cond_true rfl ?_
  refine wp_seq_k fun _ cn6 => wl_region ?_
  refine np (.int .i64 0) ?_
  go_frame
  refine wl_nil (cn6 _ _ ?_)
  clear cn6
  refine wp_block ?_
  refine wp_loop (fun act w => ∃ (k : Nat) (U1 : Nat → Value), act = ⟨#[.slice va lb.length vc, undef, (U1 0), (U1 1), (U1 2), .pointer (some ⟨gc, 0, none⟩), .slice (some ⟨bn, on, none⟩) ln.length kn, .int .i64 (k : Int), undef, .slice va lb.length vc, .pointer (some ⟨gc, 0, none⟩), .pointer (some ⟨gc, 0, none⟩), .slice (some ⟨bn, on, none⟩) ln.length kn, .pointer (some ⟨gc, 0, none⟩), .bool true, (U1 3), (U1 4), (U1 5), (U1 6), (U1 7), (U1 8), (U1 9), (U1 10), (U1 11), (U1 12), (U1 13), (U1 14), (U1 15), (U1 16), (U1 17), (U1 18), (U1 19), (U1 20), (U1 21), (U1 22), undef, undef, undef, undef, undef, undef, undef, undef], []⟩ ∧ Mem w0 w ((gc, 53, [.slice va lb.length vc, .int .i64 (ci'2 : Int), .int .i64 ch'3]) :: (En ++ [])) ∧ (k ≤ ln.length)) (fun act _ => ln.length - (intOf (act.tmps.getD 7 undef)).toNat) ?_ ?_
  exact ⟨0, (fun i => [.slice none 0 0, .int .i64 0, .int .i64 0, undef, undef, undef, undef, undef, undef, undef, undef, undef, undef, undef, undef, undef, undef, undef, undef, undef, undef, undef, undef].getD i undef), rfl, hM, by omega⟩
  clear hM
  rintro act w ⟨k, U1, rfl, hM, hk⟩
  refine wp_seq_k fun Kn7 cn7 => ?_
  refine wp_seq_k fun _ cn8 => wl_region ?_
  refine np (.int .i64 (k : Int)) ?_
  refine np (.slice (some ⟨bn, on, none⟩) ln.length kn) ?_
  refine np (.int .i64 (ln.length : Int)) ?_
  refine np (.bool (decide ((k : Int) < (ln.length : Int)))) ?_
  go_frame
  refine wl_nil (cn8 _ _ ?_)
  clear cn8
  rcases tf (decide ((k : Int) < (ln.length : Int))) with hx2 | hx2
  rw [hx2]
  have hkl : k < ln.length := by simp at hx2; omega
  obtain ⟨⟨nhk, nhv, nhl, nhr, nho, nhg, nhlt, nhrt⟩, hnh⟩ : ∃ n, ln[k]? = some n := ⟨_, List.getElem?_eq_getElem hkl⟩
  refine wp_cond_true rfl ?_
  refine wp_skip ?_
  refine cn7 _ _ ?_
  clear cn7
  refine wp_seq_k fun Kn9 cn9 => ?_
  refine wp_block ?_
  refine wp_seq_k fun _ cn10 => wl_region ?_
  refine np (.slice (some ⟨bn, on, none⟩) ln.length kn) ?_
  refine np (.int .i64 (k : Int)) ?_
  go_frame
  refine wl_index (by kernel_rfl) 24 49 _ _ rfl bn on ln.length kn 8 k rfl rfl rfl (by omega) Tryz.underlying24 I_impl_Node ?_
  go_frame
  refine np (.pointer (some ⟨bn, on + k * 8 + 4, none⟩)) ?_
  go_frame
  refine wl_cell (by kernel_rfl) 2 _ rfl ⟨bn, on + k * 8 + 4, none⟩ rfl Tryz.underlying2 rfl (nsl_e_row (hRd _ (fun b hb => (hM.mem (List.mem_cons_of_mem _ (List.mem_append_left _ hb))).2)) hnh 4 _ rfl) ?_
  go_frame
  refine np (.bool (decide (nho > 0))) ?_
  go_frame
  refine wl_nil (cn10 _ _ ?_)
  clear cn10
  rcases tf (decide (nho > 0)) with hx3 | hx3
  rw [hx3]
  refine wp_cond_true rfl ?_
  refine wp_seq_k fun Kn11 cn11 => ?_
  refine wa_start (fun w => Below w0.heap.size w0 w ∧ True) 11 rfl (by kernel_rfl) ?_
  replace hM := hM.drew
  refine wt 0 (some 27) (.slice (some ⟨bn, on, none⟩) ln.length kn) ⟨hM.below, trivial⟩ ?_
  refine wt 1 (some 28) (.int .i64 (k : Int)) ⟨hM.below, trivial⟩ ?_
  refine wt 2 (some 29) (.slice (some ⟨bn, on, none⟩) ln.length kn) ⟨hM.below, trivial⟩ ?_
  refine wt 3 (some 30) (.int .i64 (k : Int)) ⟨hM.below, trivial⟩ ?_
  go_frame
  refine wq 4 (some 31) (.pointer (some ⟨bn, on + k * 8, none⟩)) ⟨hM.below, trivial⟩ rfl (fun w hS => r_index 24 49 _ _ rfl bn on ln.length kn 8 k rfl rfl rfl (by omega) Tryz.underlying24 I_impl_Node) ?_
  refine wt 5 (some 32) (.pointer (some ⟨bn, on + k * 8 + 4, none⟩)) ⟨hM.below, trivial⟩ ?_
  refine wt 8 (some 2) (.slice (some ⟨bn, on, none⟩) ln.length kn) ⟨hM.below, trivial⟩ ?_
  refine wt 9 (some 3) (.int .i64 (k : Int)) ⟨hM.below, trivial⟩ ?_
  go_frame
  refine wn 6 ?_
  refine oq (some 33) (.int .i64 nho) ⟨hM.below, trivial⟩ rfl (r_cell 2 _ rfl ⟨bn, on + k * 8 + 4, none⟩ rfl Tryz.underlying2 rfl (nsl_e_row (hRd _ (fun b hb => (hM.mem (List.mem_cons_of_mem _ (List.mem_append_left _ hb))).2)) hnh 4 _ rfl)) ?_
  go_frame
  refine wt 7 (some 34) (.int .i64 (IntKind.i64.wrap (nho - 1))) ⟨hM.below, trivial⟩ ?_
  refine wt 10 (some 4) (.int .i64 (IntKind.i64.wrap (nho - 1))) ⟨hM.below, trivial⟩ ?_
  go_frame
  refine wa_done (by kernel_rfl) ?_
  refine cn11 _ _ ?_
  clear cn11
  refine wp_ret ?_
  simp only [Exit.then, Exit.inBlock]
  exact bodyPost_ret (ret_ttt (p := 2) (q := 3) (u := 4) (v := .slice (some ⟨bn, on, none⟩) ln.length kn) (v' := .int .i64 (k : Int)) (v'' := .int .i64 (IntKind.i64.wrap (nho - 1))) rfl rfl rfl rfl) rfl ⟨⟨ln, bn, on, kn, (k : Int), (IntKind.i64.wrap (nho - 1)), rfl, hln, by omega, (hRd _ (fun b hb => (hM.mem (List.mem_cons_of_mem _ (List.mem_append_left _ hb))).2))⟩, hM.below⟩
  rw [hx3]
  refine wp_cond_false rfl ?_
  refine wp_skip ?_
  refine cn9 _ _ ?_
  clear cn9
  refine wl_region ?_
  refine np (.int .i64 (k : Int)) ?_
  refine nI ((k : Int) + 1) ?_
  refine np (.int .i64 ((k : Int) + 1)) ?_
  go_frame
  refine wl_nil ?_
  rw [show ((k : Int) + 1) = ((k + 1 : Nat) : Int) by omega]
  exact ⟨⟨k + 1, (fun i => [(U1 0), (U1 1), (U1 2), .int .i64 (k : Int), .slice (some ⟨bn, on, none⟩) ln.length kn, .int .i64 (ln.length : Int), .bool true, .int .i64 (k : Int), .int .i64 ((k : Int) + 1), .slice (some ⟨bn, on, none⟩) ln.length kn, .int .i64 (k : Int), .pointer (some ⟨bn, on + k * 8, none⟩), .pointer (some ⟨bn, on + k * 8 + 4, none⟩), .int .i64 nho, .bool false, (U1 15), (U1 16), (U1 17), (U1 18), (U1 19), (U1 20), (U1 21), (U1 22)].getD i undef), rfl, hM, by omega⟩, by simp [intOf]; omega⟩
  rw [hx2]
  refine wp_cond_false rfl ?_
  refine wp_exit ?_
  refine cn4 _ _ ?_
  clear cn4
  refine wp_seq_k fun _ cn9 => wl_region ?_
  refine np (.pointer (some ⟨gc, 0, none⟩)) ?_
  refine np (.slice (some ⟨bn, on, none⟩) ln.length kn) ?_
  refine np (.int .i64 (ln.length : Int)) ?_
  refine nc (l1From_any B gc (.slice va lb.length vc) lb (-1) (ln.length : Int) _ (cur_at hM (i := 0) rfl hcur hc'4) (by omega) (by omega) (by omega) (by omega)) ?_
  rintro e W4 ⟨rr'5, rfl, hr'6, hcA, hcB⟩
  obtain ⟨ci'7, ch'8, hc'9, hM3⟩ := cur_back hM (i := 0) rfl hcA hcB
  clear hM hcA hcB; have hM := hM3; clear hM3
  replace hr'6 : ((-1) ≤ rr'5 ∧ (rr'5 ≤ (ln.length : Int) ∨ rr'5 = (-1))) := hr'6
  refine ⟨_, rfl, ?_⟩
  go_frame
  refine np (.int .i64 rr'5) ?_
  go_frame
  refine wl_nil (cn9 _ _ ?_)
  clear cn9
  refine wp_seq_k fun _ cn10 => wl_region ?_
  refine np (.slice (some ⟨bn, on, none⟩) ln.length kn) ?_
  refine np (.int .i64 rr'5) ?_
  refine np (.pointer (some ⟨gc, 0, none⟩)) ?_
  refine nc (l1From_any B gc (.slice va lb.length vc) lb (-1) 6 _ (cur_at hM (i := 0) rfl hcur hc'9) (by omega) (by omega) (by omega) (by omega)) ?_
  rintro e W5 ⟨rr'10, rfl, hr'11, hcA, hcB⟩
  obtain ⟨ci'12, ch'13, hc'14, hM3⟩ := cur_back hM (i := 0) rfl hcA hcB
  clear hM hcA hcB; have hM := hM3; clear hM3
  replace hr'11 : ((-1) ≤ rr'10 ∧ (rr'10 ≤ 6 ∨ rr'10 = (-1))) := hr'11
  refine ⟨_, rfl, ?_⟩
  go_frame
  refine np (.slice (some ⟨bn, on, none⟩) ln.length kn) ?_
  refine np (.int .i64 rr'5) ?_
  refine np (.int .i64 rr'10) ?_
  go_frame
  refine wl_nil (cn10 _ _ ?_)
  clear cn10
  refine wp_ret ?_
  exact bodyPost_ret (ret_ttt (p := 2) (q := 3) (u := 4) (v := .slice (some ⟨bn, on, none⟩) ln.length kn) (v' := .int .i64 rr'5) (v'' := .int .i64 rr'10) rfl rfl rfl rfl) rfl ⟨⟨ln, bn, on, kn, rr'5, rr'10, rfl, hln, by omega, (hRd _ (fun b hb => (hM.mem (List.mem_cons_of_mem _ (List.mem_append_left _ hb))).2))⟩, hM.below⟩
  rw [hx1]
  refine wp_cond_false rfl ?_
  refine wp_skip ?_
  refine cn4 _ _ ?_
  clear cn4
  refine wp_seq_k fun _ cn6 => wl_region ?_
  refine np (.pointer (some ⟨gc, 0, none⟩)) ?_
  refine np (.slice (some ⟨bn, on, none⟩) ln.length kn) ?_
  refine np (.int .i64 (ln.length : Int)) ?_
  refine nc (l1From_any B gc (.slice va lb.length vc) lb (-1) (ln.length : Int) _ (cur_at hM (i := 0) rfl hcur hc'4) (by omega) (by omega) (by omega) (by omega)) ?_
  rintro e W4 ⟨rr'5, rfl, hr'6, hcA, hcB⟩
  obtain ⟨ci'7, ch'8, hc'9, hM3⟩ := cur_back hM (i := 0) rfl hcA hcB
  clear hM hcA hcB; have hM := hM3; clear hM3
  replace hr'6 : ((-1) ≤ rr'5 ∧ (rr'5 ≤ (ln.length : Int) ∨ rr'5 = (-1))) := hr'6
  refine ⟨_, rfl, ?_⟩
  go_frame
  refine np (.int .i64 rr'5) ?_
  go_frame
  refine wl_nil (cn6 _ _ ?_)
  clear cn6
  refine wp_seq_k fun _ cn7 => wl_region ?_
  refine np (.slice (some ⟨bn, on, none⟩) ln.length kn) ?_
  refine np (.int .i64 rr'5) ?_
  refine np (.pointer (some ⟨gc, 0, none⟩)) ?_
  refine nc (l1From_any B gc (.slice va lb.length vc) lb (-1) 6 _ (cur_at hM (i := 0) rfl hcur hc'9) (by omega) (by omega) (by omega) (by omega)) ?_
  rintro e W5 ⟨rr'10, rfl, hr'11, hcA, hcB⟩
  obtain ⟨ci'12, ch'13, hc'14, hM3⟩ := cur_back hM (i := 0) rfl hcA hcB
  clear hM hcA hcB; have hM := hM3; clear hM3
  replace hr'11 : ((-1) ≤ rr'10 ∧ (rr'10 ≤ 6 ∨ rr'10 = (-1))) := hr'11
  refine ⟨_, rfl, ?_⟩
  go_frame
  refine np (.slice (some ⟨bn, on, none⟩) ln.length kn) ?_
  refine np (.int .i64 rr'5) ?_
  refine np (.int .i64 rr'10) ?_
  go_frame
  refine wl_nil (cn7 _ _ ?_)
  clear cn7
  refine wp_ret ?_
  exact bodyPost_ret (ret_ttt (p := 2) (q := 3) (u := 4) (v := .slice (some ⟨bn, on, none⟩) ln.length kn) (v' := .int .i64 rr'5) (v'' := .int .i64 rr'10) rfl rfl rfl rfl) rfl ⟨⟨ln, bn, on, kn, rr'5, rr'10, rfl, hln, by omega, (hRd _ (fun b hb => (hM.mem (List.mem_cons_of_mem _ (List.mem_append_left _ hb))).2))⟩, hM.below⟩

theorem spec_DrawHeldBy (va : Option Addr) (vc : Nat) (lb : List Int) (w0 : World) (hb0 : Bts w0.heap.size w0 (.slice va lb.length vc) lb) (hl4 : lb.length ≤ 4096) :
    Calls Tryz.prog 11 #[(.slice va lb.length vc)] w0 fun e w' => (∃ (l : List ND) (b o k : Nat) (t : Int), e = .returned (.tuple #[.slice (some ⟨b, o, none⟩) l.length k, .int .i64 t]) ∧ l.length ≤ 31 ∧ NSl w' (.slice (some ⟨b, o, none⟩) l.length k) l) ∧ Below w0.heap.size w0 w' := by
  obtain ⟨B, hcur⟩ : ∃ B, CurW w0 B (.slice va lb.length vc) lb := ⟨_, Nat.le_refl _, hl4, hb0⟩
  have hM := Mem.start w0
  go_enter Tryz.func11, Tryz.ntmps11
  refine wp_seq_k fun _ cn1 => wl_region ?_
  refine np (.slice none 0 0) ?_
  refine np (.int .i64 0) ?_
  go_frame
  refine wl_nil (cn1 _ _ ?_)
  clear cn1
  refine wp_seq_k fun _ cn2 => wl_region ?_
  refine np (.slice va lb.length vc) ?_
  refine nc (l1New_any B (.slice va lb.length vc) lb _ (hcur.2.2.below hM.below) hcur.2.1 (Nat.le_trans hcur.1 hM.size)) ?_
  rintro e W1 ⟨gc, rfl, hcg, hcA, hcb⟩
  obtain ⟨-, -, -, ci0, ch0, hi0, hi1, hcB⟩ := hcA
  have hci0 : CurI lb ci0 ch0 := ⟨hi0, hi1⟩
  replace hM := hM.got hcb hcg hcB
  refine ⟨_, rfl, ?_⟩
  go_frame
  refine np (.pointer (some ⟨gc, 0, none⟩)) ?_
  go_frame
  refine wl_nil (cn2 _ _ ?_)
  clear cn2
  refine wp_seq_k fun _ cn3 => wl_region ?_
  refine np (.pointer (some ⟨gc, 0, none⟩)) ?_
  go_frame
  refine nC #[.pointer (some ⟨gc, 0, none⟩)] (spec_l1DrawAny B gc va vc lb ci0 ch0 _ _ _ hM hcur hci0) ?_
  rintro e W2 ⟨ln, bn, on, kn, En, c2, h2, rfl, hln, hc2, hM2, hRd⟩
  replace hM := hM2; clear hM2
  refine ⟨_, rfl, ?_⟩
  go_frame
  refine np (.slice (some ⟨bn, on, none⟩) ln.length kn) ?_
  go_frame
  refine wl_nil (cn3 _ _ ?_)
  clear cn3
  refine wp_seq_k fun _ cn4 => wl_region ?_
  refine np (.slice (some ⟨bn, on, none⟩) ln.length kn) ?_
  refine np (.pointer (some ⟨gc, 0, none⟩)) ?_
  refine nc (l1From_any B gc (.slice va lb.length vc) lb (-1) 6 _ (cur_at hM (i := 0) rfl hcur hc2) (by omega) (by omega) (by omega) (by omega)) ?_
  rintro e W3 ⟨rr'1, rfl, hr'2, hcA, hcB⟩
  obtain ⟨ci'3, ch'4, hc'5, hM3⟩ := cur_back hM (i := 0) rfl hcA hcB
  clear hM hcA hcB; have hM := hM3; clear hM3
  replace hr'2 : ((-1) ≤ rr'1 ∧ (rr'1 ≤ 6 ∨ rr'1 = (-1))) := hr'2
  refine ⟨_, rfl, ?_⟩
  go_frame
  refine np (.slice (some ⟨bn, on, none⟩) ln.length kn) ?_
  refine np (.int .i64 rr'1) ?_
  go_frame
  refine wl_nil (cn4 _ _ ?_)
  clear cn4
  refine wp_ret ?_
  exact bodyPost_ret (ret_tt (p := 2) (q := 3) (v := .slice (some ⟨bn, on, none⟩) ln.length kn) (v' := .int .i64 rr'1) rfl rfl rfl) rfl ⟨⟨ln, bn, on, kn, rr'1, rfl, hln, (hRd _ (fun b hb => (hM.mem (List.mem_cons_of_mem _ (List.mem_append_left _ hb))).2))⟩, hM.below⟩
end Go.Proofs.YtbfndoajchibbaaGreat
