/- Drawn nodes: the model. -/
import Derived.Test.YtbfndoajchibbaaGreatShort
import Derived.Test.YtbfndoajchibbaaGreatShort2
import Derived.Test.YtbfndoajchibbaaGreatDrawW
namespace Go.Proofs.YtbfndoajchibbaaGreat
open Go.ChangeShapes Go.WideShapes Go.ChangeAt Go.RowKit
set_option linter.unusedVariables false
set_option maxRecDepth 100000
set_option maxHeartbeats 16000000
set_option linter.unusedSimpArgs false

theorem Mem.take1 {w0 w : World} {a b : Bk} {E L : List Bk} (h : Mem w0 w (a :: (E ++ L))) (hb : b ∈ E) : Mem w0 w (b :: a :: L) :=
  (Mem.mid (A := [a]) (B := E) (C := L) h).front hb
theorem bts_after {w w1 : World} {v : Value} {l : List Int} (h : Bts w.heap.size w v l) (hb : Below w.heap.size w w1) : Bts w1.heap.size w1 v l := by
  have h1 := h.below hb
  exact ⟨h1.1, h1.2.1, fun hn g hg => Nat.lt_of_lt_of_le (h1.2.2 hn g hg) hb.size⟩
theorem world_nodes {d : WD} (h : worldB d = true) : d.l.length ≤ 30 := by
  obtain ⟨h1, -⟩ := (worldB_iff d).1 h
  simp only [sharedB, Bool.and_eq_true] at h1
  exact (nodes_some h1.1).2
def lenOf : Value → Nat
  | .slice _ n _ => n
  | _ => 0
theorem r_slice1 {a : Act} {o : Oper} {w : World} (x : Operand) (ho : o.op = .slice 24 x (some (.const (.int .i64 1))) none none) (g n k : Nat) (hx : a.eval x = .slice (some ⟨g, 0, none⟩) n k) (hn : 1 ≤ n) :
    (execOp a.eval o).run Tryz.prog w = .ok (.value (.slice (if k = 1 then some ⟨g, 0, none⟩ else some ⟨g, 8, none⟩) (n - 1) (k - 1))) w := by
  have ht : Tryz.prog.underlying 24 = some (.slice (Tryz.prog.elem 24)) := by kernel_rfl
  have hs : (sizeOf (Tryz.prog.elem 24)).run Tryz.prog w = .ok 8 w := by kernel_rfl
  have e1 := run_slice_l w 24 (some ⟨g, 0, none⟩) n k ht .i64 1 (by omega) (by omega)
  rw [hs] at e1
  have hadd : (⟨g, 0, none⟩ : Addr).add (1 * 8) = ⟨g, 8, none⟩ := by unfold Addr.add; simp
  have h1 : a.eval (.const (.int .i64 1)) = .int .i64 1 := rfl
  unfold execOp
  simp only [ho, hx, Option.map_some, Option.map_none, h1, Sem.run_bind, run_sliceAt_slice w 24 _ _ _ _ ht, e1, Result.andThen_ok, Sem.run_pure, sliced, Option.map_some, hadd]
  rfl
theorem nsl_tail {w : World} {g k : Nat} {t : TypeId} {l : List ND} {p : List Value} (hb : Blk w g t (cellsOf l ++ p)) (h0 : 1 ≤ l.length) (h1 : l.length ≤ k) (h2 : k ≤ maxLen) : NSl w (.slice (if k = 1 then some ⟨g, 0, none⟩ else some ⟨g, 8, none⟩) (l.length - 1) (k - 1)) l.tail := by
  match l, h0 with
  | n :: r, _ =>
    refine ⟨_, k - 1, rfl, ?_, by omega, ?_, ?_⟩
    · simp at h1 ⊢; omega
    · simp [cellsOf_len]
    · by_cases hr : r = []
      · subst hr; exact .inl rfl
      · have hk : k ≠ 1 := by
          have : 0 < r.length := List.length_pos_iff.2 hr
          simp at h1; omega
        refine .inr ⟨g, 8, if_neg hk, fun i hi => ?_⟩
        rw [hb.cell, List.tail_cons]
        have e : cellsOf (n :: r) ++ p = n.cells ++ (cellsOf r ++ p) := by simp [cellsOf]
        have hn : n.cells.length = 8 := ND.cells_len n
        rw [e, List.getElem?_append_right (by omega), hn, show 8 + i - 8 = i by omega, List.getElem?_append_left (by simpa using hi)]
/-- Nodes that are drawn: read from blocks E. -/
def DrewNl (w00 : World) (gc : Nat) (v : Value) (lb : List Int) (L : List Bk) (e : Ending) (w' : World) : Prop :=
  ∃ (l : List ND) (bn on kn : Nat) (E : List Bk) (ci : Nat) (ch : Int), e = .returned (.slice (some ⟨bn, on, none⟩) l.length kn) ∧ l.length ≤ 31 ∧ CurI lb ci ch ∧ Mem w00 w' ((gc, 53, [v, .int .i64 (ci : Int), .int .i64 ch]) :: (E ++ L)) ∧ ∀ W : World, (∀ b ∈ E, Blk W b.1 b.2.1 b.2.2) → NSl W (.slice (some ⟨bn, on, none⟩) l.length kn) l

theorem spec_l1DrawAny (B gc : Nat) (va : Option Addr) (vc : Nat) (lb : List Int) (ci0 : Nat) (ch0 : Int) (L : List Bk) (w00 w0 : World) (hM0 : Mem w00 w0 ((gc, 53, [(.slice va lb.length vc), .int .i64 (ci0 : Int), .int .i64 ch0]) :: L)) (hcur : CurW w00 B (.slice va lb.length vc) lb) (hci0 : CurI lb ci0 ch0) :
    Calls Tryz.prog 17 #[.pointer (some ⟨gc, 0, none⟩)] w0 (DrewNl w00 gc (.slice va lb.length vc) lb L) := by
  have hlb := hcur.2.1
  have hM := hM0
  go_enter Tryz.func17, Tryz.ntmps17
  refine wp_seq_k fun _ cn1 => wl_region ?_
  refine np (.slice none 0 0) ?_
  go_frame
  refine wl_nil (cn1 _ _ ?_)
  clear cn1
  refine wp_seq_k fun _ cn2 => wl_region ?_
  refine np (.pointer (some ⟨gc, 0, none⟩)) ?_
  go_frame
  refine nC #[.pointer (some ⟨gc, 0, none⟩)] (spec_l13Draw B gc va vc lb ci0 ch0 _ _ _ hM hcur hci0) ?_
  rintro e W1 ⟨dj, Ed, ua, xa, ya, za, ci'1, ch'2, rfl, hWB, hWI, hc'3, hM2⟩
  obtain ⟨hLj, hCj, hHj, hnj⟩ := world_ne hWB
  have hLp : 0 < dj.l.length := List.length_pos_iff.2 hLj
  have hL30 := world_nodes hWB
  obtain ⟨gN, kN, pN, rfl, na1, ⟨na2, na5⟩, hE1⟩ := hWI.1.openX hLp
  obtain ⟨a2e, k2e, rfl⟩ := hWI.2.1.slice
  obtain ⟨a3e, k3e, rfl⟩ := hWI.2.2.1.slice
  obtain ⟨a4e, k4e, rfl⟩ := hWI.2.2.2.slice
  clear hM; have hM := Mem.take1 hM2 hE1; clear hM2
  refine ⟨_, rfl, ?_⟩
  go_frame
  refine np (.agg #[.slice (some ⟨gN, 0, none⟩) dj.l.length kN, .slice a2e dj.c.length k2e]) ?_
  refine np (.slice (some ⟨gN, 0, none⟩) dj.l.length kN) ?_
  refine np (.slice (some ⟨gN, 0, none⟩) dj.l.length kN) ?_
  go_frame
  refine wl_nil (cn2 _ _ ?_)
  clear cn2
  refine wp_seq_k fun Kn3 cn3 => ?_
  refine wp_seq_k fun _ cn4 => wl_region ?_
  refine np (.pointer (some ⟨gc, 0, none⟩)) ?_
  refine nc (l1Once_any B gc (.slice va lb.length vc) lb 5 _ (cur_at hM (i := 1) rfl hcur hc'3) (by omega)) ?_
  rintro e W2 ⟨bb'4, rfl, hcA, hcB⟩
  obtain ⟨ci'5, ch'6, hc'7, hM3⟩ := cur_back hM (i := 1) rfl hcA hcB
  clear hM hcA hcB; have hM := hM3; clear hM3
  refine ⟨_, rfl, ?_⟩
  go_frame
  refine wl_nil (cn4 _ _ ?_)
  clear cn4
  rcases tf (bb'4) with hx1 | hx1
  rw [hx1]
  refine wp_cond_true rfl ?_
  refine wp_seq_k fun _ cn5 => wl_region ?_
  refine np (.pointer (some ⟨gc, 0, none⟩)) ?_
  refine np (.slice (some ⟨gN, 0, none⟩) dj.l.length kN) ?_
  refine np (.int .i64 (dj.l.length : Int)) ?_
  refine nc (l1Below_any B gc (.slice va lb.length vc) lb (dj.l.length : Int) _ (cur_at hM (i := 1) rfl hcur hc'7) (by omega)) ?_
  rintro e W3 ⟨rr'8, rfl, hr'9, hcA, hcB⟩
  obtain ⟨ci'10, ch'11, hc'12, hM3⟩ := cur_back hM (i := 1) rfl hcA hcB
  clear hM hcA hcB; have hM := hM3; clear hM3
  replace hr'9 : (0 ≤ rr'8 ∧ (rr'8 < (dj.l.length : Int) ∨ rr'8 = 0)) := hr'9
  obtain ⟨ki, hki, hli⟩ : ∃ k : Nat, rr'8 = (k : Int) ∧ k < dj.l.length := ⟨(rr'8).toNat, by omega, by omega⟩
  obtain ⟨⟨nik, niv, nil, nir, nio, nig, nilt, nirt⟩, hni⟩ : ∃ n, dj.l[ki]? = some n := ⟨_, List.getElem?_eq_getElem hli⟩
  refine ⟨_, rfl, ?_⟩
  go_frame
  refine np (.int .i64 rr'8) ?_
  go_frame
  refine wl_nil (cn5 _ _ ?_)
  clear cn5
  refine wp_seq_k fun _ cn6 => wl_region ?_
  refine np (.pointer (some ⟨gc, 0, none⟩)) ?_
  refine nc (l1Below_any B gc (.slice va lb.length vc) lb 9 _ (cur_at hM (i := 1) rfl hcur hc'12) (by omega)) ?_
  rintro e W4 ⟨rr'13, rfl, hr'14, hcA, hcB⟩
  obtain ⟨ci'15, ch'16, hc'17, hM3⟩ := cur_back hM (i := 1) rfl hcA hcB
  clear hM hcA hcB; have hM := hM3; clear hM3
  replace hr'14 : (0 ≤ rr'13 ∧ (rr'13 < 9 ∨ rr'13 = 0)) := hr'14
  refine ⟨_, rfl, ?_⟩
  go_frame
  refine wl_nil (cn6 _ _ ?_)
  clear cn6
  refine wp_block ?_
  refine wp_seq_k fun _ cn7 => wl_region ?_
  refine np (.bool (rr'13 == 0)) ?_
  refine np (.bool (rr'13 == 0)) ?_
  go_frame
  refine wl_nil (cn7 _ _ ?_)
  clear cn7
  rcases tf ((rr'13 == 0)) with hx2 | hx2
  rw [hx2]
  refine wp_cond_true rfl ?_
  refine wl_region ?_
  refine np (.slice (some ⟨gN, 0, none⟩) dj.l.length kN) ?_
  refine np (.int .i64 rr'8) ?_
  refine np (.pointer (some ⟨gc, 0, none⟩)) ?_
  refine nc (l1Num_any B gc (.slice va lb.length vc) lb 99 _ (cur_at hM (i := 1) rfl hcur hc'17) (by omega) (by omega)) ?_
  rintro e W5 ⟨rr'18, rfl, hr'19, hcA, hcB⟩
  obtain ⟨ci'20, ch'21, hc'22, hM3⟩ := cur_back hM (i := 1) rfl hcA hcB
  clear hM hcA hcB; have hM := hM3; clear hM3
  replace hr'19 : In64 rr'18 := hr'19
  refine ⟨_, rfl, ?_⟩
  go_frame
  refine wl_index (by kernel_rfl) 24 49 _ _ rfl gN 0 dj.l.length kN 8 ki rfl rfl hki (by omega) Tryz.underlying24 I_impl_Node ?_
  go_frame
  refine np (.pointer (some ⟨gN, 0 + ki * 8, none⟩)) ?_
  refine nk hM 0 rfl (0 + ki * 8 + 0) (.int .i64 rr'18) I_int64 (node_room1 hli (by decide)) ?_
  clear hM; intro W6 hM; rw [node_set (j := 0) (n' := ⟨rr'18, niv, nil, nir, nio, nig, nilt, nirt⟩) hni (by decide) rfl] at hM
  refine wl_nil (cn3 _ _ ?_)
  clear cn3
  refine wp_seq_k fun _ cn8 => wl_region ?_
  refine np (.slice (some ⟨gN, 0, none⟩) dj.l.length kN) ?_
  refine np (.slice (some ⟨gN, 0, none⟩) dj.l.length kN) ?_
  go_frame
  refine wl_nil (cn8 _ _ ?_)
  clear cn8
  refine wp_ret ?_
  refine bodyPost_ret (v := .slice (some ⟨gN, 0, none⟩) dj.l.length kN) (ret_tmp 2 rfl rfl) rfl ⟨(dj.l.set ki ⟨rr'18, niv, nil, nir, nio, nig, nilt, nirt⟩), gN, 0, kN, [(gN, 49, (cellsOf (dj.l.set ki ⟨rr'18, niv, nil, nir, nio, nig, nilt, nirt⟩) ++ pN))], ci'20, ch'21, congrArg (fun q : Nat => Ending.returned (.slice (some ⟨gN, 0, none⟩) q kN)) (by simp), by first | omega | (simp; omega), hc'22, ?_, fun W hW => by simpa using nslX (n := (dj.l.set ki ⟨rr'18, niv, nil, nir, nio, nig, nilt, nirt⟩).length) (hW _ List.mem_cons_self) rfl (by simpa using na1) na2⟩
  replace hM := hM.pull 1 rfl
  exact hM
  rw [hx2]
  refine wp_cond_false rfl ?_
  refine wp_seq_k fun _ cn8 => wl_region ?_
  refine np (.bool (rr'13 == 1)) ?_
  refine np (.bool (rr'13 == 1)) ?_
  go_frame
  refine wl_nil (cn8 _ _ ?_)
  clear cn8
  rcases tf ((rr'13 == 1)) with hx3 | hx3
  rw [hx3]
  refine wp_cond_true rfl ?_
  refine wl_region ?_
  refine np (.slice (some ⟨gN, 0, none⟩) dj.l.length kN) ?_
  refine np (.int .i64 rr'8) ?_
  refine np (.pointer (some ⟨gc, 0, none⟩)) ?_
  refine nc (l1Num_any B gc (.slice va lb.length vc) lb 999 _ (cur_at hM (i := 1) rfl hcur hc'17) (by omega) (by omega)) ?_
  rintro e W5 ⟨rr'18, rfl, hr'19, hcA, hcB⟩
  obtain ⟨ci'20, ch'21, hc'22, hM3⟩ := cur_back hM (i := 1) rfl hcA hcB
  clear hM hcA hcB; have hM := hM3; clear hM3
  replace hr'19 : In64 rr'18 := hr'19
  refine ⟨_, rfl, ?_⟩
  go_frame
  refine wl_index (by kernel_rfl) 24 49 _ _ rfl gN 0 dj.l.length kN 8 ki rfl rfl hki (by omega) Tryz.underlying24 I_impl_Node ?_
  go_frame
  refine np (.pointer (some ⟨gN, 0 + ki * 8 + 1, none⟩)) ?_
  refine nk hM 0 rfl (0 + ki * 8 + 1) (.int .i64 rr'18) I_int64 (node_room1 hli (by decide)) ?_
  clear hM; intro W6 hM; rw [node_set (j := 1) (n' := ⟨nik, rr'18, nil, nir, nio, nig, nilt, nirt⟩) hni (by decide) rfl] at hM
  refine wl_nil (cn3 _ _ ?_)
  clear cn3
  refine wp_seq_k fun _ cn9 => wl_region ?_
  refine np (.slice (some ⟨gN, 0, none⟩) dj.l.length kN) ?_
  refine np (.slice (some ⟨gN, 0, none⟩) dj.l.length kN) ?_
  go_frame
  refine wl_nil (cn9 _ _ ?_)
  clear cn9
  refine wp_ret ?_
  refine bodyPost_ret (v := .slice (some ⟨gN, 0, none⟩) dj.l.length kN) (ret_tmp 2 rfl rfl) rfl ⟨(dj.l.set ki ⟨nik, rr'18, nil, nir, nio, nig, nilt, nirt⟩), gN, 0, kN, [(gN, 49, (cellsOf (dj.l.set ki ⟨nik, rr'18, nil, nir, nio, nig, nilt, nirt⟩) ++ pN))], ci'20, ch'21, congrArg (fun q : Nat => Ending.returned (.slice (some ⟨gN, 0, none⟩) q kN)) (by simp), by first | omega | (simp; omega), hc'22, ?_, fun W hW => by simpa using nslX (n := (dj.l.set ki ⟨nik, rr'18, nil, nir, nio, nig, nilt, nirt⟩).length) (hW _ List.mem_cons_self) rfl (by simpa using na1) na2⟩
  replace hM := hM.pull 1 rfl
  exact hM
  rw [hx3]
  refine wp_cond_false rfl ?_
  refine wp_seq_k fun _ cn9 => wl_region ?_
  refine np (.bool (rr'13 == 2)) ?_
  refine np (.bool (rr'13 == 2)) ?_
  go_frame
  refine wl_nil (cn9 _ _ ?_)
  clear cn9
  rcases tf ((rr'13 == 2)) with hx4 | hx4
  rw [hx4]
  refine wp_cond_true rfl ?_
  refine wl_region ?_
  refine np (.slice (some ⟨gN, 0, none⟩) dj.l.length kN) ?_
  refine np (.int .i64 rr'8) ?_
  refine np (.pointer (some ⟨gc, 0, none⟩)) ?_
  refine np (.slice (some ⟨gN, 0, none⟩) dj.l.length kN) ?_
  refine np (.int .i64 (dj.l.length : Int)) ?_
  refine nc (l1From_any B gc (.slice va lb.length vc) lb (-1) (dj.l.length : Int) _ (cur_at hM (i := 1) rfl hcur hc'17) (by omega) (by omega) (by omega) (by omega)) ?_
  rintro e W5 ⟨rr'18, rfl, hr'19, hcA, hcB⟩
  obtain ⟨ci'20, ch'21, hc'22, hM3⟩ := cur_back hM (i := 1) rfl hcA hcB
  clear hM hcA hcB; have hM := hM3; clear hM3
  replace hr'19 : ((-1) ≤ rr'18 ∧ (rr'18 ≤ (dj.l.length : Int) ∨ rr'18 = (-1))) := hr'19
  refine ⟨_, rfl, ?_⟩
  go_frame
  refine wl_index (by kernel_rfl) 24 49 _ _ rfl gN 0 dj.l.length kN 8 ki rfl rfl hki (by omega) Tryz.underlying24 I_impl_Node ?_
  go_frame
  refine np (.pointer (some ⟨gN, 0 + ki * 8 + 2, none⟩)) ?_
  refine nk hM 0 rfl (0 + ki * 8 + 2) (.int .i64 rr'18) I_int64 (node_room1 hli (by decide)) ?_
  clear hM; intro W6 hM; rw [node_set (j := 2) (n' := ⟨nik, niv, rr'18, nir, nio, nig, nilt, nirt⟩) hni (by decide) rfl] at hM
  refine wl_nil (cn3 _ _ ?_)
  clear cn3
  refine wp_seq_k fun _ cn10 => wl_region ?_
  refine np (.slice (some ⟨gN, 0, none⟩) dj.l.length kN) ?_
  refine np (.slice (some ⟨gN, 0, none⟩) dj.l.length kN) ?_
  go_frame
  refine wl_nil (cn10 _ _ ?_)
  clear cn10
  refine wp_ret ?_
  refine bodyPost_ret (v := .slice (some ⟨gN, 0, none⟩) dj.l.length kN) (ret_tmp 2 rfl rfl) rfl ⟨(dj.l.set ki ⟨nik, niv, rr'18, nir, nio, nig, nilt, nirt⟩), gN, 0, kN, [(gN, 49, (cellsOf (dj.l.set ki ⟨nik, niv, rr'18, nir, nio, nig, nilt, nirt⟩) ++ pN))], ci'20, ch'21, congrArg (fun q : Nat => Ending.returned (.slice (some ⟨gN, 0, none⟩) q kN)) (by simp), by first | omega | (simp; omega), hc'22, ?_, fun W hW => by simpa using nslX (n := (dj.l.set ki ⟨nik, niv, rr'18, nir, nio, nig, nilt, nirt⟩).length) (hW _ List.mem_cons_self) rfl (by simpa using na1) na2⟩
  replace hM := hM.pull 1 rfl
  exact hM
  rw [hx4]
  refine wp_cond_false rfl ?_
  refine wp_seq_k fun _ cn10 => wl_region ?_
  refine np (.bool (rr'13 == 3)) ?_
  refine np (.bool (rr'13 == 3)) ?_
  go_frame
  refine wl_nil (cn10 _ _ ?_)
  clear cn10
  rcases tf ((rr'13 == 3)) with hx5 | hx5
  rw [hx5]
  refine wp_cond_true rfl ?_
  refine wl_region ?_
  refine np (.slice (some ⟨gN, 0, none⟩) dj.l.length kN) ?_
  refine np (.int .i64 rr'8) ?_
  refine np (.pointer (some ⟨gc, 0, none⟩)) ?_
  refine np (.slice (some ⟨gN, 0, none⟩) dj.l.length kN) ?_
  refine np (.int .i64 (dj.l.length : Int)) ?_
  refine nc (l1From_any B gc (.slice va lb.length vc) lb (-1) (dj.l.length : Int) _ (cur_at hM (i := 1) rfl hcur hc'17) (by omega) (by omega) (by omega) (by omega)) ?_
  rintro e W5 ⟨rr'18, rfl, hr'19, hcA, hcB⟩
  obtain ⟨ci'20, ch'21, hc'22, hM3⟩ := cur_back hM (i := 1) rfl hcA hcB
  clear hM hcA hcB; have hM := hM3; clear hM3
  replace hr'19 : ((-1) ≤ rr'18 ∧ (rr'18 ≤ (dj.l.length : Int) ∨ rr'18 = (-1))) := hr'19
  refine ⟨_, rfl, ?_⟩
  go_frame
  refine wl_index (by kernel_rfl) 24 49 _ _ rfl gN 0 dj.l.length kN 8 ki rfl rfl hki (by omega) Tryz.underlying24 I_impl_Node ?_
  go_frame
  refine np (.pointer (some ⟨gN, 0 + ki * 8 + 3, none⟩)) ?_
  refine nk hM 0 rfl (0 + ki * 8 + 3) (.int .i64 rr'18) I_int64 (node_room1 hli (by decide)) ?_
  clear hM; intro W6 hM; rw [node_set (j := 3) (n' := ⟨nik, niv, nil, rr'18, nio, nig, nilt, nirt⟩) hni (by decide) rfl] at hM
  refine wl_nil (cn3 _ _ ?_)
  clear cn3
  refine wp_seq_k fun _ cn11 => wl_region ?_
  refine np (.slice (some ⟨gN, 0, none⟩) dj.l.length kN) ?_
  refine np (.slice (some ⟨gN, 0, none⟩) dj.l.length kN) ?_
  go_frame
  refine wl_nil (cn11 _ _ ?_)
  clear cn11
  refine wp_ret ?_
  refine bodyPost_ret (v := .slice (some ⟨gN, 0, none⟩) dj.l.length kN) (ret_tmp 2 rfl rfl) rfl ⟨(dj.l.set ki ⟨nik, niv, nil, rr'18, nio, nig, nilt, nirt⟩), gN, 0, kN, [(gN, 49, (cellsOf (dj.l.set ki ⟨nik, niv, nil, rr'18, nio, nig, nilt, nirt⟩) ++ pN))], ci'20, ch'21, congrArg (fun q : Nat => Ending.returned (.slice (some ⟨gN, 0, none⟩) q kN)) (by simp), by first | omega | (simp; omega), hc'22, ?_, fun W hW => by simpa using nslX (n := (dj.l.set ki ⟨nik, niv, nil, rr'18, nio, nig, nilt, nirt⟩).length) (hW _ List.mem_cons_self) rfl (by simpa using na1) na2⟩
  replace hM := hM.pull 1 rfl
  exact hM
  rw [hx5]
  refine wp_cond_false rfl ?_
  refine wp_seq_k fun _ cn11 => wl_region ?_
  refine np (.bool (rr'13 == 4)) ?_
  refine np (.bool (rr'13 == 4)) ?_
  go_frame
  refine wl_nil (cn11 _ _ ?_)
  clear cn11
  rcases tf ((rr'13 == 4)) with hx6 | hx6
  rw [hx6]
  refine wp_cond_true rfl ?_
  refine wl_region ?_
  refine np (.slice (some ⟨gN, 0, none⟩) dj.l.length kN) ?_
  refine np (.int .i64 rr'8) ?_
  refine np (.pointer (some ⟨gc, 0, none⟩)) ?_
  refine nc (l1From_any B gc (.slice va lb.length vc) lb (-1) 7 _ (cur_at hM (i := 1) rfl hcur hc'17) (by omega) (by omega) (by omega) (by omega)) ?_
  rintro e W5 ⟨rr'18, rfl, hr'19, hcA, hcB⟩
  obtain ⟨ci'20, ch'21, hc'22, hM3⟩ := cur_back hM (i := 1) rfl hcA hcB
  clear hM hcA hcB; have hM := hM3; clear hM3
  replace hr'19 : ((-1) ≤ rr'18 ∧ (rr'18 ≤ 7 ∨ rr'18 = (-1))) := hr'19
  refine ⟨_, rfl, ?_⟩
  go_frame
  refine wl_index (by kernel_rfl) 24 49 _ _ rfl gN 0 dj.l.length kN 8 ki rfl rfl hki (by omega) Tryz.underlying24 I_impl_Node ?_
  go_frame
  refine np (.pointer (some ⟨gN, 0 + ki * 8 + 4, none⟩)) ?_
  refine nk hM 0 rfl (0 + ki * 8 + 4) (.int .i64 rr'18) I_int64 (node_room1 hli (by decide)) ?_
  clear hM; intro W6 hM; rw [node_set (j := 4) (n' := ⟨nik, niv, nil, nir, rr'18, nig, nilt, nirt⟩) hni (by decide) rfl] at hM
  refine wl_nil (cn3 _ _ ?_)
  clear cn3
  refine wp_seq_k fun _ cn12 => wl_region ?_
  refine np (.slice (some ⟨gN, 0, none⟩) dj.l.length kN) ?_
  refine np (.slice (some ⟨gN, 0, none⟩) dj.l.length kN) ?_
  go_frame
  refine wl_nil (cn12 _ _ ?_)
  clear cn12
  refine wp_ret ?_
  refine bodyPost_ret (v := .slice (some ⟨gN, 0, none⟩) dj.l.length kN) (ret_tmp 2 rfl rfl) rfl ⟨(dj.l.set ki ⟨nik, niv, nil, nir, rr'18, nig, nilt, nirt⟩), gN, 0, kN, [(gN, 49, (cellsOf (dj.l.set ki ⟨nik, niv, nil, nir, rr'18, nig, nilt, nirt⟩) ++ pN))], ci'20, ch'21, congrArg (fun q : Nat => Ending.returned (.slice (some ⟨gN, 0, none⟩) q kN)) (by simp), by first | omega | (simp; omega), hc'22, ?_, fun W hW => by simpa using nslX (n := (dj.l.set ki ⟨nik, niv, nil, nir, rr'18, nig, nilt, nirt⟩).length) (hW _ List.mem_cons_self) rfl (by simpa using na1) na2⟩
  replace hM := hM.pull 1 rfl
  exact hM
  rw [hx6]
  refine wp_cond_false rfl ?_
  refine wp_seq_k fun _ cn12 => wl_region ?_
  refine np (.bool (rr'13 == 5)) ?_
  refine np (.bool (rr'13 == 5)) ?_
  go_frame
  refine wl_nil (cn12 _ _ ?_)
  clear cn12
  rcases tf ((rr'13 == 5)) with hx7 | hx7
  rw [hx7]
  refine wp_cond_true rfl ?_
  refine wl_region ?_
  refine np (.slice (some ⟨gN, 0, none⟩) dj.l.length kN) ?_
  refine np (.int .i64 rr'8) ?_
  refine np (.slice (some ⟨gN, 0, none⟩) dj.l.length kN) ?_
  refine np (.int .i64 rr'8) ?_
  go_frame
  refine wl_index (by kernel_rfl) 24 49 _ _ rfl gN 0 dj.l.length kN 8 ki rfl rfl hki (by omega) Tryz.underlying24 I_impl_Node ?_
  go_frame
  refine np (.pointer (some ⟨gN, 0 + ki * 8 + 5, none⟩)) ?_
  refine ng hM 0 rfl (0 + ki * 8 + 5) Tryz.underlying4 (node_cell (j := 5) hni rfl) ?_
  go_frame
  cases nig
  refine np (.bool true) ?_
  go_frame
  refine wl_index (by kernel_rfl) 24 49 _ _ rfl gN 0 dj.l.length kN 8 ki rfl rfl hki (by omega) Tryz.underlying24 I_impl_Node ?_
  go_frame
  refine np (.pointer (some ⟨gN, 0 + ki * 8 + 5, none⟩)) ?_
  refine nk hM 0 rfl (0 + ki * 8 + 5) (.bool true) I_bool (node_room1 hli (by decide)) ?_
  clear hM; intro W5 hM; rw [node_set (j := 5) (n' := ⟨nik, niv, nil, nir, nio, true, nilt, nirt⟩) hni (by decide) rfl] at hM
  refine wl_nil (cn3 _ _ ?_)
  clear cn3
  refine wp_seq_k fun _ cn13 => wl_region ?_
  refine np (.slice (some ⟨gN, 0, none⟩) dj.l.length kN) ?_
  refine np (.slice (some ⟨gN, 0, none⟩) dj.l.length kN) ?_
  go_frame
  refine wl_nil (cn13 _ _ ?_)
  clear cn13
  refine wp_ret ?_
  refine bodyPost_ret (v := .slice (some ⟨gN, 0, none⟩) dj.l.length kN) (ret_tmp 2 rfl rfl) rfl ⟨(dj.l.set ki ⟨nik, niv, nil, nir, nio, true, nilt, nirt⟩), gN, 0, kN, [(gN, 49, (cellsOf (dj.l.set ki ⟨nik, niv, nil, nir, nio, true, nilt, nirt⟩) ++ pN))], ci'15, ch'16, congrArg (fun q : Nat => Ending.returned (.slice (some ⟨gN, 0, none⟩) q kN)) (by simp), by first | omega | (simp; omega), hc'17, ?_, fun W hW => by simpa using nslX (n := (dj.l.set ki ⟨nik, niv, nil, nir, nio, true, nilt, nirt⟩).length) (hW _ List.mem_cons_self) rfl (by simpa using na1) na2⟩
  replace hM := hM.pull 1 rfl
  exact hM
  refine np (.bool false) ?_
  go_frame
  refine wl_index (by kernel_rfl) 24 49 _ _ rfl gN 0 dj.l.length kN 8 ki rfl rfl hki (by omega) Tryz.underlying24 I_impl_Node ?_
  go_frame
  refine np (.pointer (some ⟨gN, 0 + ki * 8 + 5, none⟩)) ?_
  refine nk hM 0 rfl (0 + ki * 8 + 5) (.bool false) I_bool (node_room1 hli (by decide)) ?_
  clear hM; intro W5 hM; rw [node_set (j := 5) (n' := ⟨nik, niv, nil, nir, nio, false, nilt, nirt⟩) hni (by decide) rfl] at hM
  refine wl_nil (cn3 _ _ ?_)
  clear cn3
  refine wp_seq_k fun _ cn13 => wl_region ?_
  refine np (.slice (some ⟨gN, 0, none⟩) dj.l.length kN) ?_
  refine np (.slice (some ⟨gN, 0, none⟩) dj.l.length kN) ?_
  go_frame
  refine wl_nil (cn13 _ _ ?_)
  clear cn13
  refine wp_ret ?_
  refine bodyPost_ret (v := .slice (some ⟨gN, 0, none⟩) dj.l.length kN) (ret_tmp 2 rfl rfl) rfl ⟨(dj.l.set ki ⟨nik, niv, nil, nir, nio, false, nilt, nirt⟩), gN, 0, kN, [(gN, 49, (cellsOf (dj.l.set ki ⟨nik, niv, nil, nir, nio, false, nilt, nirt⟩) ++ pN))], ci'15, ch'16, congrArg (fun q : Nat => Ending.returned (.slice (some ⟨gN, 0, none⟩) q kN)) (by simp), by first | omega | (simp; omega), hc'17, ?_, fun W hW => by simpa using nslX (n := (dj.l.set ki ⟨nik, niv, nil, nir, nio, false, nilt, nirt⟩).length) (hW _ List.mem_cons_self) rfl (by simpa using na1) na2⟩
  replace hM := hM.pull 1 rfl
  exact hM
  rw [hx7]
  refine wp_cond_false rfl ?_
  refine wp_seq_k fun _ cn13 => wl_region ?_
  refine np (.bool (rr'13 == 6)) ?_
  refine np (.bool (rr'13 == 6)) ?_
  go_frame
  refine wl_nil (cn13 _ _ ?_)
  clear cn13
  rcases tf ((rr'13 == 6)) with hx8 | hx8
  rw [hx8]
  refine wp_cond_true rfl ?_
  refine wl_region ?_
  refine np (.slice (some ⟨gN, 0, none⟩) dj.l.length kN) ?_
  refine np (.int .i64 rr'8) ?_
  refine np (.pointer (some ⟨gc, 0, none⟩)) ?_
  refine nc (l1Num_any B gc (.slice va lb.length vc) lb 10000 _ (cur_at hM (i := 1) rfl hcur hc'17) (by omega) (by omega)) ?_
  rintro e W5 ⟨rr'18, rfl, hr'19, hcA, hcB⟩
  obtain ⟨ci'20, ch'21, hc'22, hM3⟩ := cur_back hM (i := 1) rfl hcA hcB
  clear hM hcA hcB; have hM := hM3; clear hM3
  replace hr'19 : In64 rr'18 := hr'19
  refine ⟨_, rfl, ?_⟩
  go_frame
  refine wl_index (by kernel_rfl) 24 49 _ _ rfl gN 0 dj.l.length kN 8 ki rfl rfl hki (by omega) Tryz.underlying24 I_impl_Node ?_
  go_frame
  refine np (.pointer (some ⟨gN, 0 + ki * 8 + 6, none⟩)) ?_
  refine nk hM 0 rfl (0 + ki * 8 + 6) (.int .i64 rr'18) I_int64 (node_room1 hli (by decide)) ?_
  clear hM; intro W6 hM; rw [node_set (j := 6) (n' := ⟨nik, niv, nil, nir, nio, nig, rr'18, nirt⟩) hni (by decide) rfl] at hM
  refine wl_nil (cn3 _ _ ?_)
  clear cn3
  refine wp_seq_k fun _ cn14 => wl_region ?_
  refine np (.slice (some ⟨gN, 0, none⟩) dj.l.length kN) ?_
  refine np (.slice (some ⟨gN, 0, none⟩) dj.l.length kN) ?_
  go_frame
  refine wl_nil (cn14 _ _ ?_)
  clear cn14
  refine wp_ret ?_
  refine bodyPost_ret (v := .slice (some ⟨gN, 0, none⟩) dj.l.length kN) (ret_tmp 2 rfl rfl) rfl ⟨(dj.l.set ki ⟨nik, niv, nil, nir, nio, nig, rr'18, nirt⟩), gN, 0, kN, [(gN, 49, (cellsOf (dj.l.set ki ⟨nik, niv, nil, nir, nio, nig, rr'18, nirt⟩) ++ pN))], ci'20, ch'21, congrArg (fun q : Nat => Ending.returned (.slice (some ⟨gN, 0, none⟩) q kN)) (by simp), by first | omega | (simp; omega), hc'22, ?_, fun W hW => by simpa using nslX (n := (dj.l.set ki ⟨nik, niv, nil, nir, nio, nig, rr'18, nirt⟩).length) (hW _ List.mem_cons_self) rfl (by simpa using na1) na2⟩
  replace hM := hM.pull 1 rfl
  exact hM
  rw [hx8]
  refine wp_cond_false rfl ?_
  refine wp_seq_k fun _ cn14 => wl_region ?_
  refine np (.bool (rr'13 == 7)) ?_
  refine np (.bool (rr'13 == 7)) ?_
  go_frame
  refine wl_nil (cn14 _ _ ?_)
  clear cn14
  rcases tf ((rr'13 == 7)) with hx9 | hx9
  rw [hx9]
  refine wp_cond_true rfl ?_
  refine wl_region ?_
  refine np (.slice (some ⟨gN, 0, none⟩) dj.l.length kN) ?_
  go_frame
  refine wl_pure (by kernel_rfl) (.slice (if kN = 1 then some ⟨gN, 0, none⟩ else some ⟨gN, 8, none⟩) (dj.l.length - 1) (kN - 1)) (r_slice1 _ rfl gN dj.l.length kN rfl (by omega)) ?_
  go_frame
  refine np (.slice (if kN = 1 then some ⟨gN, 0, none⟩ else some ⟨gN, 8, none⟩) (dj.l.length - 1) (kN - 1)) ?_
  go_frame
  refine wl_nil (cn3 _ _ ?_)
  clear cn3
  refine wp_seq_k fun _ cn15 => wl_region ?_
  refine np (.slice (if kN = 1 then some ⟨gN, 0, none⟩ else some ⟨gN, 8, none⟩) (dj.l.length - 1) (kN - 1)) ?_
  refine np (.slice (if kN = 1 then some ⟨gN, 0, none⟩ else some ⟨gN, 8, none⟩) (dj.l.length - 1) (kN - 1)) ?_
  go_frame
  refine wl_nil (cn15 _ _ ?_)
  clear cn15
  refine wp_ret ?_
  refine bodyPost_ret (v := .slice (if kN = 1 then some ⟨gN, 0, none⟩ else some ⟨gN, 8, none⟩) (dj.l.length - 1) (kN - 1)) (ret_tmp 2 rfl rfl) rfl ⟨dj.l.tail, gN, (if kN = 1 then 0 else 8), (kN - 1), [(gN, 49, (cellsOf dj.l ++ pN))], ci'15, ch'16, by by_cases hk1 : kN = 1 <;> simp [hk1], by first | omega | (simp; omega), hc'17, ?_, fun W hW => by have h9 := nsl_tail (hW _ List.mem_cons_self) (by omega) na1 na2; by_cases hk1 : kN = 1 <;> simpa [hk1] using h9⟩
  replace hM := hM.pull 1 rfl
  exact hM
  rw [hx9]
  refine wp_cond_false rfl ?_
  refine wp_seq_k fun _ cn15 => wl_region ?_
  refine np (.bool (rr'13 == 8)) ?_
  refine np (.bool (rr'13 == 8)) ?_
  go_frame
  refine wl_nil (cn15 _ _ ?_)
  clear cn15
  rcases tf ((rr'13 == 8)) with hx10 | hx10
  rw [hx10]
  refine wp_cond_true rfl ?_
  refine wp_block ?_
  refine wp_loop (fun act w => ∃ (ln : List ND) (gl kl : Nat) (pl : List Value) (ci : Nat) (ch : Int) (U1 : Nat → Value), act = ⟨#[.pointer (some ⟨gc, 0, none⟩), undef, .slice none 0 0, .slice (some ⟨gl, 0, none⟩) ln.length kl, .int .i64 rr'8, .pointer (some ⟨gc, 0, none⟩), .agg #[.slice (some ⟨gN, 0, none⟩) dj.l.length kN, .slice a2e dj.c.length k2e, .slice a3e dj.hs.length k3e, .slice a4e dj.ds.length k4e, .int .i64 dj.now], .agg #[.slice (some ⟨gN, 0, none⟩) dj.l.length kN, .slice a2e dj.c.length k2e], .slice (some ⟨gN, 0, none⟩) dj.l.length kN, .pointer (some ⟨gc, 0, none⟩), .bool true, .pointer (some ⟨gc, 0, none⟩), .slice (some ⟨gN, 0, none⟩) dj.l.length kN, .int .i64 (dj.l.length : Int), .int .i64 rr'8, .pointer (some ⟨gc, 0, none⟩), .int .i64 rr'13, .bool false, .bool false, undef, undef, undef, undef, undef, undef, .bool false, .bool false, undef, undef, undef, undef, undef, undef, .bool false, .bool false, undef, undef, undef, undef, undef, undef, undef, undef, .bool false, .bool false, undef, undef, undef, undef, undef, undef, undef, undef, .bool false, .bool false, undef, undef, undef, undef, undef, undef, .bool false, .bool false, undef, undef, undef, undef, undef, undef, undef, undef, undef, undef, .bool false, .bool false, undef, undef, undef, undef, undef, undef, .bool false, .bool false, undef, undef, .bool true, .bool true, (U1 0), (U1 1), (U1 2), (U1 3), (U1 4), (U1 5), (U1 6), (U1 7), (U1 8), (U1 9), undef], []⟩ ∧ Mem w00 w ((gl, 49, (cellsOf ln ++ pl)) :: (gc, 53, [.slice va lb.length vc, .int .i64 (ci : Int), .int .i64 ch]) :: L) ∧ (ln.length ≤ 31 ∧ ln ≠ [] ∧ (ln.length ≤ kl ∧ kl ≤ maxLen ∧ (cellsOf ln ++ pl).length = kl * 8) ∧ CurI lb ci ch)) (fun act _ => 31 - lenOf (act.tmps.getD 3 undef)) ?_ ?_
  exact ⟨dj.l, gN, kN, pN, ci'15, ch'16, (fun i => [undef, undef, undef, undef, undef, undef, undef, undef, undef, undef].getD i undef), rfl, hM, by omega, hLj, ⟨na1, na2, na5⟩, hc'17⟩
  clear hM
  rintro act w ⟨ln, gl, kl, pl, ci, ch, U1, rfl, hM, hln, hlz, ⟨qa0, qb0, qe0⟩, hciL⟩
  refine wp_seq_k fun Kn16 cn16 => ?_
  refine wp_seq_k fun _ cn17 => wl_region ?_
  refine np (.slice (some ⟨gl, 0, none⟩) ln.length kl) ?_
  refine np (.int .i64 (ln.length : Int)) ?_
  refine np (.pointer (some ⟨gc, 0, none⟩)) ?_
  refine nc (l1Below_any B gc (.slice va lb.length vc) lb 2 _ (cur_at hM (i := 1) rfl hcur hciL) (by omega)) ?_
  rintro e W5 ⟨rr'18, rfl, hr'19, hcA, hcB⟩
  obtain ⟨ci'20, ch'21, hc'22, hM3⟩ := cur_back hM (i := 1) rfl hcA hcB
  clear hM hcA hcB; have hM := hM3; clear hM3
  replace hr'19 : (0 ≤ rr'18 ∧ (rr'18 < 2 ∨ rr'18 = 0)) := hr'19
  refine ⟨_, rfl, ?_⟩
  go_frame
  refine nI (30 + rr'18) ?_
  refine np (.bool (decide ((ln.length : Int) < (30 + rr'18)))) ?_
  go_frame
  refine wl_nil (cn17 _ _ ?_)
  clear cn17
  rcases tf (decide ((ln.length : Int) < (30 + rr'18))) with hx11 | hx11
  rw [hx11]
  refine wp_cond_true rfl ?_
  refine wp_skip ?_
  refine cn16 _ _ ?_
  clear cn16
  refine wp_block ?_
  refine wl_region ?_
  refine np (.slice (some ⟨gl, 0, none⟩) ln.length kl) ?_
  refine np (.agg (ND.cells ⟨0, 0, 0, 0, 0, false, 0, 0⟩).toArray) ?_
  go_frame
  refine wl_buildSlice (by kernel_rfl) hM 49 1 (ND.cells ⟨0, 0, 0, 0, 0, false, 0, 0⟩) (fun w => by kernel_rfl) ?_
  clear hM; intro g1 W6 hM
  go_frame
  refine wl_append (by kernel_rfl) hM 1 rfl 0 rfl _ _ 24 rfl Tryz.underlying24 infoNode rfl (by decide) ln.length kl 1 1 rfl qa0 qb0 (cellsOf_len _) qe0 rfl rfl (nd_one _) (by decide) (by (try unfold maxLen); omega) (by (try unfold maxLen); omega) ?_
  clear hM; intro ga'23 ka'24 pa'25 W7 qa'26 qb'27 qe'28 hM
  rw [node_snoc _ (⟨0, 0, 0, 0, 0, false, 0, 0⟩) _] at hM qe'28
  go_frame
  refine np (.slice (some ⟨ga'23, 0, none⟩) (ln.length + 1) ka'24) ?_
  go_frame
  refine wl_nil ?_
  have hlt8 := of_decide_eq_true hx11
  replace hM : Mem w00 W7 ((ga'23, 49, (cellsOf (ln ++ [⟨0, 0, 0, 0, 0, false, 0, 0⟩]) ++ pa'25)) :: (gc, 53, [.slice va lb.length vc, .int .i64 (ci'20 : Int), .int .i64 ch'21]) :: L) := hM.sub (fun i => if i = 0 then 1 else if i = 1 then 2 else i + 1) (fun i b hb => by match i, hb with | 0, hb => exact hb | 1, hb => exact hb | (n + 2), hb => exact hb) (fun i j hi hj e => by (try simp only at e); split at e <;> split at e <;> (try split at e) <;> (try split at e) <;> omega)
  exact ⟨⟨(ln ++ [⟨0, 0, 0, 0, 0, false, 0, 0⟩]), ga'23, ka'24, pa'25, ci'20, ch'21, (fun i => [.slice (some ⟨gl, 0, none⟩) ln.length kl, .int .i64 (ln.length : Int), .pointer (some ⟨gc, 0, none⟩), .int .i64 rr'18, .int .i64 (30 + rr'18), .bool true, .slice (some ⟨gl, 0, none⟩) ln.length kl, .agg (ND.cells ⟨0, 0, 0, 0, 0, false, 0, 0⟩).toArray, .slice (some ⟨g1, 0, none⟩) 1 1, .slice (some ⟨ga'23, 0, none⟩) (ln.length + 1) ka'24].getD i undef), by simp, hM, by simp; omega, by simp, ⟨by simpa using qa'26, qb'27, qe'28⟩, hc'22⟩, by simp [lenOf]; omega⟩
  rw [hx11]
  refine wp_cond_false rfl ?_
  refine wp_exit ?_
  refine cn3 _ _ ?_
  clear cn3
  refine wp_seq_k fun _ cn18 => wl_region ?_
  refine np (.slice (some ⟨gl, 0, none⟩) ln.length kl) ?_
  refine np (.slice (some ⟨gl, 0, none⟩) ln.length kl) ?_
  go_frame
  refine wl_nil (cn18 _ _ ?_)
  clear cn18
  refine wp_ret ?_
  refine bodyPost_ret (v := .slice (some ⟨gl, 0, none⟩) ln.length kl) (ret_tmp 2 rfl rfl) rfl ⟨ln, gl, 0, kl, [(gl, 49, (cellsOf ln ++ pl))], ci'20, ch'21, congrArg (fun q : Nat => Ending.returned (.slice (some ⟨gl, 0, none⟩) q kl)) (by simp), by first | omega | (simp; omega), hc'22, ?_, fun W hW => by simpa using nslX (n := ln.length) (hW _ List.mem_cons_self) rfl (by simpa using qa0) qb0⟩
  replace hM := hM.pull 1 rfl
  exact hM
  rw [hx10]
  refine wp_cond_false rfl ?_
  refine wp_skip ?_
  refine cn3 _ _ ?_
  clear cn3
  refine wp_seq_k fun _ cn16 => wl_region ?_
  refine np (.slice (some ⟨gN, 0, none⟩) dj.l.length kN) ?_
  refine np (.slice (some ⟨gN, 0, none⟩) dj.l.length kN) ?_
  go_frame
  refine wl_nil (cn16 _ _ ?_)
  clear cn16
  refine wp_ret ?_
  refine bodyPost_ret (v := .slice (some ⟨gN, 0, none⟩) dj.l.length kN) (ret_tmp 2 rfl rfl) rfl ⟨dj.l, gN, 0, kN, [(gN, 49, (cellsOf dj.l ++ pN))], ci'15, ch'16, congrArg (fun q : Nat => Ending.returned (.slice (some ⟨gN, 0, none⟩) q kN)) (by simp), by first | omega | (simp; omega), hc'17, ?_, fun W hW => by simpa using nslX (n := dj.l.length) (hW _ List.mem_cons_self) rfl (by simpa using na1) na2⟩
  replace hM := hM.pull 1 rfl
  exact hM
  rw [hx1]
  refine wp_cond_false rfl ?_
  refine wp_skip ?_
  refine cn3 _ _ ?_
  clear cn3
  refine wp_seq_k fun _ cn5 => wl_region ?_
  refine np (.slice (some ⟨gN, 0, none⟩) dj.l.length kN) ?_
  refine np (.slice (some ⟨gN, 0, none⟩) dj.l.length kN) ?_
  go_frame
  refine wl_nil (cn5 _ _ ?_)
  clear cn5
  refine wp_ret ?_
  refine bodyPost_ret (v := .slice (some ⟨gN, 0, none⟩) dj.l.length kN) (ret_tmp 2 rfl rfl) rfl ⟨dj.l, gN, 0, kN, [(gN, 49, (cellsOf dj.l ++ pN))], ci'5, ch'6, congrArg (fun q : Nat => Ending.returned (.slice (some ⟨gN, 0, none⟩) q kN)) (by simp), by first | omega | (simp; omega), hc'7, ?_, fun W hW => by simpa using nslX (n := dj.l.length) (hW _ List.mem_cons_self) rfl (by simpa using na1) na2⟩
  replace hM := hM.pull 1 rfl
  exact hM

end Go.Proofs.YtbfndoajchibbaaGreat
