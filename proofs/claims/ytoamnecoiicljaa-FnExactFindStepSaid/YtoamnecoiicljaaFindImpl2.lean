/- Finding: what each touch of the program does. -/
import Derived.Test.YtoamnecoiicljaaFindImpl
import Derived.Test.YtoamnecoiicljaaTable
import Derived.Test.YtoamnecoiicljaaMem4
namespace Go.Proofs.Ytoamnecoiicljaa
open Go.ChangeShapes Go.WideShapes Go.ChangeAt Go.RowKit
set_option linter.unusedVariables false
set_option linter.unusedSimpArgs false

def TouchF (f : FuncId) (l : List ND) (c : List Int) (task : Int) (h : HD) (R : List Int × HD) : Prop :=
  ∀ (ga0 k1 : Nat) (p1 : List Value) (gb0 k2 : Nat) (p2 : List Value) (L : List Bk) (w00 w0 : World), Mem w00 w0 ((ga0, 60, cellsOf l ++ p1) :: (gb0, 2, cellsI c ++ p2) :: L) → l.length ≤ k1 → k1 ≤ maxLen → c.length ≤ k2 → k2 ≤ maxLen →
    Calls Try.prog f #[.agg #[.slice (some ⟨ga0, 0, none⟩) l.length k1, .slice (some ⟨gb0, 0, none⟩) c.length k2], .int .i64 task, h.val] w0 fun e w' => e = .returned (.tuple #[.agg #[.slice (some ⟨ga0, 0, none⟩) l.length k1, .slice (some ⟨gb0, 0, none⟩) c.length k2], R.2.val]) ∧ Mem w00 w' ((ga0, 60, cellsOf l ++ p1) :: (gb0, 2, cellsI R.1 ++ p2) :: L)
theorem ret_sh {fn : Func} {p q : Tmp} {t1 t2 : TypeId} (h : fn.results = #[.cell p t1, .cell q t2]) {tmps : Array Value} {w0 w : World} {L : List Bk} (hM : Mem w0 w L) (i j : Nat) {g g' : Nat} {t t' : TypeId} {cs cs' : List Value} (hi : L[i]? = some (g, t, cs)) (hj : L[j]? = some (g', t', cs'))
    (hp : tmps.getD p undef = .pointer (some ⟨g, 0, none⟩)) (hq : tmps.getD q undef = .pointer (some ⟨g', 0, none⟩)) {fs fs' : Array Field} (hu : Try.prog.underlying t1 = some (.struct fs)) (hu' : Try.prog.underlying t2 = some (.struct fs')) (hn : (Try.prog.info? t1).map (·.size) = some cs.length) (hn' : (Try.prog.info? t2).map (·.size) = some cs'.length) :
    (results fn tmps).run Try.prog w = .ok (.tuple #[.agg cs.toArray, .agg cs'.toArray]) w := by
  have e1 := run_loadVar_row (P := Try.prog) w g t t1 cs.toArray (0, 0) _ (hM.blk i hi) hu rfl (by simpa using hn)
  have e2 := run_loadVar_row (P := Try.prog) w g' t' t2 cs'.toArray (0, 0) _ (hM.blk j hj) hu' rfl (by simpa using hn')
  have hp' : tmps[p]?.getD undef = .pointer (some ⟨g, 0, none⟩) := by simpa using hp
  have hq' : tmps[q]?.getD undef = .pointer (some ⟨g', 0, none⟩) := by simpa using hq
  simp [results, h, hp', hq', asAddr, e1, e2, Sem.run_bind, Result.andThen]
theorem mx_lt {x y n : Int} : mx x y < n ↔ x < n ∧ y < n := by unfold mx; split <;> omega
theorem can_l7 (l : List ND) (c : List Int) (task : Int) (h : HD) (a b : Int) : l7okB l c task h a b = (canB l c task h && inB h.at_ a b) := by
  unfold l7okB canB amongB max5
  rw [Bool.eq_iff_iff]
  simp only [Bool.and_eq_true, decide_eq_true_eq, mx_lt, five, List.all_cons, List.all_nil, hasB, inB, handB]
  constructor
  · rintro ⟨⟨⟨⟨h1, h2⟩, h3⟩, h4⟩, h5⟩
    exact ⟨⟨⟨⟨h1, h2⟩, h3⟩, by first | omega | (simp only [Bool.and_eq_true, decide_eq_true_eq] at h5; omega)⟩, h4⟩
  · rintro ⟨⟨⟨⟨h1, h2⟩, h3⟩, h4⟩, h5⟩
    exact ⟨⟨⟨⟨h1, h2⟩, h3⟩, h5⟩, by first | omega | (simp only [true_and, and_true]; omega)⟩
theorem can_ok {l : List ND} {c : List Int} {task : Int} {h : HD} (hk : canB l c task h = true) : l7okB l c task h h.at_ h.at_ = true := by
  rw [can_l7, hk]
  simp [inB]
theorem can_call {l : List ND} {c : List Int} {task : Int} {h : HD} (hk : canB l c task h = true) (h0 : h.at_ ≠ 0) : 1 ≤ h.c ∧ h.c ≤ 3 := by
  simp only [canB, handB, headB, callB, noneB, inB, Bool.and_eq_true, Bool.or_eq_true, decide_eq_true_eq, beq_iff_eq] at hk
  obtain ⟨⟨⟨-, ⟨⟨⟨-, h1⟩, -⟩, -⟩⟩, -⟩, -⟩ := hk
  rcases h1 with h1 | h1
  · exact h1.1.1
  · exact absurd h1.1 h0
def exitP (l : List ND) (h : HD) : HD :=
  if (h.cur != 0) && (h.c == 1) then restH 1 (nd l h.cur).v else if ((h.cur != 0) == (h.c == 2)) then restH 2 0 else { h with at_ := 5 }
theorem exit_eq {l : List ND} {h : HD} (hc : 1 ≤ h.c ∧ h.c ≤ 3) : exitH l h = exitP l h := by
  unfold exitH exitP
  rcases (show h.c = 1 ∨ h.c = 2 ∨ h.c = 3 by omega) with e | e | e <;> cases hq : (h.cur != 0) <;> simp [e, hq]

set_option maxRecDepth 100000 in
set_option maxHeartbeats 4000000 in
theorem impl_beginWalk (l : List ND) (c : List Int) (task : Int) (h : HD) (hok : canB l c task h = true) : TouchF 60 l c task h (cnt1 c task, { h with at_ := 2, prev := 0, cur := 0, side := 1 }) := by
  intro ga0 k1 p1 gb0 k2 p2 L w00 w0 hM0 q1 q2 q3 q4
  obtain ⟨hl0, hc0, hl1, hc1, hat, kt, hkt0, hkt, hcnt, hnodes, qnp, qnc, qnu, qnx, qnw⟩ := ok_facts (can_ok hok)
  have ht : task.toNat = kt := by omega
  have hl30 := (nodes_some hnodes).2
  have hc1' : cnt1 c task = c.set kt (atI c kt + 1) := by simp [cnt1, ht]
  unfold HD.val
  have hM := hM0
  go_enter Try.func60, Try.ntmps60
  refine wp_seq_k fun Kn1 cn1 => ?_
  refine wl_region ?_
  refine wl_box (by kernel_rfl) hM 30 _ rfl [.slice (some ⟨ga0, 0, none⟩) l.length k1, .slice (some ⟨gb0, 0, none⟩) c.length k2] rfl ?_
  clear hM; intro g1 W1 hM
  go_frame
  refine wl_box (by kernel_rfl) hM 40 _ rfl (HD.cells h) rfl ?_
  clear hM; intro g2 W2 hM
  go_frame
  refine wl_alloc (by kernel_rfl) hM 30 rfl [.slice none 0 0, .slice none 0 0] Z_impl_Shared ?_
  clear hM; intro g3 W3 hM
  go_frame
  refine wl_alloc (by kernel_rfl) hM 40 rfl (HD.cells HD.zero) Z_impl_Hand ?_
  clear hM; intro g4 W4 hM
  go_frame
  refine wl_nil ?_
  refine cn1 _ _ ?_
  clear cn1
  refine wp_seq_k fun Kn2 cn2 => ?_
  refine wl_region ?_
  refine wl_pure (by kernel_rfl) (.pointer (some ⟨g1, 1, none⟩)) (by kernel_rfl) ?_
  go_frame
  refine wl_loadc (by kernel_rfl) hM 3 rfl 23 _ rfl 1 rfl Try.underlying23 rfl rfl ?_
  go_frame
  refine wl_pure (by kernel_rfl) (.int .i64 task) (by kernel_rfl) ?_
  go_frame
  refine wl_index (by kernel_rfl) 23 2 _ _ rfl gb0 0 c.length k2 1 kt rfl rfl hkt0 (by omega) Try.underlying23 I_int64 ?_
  go_frame
  refine wl_loadc (by kernel_rfl) hM 5 rfl 2 _ rfl (0 + kt * 1) rfl Try.underlying2 rfl (cnt_el hkt) ?_
  go_frame
  refine wl_pureI (by kernel_rfl) (n := (atI c kt) + 1) (by kernel_rfl) (by omega) (by omega) ?_
  go_frame
  refine wl_index (by kernel_rfl) 23 2 _ _ rfl gb0 0 c.length k2 1 kt rfl rfl hkt0 (by omega) Try.underlying23 I_int64 ?_
  go_frame
  refine wl_storec (by kernel_rfl) hM 5 rfl 2 _ _ rfl rfl (0 + kt * 1) rfl (.int .i64 ((atI c kt) + 1)) rfl rfl rfl I_int64 (cnt_lt hkt) ?_
  clear hM; intro W5 hM
  refine wl_nil ?_
  refine cn2 _ _ ?_
  clear cn2
  refine wp_seq_k fun Kn3 cn3 => ?_
  rw [cnt_set hkt] at hM
  rw [← hc1'] at hM
  replace hM : Mem w00 W5 ((g4, 40, (HD.cells HD.zero)) :: (g3, 30, [.slice none 0 0, .slice none 0 0]) :: (g2, 40, (HD.cells h)) :: (g1, 30, [.slice (some ⟨ga0, 0, none⟩) l.length k1, .slice (some ⟨gb0, 0, none⟩) c.length k2]) :: (ga0, 60, (cellsOf l ++ p1)) :: (gb0, 2, (cellsI (cnt1 c task) ++ p2)) :: L) := hM
  refine wl_region ?_
  refine wl_pure (by kernel_rfl) (.pointer (some ⟨g2, 0, none⟩)) (by kernel_rfl) ?_
  go_frame
  refine wl_storec (by kernel_rfl) hM 2 rfl 2 _ _ rfl rfl 0 rfl (.int .i64 2) rfl rfl rfl I_int64 (by simp [HD.cells]) ?_
  clear hM; intro W6 hM
  refine wl_pure (by kernel_rfl) (.pointer (some ⟨g2, 4, none⟩)) (by kernel_rfl) ?_
  go_frame
  refine wl_storec (by kernel_rfl) hM 2 rfl 2 _ _ rfl rfl 4 rfl (.int .i64 0) rfl rfl rfl I_int64 (by simp [HD.cells]) ?_
  clear hM; intro W7 hM
  refine wl_pure (by kernel_rfl) (.pointer (some ⟨g2, 5, none⟩)) (by kernel_rfl) ?_
  go_frame
  refine wl_storec (by kernel_rfl) hM 2 rfl 2 _ _ rfl rfl 5 rfl (.int .i64 0) rfl rfl rfl I_int64 (by simp [HD.cells]) ?_
  clear hM; intro W8 hM
  refine wl_pure (by kernel_rfl) (.pointer (some ⟨g2, 6, none⟩)) (by kernel_rfl) ?_
  go_frame
  refine wl_storec (by kernel_rfl) hM 2 rfl 2 _ _ rfl rfl 6 rfl (.int .i64 1) rfl rfl rfl I_int64 (by simp [HD.cells]) ?_
  clear hM; intro W9 hM
  refine wl_nil ?_
  refine cn3 _ _ ?_
  clear cn3
  refine wp_seq_k fun Kn4 cn4 => ?_
  -- region 3, drawn: one after the other
  refine wa_start (fun w => Below w00.heap.size w00 w ∧ Blk w g1 30 [.slice (some ⟨ga0, 0, none⟩) l.length k1, .slice (some ⟨gb0, 0, none⟩) c.length k2] ∧ Blk w g2 40 (HD.cells { h with at_ := 2, prev := 0, cur := 0, side := 1 })) 4 rfl (by kernel_rfl) ?_
  replace hM := hM.drew
  refine wa_take 0 (some 19) (.agg #[.slice (some ⟨ga0, 0, none⟩) l.length k1, .slice (some ⟨gb0, 0, none⟩) c.length k2]) rfl rfl (by kernel_rfl) (by kernel_rfl) (by kernel_rfl) (fun _ _ _ h => h) (by kernel_rfl) (fun w hS => r_load hS.2.1 30 _ rfl rfl Try.underlying30 I_impl_Shared) ⟨hM.below, hM.blk 3 rfl, hM.blk 2 rfl⟩ ?_
  go_frame
  refine wa_take 1 (some 20) (.agg (HD.cells { h with at_ := 2, prev := 0, cur := 0, side := 1 }).toArray) rfl rfl (by kernel_rfl) (by kernel_rfl) (by kernel_rfl) (fun _ _ _ h => h) (by kernel_rfl) (fun w hS => r_load hS.2.2 40 _ rfl rfl Try.underlying40 I_impl_Hand) ⟨hM.below, hM.blk 3 rfl, hM.blk 2 rfl⟩ ?_
  go_frame
  refine wa_one 2 (by kernel_rfl) ?_
  refine wo_store rfl (by kernel_rfl) hM 1 rfl 30 _ _ rfl rfl (by kernel_rfl) [.slice (some ⟨ga0, 0, none⟩) l.length k1, .slice (some ⟨gb0, 0, none⟩) c.length k2] (by kernel_rfl) I_impl_Shared rfl rfl ?_
  clear hM; intro W10 hM
  refine ⟨⟨hM.below, hM.blk 3 rfl, hM.blk 2 rfl⟩, ?_⟩
  refine wa_one 3 (by kernel_rfl) ?_
  refine wo_store rfl (by kernel_rfl) hM 0 rfl 40 _ _ rfl rfl (by kernel_rfl) (HD.cells { h with at_ := 2, prev := 0, cur := 0, side := 1 }) (by kernel_rfl) I_impl_Hand rfl (hd_one' _) ?_
  clear hM; intro W11 hM
  refine ⟨⟨hM.below, hM.blk 3 rfl, hM.blk 2 rfl⟩, ?_⟩
  refine wa_done (by kernel_rfl) ?_
  refine cn4 _ _ ?_
  clear cn4
  refine wp_ret ?_
  exact bodyPost_ret (ret_sh (p := 6) (q := 7) rfl hM 1 0 rfl rfl rfl rfl Try.underlying30 Try.underlying40 I_impl_Shared I_impl_Hand) rfl ⟨rfl, hM.sub (fun i => i + 4) (fun i b hb => hb) (fun i j _ _ e => by omega)⟩

set_option maxRecDepth 100000 in
set_option maxHeartbeats 4000000 in
theorem impl_walkDown (l : List ND) (c : List Int) (task : Int) (h : HD) (hok : canB l c task h = true) : TouchF 61 l c task h (c, downH l h) := by
  intro ga0 k1 p1 gb0 k2 p2 L w00 w0 hM0 q1 q2 q3 q4
  obtain ⟨hl0, hc0, hl1, hc1, hat, kt, hkt0, hkt, hcnt, hnodes, qnp, qnc, qnu, qnx, qnw⟩ := ok_facts (can_ok hok)
  have ht : task.toNat = kt := by omega
  have hl30 := (nodes_some hnodes).2
  have hc1' : cnt1 c task = c.set kt (atI c kt + 1) := by simp [cnt1, ht]
  obtain ⟨knp, ⟨npk, npv, npl, npr, npo, npg, nplt, nprt⟩, hknp, npe, hlnp, hnnp⟩ := nd_at qnp
  have tnp : h.prev.toNat = knp := by omega
  have qk : hasB l (kidF h.side (nd l h.prev).l (nd l h.prev).r) = true := kid_has hnodes qnp _
  rw [npe] at qk
  obtain ⟨kc, ⟨nck, ncv, ncl, ncr, nco, ncg, nclt, ncrt⟩, hkc, nce, hlc, hnc⟩ := nd_at qk
  unfold HD.val
  have hM := hM0
  go_enter Try.func61, Try.ntmps61
  refine wp_seq_k fun Kn1 cn1 => ?_
  refine wl_region ?_
  refine wl_box (by kernel_rfl) hM 30 _ rfl [.slice (some ⟨ga0, 0, none⟩) l.length k1, .slice (some ⟨gb0, 0, none⟩) c.length k2] rfl ?_
  clear hM; intro g1 W1 hM
  go_frame
  refine wl_box (by kernel_rfl) hM 40 _ rfl (HD.cells h) rfl ?_
  clear hM; intro g2 W2 hM
  go_frame
  refine wl_alloc (by kernel_rfl) hM 30 rfl [.slice none 0 0, .slice none 0 0] Z_impl_Shared ?_
  clear hM; intro g3 W3 hM
  go_frame
  refine wl_alloc (by kernel_rfl) hM 40 rfl (HD.cells HD.zero) Z_impl_Hand ?_
  clear hM; intro g4 W4 hM
  go_frame
  refine wl_nil ?_
  refine cn1 _ _ ?_
  clear cn1
  refine wp_seq_k fun Kn2 cn2 => ?_
  -- region 1, drawn: one after the other
  refine wa_join (fun act W => ∃ (jj : Nat), act = ⟨#[.agg #[.slice (some ⟨ga0, 0, none⟩) l.length k1, .slice (some ⟨gb0, 0, none⟩) c.length k2], .int .i64 task, .agg (HD.cells h).toArray, .pointer (some ⟨g1, 0, none⟩), undef, .pointer (some ⟨g2, 0, none⟩), .pointer (some ⟨g3, 0, none⟩), .pointer (some ⟨g4, 0, none⟩), undef, .pointer (some ⟨g1, 0, none⟩), .slice (some ⟨ga0, 0, none⟩) l.length k1, .pointer (some ⟨g2, 4, none⟩), .int .i64 h.prev, .pointer (some ⟨ga0, 0 + knp * 8, none⟩), .agg (ND.cells ⟨npk, npv, npl, npr, npo, npg, nplt, nprt⟩).toArray, .pointer (some ⟨g2, 6, none⟩), .int .i64 h.side, .int .i64 (kidF h.side npl npr), .pointer (some ⟨g2, 5, none⟩), undef, undef, undef, undef, undef, undef, undef, undef, undef, undef, undef, undef, undef, undef, undef, undef, undef, undef, undef, undef, undef, undef, undef, undef, undef, undef, undef, undef, undef, undef, undef], []⟩ ∧ Mem w00 W ((g4, 40, (HD.cells HD.zero)) :: (g3, 30, [.slice none 0 0, .slice none 0 0]) :: (g2, 40, (HD.cells { h with cur := (kidF h.side npl npr) })) :: (g1, 30, [.slice (some ⟨ga0, 0, none⟩) l.length k1, .slice (some ⟨gb0, 0, none⟩) c.length k2]) :: (ga0, 60, (cellsOf l ++ p1)) :: (gb0, 2, (cellsI c ++ p2)) :: L)) ?_ ?_
  clear hM
  rintro act W7 ⟨jj, rfl, hM⟩
  refine cn2 _ _ ?_
  clear cn2
  refine wp_seq_k fun Kn3 cn3 => ?_
  refine wl_region ?_
  refine wl_pure (by kernel_rfl) (.pointer (some ⟨g1, 0, none⟩)) (by kernel_rfl) ?_
  go_frame
  refine wl_loadc (by kernel_rfl) hM 3 rfl 28 _ rfl 0 rfl Try.underlying28 rfl rfl ?_
  go_frame
  refine wl_pure (by kernel_rfl) (.pointer (some ⟨g2, 5, none⟩)) (by kernel_rfl) ?_
  go_frame
  refine wl_loadc (by kernel_rfl) hM 2 rfl 2 _ rfl 5 rfl Try.underlying2 rfl rfl ?_
  go_frame
  refine wl_index (by kernel_rfl) 28 60 _ _ rfl ga0 0 l.length k1 8 kc rfl rfl hkc (by omega) Try.underlying28 I_impl_Node ?_
  go_frame
  refine wl_part (by kernel_rfl) hM 4 rfl 60 _ rfl (0 + kc * 8) rfl Try.underlying60 (ND.cells ⟨nck, ncv, ncl, ncr, nco, ncg, nclt, ncrt⟩) I_impl_Node (node_part hnc) ?_
  go_frame
  refine wl_alloc (by kernel_rfl) hM 60 rfl [.int .i64 0, .int .i64 0, .int .i64 0, .int .i64 0, .int .i64 0, .bool false, .int .i64 0, .int .i64 0] Z_impl_Node ?_
  clear hM; intro g5 W8 hM
  go_frame
  refine wl_store (by kernel_rfl) hM 0 rfl 60 _ _ rfl rfl rfl (ND.cells ⟨nck, ncv, ncl, ncr, nco, ncg, nclt, ncrt⟩) rfl I_impl_Node rfl (nd_one _) ?_
  clear hM; intro W9 hM
  refine wl_nil ?_
  refine cn3 _ _ ?_
  clear cn3
  refine wp_seq_k fun Kn4 cn4 => ?_
  refine wp_seq_k fun Kn5 cn5 => ?_
  refine wl_region ?_
  refine wl_pure (by kernel_rfl) (.pointer (some ⟨g2, 5, none⟩)) (by kernel_rfl) ?_
  go_frame
  refine wl_loadc (by kernel_rfl) hM 3 rfl 2 _ rfl 5 rfl Try.underlying2 rfl rfl ?_
  go_frame
  refine wl_pure (by kernel_rfl) (.bool ((kidF h.side npl npr) == 0)) (by kernel_rfl) ?_
  go_frame
  refine wl_pure (by kernel_rfl) (.bool ((kidF h.side npl npr) == 0)) (by kernel_rfl) ?_
  go_frame
  rcases Bool.eq_false_or_eq_true (((kidF h.side npl npr) == 0)) with hx2 | hx2
  rw [hx2]
  refine wl_skip (by kernel_rfl) ?_
  go_frame
  refine wl_skip (by kernel_rfl) ?_
  go_frame
  refine wl_skip (by kernel_rfl) ?_
  go_frame
  refine wl_skip (by kernel_rfl) ?_
  go_frame
  refine wl_skip (by kernel_rfl) ?_
  go_frame
  refine wl_skip (by kernel_rfl) ?_
  go_frame
  refine wl_pure (by kernel_rfl) (.bool true) (by kernel_rfl) ?_
  go_frame
  refine wl_nil ?_
  refine cn5 _ _ ?_
  clear cn5
  refine wp_cond_true rfl ?_
  refine wp_seq_k fun Kn6 cn6 => ?_
  refine wl_region ?_
  refine wl_pure (by kernel_rfl) (.pointer (some ⟨g2, 0, none⟩)) (by kernel_rfl) ?_
  go_frame
  refine wl_storec (by kernel_rfl) hM 3 rfl 2 _ _ rfl rfl 0 rfl (.int .i64 3) rfl rfl rfl I_int64 (by simp [HD.cells]) ?_
  clear hM; intro W10 hM
  refine wl_nil ?_
  refine cn6 _ _ ?_
  clear cn6
  refine wp_seq_k fun Kn7 cn7 => ?_
  -- region 5, drawn: one after the other
  refine wa_start (fun w => Below w00.heap.size w00 w ∧ Blk w g1 30 [.slice (some ⟨ga0, 0, none⟩) l.length k1, .slice (some ⟨gb0, 0, none⟩) c.length k2] ∧ Blk w g2 40 (HD.cells { h with cur := (kidF h.side npl npr), at_ := 3 })) 4 rfl (by kernel_rfl) ?_
  replace hM := hM.drew
  refine wa_take 0 (some 37) (.agg #[.slice (some ⟨ga0, 0, none⟩) l.length k1, .slice (some ⟨gb0, 0, none⟩) c.length k2]) rfl rfl (by kernel_rfl) (by kernel_rfl) (by kernel_rfl) (fun _ _ _ h => h) (by kernel_rfl) (fun w hS => r_load hS.2.1 30 _ rfl rfl Try.underlying30 I_impl_Shared) ⟨hM.below, hM.blk 4 rfl, hM.blk 3 rfl⟩ ?_
  go_frame
  refine wa_take 1 (some 38) (.agg (HD.cells { h with cur := (kidF h.side npl npr), at_ := 3 }).toArray) rfl rfl (by kernel_rfl) (by kernel_rfl) (by kernel_rfl) (fun _ _ _ h => h) (by kernel_rfl) (fun w hS => r_load hS.2.2 40 _ rfl rfl Try.underlying40 I_impl_Hand) ⟨hM.below, hM.blk 4 rfl, hM.blk 3 rfl⟩ ?_
  go_frame
  refine wa_one 2 (by kernel_rfl) ?_
  refine wo_store rfl (by kernel_rfl) hM 2 rfl 30 _ _ rfl rfl (by kernel_rfl) [.slice (some ⟨ga0, 0, none⟩) l.length k1, .slice (some ⟨gb0, 0, none⟩) c.length k2] (by kernel_rfl) I_impl_Shared rfl rfl ?_
  clear hM; intro W11 hM
  refine ⟨⟨hM.below, hM.blk 4 rfl, hM.blk 3 rfl⟩, ?_⟩
  refine wa_one 3 (by kernel_rfl) ?_
  refine wo_store rfl (by kernel_rfl) hM 1 rfl 40 _ _ rfl rfl (by kernel_rfl) (HD.cells { h with cur := (kidF h.side npl npr), at_ := 3 }) (by kernel_rfl) I_impl_Hand rfl (hd_one' _) ?_
  clear hM; intro W12 hM
  refine ⟨⟨hM.below, hM.blk 4 rfl, hM.blk 3 rfl⟩, ?_⟩
  refine wa_done (by kernel_rfl) ?_
  refine cn7 _ _ ?_
  clear cn7
  refine wp_ret ?_
  simp only [Exit.then, Exit.inBlock]
  rw [show (downH l h : HD) = { h with cur := (kidF h.side npl npr), at_ := 3 } from by simp [downH, hx2, npe, nce]]
  exact bodyPost_ret (ret_sh (p := 6) (q := 7) rfl hM 2 1 rfl rfl rfl rfl Try.underlying30 Try.underlying40 I_impl_Shared I_impl_Hand) rfl ⟨rfl, hM.sub (fun i => i + 5) (fun i b hb => hb) (fun i j _ _ e => by omega)⟩
  rw [hx2]
  refine wl_pure (by kernel_rfl) (.pointer (some ⟨g5, 0, none⟩)) (by kernel_rfl) ?_
  go_frame
  refine wl_loadc (by kernel_rfl) hM 0 rfl 2 _ rfl 0 rfl Try.underlying2 rfl rfl ?_
  go_frame
  refine wl_pure (by kernel_rfl) (.pointer (some ⟨g2, 1, none⟩)) (by kernel_rfl) ?_
  go_frame
  refine wl_pure (by kernel_rfl) (.pointer (some ⟨g2, 2, none⟩)) (by kernel_rfl) ?_
  go_frame
  refine wl_loadc (by kernel_rfl) hM 3 rfl 2 _ rfl 2 rfl Try.underlying2 rfl rfl ?_
  go_frame
  refine wl_pure (by kernel_rfl) (.bool (nck == h.k)) (by kernel_rfl) ?_
  go_frame
  refine wl_pure (by kernel_rfl) (.bool (nck == h.k)) (by kernel_rfl) ?_
  go_frame
  refine wl_nil ?_
  refine cn5 _ _ ?_
  clear cn5
  rcases Bool.eq_false_or_eq_true ((nck == h.k)) with hx3 | hx3
  rw [hx3]
  refine wp_cond_true rfl ?_
  refine wp_seq_k fun Kn6 cn6 => ?_
  refine wl_region ?_
  refine wl_pure (by kernel_rfl) (.pointer (some ⟨g2, 0, none⟩)) (by kernel_rfl) ?_
  go_frame
  refine wl_storec (by kernel_rfl) hM 3 rfl 2 _ _ rfl rfl 0 rfl (.int .i64 3) rfl rfl rfl I_int64 (by simp [HD.cells]) ?_
  clear hM; intro W10 hM
  refine wl_nil ?_
  refine cn6 _ _ ?_
  clear cn6
  refine wp_seq_k fun Kn7 cn7 => ?_
  -- region 5, drawn: one after the other
  refine wa_start (fun w => Below w00.heap.size w00 w ∧ Blk w g1 30 [.slice (some ⟨ga0, 0, none⟩) l.length k1, .slice (some ⟨gb0, 0, none⟩) c.length k2] ∧ Blk w g2 40 (HD.cells { h with cur := (kidF h.side npl npr), at_ := 3 })) 4 rfl (by kernel_rfl) ?_
  replace hM := hM.drew
  refine wa_take 0 (some 37) (.agg #[.slice (some ⟨ga0, 0, none⟩) l.length k1, .slice (some ⟨gb0, 0, none⟩) c.length k2]) rfl rfl (by kernel_rfl) (by kernel_rfl) (by kernel_rfl) (fun _ _ _ h => h) (by kernel_rfl) (fun w hS => r_load hS.2.1 30 _ rfl rfl Try.underlying30 I_impl_Shared) ⟨hM.below, hM.blk 4 rfl, hM.blk 3 rfl⟩ ?_
  go_frame
  refine wa_take 1 (some 38) (.agg (HD.cells { h with cur := (kidF h.side npl npr), at_ := 3 }).toArray) rfl rfl (by kernel_rfl) (by kernel_rfl) (by kernel_rfl) (fun _ _ _ h => h) (by kernel_rfl) (fun w hS => r_load hS.2.2 40 _ rfl rfl Try.underlying40 I_impl_Hand) ⟨hM.below, hM.blk 4 rfl, hM.blk 3 rfl⟩ ?_
  go_frame
  refine wa_one 2 (by kernel_rfl) ?_
  refine wo_store rfl (by kernel_rfl) hM 2 rfl 30 _ _ rfl rfl (by kernel_rfl) [.slice (some ⟨ga0, 0, none⟩) l.length k1, .slice (some ⟨gb0, 0, none⟩) c.length k2] (by kernel_rfl) I_impl_Shared rfl rfl ?_
  clear hM; intro W11 hM
  refine ⟨⟨hM.below, hM.blk 4 rfl, hM.blk 3 rfl⟩, ?_⟩
  refine wa_one 3 (by kernel_rfl) ?_
  refine wo_store rfl (by kernel_rfl) hM 1 rfl 40 _ _ rfl rfl (by kernel_rfl) (HD.cells { h with cur := (kidF h.side npl npr), at_ := 3 }) (by kernel_rfl) I_impl_Hand rfl (hd_one' _) ?_
  clear hM; intro W12 hM
  refine ⟨⟨hM.below, hM.blk 4 rfl, hM.blk 3 rfl⟩, ?_⟩
  refine wa_done (by kernel_rfl) ?_
  refine cn7 _ _ ?_
  clear cn7
  refine wp_ret ?_
  simp only [Exit.then, Exit.inBlock]
  rw [show (downH l h : HD) = { h with cur := (kidF h.side npl npr), at_ := 3 } from by simp [downH, hx2, hx3, npe, nce]]
  exact bodyPost_ret (ret_sh (p := 6) (q := 7) rfl hM 2 1 rfl rfl rfl rfl Try.underlying30 Try.underlying40 I_impl_Shared I_impl_Hand) rfl ⟨rfl, hM.sub (fun i => i + 5) (fun i b hb => hb) (fun i j _ _ e => by omega)⟩
  rw [hx3]
  refine wp_cond_false rfl ?_
  refine wp_skip ?_
  refine cn4 _ _ ?_
  clear cn4
  refine wp_seq_k fun Kn6 cn6 => ?_
  -- region 6, drawn: one after the other
  refine wa_join (fun act W => ∃ (jj : Nat), act = ⟨#[.agg #[.slice (some ⟨ga0, 0, none⟩) l.length k1, .slice (some ⟨gb0, 0, none⟩) c.length k2], .int .i64 task, .agg (HD.cells h).toArray, .pointer (some ⟨g1, 0, none⟩), undef, .pointer (some ⟨g2, 0, none⟩), .pointer (some ⟨g3, 0, none⟩), .pointer (some ⟨g4, 0, none⟩), .pointer (some ⟨g5, 0, none⟩), .pointer (some ⟨g1, 0, none⟩), .slice (some ⟨ga0, 0, none⟩) l.length k1, .pointer (some ⟨g2, 4, none⟩), .int .i64 h.prev, .pointer (some ⟨ga0, 0 + knp * 8, none⟩), .agg (ND.cells ⟨npk, npv, npl, npr, npo, npg, nplt, nprt⟩).toArray, .pointer (some ⟨g2, 6, none⟩), .int .i64 h.side, .int .i64 (kidF h.side npl npr), .pointer (some ⟨g2, 5, none⟩), .pointer (some ⟨g1, 0, none⟩), .slice (some ⟨ga0, 0, none⟩) l.length k1, .pointer (some ⟨g2, 5, none⟩), .int .i64 (kidF h.side npl npr), .pointer (some ⟨ga0, 0 + kc * 8, none⟩), .agg (ND.cells ⟨nck, ncv, ncl, ncr, nco, ncg, nclt, ncrt⟩).toArray, .pointer (some ⟨g2, 5, none⟩), .int .i64 (kidF h.side npl npr), .bool false, .bool false, .pointer (some ⟨g5, 0, none⟩), .int .i64 nck, .pointer (some ⟨g2, 1, none⟩), .pointer (some ⟨g2, 2, none⟩), .int .i64 h.k, .bool false, .bool false, undef, undef, undef, .pointer (some ⟨g2, 5, none⟩), .int .i64 (kidF h.side npl npr), .agg (ND.cells ⟨nck, ncv, ncl, ncr, nco, ncg, nclt, ncrt⟩).toArray, .pointer (some ⟨g2, 1, none⟩), .pointer (some ⟨g2, 2, none⟩), .int .i64 h.k, .int .i64 (sideF h.k nck), .pointer (some ⟨g2, 4, none⟩), .pointer (some ⟨g2, 6, none⟩), undef, undef], []⟩ ∧ Mem w00 W ((g5, 60, (ND.cells ⟨nck, ncv, ncl, ncr, nco, ncg, nclt, ncrt⟩)) :: (g4, 40, (HD.cells HD.zero)) :: (g3, 30, [.slice none 0 0, .slice none 0 0]) :: (g2, 40, (HD.cells { h with cur := (kidF h.side npl npr), prev := (kidF h.side npl npr), side := (sideF h.k nck) })) :: (g1, 30, [.slice (some ⟨ga0, 0, none⟩) l.length k1, .slice (some ⟨gb0, 0, none⟩) c.length k2]) :: (ga0, 60, (cellsOf l ++ p1)) :: (gb0, 2, (cellsI c ++ p2)) :: L)) ?_ ?_
  clear hM
  rintro act W13 ⟨jj, rfl, hM⟩
  refine cn6 _ _ ?_
  clear cn6
  refine wp_seq_k fun Kn7 cn7 => ?_
  -- region 7, drawn: one after the other
  refine wa_start (fun w => Below w00.heap.size w00 w ∧ Blk w g1 30 [.slice (some ⟨ga0, 0, none⟩) l.length k1, .slice (some ⟨gb0, 0, none⟩) c.length k2] ∧ Blk w g2 40 (HD.cells { h with cur := (kidF h.side npl npr), prev := (kidF h.side npl npr), side := (sideF h.k nck) })) 4 rfl (by kernel_rfl) ?_
  replace hM := hM.drew
  refine wa_take 0 (some 48) (.agg #[.slice (some ⟨ga0, 0, none⟩) l.length k1, .slice (some ⟨gb0, 0, none⟩) c.length k2]) rfl rfl (by kernel_rfl) (by kernel_rfl) (by kernel_rfl) (fun _ _ _ h => h) (by kernel_rfl) (fun w hS => r_load hS.2.1 30 _ rfl rfl Try.underlying30 I_impl_Shared) ⟨hM.below, hM.blk 4 rfl, hM.blk 3 rfl⟩ ?_
  go_frame
  refine wa_take 1 (some 49) (.agg (HD.cells { h with cur := (kidF h.side npl npr), prev := (kidF h.side npl npr), side := (sideF h.k nck) }).toArray) rfl rfl (by kernel_rfl) (by kernel_rfl) (by kernel_rfl) (fun _ _ _ h => h) (by kernel_rfl) (fun w hS => r_load hS.2.2 40 _ rfl rfl Try.underlying40 I_impl_Hand) ⟨hM.below, hM.blk 4 rfl, hM.blk 3 rfl⟩ ?_
  go_frame
  refine wa_one 2 (by kernel_rfl) ?_
  refine wo_store rfl (by kernel_rfl) hM 2 rfl 30 _ _ rfl rfl (by kernel_rfl) [.slice (some ⟨ga0, 0, none⟩) l.length k1, .slice (some ⟨gb0, 0, none⟩) c.length k2] (by kernel_rfl) I_impl_Shared rfl rfl ?_
  clear hM; intro W14 hM
  refine ⟨⟨hM.below, hM.blk 4 rfl, hM.blk 3 rfl⟩, ?_⟩
  refine wa_one 3 (by kernel_rfl) ?_
  refine wo_store rfl (by kernel_rfl) hM 1 rfl 40 _ _ rfl rfl (by kernel_rfl) (HD.cells { h with cur := (kidF h.side npl npr), prev := (kidF h.side npl npr), side := (sideF h.k nck) }) (by kernel_rfl) I_impl_Hand rfl (hd_one' _) ?_
  clear hM; intro W15 hM
  refine ⟨⟨hM.below, hM.blk 4 rfl, hM.blk 3 rfl⟩, ?_⟩
  refine wa_done (by kernel_rfl) ?_
  refine cn7 _ _ ?_
  clear cn7
  refine wp_ret ?_
  rw [show (downH l h : HD) = { h with cur := (kidF h.side npl npr), prev := (kidF h.side npl npr), side := (sideF h.k nck) } from by simp [downH, hx2, hx3, npe, nce]]
  exact bodyPost_ret (ret_sh (p := 6) (q := 7) rfl hM 2 1 rfl rfl rfl rfl Try.underlying30 Try.underlying40 I_impl_Shared I_impl_Hand) rfl ⟨rfl, hM.sub (fun i => i + 5) (fun i b hb => hb) (fun i j _ _ e => by omega)⟩
  refine wa_start (fun w => Below w00.heap.size w00 w ∧ Blk w g5 60 (ND.cells ⟨nck, ncv, ncl, ncr, nco, ncg, nclt, ncrt⟩)) 11 rfl (by kernel_rfl) ?_
  replace hM := hM.drew
  refine wa_take 0 (some 39) (.pointer (some ⟨g2, 5, none⟩)) rfl rfl (by kernel_rfl) (by kernel_rfl) (by kernel_rfl) (fun _ _ _ h => h) (by kernel_rfl) (fun w hS => by kernel_rfl) ⟨hM.below, hM.blk 0 rfl⟩ ?_
  go_frame
  refine wa_take 2 (some 41) (.agg (ND.cells ⟨nck, ncv, ncl, ncr, nco, ncg, nclt, ncrt⟩).toArray) rfl rfl (by kernel_rfl) (by kernel_rfl) (by kernel_rfl) (fun _ _ _ h => h) (by kernel_rfl) (fun w hS => r_load hS.2 60 _ rfl rfl Try.underlying60 I_impl_Node) ⟨hM.below, hM.blk 0 rfl⟩ ?_
  go_frame
  refine wa_take 3 (some 42) (.pointer (some ⟨g2, 1, none⟩)) rfl rfl (by kernel_rfl) (by kernel_rfl) (by kernel_rfl) (fun _ _ _ h => h) (by kernel_rfl) (fun w hS => by kernel_rfl) ⟨hM.below, hM.blk 0 rfl⟩ ?_
  go_frame
  refine wa_take 4 (some 43) (.pointer (some ⟨g2, 2, none⟩)) rfl rfl (by kernel_rfl) (by kernel_rfl) (by kernel_rfl) (fun _ _ _ h => h) (by kernel_rfl) (fun w hS => by kernel_rfl) ⟨hM.below, hM.blk 0 rfl⟩ ?_
  go_frame
  refine wa_two 1 5 (by kernel_rfl) ?_ ?_
  refine wo_pure (some 40) rfl rfl (by kernel_rfl) (.int .i64 (kidF h.side npl npr)) (r_loadc (hM.blk 3 rfl) 2 _ rfl 5 rfl Try.underlying2 rfl rfl) ⟨hM.below, hM.blk 0 rfl⟩ ?_
  go_frame
  refine wa_one 5 (by kernel_rfl) ?_
  refine wo_pure (some 44) rfl rfl (by kernel_rfl) (.int .i64 h.k) (r_loadc (hM.blk 3 rfl) 2 _ rfl 2 rfl Try.underlying2 rfl rfl) ⟨hM.below, hM.blk 0 rfl⟩ ?_
  go_frame
  refine wa_take 7 (some 46) (.pointer (some ⟨g2, 4, none⟩)) rfl rfl (by kernel_rfl) (by kernel_rfl) (by kernel_rfl) (fun _ _ _ h => h) (by kernel_rfl) (fun w hS => by kernel_rfl) ⟨hM.below, hM.blk 0 rfl⟩ ?_
  go_frame
  refine wa_one 6 (by kernel_rfl) ?_
  refine wo_call (some 45) rfl rfl (by kernel_rfl) 77 #[.agg (ND.cells ⟨nck, ncv, ncl, ncr, nco, ncg, nclt, ncrt⟩).toArray, .int .i64 h.k] (by kernel_rfl) (impl_SideOf nck ncv ncl ncr nco ncg nclt ncrt h.k _) ?_
  rintro e W10 ⟨rfl, hb⟩
  replace hM := hM.call hb
  refine ⟨_, rfl, ⟨hM.below, hM.blk 0 rfl⟩, ?_⟩
  go_frame
  refine wa_one 8 (by kernel_rfl) ?_
  refine wo_storec rfl (by kernel_rfl) hM 3 rfl 2 _ _ rfl rfl 4 (by kernel_rfl) (.int .i64 (kidF h.side npl npr)) (by kernel_rfl) rfl rfl I_int64 (by simp [HD.cells]) ?_
  clear hM; intro W11 hM
  refine ⟨⟨hM.below, hM.blk 0 rfl⟩, ?_⟩
  refine wa_take 9 (some 47) (.pointer (some ⟨g2, 6, none⟩)) rfl rfl (by kernel_rfl) (by kernel_rfl) (by kernel_rfl) (fun _ _ _ h => h) (by kernel_rfl) (fun w hS => by kernel_rfl) ⟨hM.below, hM.blk 0 rfl⟩ ?_
  go_frame
  refine wa_one 10 (by kernel_rfl) ?_
  refine wo_storec rfl (by kernel_rfl) hM 3 rfl 2 _ _ rfl rfl 6 (by kernel_rfl) (.int .i64 (sideF h.k nck)) (by kernel_rfl) rfl rfl I_int64 (by simp [HD.cells]) ?_
  clear hM; intro W12 hM
  refine ⟨⟨hM.below, hM.blk 0 rfl⟩, ?_⟩
  refine wa_doneJ (by kernel_rfl) ?_
  exact ⟨0, rfl, hM⟩
  refine wo_pure (some 44) rfl rfl (by kernel_rfl) (.int .i64 h.k) (r_loadc (hM.blk 3 rfl) 2 _ rfl 2 rfl Try.underlying2 rfl rfl) ⟨hM.below, hM.blk 0 rfl⟩ ?_
  go_frame
  refine wa_two 1 6 (by kernel_rfl) ?_ ?_
  refine wo_pure (some 40) rfl rfl (by kernel_rfl) (.int .i64 (kidF h.side npl npr)) (r_loadc (hM.blk 3 rfl) 2 _ rfl 5 rfl Try.underlying2 rfl rfl) ⟨hM.below, hM.blk 0 rfl⟩ ?_
  go_frame
  refine wa_take 7 (some 46) (.pointer (some ⟨g2, 4, none⟩)) rfl rfl (by kernel_rfl) (by kernel_rfl) (by kernel_rfl) (fun _ _ _ h => h) (by kernel_rfl) (fun w hS => by kernel_rfl) ⟨hM.below, hM.blk 0 rfl⟩ ?_
  go_frame
  refine wa_one 6 (by kernel_rfl) ?_
  refine wo_call (some 45) rfl rfl (by kernel_rfl) 77 #[.agg (ND.cells ⟨nck, ncv, ncl, ncr, nco, ncg, nclt, ncrt⟩).toArray, .int .i64 h.k] (by kernel_rfl) (impl_SideOf nck ncv ncl ncr nco ncg nclt ncrt h.k _) ?_
  rintro e W10 ⟨rfl, hb⟩
  replace hM := hM.call hb
  refine ⟨_, rfl, ⟨hM.below, hM.blk 0 rfl⟩, ?_⟩
  go_frame
  refine wa_one 8 (by kernel_rfl) ?_
  refine wo_storec rfl (by kernel_rfl) hM 3 rfl 2 _ _ rfl rfl 4 (by kernel_rfl) (.int .i64 (kidF h.side npl npr)) (by kernel_rfl) rfl rfl I_int64 (by simp [HD.cells]) ?_
  clear hM; intro W11 hM
  refine ⟨⟨hM.below, hM.blk 0 rfl⟩, ?_⟩
  refine wa_take 9 (some 47) (.pointer (some ⟨g2, 6, none⟩)) rfl rfl (by kernel_rfl) (by kernel_rfl) (by kernel_rfl) (fun _ _ _ h => h) (by kernel_rfl) (fun w hS => by kernel_rfl) ⟨hM.below, hM.blk 0 rfl⟩ ?_
  go_frame
  refine wa_one 10 (by kernel_rfl) ?_
  refine wo_storec rfl (by kernel_rfl) hM 3 rfl 2 _ _ rfl rfl 6 (by kernel_rfl) (.int .i64 (sideF h.k nck)) (by kernel_rfl) rfl rfl I_int64 (by simp [HD.cells]) ?_
  clear hM; intro W12 hM
  refine ⟨⟨hM.below, hM.blk 0 rfl⟩, ?_⟩
  refine wa_doneJ (by kernel_rfl) ?_
  exact ⟨0, rfl, hM⟩
  refine wo_call (some 45) rfl rfl (by kernel_rfl) 77 #[.agg (ND.cells ⟨nck, ncv, ncl, ncr, nco, ncg, nclt, ncrt⟩).toArray, .int .i64 h.k] (by kernel_rfl) (impl_SideOf nck ncv ncl ncr nco ncg nclt ncrt h.k _) ?_
  rintro e W10 ⟨rfl, hb⟩
  replace hM := hM.call hb
  refine ⟨_, rfl, ⟨hM.below, hM.blk 0 rfl⟩, ?_⟩
  go_frame
  refine wa_one 1 (by kernel_rfl) ?_
  refine wo_pure (some 40) rfl rfl (by kernel_rfl) (.int .i64 (kidF h.side npl npr)) (r_loadc (hM.blk 3 rfl) 2 _ rfl 5 rfl Try.underlying2 rfl rfl) ⟨hM.below, hM.blk 0 rfl⟩ ?_
  go_frame
  refine wa_take 7 (some 46) (.pointer (some ⟨g2, 4, none⟩)) rfl rfl (by kernel_rfl) (by kernel_rfl) (by kernel_rfl) (fun _ _ _ h => h) (by kernel_rfl) (fun w hS => by kernel_rfl) ⟨hM.below, hM.blk 0 rfl⟩ ?_
  go_frame
  refine wa_one 8 (by kernel_rfl) ?_
  refine wo_storec rfl (by kernel_rfl) hM 3 rfl 2 _ _ rfl rfl 4 (by kernel_rfl) (.int .i64 (kidF h.side npl npr)) (by kernel_rfl) rfl rfl I_int64 (by simp [HD.cells]) ?_
  clear hM; intro W11 hM
  refine ⟨⟨hM.below, hM.blk 0 rfl⟩, ?_⟩
  refine wa_take 9 (some 47) (.pointer (some ⟨g2, 6, none⟩)) rfl rfl (by kernel_rfl) (by kernel_rfl) (by kernel_rfl) (fun _ _ _ h => h) (by kernel_rfl) (fun w hS => by kernel_rfl) ⟨hM.below, hM.blk 0 rfl⟩ ?_
  go_frame
  refine wa_one 10 (by kernel_rfl) ?_
  refine wo_storec rfl (by kernel_rfl) hM 3 rfl 2 _ _ rfl rfl 6 (by kernel_rfl) (.int .i64 (sideF h.k nck)) (by kernel_rfl) rfl rfl I_int64 (by simp [HD.cells]) ?_
  clear hM; intro W12 hM
  refine ⟨⟨hM.below, hM.blk 0 rfl⟩, ?_⟩
  refine wa_doneJ (by kernel_rfl) ?_
  exact ⟨0, rfl, hM⟩
  refine wa_start (fun w => Below w00.heap.size w00 w ∧ Blk w g1 30 [.slice (some ⟨ga0, 0, none⟩) l.length k1, .slice (some ⟨gb0, 0, none⟩) c.length k2]) 11 rfl (by kernel_rfl) ?_
  replace hM := hM.drew
  refine wa_take 0 (some 9) (.pointer (some ⟨g1, 0, none⟩)) rfl rfl (by kernel_rfl) (by kernel_rfl) (by kernel_rfl) (fun _ _ _ h => h) (by kernel_rfl) (fun w hS => by kernel_rfl) ⟨hM.below, hM.blk 3 rfl⟩ ?_
  go_frame
  refine wa_take 1 (some 10) (.slice (some ⟨ga0, 0, none⟩) l.length k1) rfl rfl (by kernel_rfl) (by kernel_rfl) (by kernel_rfl) (fun _ _ _ h => h) (by kernel_rfl) (fun w hS => r_loadc hS.2 28 _ rfl 0 rfl Try.underlying28 rfl rfl) ⟨hM.below, hM.blk 3 rfl⟩ ?_
  go_frame
  refine wa_take 2 (some 11) (.pointer (some ⟨g2, 4, none⟩)) rfl rfl (by kernel_rfl) (by kernel_rfl) (by kernel_rfl) (fun _ _ _ h => h) (by kernel_rfl) (fun w hS => by kernel_rfl) ⟨hM.below, hM.blk 3 rfl⟩ ?_
  go_frame
  refine wa_take 6 (some 15) (.pointer (some ⟨g2, 6, none⟩)) rfl rfl (by kernel_rfl) (by kernel_rfl) (by kernel_rfl) (fun _ _ _ h => h) (by kernel_rfl) (fun w hS => by kernel_rfl) ⟨hM.below, hM.blk 3 rfl⟩ ?_
  go_frame
  refine wa_two 3 7 (by kernel_rfl) ?_ ?_
  refine wo_pure (some 12) rfl rfl (by kernel_rfl) (.int .i64 h.prev) (r_loadc (hM.blk 2 rfl) 2 _ rfl 4 rfl Try.underlying2 rfl rfl) ⟨hM.below, hM.blk 3 rfl⟩ ?_
  go_frame
  refine wa_take 4 (some 13) (.pointer (some ⟨ga0, 0 + knp * 8, none⟩)) rfl rfl (by kernel_rfl) (by kernel_rfl) (by kernel_rfl) (fun _ _ _ h => h) (by kernel_rfl) (fun w hS => r_index 28 60 _ _ rfl ga0 0 l.length k1 8 knp rfl rfl hknp (by omega) Try.underlying28 I_impl_Node) ⟨hM.below, hM.blk 3 rfl⟩ ?_
  go_frame
  refine wa_two 5 7 (by kernel_rfl) ?_ ?_
  refine wo_pure (some 14) rfl rfl (by kernel_rfl) (.agg (ND.cells ⟨npk, npv, npl, npr, npo, npg, nplt, nprt⟩).toArray) (r_part (hM.blk 4 rfl) 60 _ rfl (0 + knp * 8) rfl Try.underlying60 (ND.cells ⟨npk, npv, npl, npr, npo, npg, nplt, nprt⟩) I_impl_Node (node_part hnnp)) ⟨hM.below, hM.blk 3 rfl⟩ ?_
  go_frame
  refine wa_one 7 (by kernel_rfl) ?_
  refine wo_pure (some 16) rfl rfl (by kernel_rfl) (.int .i64 h.side) (r_loadc (hM.blk 2 rfl) 2 _ rfl 6 rfl Try.underlying2 rfl rfl) ⟨hM.below, hM.blk 3 rfl⟩ ?_
  go_frame
  refine wa_one 8 (by kernel_rfl) ?_
  refine wo_call (some 17) rfl rfl (by kernel_rfl) 76 #[.agg (ND.cells ⟨npk, npv, npl, npr, npo, npg, nplt, nprt⟩).toArray, .int .i64 h.side] (by kernel_rfl) (impl_KidOf npk npv npl npr npo npg nplt nprt h.side _) ?_
  rintro e W5 ⟨rfl, hb⟩
  replace hM := hM.call hb
  refine ⟨_, rfl, ⟨hM.below, hM.blk 3 rfl⟩, ?_⟩
  go_frame
  refine wa_take 9 (some 18) (.pointer (some ⟨g2, 5, none⟩)) rfl rfl (by kernel_rfl) (by kernel_rfl) (by kernel_rfl) (fun _ _ _ h => h) (by kernel_rfl) (fun w hS => by kernel_rfl) ⟨hM.below, hM.blk 3 rfl⟩ ?_
  go_frame
  refine wa_one 10 (by kernel_rfl) ?_
  refine wo_storec rfl (by kernel_rfl) hM 2 rfl 2 _ _ rfl rfl 5 (by kernel_rfl) (.int .i64 (kidF h.side npl npr)) (by kernel_rfl) rfl rfl I_int64 (by simp [HD.cells]) ?_
  clear hM; intro W6 hM
  refine ⟨⟨hM.below, hM.blk 3 rfl⟩, ?_⟩
  refine wa_doneJ (by kernel_rfl) ?_
  exact ⟨0, rfl, hM⟩
  refine wo_pure (some 16) rfl rfl (by kernel_rfl) (.int .i64 h.side) (r_loadc (hM.blk 2 rfl) 2 _ rfl 6 rfl Try.underlying2 rfl rfl) ⟨hM.below, hM.blk 3 rfl⟩ ?_
  go_frame
  refine wa_one 5 (by kernel_rfl) ?_
  refine wo_pure (some 14) rfl rfl (by kernel_rfl) (.agg (ND.cells ⟨npk, npv, npl, npr, npo, npg, nplt, nprt⟩).toArray) (r_part (hM.blk 4 rfl) 60 _ rfl (0 + knp * 8) rfl Try.underlying60 (ND.cells ⟨npk, npv, npl, npr, npo, npg, nplt, nprt⟩) I_impl_Node (node_part hnnp)) ⟨hM.below, hM.blk 3 rfl⟩ ?_
  go_frame
  refine wa_one 8 (by kernel_rfl) ?_
  refine wo_call (some 17) rfl rfl (by kernel_rfl) 76 #[.agg (ND.cells ⟨npk, npv, npl, npr, npo, npg, nplt, nprt⟩).toArray, .int .i64 h.side] (by kernel_rfl) (impl_KidOf npk npv npl npr npo npg nplt nprt h.side _) ?_
  rintro e W5 ⟨rfl, hb⟩
  replace hM := hM.call hb
  refine ⟨_, rfl, ⟨hM.below, hM.blk 3 rfl⟩, ?_⟩
  go_frame
  refine wa_take 9 (some 18) (.pointer (some ⟨g2, 5, none⟩)) rfl rfl (by kernel_rfl) (by kernel_rfl) (by kernel_rfl) (fun _ _ _ h => h) (by kernel_rfl) (fun w hS => by kernel_rfl) ⟨hM.below, hM.blk 3 rfl⟩ ?_
  go_frame
  refine wa_one 10 (by kernel_rfl) ?_
  refine wo_storec rfl (by kernel_rfl) hM 2 rfl 2 _ _ rfl rfl 5 (by kernel_rfl) (.int .i64 (kidF h.side npl npr)) (by kernel_rfl) rfl rfl I_int64 (by simp [HD.cells]) ?_
  clear hM; intro W6 hM
  refine ⟨⟨hM.below, hM.blk 3 rfl⟩, ?_⟩
  refine wa_doneJ (by kernel_rfl) ?_
  exact ⟨0, rfl, hM⟩
  refine wo_pure (some 16) rfl rfl (by kernel_rfl) (.int .i64 h.side) (r_loadc (hM.blk 2 rfl) 2 _ rfl 6 rfl Try.underlying2 rfl rfl) ⟨hM.below, hM.blk 3 rfl⟩ ?_
  go_frame
  refine wa_one 3 (by kernel_rfl) ?_
  refine wo_pure (some 12) rfl rfl (by kernel_rfl) (.int .i64 h.prev) (r_loadc (hM.blk 2 rfl) 2 _ rfl 4 rfl Try.underlying2 rfl rfl) ⟨hM.below, hM.blk 3 rfl⟩ ?_
  go_frame
  refine wa_take 4 (some 13) (.pointer (some ⟨ga0, 0 + knp * 8, none⟩)) rfl rfl (by kernel_rfl) (by kernel_rfl) (by kernel_rfl) (fun _ _ _ h => h) (by kernel_rfl) (fun w hS => r_index 28 60 _ _ rfl ga0 0 l.length k1 8 knp rfl rfl hknp (by omega) Try.underlying28 I_impl_Node) ⟨hM.below, hM.blk 3 rfl⟩ ?_
  go_frame
  refine wa_one 5 (by kernel_rfl) ?_
  refine wo_pure (some 14) rfl rfl (by kernel_rfl) (.agg (ND.cells ⟨npk, npv, npl, npr, npo, npg, nplt, nprt⟩).toArray) (r_part (hM.blk 4 rfl) 60 _ rfl (0 + knp * 8) rfl Try.underlying60 (ND.cells ⟨npk, npv, npl, npr, npo, npg, nplt, nprt⟩) I_impl_Node (node_part hnnp)) ⟨hM.below, hM.blk 3 rfl⟩ ?_
  go_frame
  refine wa_one 8 (by kernel_rfl) ?_
  refine wo_call (some 17) rfl rfl (by kernel_rfl) 76 #[.agg (ND.cells ⟨npk, npv, npl, npr, npo, npg, nplt, nprt⟩).toArray, .int .i64 h.side] (by kernel_rfl) (impl_KidOf npk npv npl npr npo npg nplt nprt h.side _) ?_
  rintro e W5 ⟨rfl, hb⟩
  replace hM := hM.call hb
  refine ⟨_, rfl, ⟨hM.below, hM.blk 3 rfl⟩, ?_⟩
  go_frame
  refine wa_take 9 (some 18) (.pointer (some ⟨g2, 5, none⟩)) rfl rfl (by kernel_rfl) (by kernel_rfl) (by kernel_rfl) (fun _ _ _ h => h) (by kernel_rfl) (fun w hS => by kernel_rfl) ⟨hM.below, hM.blk 3 rfl⟩ ?_
  go_frame
  refine wa_one 10 (by kernel_rfl) ?_
  refine wo_storec rfl (by kernel_rfl) hM 2 rfl 2 _ _ rfl rfl 5 (by kernel_rfl) (.int .i64 (kidF h.side npl npr)) (by kernel_rfl) rfl rfl I_int64 (by simp [HD.cells]) ?_
  clear hM; intro W6 hM
  refine ⟨⟨hM.below, hM.blk 3 rfl⟩, ?_⟩
  refine wa_doneJ (by kernel_rfl) ?_
  exact ⟨0, rfl, hM⟩

set_option maxRecDepth 100000 in
set_option maxHeartbeats 4000000 in
theorem impl_readTag (l : List ND) (c : List Int) (task : Int) (h : HD) (hok : canB l c task h = true) : TouchF 62 l c task h (c, { h with at_ := 4, tag := kidF h.side (nd l h.prev).lt (nd l h.prev).rt }) := by
  intro ga0 k1 p1 gb0 k2 p2 L w00 w0 hM0 q1 q2 q3 q4
  obtain ⟨hl0, hc0, hl1, hc1, hat, kt, hkt0, hkt, hcnt, hnodes, qnp, qnc, qnu, qnx, qnw⟩ := ok_facts (can_ok hok)
  have ht : task.toNat = kt := by omega
  have hl30 := (nodes_some hnodes).2
  have hc1' : cnt1 c task = c.set kt (atI c kt + 1) := by simp [cnt1, ht]
  obtain ⟨knp, ⟨npk, npv, npl, npr, npo, npg, nplt, nprt⟩, hknp, npe, hlnp, hnnp⟩ := nd_at qnp
  have tnp : h.prev.toNat = knp := by omega
  unfold HD.val
  have hM := hM0
  go_enter Try.func62, Try.ntmps62
  refine wp_seq_k fun Kn1 cn1 => ?_
  refine wl_region ?_
  refine wl_box (by kernel_rfl) hM 30 _ rfl [.slice (some ⟨ga0, 0, none⟩) l.length k1, .slice (some ⟨gb0, 0, none⟩) c.length k2] rfl ?_
  clear hM; intro g1 W1 hM
  go_frame
  refine wl_box (by kernel_rfl) hM 40 _ rfl (HD.cells h) rfl ?_
  clear hM; intro g2 W2 hM
  go_frame
  refine wl_alloc (by kernel_rfl) hM 30 rfl [.slice none 0 0, .slice none 0 0] Z_impl_Shared ?_
  clear hM; intro g3 W3 hM
  go_frame
  refine wl_alloc (by kernel_rfl) hM 40 rfl (HD.cells HD.zero) Z_impl_Hand ?_
  clear hM; intro g4 W4 hM
  go_frame
  refine wl_nil ?_
  refine cn1 _ _ ?_
  clear cn1
  refine wp_seq_k fun Kn2 cn2 => ?_
  -- region 1, drawn: one after the other
  refine wa_join (fun act W => ∃ (jj : Nat), act = ⟨#[.agg #[.slice (some ⟨ga0, 0, none⟩) l.length k1, .slice (some ⟨gb0, 0, none⟩) c.length k2], .int .i64 task, .agg (HD.cells h).toArray, .pointer (some ⟨g1, 0, none⟩), undef, .pointer (some ⟨g2, 0, none⟩), .pointer (some ⟨g3, 0, none⟩), .pointer (some ⟨g4, 0, none⟩), .pointer (some ⟨g1, 0, none⟩), .slice (some ⟨ga0, 0, none⟩) l.length k1, .pointer (some ⟨g2, 4, none⟩), .int .i64 h.prev, .pointer (some ⟨ga0, 0 + knp * 8, none⟩), .agg (ND.cells ⟨npk, npv, npl, npr, npo, npg, nplt, nprt⟩).toArray, .pointer (some ⟨g2, 6, none⟩), .int .i64 h.side, .int .i64 (kidF h.side nplt nprt), .pointer (some ⟨g2, 0, none⟩), .pointer (some ⟨g2, 7, none⟩), undef, undef], []⟩ ∧ Mem w00 W ((g4, 40, (HD.cells HD.zero)) :: (g3, 30, [.slice none 0 0, .slice none 0 0]) :: (g2, 40, (HD.cells { h with at_ := 4, tag := (kidF h.side nplt nprt) })) :: (g1, 30, [.slice (some ⟨ga0, 0, none⟩) l.length k1, .slice (some ⟨gb0, 0, none⟩) c.length k2]) :: (ga0, 60, (cellsOf l ++ p1)) :: (gb0, 2, (cellsI c ++ p2)) :: L)) ?_ ?_
  clear hM
  rintro act W8 ⟨jj, rfl, hM⟩
  refine cn2 _ _ ?_
  clear cn2
  refine wp_seq_k fun Kn3 cn3 => ?_
  -- region 2, drawn: one after the other
  refine wa_start (fun w => Below w00.heap.size w00 w ∧ Blk w g1 30 [.slice (some ⟨ga0, 0, none⟩) l.length k1, .slice (some ⟨gb0, 0, none⟩) c.length k2] ∧ Blk w g2 40 (HD.cells { h with at_ := 4, tag := (kidF h.side nplt nprt) })) 4 rfl (by kernel_rfl) ?_
  replace hM := hM.drew
  refine wa_take 0 (some 19) (.agg #[.slice (some ⟨ga0, 0, none⟩) l.length k1, .slice (some ⟨gb0, 0, none⟩) c.length k2]) rfl rfl (by kernel_rfl) (by kernel_rfl) (by kernel_rfl) (fun _ _ _ h => h) (by kernel_rfl) (fun w hS => r_load hS.2.1 30 _ rfl rfl Try.underlying30 I_impl_Shared) ⟨hM.below, hM.blk 3 rfl, hM.blk 2 rfl⟩ ?_
  go_frame
  refine wa_take 1 (some 20) (.agg (HD.cells { h with at_ := 4, tag := (kidF h.side nplt nprt) }).toArray) rfl rfl (by kernel_rfl) (by kernel_rfl) (by kernel_rfl) (fun _ _ _ h => h) (by kernel_rfl) (fun w hS => r_load hS.2.2 40 _ rfl rfl Try.underlying40 I_impl_Hand) ⟨hM.below, hM.blk 3 rfl, hM.blk 2 rfl⟩ ?_
  go_frame
  refine wa_one 2 (by kernel_rfl) ?_
  refine wo_store rfl (by kernel_rfl) hM 1 rfl 30 _ _ rfl rfl (by kernel_rfl) [.slice (some ⟨ga0, 0, none⟩) l.length k1, .slice (some ⟨gb0, 0, none⟩) c.length k2] (by kernel_rfl) I_impl_Shared rfl rfl ?_
  clear hM; intro W9 hM
  refine ⟨⟨hM.below, hM.blk 3 rfl, hM.blk 2 rfl⟩, ?_⟩
  refine wa_one 3 (by kernel_rfl) ?_
  refine wo_store rfl (by kernel_rfl) hM 0 rfl 40 _ _ rfl rfl (by kernel_rfl) (HD.cells { h with at_ := 4, tag := (kidF h.side nplt nprt) }) (by kernel_rfl) I_impl_Hand rfl (hd_one' _) ?_
  clear hM; intro W10 hM
  refine ⟨⟨hM.below, hM.blk 3 rfl, hM.blk 2 rfl⟩, ?_⟩
  refine wa_done (by kernel_rfl) ?_
  refine cn3 _ _ ?_
  clear cn3
  refine wp_ret ?_
  rw [show ({ h with at_ := 4, tag := kidF h.side (nd l h.prev).lt (nd l h.prev).rt } : HD) = { h with at_ := 4, tag := (kidF h.side nplt nprt) } from by simp [npe]]
  exact bodyPost_ret (ret_sh (p := 6) (q := 7) rfl hM 1 0 rfl rfl rfl rfl Try.underlying30 Try.underlying40 I_impl_Shared I_impl_Hand) rfl ⟨rfl, hM.sub (fun i => i + 4) (fun i b hb => hb) (fun i j _ _ e => by omega)⟩
  refine wa_start (fun w => Below w00.heap.size w00 w ∧ Blk w g1 30 [.slice (some ⟨ga0, 0, none⟩) l.length k1, .slice (some ⟨gb0, 0, none⟩) c.length k2]) 13 rfl (by kernel_rfl) ?_
  replace hM := hM.drew
  refine wa_take 0 (some 8) (.pointer (some ⟨g1, 0, none⟩)) rfl rfl (by kernel_rfl) (by kernel_rfl) (by kernel_rfl) (fun _ _ _ h => h) (by kernel_rfl) (fun w hS => by kernel_rfl) ⟨hM.below, hM.blk 3 rfl⟩ ?_
  go_frame
  refine wa_take 1 (some 9) (.slice (some ⟨ga0, 0, none⟩) l.length k1) rfl rfl (by kernel_rfl) (by kernel_rfl) (by kernel_rfl) (fun _ _ _ h => h) (by kernel_rfl) (fun w hS => r_loadc hS.2 28 _ rfl 0 rfl Try.underlying28 rfl rfl) ⟨hM.below, hM.blk 3 rfl⟩ ?_
  go_frame
  refine wa_take 2 (some 10) (.pointer (some ⟨g2, 4, none⟩)) rfl rfl (by kernel_rfl) (by kernel_rfl) (by kernel_rfl) (fun _ _ _ h => h) (by kernel_rfl) (fun w hS => by kernel_rfl) ⟨hM.below, hM.blk 3 rfl⟩ ?_
  go_frame
  refine wa_take 6 (some 14) (.pointer (some ⟨g2, 6, none⟩)) rfl rfl (by kernel_rfl) (by kernel_rfl) (by kernel_rfl) (fun _ _ _ h => h) (by kernel_rfl) (fun w hS => by kernel_rfl) ⟨hM.below, hM.blk 3 rfl⟩ ?_
  go_frame
  refine wa_two 3 7 (by kernel_rfl) ?_ ?_
  refine wo_pure (some 11) rfl rfl (by kernel_rfl) (.int .i64 h.prev) (r_loadc (hM.blk 2 rfl) 2 _ rfl 4 rfl Try.underlying2 rfl rfl) ⟨hM.below, hM.blk 3 rfl⟩ ?_
  go_frame
  refine wa_take 4 (some 12) (.pointer (some ⟨ga0, 0 + knp * 8, none⟩)) rfl rfl (by kernel_rfl) (by kernel_rfl) (by kernel_rfl) (fun _ _ _ h => h) (by kernel_rfl) (fun w hS => r_index 28 60 _ _ rfl ga0 0 l.length k1 8 knp rfl rfl hknp (by omega) Try.underlying28 I_impl_Node) ⟨hM.below, hM.blk 3 rfl⟩ ?_
  go_frame
  refine wa_two 5 7 (by kernel_rfl) ?_ ?_
  refine wo_pure (some 13) rfl rfl (by kernel_rfl) (.agg (ND.cells ⟨npk, npv, npl, npr, npo, npg, nplt, nprt⟩).toArray) (r_part (hM.blk 4 rfl) 60 _ rfl (0 + knp * 8) rfl Try.underlying60 (ND.cells ⟨npk, npv, npl, npr, npo, npg, nplt, nprt⟩) I_impl_Node (node_part hnnp)) ⟨hM.below, hM.blk 3 rfl⟩ ?_
  go_frame
  refine wa_one 7 (by kernel_rfl) ?_
  refine wo_pure (some 15) rfl rfl (by kernel_rfl) (.int .i64 h.side) (r_loadc (hM.blk 2 rfl) 2 _ rfl 6 rfl Try.underlying2 rfl rfl) ⟨hM.below, hM.blk 3 rfl⟩ ?_
  go_frame
  refine wa_take 9 (some 17) (.pointer (some ⟨g2, 0, none⟩)) rfl rfl (by kernel_rfl) (by kernel_rfl) (by kernel_rfl) (fun _ _ _ h => h) (by kernel_rfl) (fun w hS => by kernel_rfl) ⟨hM.below, hM.blk 3 rfl⟩ ?_
  go_frame
  refine wa_one 8 (by kernel_rfl) ?_
  refine wo_call (some 16) rfl rfl (by kernel_rfl) 78 #[.agg (ND.cells ⟨npk, npv, npl, npr, npo, npg, nplt, nprt⟩).toArray, .int .i64 h.side] (by kernel_rfl) (impl_TagAt npk npv npl npr npo npg nplt nprt h.side _) ?_
  rintro e W5 ⟨rfl, hb⟩
  replace hM := hM.call hb
  refine ⟨_, rfl, ⟨hM.below, hM.blk 3 rfl⟩, ?_⟩
  go_frame
  refine wa_one 10 (by kernel_rfl) ?_
  refine wo_storec rfl (by kernel_rfl) hM 2 rfl 2 _ _ rfl rfl 0 (by kernel_rfl) (.int .i64 4) (by kernel_rfl) rfl rfl I_int64 (by simp [HD.cells]) ?_
  clear hM; intro W6 hM
  refine ⟨⟨hM.below, hM.blk 3 rfl⟩, ?_⟩
  refine wa_take 11 (some 18) (.pointer (some ⟨g2, 7, none⟩)) rfl rfl (by kernel_rfl) (by kernel_rfl) (by kernel_rfl) (fun _ _ _ h => h) (by kernel_rfl) (fun w hS => by kernel_rfl) ⟨hM.below, hM.blk 3 rfl⟩ ?_
  go_frame
  refine wa_one 12 (by kernel_rfl) ?_
  refine wo_storec rfl (by kernel_rfl) hM 2 rfl 2 _ _ rfl rfl 7 (by kernel_rfl) (.int .i64 (kidF h.side nplt nprt)) (by kernel_rfl) rfl rfl I_int64 (by simp [HD.cells]) ?_
  clear hM; intro W7 hM
  refine ⟨⟨hM.below, hM.blk 3 rfl⟩, ?_⟩
  refine wa_doneJ (by kernel_rfl) ?_
  exact ⟨0, rfl, hM⟩
  refine wo_pure (some 15) rfl rfl (by kernel_rfl) (.int .i64 h.side) (r_loadc (hM.blk 2 rfl) 2 _ rfl 6 rfl Try.underlying2 rfl rfl) ⟨hM.below, hM.blk 3 rfl⟩ ?_
  go_frame
  refine wa_take 9 (some 17) (.pointer (some ⟨g2, 0, none⟩)) rfl rfl (by kernel_rfl) (by kernel_rfl) (by kernel_rfl) (fun _ _ _ h => h) (by kernel_rfl) (fun w hS => by kernel_rfl) ⟨hM.below, hM.blk 3 rfl⟩ ?_
  go_frame
  refine wa_one 5 (by kernel_rfl) ?_
  refine wo_pure (some 13) rfl rfl (by kernel_rfl) (.agg (ND.cells ⟨npk, npv, npl, npr, npo, npg, nplt, nprt⟩).toArray) (r_part (hM.blk 4 rfl) 60 _ rfl (0 + knp * 8) rfl Try.underlying60 (ND.cells ⟨npk, npv, npl, npr, npo, npg, nplt, nprt⟩) I_impl_Node (node_part hnnp)) ⟨hM.below, hM.blk 3 rfl⟩ ?_
  go_frame
  refine wa_one 8 (by kernel_rfl) ?_
  refine wo_call (some 16) rfl rfl (by kernel_rfl) 78 #[.agg (ND.cells ⟨npk, npv, npl, npr, npo, npg, nplt, nprt⟩).toArray, .int .i64 h.side] (by kernel_rfl) (impl_TagAt npk npv npl npr npo npg nplt nprt h.side _) ?_
  rintro e W5 ⟨rfl, hb⟩
  replace hM := hM.call hb
  refine ⟨_, rfl, ⟨hM.below, hM.blk 3 rfl⟩, ?_⟩
  go_frame
  refine wa_one 10 (by kernel_rfl) ?_
  refine wo_storec rfl (by kernel_rfl) hM 2 rfl 2 _ _ rfl rfl 0 (by kernel_rfl) (.int .i64 4) (by kernel_rfl) rfl rfl I_int64 (by simp [HD.cells]) ?_
  clear hM; intro W6 hM
  refine ⟨⟨hM.below, hM.blk 3 rfl⟩, ?_⟩
  refine wa_take 11 (some 18) (.pointer (some ⟨g2, 7, none⟩)) rfl rfl (by kernel_rfl) (by kernel_rfl) (by kernel_rfl) (fun _ _ _ h => h) (by kernel_rfl) (fun w hS => by kernel_rfl) ⟨hM.below, hM.blk 3 rfl⟩ ?_
  go_frame
  refine wa_one 12 (by kernel_rfl) ?_
  refine wo_storec rfl (by kernel_rfl) hM 2 rfl 2 _ _ rfl rfl 7 (by kernel_rfl) (.int .i64 (kidF h.side nplt nprt)) (by kernel_rfl) rfl rfl I_int64 (by simp [HD.cells]) ?_
  clear hM; intro W7 hM
  refine ⟨⟨hM.below, hM.blk 3 rfl⟩, ?_⟩
  refine wa_doneJ (by kernel_rfl) ?_
  exact ⟨0, rfl, hM⟩
  refine wo_pure (some 15) rfl rfl (by kernel_rfl) (.int .i64 h.side) (r_loadc (hM.blk 2 rfl) 2 _ rfl 6 rfl Try.underlying2 rfl rfl) ⟨hM.below, hM.blk 3 rfl⟩ ?_
  go_frame
  refine wa_one 3 (by kernel_rfl) ?_
  refine wo_pure (some 11) rfl rfl (by kernel_rfl) (.int .i64 h.prev) (r_loadc (hM.blk 2 rfl) 2 _ rfl 4 rfl Try.underlying2 rfl rfl) ⟨hM.below, hM.blk 3 rfl⟩ ?_
  go_frame
  refine wa_take 4 (some 12) (.pointer (some ⟨ga0, 0 + knp * 8, none⟩)) rfl rfl (by kernel_rfl) (by kernel_rfl) (by kernel_rfl) (fun _ _ _ h => h) (by kernel_rfl) (fun w hS => r_index 28 60 _ _ rfl ga0 0 l.length k1 8 knp rfl rfl hknp (by omega) Try.underlying28 I_impl_Node) ⟨hM.below, hM.blk 3 rfl⟩ ?_
  go_frame
  refine wa_take 9 (some 17) (.pointer (some ⟨g2, 0, none⟩)) rfl rfl (by kernel_rfl) (by kernel_rfl) (by kernel_rfl) (fun _ _ _ h => h) (by kernel_rfl) (fun w hS => by kernel_rfl) ⟨hM.below, hM.blk 3 rfl⟩ ?_
  go_frame
  refine wa_one 5 (by kernel_rfl) ?_
  refine wo_pure (some 13) rfl rfl (by kernel_rfl) (.agg (ND.cells ⟨npk, npv, npl, npr, npo, npg, nplt, nprt⟩).toArray) (r_part (hM.blk 4 rfl) 60 _ rfl (0 + knp * 8) rfl Try.underlying60 (ND.cells ⟨npk, npv, npl, npr, npo, npg, nplt, nprt⟩) I_impl_Node (node_part hnnp)) ⟨hM.below, hM.blk 3 rfl⟩ ?_
  go_frame
  refine wa_one 8 (by kernel_rfl) ?_
  refine wo_call (some 16) rfl rfl (by kernel_rfl) 78 #[.agg (ND.cells ⟨npk, npv, npl, npr, npo, npg, nplt, nprt⟩).toArray, .int .i64 h.side] (by kernel_rfl) (impl_TagAt npk npv npl npr npo npg nplt nprt h.side _) ?_
  rintro e W5 ⟨rfl, hb⟩
  replace hM := hM.call hb
  refine ⟨_, rfl, ⟨hM.below, hM.blk 3 rfl⟩, ?_⟩
  go_frame
  refine wa_one 10 (by kernel_rfl) ?_
  refine wo_storec rfl (by kernel_rfl) hM 2 rfl 2 _ _ rfl rfl 0 (by kernel_rfl) (.int .i64 4) (by kernel_rfl) rfl rfl I_int64 (by simp [HD.cells]) ?_
  clear hM; intro W6 hM
  refine ⟨⟨hM.below, hM.blk 3 rfl⟩, ?_⟩
  refine wa_take 11 (some 18) (.pointer (some ⟨g2, 7, none⟩)) rfl rfl (by kernel_rfl) (by kernel_rfl) (by kernel_rfl) (fun _ _ _ h => h) (by kernel_rfl) (fun w hS => by kernel_rfl) ⟨hM.below, hM.blk 3 rfl⟩ ?_
  go_frame
  refine wa_one 12 (by kernel_rfl) ?_
  refine wo_storec rfl (by kernel_rfl) hM 2 rfl 2 _ _ rfl rfl 7 (by kernel_rfl) (.int .i64 (kidF h.side nplt nprt)) (by kernel_rfl) rfl rfl I_int64 (by simp [HD.cells]) ?_
  clear hM; intro W7 hM
  refine ⟨⟨hM.below, hM.blk 3 rfl⟩, ?_⟩
  refine wa_doneJ (by kernel_rfl) ?_
  exact ⟨0, rfl, hM⟩

set_option maxRecDepth 100000 in
set_option maxHeartbeats 4000000 in
theorem impl_endWalk (l : List ND) (c : List Int) (task : Int) (h : HD) (hok : canB l c task h = true) (h0 : h.at_ ≠ 0) : TouchF 63 l c task h (cnt1 c task, exitH l h) := by
  intro ga0 k1 p1 gb0 k2 p2 L w00 w0 hM0 q1 q2 q3 q4
  obtain ⟨hl0, hc0, hl1, hc1, hat, kt, hkt0, hkt, hcnt, hnodes, qnp, qnc, qnu, qnx, qnw⟩ := ok_facts (can_ok hok)
  have ht : task.toNat = kt := by omega
  have hl30 := (nodes_some hnodes).2
  have hc1' : cnt1 c task = c.set kt (atI c kt + 1) := by simp [cnt1, ht]
  obtain ⟨knc, ⟨nck, ncv, ncl, ncr, nco, ncg, nclt, ncrt⟩, hknc, nce, hlnc, hnnc⟩ := nd_at qnc
  have tnc : h.cur.toNat = knc := by omega
  unfold HD.val
  have hM := hM0
  go_enter Try.func63, Try.ntmps63
  refine wp_seq_k fun Kn1 cn1 => ?_
  refine wl_region ?_
  refine wl_box (by kernel_rfl) hM 30 _ rfl [.slice (some ⟨ga0, 0, none⟩) l.length k1, .slice (some ⟨gb0, 0, none⟩) c.length k2] rfl ?_
  clear hM; intro g1 W1 hM
  go_frame
  refine wl_box (by kernel_rfl) hM 40 _ rfl (HD.cells h) rfl ?_
  clear hM; intro g2 W2 hM
  go_frame
  refine wl_alloc (by kernel_rfl) hM 30 rfl [.slice none 0 0, .slice none 0 0] Z_impl_Shared ?_
  clear hM; intro g3 W3 hM
  go_frame
  refine wl_alloc (by kernel_rfl) hM 40 rfl (HD.cells HD.zero) Z_impl_Hand ?_
  clear hM; intro g4 W4 hM
  go_frame
  refine wl_nil ?_
  refine cn1 _ _ ?_
  clear cn1
  refine wp_seq_k fun Kn2 cn2 => ?_
  refine wl_region ?_
  refine wl_pure (by kernel_rfl) (.pointer (some ⟨g1, 1, none⟩)) (by kernel_rfl) ?_
  go_frame
  refine wl_loadc (by kernel_rfl) hM 3 rfl 23 _ rfl 1 rfl Try.underlying23 rfl rfl ?_
  go_frame
  refine wl_pure (by kernel_rfl) (.int .i64 task) (by kernel_rfl) ?_
  go_frame
  refine wl_index (by kernel_rfl) 23 2 _ _ rfl gb0 0 c.length k2 1 kt rfl rfl hkt0 (by omega) Try.underlying23 I_int64 ?_
  go_frame
  refine wl_loadc (by kernel_rfl) hM 5 rfl 2 _ rfl (0 + kt * 1) rfl Try.underlying2 rfl (cnt_el hkt) ?_
  go_frame
  refine wl_pureI (by kernel_rfl) (n := (atI c kt) + 1) (by kernel_rfl) (by omega) (by omega) ?_
  go_frame
  refine wl_index (by kernel_rfl) 23 2 _ _ rfl gb0 0 c.length k2 1 kt rfl rfl hkt0 (by omega) Try.underlying23 I_int64 ?_
  go_frame
  refine wl_storec (by kernel_rfl) hM 5 rfl 2 _ _ rfl rfl (0 + kt * 1) rfl (.int .i64 ((atI c kt) + 1)) rfl rfl rfl I_int64 (cnt_lt hkt) ?_
  clear hM; intro W5 hM
  refine wl_nil ?_
  refine cn2 _ _ ?_
  clear cn2
  refine wp_seq_k fun Kn3 cn3 => ?_
  rw [cnt_set hkt] at hM
  rw [← hc1'] at hM
  replace hM : Mem w00 W5 ((g4, 40, (HD.cells HD.zero)) :: (g3, 30, [.slice none 0 0, .slice none 0 0]) :: (g2, 40, (HD.cells h)) :: (g1, 30, [.slice (some ⟨ga0, 0, none⟩) l.length k1, .slice (some ⟨gb0, 0, none⟩) c.length k2]) :: (ga0, 60, (cellsOf l ++ p1)) :: (gb0, 2, (cellsI (cnt1 c task) ++ p2)) :: L) := hM
  -- region 2, drawn: 7, then 1
  refine wp_region_vals 7 (fun f => ⟨#[.agg #[.slice (some ⟨ga0, 0, none⟩) l.length k1, .slice (some ⟨gb0, 0, none⟩) c.length k2], .int .i64 task, .agg (HD.cells h).toArray, .pointer (some ⟨g1, 0, none⟩), undef, .pointer (some ⟨g2, 0, none⟩), .pointer (some ⟨g3, 0, none⟩), .pointer (some ⟨g4, 0, none⟩), f 6, undef, .pointer (some ⟨g1, 1, none⟩), .slice (some ⟨gb0, 0, none⟩) c.length k2, .int .i64 task, .pointer (some ⟨gb0, 0 + kt * 1, none⟩), .int .i64 (atI c kt), .int .i64 ((atI c kt) + 1), .pointer (some ⟨gb0, 0 + kt * 1, none⟩), f 0, f 1, f 2, f 3, f 4, f 5, undef, undef, undef, undef, undef, undef, undef, undef, undef, undef, undef, undef, undef, undef, undef, undef, undef, undef, undef, undef, undef, undef, undef, undef, undef], []⟩) [.pointer (some ⟨g2, 5, none⟩), .int .i64 h.cur, .bool (h.cur != 0), .pointer (some ⟨g2, 1, none⟩), .pointer (some ⟨g2, 1, none⟩), .int .i64 h.c, .bool (h.cur != 0)] (fun f w => Mem w00 w ((g4, 40, (HD.cells HD.zero)) :: (g3, 30, [.slice none 0 0, .slice none 0 0]) :: (g2, 40, (HD.cells h)) :: (g1, 30, [.slice (some ⟨ga0, 0, none⟩) l.length k1, .slice (some ⟨gb0, 0, none⟩) c.length k2]) :: (ga0, 60, (cellsOf l ++ p1)) :: (gb0, 2, (cellsI (cnt1 c task) ++ p2)) :: L)) ⟨#[.agg #[.slice (some ⟨ga0, 0, none⟩) l.length k1, .slice (some ⟨gb0, 0, none⟩) c.length k2], .int .i64 task, .agg (HD.cells h).toArray, .pointer (some ⟨g1, 0, none⟩), undef, .pointer (some ⟨g2, 0, none⟩), .pointer (some ⟨g3, 0, none⟩), .pointer (some ⟨g4, 0, none⟩), .bool (h.cur != 0), undef, .pointer (some ⟨g1, 1, none⟩), .slice (some ⟨gb0, 0, none⟩) c.length k2, .int .i64 task, .pointer (some ⟨gb0, 0 + kt * 1, none⟩), .int .i64 (atI c kt), .int .i64 ((atI c kt) + 1), .pointer (some ⟨gb0, 0 + kt * 1, none⟩), .pointer (some ⟨g2, 5, none⟩), .int .i64 h.cur, .bool (h.cur != 0), .pointer (some ⟨g2, 1, none⟩), .pointer (some ⟨g2, 1, none⟩), .int .i64 h.c, undef, undef, undef, undef, undef, undef, undef, undef, undef, undef, undef, undef, undef, undef, undef, undef, undef, undef, undef, undef, undef, undef, undef, undef, undef], []⟩ (fun _ => undef) (by kernel_rfl) (by kernel_rfl) (by kernel_rfl) (by kernel_rfl) rfl (fun f => rfl) hM.drew ⟨
    step_same [] (.pointer (some ⟨g2, 5, none⟩)) (by kernel_rfl) rfl (fun f => by kernel_rfl) (fun f w K hM hK => m_pure (.pointer (some ⟨g2, 5, none⟩)) (by kernel_rfl) (hK)) (fun f => rfl) (fun f w h => h),
    step_same [0] (.int .i64 h.cur) (by kernel_rfl) rfl (fun f => by kernel_rfl) (fun f w K hM hK => m_loadc hM 2 rfl 2 _ rfl 5 rfl Try.underlying2 rfl rfl (hK)) (fun f => rfl) (fun f w h => h),
    step_same [1] (.bool (h.cur != 0)) (by kernel_rfl) rfl (fun f => by kernel_rfl) (fun f w K hM hK => m_pure (.bool (h.cur != 0)) (by kernel_rfl) (hK)) (fun f => rfl) (fun f w h => h),
    step_same [] (.pointer (some ⟨g2, 1, none⟩)) (by kernel_rfl) rfl (fun f => by kernel_rfl) (fun f w K hM hK => m_pure (.pointer (some ⟨g2, 1, none⟩)) (by kernel_rfl) (hK)) (fun f => rfl) (fun f w h => h),
    step_same [3] (.pointer (some ⟨g2, 1, none⟩)) (by kernel_rfl) rfl (fun f => by kernel_rfl) (fun f w K hM hK => m_pure (.pointer (some ⟨g2, 1, none⟩)) (by kernel_rfl) (hK)) (fun f => rfl) (fun f w h => h),
    step_same [4] (.int .i64 h.c) (by kernel_rfl) rfl (fun f => by kernel_rfl) (fun f w K hM hK => m_loadc hM 2 rfl 2 _ rfl 1 rfl Try.underlying2 rfl rfl (hK)) (fun f => rfl) (fun f w h => h),
    step_same [2] (.bool (h.cur != 0)) (by kernel_rfl) rfl (fun f => by kernel_rfl) (fun f w K hM hK => m_pure (.bool (h.cur != 0)) (by kernel_rfl) (hK)) (fun f => rfl) (fun f w h => h),
    trivial⟩ ?_
  clear hM; intro f w' hM
  replace hM : Mem w00 w' ((g4, 40, (HD.cells HD.zero)) :: (g3, 30, [.slice none 0 0, .slice none 0 0]) :: (g2, 40, (HD.cells h)) :: (g1, 30, [.slice (some ⟨ga0, 0, none⟩) l.length k1, .slice (some ⟨gb0, 0, none⟩) c.length k2]) :: (ga0, 60, (cellsOf l ++ p1)) :: (gb0, 2, (cellsI (cnt1 c task) ++ p2)) :: L) := hM
  clear f
  refine WL.out ?_
  simp only [List.drop_succ_cons, List.drop_zero]
  refine wl_pure (by kernel_rfl) (.int .i64 h.c) (by kernel_rfl) ?_
  go_frame
  refine wl_nil ?_
  refine cn3 _ _ ?_
  clear cn3
  refine wp_seq_k fun Kn4 cn4 => ?_
  refine wp_block ?_
  refine wp_seq_k fun Kn5 cn5 => ?_
  refine wl_region ?_
  refine wl_pure (by kernel_rfl) (.bool (h.cur != 0)) (by kernel_rfl) ?_
  go_frame
  refine wl_pure (by kernel_rfl) (.bool (h.cur != 0)) (by kernel_rfl) ?_
  go_frame
  rcases Bool.eq_false_or_eq_true ((h.cur != 0)) with hx2 | hx2
  rw [hx2]
  refine wl_pure (by kernel_rfl) (.int .i64 h.c) (by kernel_rfl) ?_
  go_frame
  refine wl_pure (by kernel_rfl) (.bool (h.c == 1)) (by kernel_rfl) ?_
  go_frame
  refine wl_pure (by kernel_rfl) (.bool (h.c == 1)) (by kernel_rfl) ?_
  go_frame
  refine wl_pure (by kernel_rfl) (.bool (h.c == 1)) (by kernel_rfl) ?_
  go_frame
  refine wl_nil ?_
  refine cn5 _ _ ?_
  clear cn5
  rcases Bool.eq_false_or_eq_true ((h.c == 1)) with hx3 | hx3
  rw [hx3]
  refine wp_cond_true rfl ?_
  refine wp_seq_k fun Kn6 cn6 => ?_
  -- region 4, drawn: one after the other
  refine wa_start (fun w => Below w00.heap.size w00 w ∧ Blk w g1 30 [.slice (some ⟨ga0, 0, none⟩) l.length k1, .slice (some ⟨gb0, 0, none⟩) c.length k2] ∧ Blk w g2 40 (HD.cells h)) 11 rfl (by kernel_rfl) ?_
  replace hM := hM.drew
  refine wa_take 0 (some 29) (.agg #[.slice (some ⟨ga0, 0, none⟩) l.length k1, .slice (some ⟨gb0, 0, none⟩) c.length k2]) rfl rfl (by kernel_rfl) (by kernel_rfl) (by kernel_rfl) (fun _ _ _ h => h) (by kernel_rfl) (fun w hS => r_load hS.2.1 30 _ rfl rfl Try.underlying30 I_impl_Shared) ⟨hM.below, hM.blk 3 rfl, hM.blk 2 rfl⟩ ?_
  go_frame
  refine wa_take 1 (some 30) (.pointer (some ⟨g1, 0, none⟩)) rfl rfl (by kernel_rfl) (by kernel_rfl) (by kernel_rfl) (fun _ _ _ h => h) (by kernel_rfl) (fun w hS => by kernel_rfl) ⟨hM.below, hM.blk 3 rfl, hM.blk 2 rfl⟩ ?_
  go_frame
  refine wa_take 2 (some 31) (.slice (some ⟨ga0, 0, none⟩) l.length k1) rfl rfl (by kernel_rfl) (by kernel_rfl) (by kernel_rfl) (fun _ _ _ h => h) (by kernel_rfl) (fun w hS => r_loadc hS.2.1 28 _ rfl 0 rfl Try.underlying28 rfl rfl) ⟨hM.below, hM.blk 3 rfl, hM.blk 2 rfl⟩ ?_
  go_frame
  refine wa_take 3 (some 32) (.pointer (some ⟨g2, 5, none⟩)) rfl rfl (by kernel_rfl) (by kernel_rfl) (by kernel_rfl) (fun _ _ _ h => h) (by kernel_rfl) (fun w hS => by kernel_rfl) ⟨hM.below, hM.blk 3 rfl, hM.blk 2 rfl⟩ ?_
  go_frame
  refine wa_take 4 (some 33) (.int .i64 h.cur) rfl rfl (by kernel_rfl) (by kernel_rfl) (by kernel_rfl) (fun _ _ _ h => h) (by kernel_rfl) (fun w hS => r_loadc hS.2.2 2 _ rfl 5 rfl Try.underlying2 rfl rfl) ⟨hM.below, hM.blk 3 rfl, hM.blk 2 rfl⟩ ?_
  go_frame
  refine wa_take 5 (some 34) (.pointer (some ⟨ga0, 0 + knc * 8, none⟩)) rfl rfl (by kernel_rfl) (by kernel_rfl) (by kernel_rfl) (fun _ _ _ h => h) (by kernel_rfl) (fun w hS => r_index 28 60 _ _ rfl ga0 0 l.length k1 8 knc rfl rfl hknc (by omega) Try.underlying28 I_impl_Node) ⟨hM.below, hM.blk 3 rfl, hM.blk 2 rfl⟩ ?_
  go_frame
  refine wa_take 6 (some 35) (.pointer (some ⟨ga0, 0 + knc * 8 + 1, none⟩)) rfl rfl (by kernel_rfl) (by kernel_rfl) (by kernel_rfl) (fun _ _ _ h => h) (by kernel_rfl) (fun w hS => by kernel_rfl) ⟨hM.below, hM.blk 3 rfl, hM.blk 2 rfl⟩ ?_
  go_frame
  refine wa_one 7 (by kernel_rfl) ?_
  refine wo_pure (some 36) rfl rfl (by kernel_rfl) (.int .i64 ncv) (r_loadc (hM.blk 4 rfl) 2 _ rfl (0 + knc * 8 + 1) rfl Try.underlying2 rfl (node_cell (j := 1) hnnc rfl)) ⟨hM.below, hM.blk 3 rfl, hM.blk 2 rfl⟩ ?_
  go_frame
  refine wa_one 8 (by kernel_rfl) ?_
  refine wo_call (some 37) rfl rfl (by kernel_rfl) 79 #[.int .i64 1, .int .i64 ncv] (by kernel_rfl) (impl_Resting 1 ncv _) ?_
  rintro e W6 ⟨rfl, hb⟩
  replace hM := hM.call hb
  refine ⟨_, rfl, ⟨hM.below, hM.blk 3 rfl, hM.blk 2 rfl⟩, ?_⟩
  go_frame
  refine wa_one 9 (by kernel_rfl) ?_
  refine wo_store rfl (by kernel_rfl) hM 1 rfl 30 _ _ rfl rfl (by kernel_rfl) [.slice (some ⟨ga0, 0, none⟩) l.length k1, .slice (some ⟨gb0, 0, none⟩) c.length k2] (by kernel_rfl) I_impl_Shared rfl rfl ?_
  clear hM; intro W7 hM
  refine ⟨⟨hM.below, hM.blk 3 rfl, hM.blk 2 rfl⟩, ?_⟩
  refine wa_one 10 (by kernel_rfl) ?_
  refine wo_store rfl (by kernel_rfl) hM 0 rfl 40 _ _ rfl rfl (by kernel_rfl) (HD.cells (restH 1 ncv)) (by kernel_rfl) I_impl_Hand rfl (hd_one' _) ?_
  clear hM; intro W8 hM
  refine ⟨⟨hM.below, hM.blk 3 rfl, hM.blk 2 rfl⟩, ?_⟩
  refine wa_done (by kernel_rfl) ?_
  refine cn6 _ _ ?_
  clear cn6
  refine wp_ret ?_
  simp only [Exit.then, Exit.inBlock]
  rw [show (exitH l h : HD) = (restH 1 ncv) from by simp [exit_eq (can_call hok h0), exitP, hx2, hx3, nce]]
  exact bodyPost_ret (ret_sh (p := 6) (q := 7) rfl hM 1 0 rfl rfl rfl rfl Try.underlying30 Try.underlying40 I_impl_Shared I_impl_Hand) rfl ⟨rfl, hM.sub (fun i => i + 4) (fun i b hb => hb) (fun i j _ _ e => by omega)⟩
  rw [hx3]
  refine wp_cond_false rfl ?_
  refine wp_seq_k fun Kn6 cn6 => ?_
  refine wl_region ?_
  refine wl_pure (by kernel_rfl) (.bool true) (by kernel_rfl) ?_
  go_frame
  refine wl_pure (by kernel_rfl) (.int .i64 h.c) (by kernel_rfl) ?_
  go_frame
  refine wl_pure (by kernel_rfl) (.bool (h.c == 2)) (by kernel_rfl) ?_
  go_frame
  refine wl_pure (by kernel_rfl) (.bool (true == (h.c == 2))) (by kernel_rfl) ?_
  go_frame
  refine wl_pure (by kernel_rfl) (.bool (true == (h.c == 2))) (by kernel_rfl) ?_
  go_frame
  refine wl_nil ?_
  refine cn6 _ _ ?_
  clear cn6
  rcases Bool.eq_false_or_eq_true ((true == (h.c == 2))) with hx4 | hx4
  rw [hx4]
  refine wp_cond_true rfl ?_
  refine wp_seq_k fun Kn7 cn7 => ?_
  -- region 6, drawn: one after the other
  refine wa_start (fun w => Below w00.heap.size w00 w ∧ Blk w g1 30 [.slice (some ⟨ga0, 0, none⟩) l.length k1, .slice (some ⟨gb0, 0, none⟩) c.length k2]) 4 rfl (by kernel_rfl) ?_
  replace hM := hM.drew
  refine wa_take 0 (some 43) (.agg #[.slice (some ⟨ga0, 0, none⟩) l.length k1, .slice (some ⟨gb0, 0, none⟩) c.length k2]) rfl rfl (by kernel_rfl) (by kernel_rfl) (by kernel_rfl) (fun _ _ _ h => h) (by kernel_rfl) (fun w hS => r_load hS.2 30 _ rfl rfl Try.underlying30 I_impl_Shared) ⟨hM.below, hM.blk 3 rfl⟩ ?_
  go_frame
  refine wa_one 1 (by kernel_rfl) ?_
  refine wo_call (some 44) rfl rfl (by kernel_rfl) 79 #[.int .i64 2, .int .i64 0] (by kernel_rfl) (impl_Resting 2 0 _) ?_
  rintro e W6 ⟨rfl, hb⟩
  replace hM := hM.call hb
  refine ⟨_, rfl, ⟨hM.below, hM.blk 3 rfl⟩, ?_⟩
  go_frame
  refine wa_one 2 (by kernel_rfl) ?_
  refine wo_store rfl (by kernel_rfl) hM 1 rfl 30 _ _ rfl rfl (by kernel_rfl) [.slice (some ⟨ga0, 0, none⟩) l.length k1, .slice (some ⟨gb0, 0, none⟩) c.length k2] (by kernel_rfl) I_impl_Shared rfl rfl ?_
  clear hM; intro W7 hM
  refine ⟨⟨hM.below, hM.blk 3 rfl⟩, ?_⟩
  refine wa_one 3 (by kernel_rfl) ?_
  refine wo_store rfl (by kernel_rfl) hM 0 rfl 40 _ _ rfl rfl (by kernel_rfl) (HD.cells (restH 2 0)) (by kernel_rfl) I_impl_Hand rfl (hd_one' _) ?_
  clear hM; intro W8 hM
  refine ⟨⟨hM.below, hM.blk 3 rfl⟩, ?_⟩
  refine wa_done (by kernel_rfl) ?_
  refine cn7 _ _ ?_
  clear cn7
  refine wp_ret ?_
  simp only [Exit.then, Exit.inBlock]
  rw [show (exitH l h : HD) = (restH 2 0) from by simp [exit_eq (can_call hok h0), exitP, hx2, hx3, hx4, nce]]
  exact bodyPost_ret (ret_sh (p := 6) (q := 7) rfl hM 1 0 rfl rfl rfl rfl Try.underlying30 Try.underlying40 I_impl_Shared I_impl_Hand) rfl ⟨rfl, hM.sub (fun i => i + 4) (fun i b hb => hb) (fun i j _ _ e => by omega)⟩
  rw [hx4]
  refine wp_cond_false rfl ?_
  refine wp_skip ?_
  refine cn4 _ _ ?_
  clear cn4
  refine wp_seq_k fun Kn7 cn7 => ?_
  refine wl_region ?_
  refine wl_pure (by kernel_rfl) (.pointer (some ⟨g2, 0, none⟩)) (by kernel_rfl) ?_
  go_frame
  refine wl_storec (by kernel_rfl) hM 2 rfl 2 _ _ rfl rfl 0 rfl (.int .i64 5) rfl rfl rfl I_int64 (by simp [HD.cells]) ?_
  clear hM; intro W6 hM
  refine wl_nil ?_
  refine cn7 _ _ ?_
  clear cn7
  refine wp_seq_k fun Kn8 cn8 => ?_
  -- region 8, drawn: one after the other
  refine wa_start (fun w => Below w00.heap.size w00 w ∧ Blk w g1 30 [.slice (some ⟨ga0, 0, none⟩) l.length k1, .slice (some ⟨gb0, 0, none⟩) c.length k2] ∧ Blk w g2 40 (HD.cells { h with at_ := 5 })) 4 rfl (by kernel_rfl) ?_
  replace hM := hM.drew
  refine wa_take 0 (some 46) (.agg #[.slice (some ⟨ga0, 0, none⟩) l.length k1, .slice (some ⟨gb0, 0, none⟩) c.length k2]) rfl rfl (by kernel_rfl) (by kernel_rfl) (by kernel_rfl) (fun _ _ _ h => h) (by kernel_rfl) (fun w hS => r_load hS.2.1 30 _ rfl rfl Try.underlying30 I_impl_Shared) ⟨hM.below, hM.blk 3 rfl, hM.blk 2 rfl⟩ ?_
  go_frame
  refine wa_take 1 (some 47) (.agg (HD.cells { h with at_ := 5 }).toArray) rfl rfl (by kernel_rfl) (by kernel_rfl) (by kernel_rfl) (fun _ _ _ h => h) (by kernel_rfl) (fun w hS => r_load hS.2.2 40 _ rfl rfl Try.underlying40 I_impl_Hand) ⟨hM.below, hM.blk 3 rfl, hM.blk 2 rfl⟩ ?_
  go_frame
  refine wa_one 2 (by kernel_rfl) ?_
  refine wo_store rfl (by kernel_rfl) hM 1 rfl 30 _ _ rfl rfl (by kernel_rfl) [.slice (some ⟨ga0, 0, none⟩) l.length k1, .slice (some ⟨gb0, 0, none⟩) c.length k2] (by kernel_rfl) I_impl_Shared rfl rfl ?_
  clear hM; intro W7 hM
  refine ⟨⟨hM.below, hM.blk 3 rfl, hM.blk 2 rfl⟩, ?_⟩
  refine wa_one 3 (by kernel_rfl) ?_
  refine wo_store rfl (by kernel_rfl) hM 0 rfl 40 _ _ rfl rfl (by kernel_rfl) (HD.cells { h with at_ := 5 }) (by kernel_rfl) I_impl_Hand rfl (hd_one' _) ?_
  clear hM; intro W8 hM
  refine ⟨⟨hM.below, hM.blk 3 rfl, hM.blk 2 rfl⟩, ?_⟩
  refine wa_done (by kernel_rfl) ?_
  refine cn8 _ _ ?_
  clear cn8
  refine wp_ret ?_
  rw [show (exitH l h : HD) = { h with at_ := 5 } from by simp [exit_eq (can_call hok h0), exitP, hx2, hx3, hx4, nce]]
  exact bodyPost_ret (ret_sh (p := 6) (q := 7) rfl hM 1 0 rfl rfl rfl rfl Try.underlying30 Try.underlying40 I_impl_Shared I_impl_Hand) rfl ⟨rfl, hM.sub (fun i => i + 4) (fun i b hb => hb) (fun i j _ _ e => by omega)⟩
  rw [hx2]
  refine wl_skip (by kernel_rfl) ?_
  go_frame
  refine wl_skip (by kernel_rfl) ?_
  go_frame
  refine wl_pure (by kernel_rfl) (.bool false) (by kernel_rfl) ?_
  go_frame
  refine wl_pure (by kernel_rfl) (.bool false) (by kernel_rfl) ?_
  go_frame
  refine wl_nil ?_
  refine cn5 _ _ ?_
  clear cn5
  refine wp_cond_false rfl ?_
  refine wp_seq_k fun Kn6 cn6 => ?_
  refine wl_region ?_
  refine wl_pure (by kernel_rfl) (.bool false) (by kernel_rfl) ?_
  go_frame
  refine wl_pure (by kernel_rfl) (.int .i64 h.c) (by kernel_rfl) ?_
  go_frame
  refine wl_pure (by kernel_rfl) (.bool (h.c == 2)) (by kernel_rfl) ?_
  go_frame
  refine wl_pure (by kernel_rfl) (.bool (false == (h.c == 2))) (by kernel_rfl) ?_
  go_frame
  refine wl_pure (by kernel_rfl) (.bool (false == (h.c == 2))) (by kernel_rfl) ?_
  go_frame
  refine wl_nil ?_
  refine cn6 _ _ ?_
  clear cn6
  rcases Bool.eq_false_or_eq_true ((false == (h.c == 2))) with hx5 | hx5
  rw [hx5]
  refine wp_cond_true rfl ?_
  refine wp_seq_k fun Kn7 cn7 => ?_
  -- region 6, drawn: one after the other
  refine wa_start (fun w => Below w00.heap.size w00 w ∧ Blk w g1 30 [.slice (some ⟨ga0, 0, none⟩) l.length k1, .slice (some ⟨gb0, 0, none⟩) c.length k2]) 4 rfl (by kernel_rfl) ?_
  replace hM := hM.drew
  refine wa_take 0 (some 43) (.agg #[.slice (some ⟨ga0, 0, none⟩) l.length k1, .slice (some ⟨gb0, 0, none⟩) c.length k2]) rfl rfl (by kernel_rfl) (by kernel_rfl) (by kernel_rfl) (fun _ _ _ h => h) (by kernel_rfl) (fun w hS => r_load hS.2 30 _ rfl rfl Try.underlying30 I_impl_Shared) ⟨hM.below, hM.blk 3 rfl⟩ ?_
  go_frame
  refine wa_one 1 (by kernel_rfl) ?_
  refine wo_call (some 44) rfl rfl (by kernel_rfl) 79 #[.int .i64 2, .int .i64 0] (by kernel_rfl) (impl_Resting 2 0 _) ?_
  rintro e W6 ⟨rfl, hb⟩
  replace hM := hM.call hb
  refine ⟨_, rfl, ⟨hM.below, hM.blk 3 rfl⟩, ?_⟩
  go_frame
  refine wa_one 2 (by kernel_rfl) ?_
  refine wo_store rfl (by kernel_rfl) hM 1 rfl 30 _ _ rfl rfl (by kernel_rfl) [.slice (some ⟨ga0, 0, none⟩) l.length k1, .slice (some ⟨gb0, 0, none⟩) c.length k2] (by kernel_rfl) I_impl_Shared rfl rfl ?_
  clear hM; intro W7 hM
  refine ⟨⟨hM.below, hM.blk 3 rfl⟩, ?_⟩
  refine wa_one 3 (by kernel_rfl) ?_
  refine wo_store rfl (by kernel_rfl) hM 0 rfl 40 _ _ rfl rfl (by kernel_rfl) (HD.cells (restH 2 0)) (by kernel_rfl) I_impl_Hand rfl (hd_one' _) ?_
  clear hM; intro W8 hM
  refine ⟨⟨hM.below, hM.blk 3 rfl⟩, ?_⟩
  refine wa_done (by kernel_rfl) ?_
  refine cn7 _ _ ?_
  clear cn7
  refine wp_ret ?_
  simp only [Exit.then, Exit.inBlock]
  rw [show (exitH l h : HD) = (restH 2 0) from by simp [exit_eq (can_call hok h0), exitP, hx2, hx5, nce]]
  exact bodyPost_ret (ret_sh (p := 6) (q := 7) rfl hM 1 0 rfl rfl rfl rfl Try.underlying30 Try.underlying40 I_impl_Shared I_impl_Hand) rfl ⟨rfl, hM.sub (fun i => i + 4) (fun i b hb => hb) (fun i j _ _ e => by omega)⟩
  rw [hx5]
  refine wp_cond_false rfl ?_
  refine wp_skip ?_
  refine cn4 _ _ ?_
  clear cn4
  refine wp_seq_k fun Kn7 cn7 => ?_
  refine wl_region ?_
  refine wl_pure (by kernel_rfl) (.pointer (some ⟨g2, 0, none⟩)) (by kernel_rfl) ?_
  go_frame
  refine wl_storec (by kernel_rfl) hM 2 rfl 2 _ _ rfl rfl 0 rfl (.int .i64 5) rfl rfl rfl I_int64 (by simp [HD.cells]) ?_
  clear hM; intro W6 hM
  refine wl_nil ?_
  refine cn7 _ _ ?_
  clear cn7
  refine wp_seq_k fun Kn8 cn8 => ?_
  -- region 8, drawn: one after the other
  refine wa_start (fun w => Below w00.heap.size w00 w ∧ Blk w g1 30 [.slice (some ⟨ga0, 0, none⟩) l.length k1, .slice (some ⟨gb0, 0, none⟩) c.length k2] ∧ Blk w g2 40 (HD.cells { h with at_ := 5 })) 4 rfl (by kernel_rfl) ?_
  replace hM := hM.drew
  refine wa_take 0 (some 46) (.agg #[.slice (some ⟨ga0, 0, none⟩) l.length k1, .slice (some ⟨gb0, 0, none⟩) c.length k2]) rfl rfl (by kernel_rfl) (by kernel_rfl) (by kernel_rfl) (fun _ _ _ h => h) (by kernel_rfl) (fun w hS => r_load hS.2.1 30 _ rfl rfl Try.underlying30 I_impl_Shared) ⟨hM.below, hM.blk 3 rfl, hM.blk 2 rfl⟩ ?_
  go_frame
  refine wa_take 1 (some 47) (.agg (HD.cells { h with at_ := 5 }).toArray) rfl rfl (by kernel_rfl) (by kernel_rfl) (by kernel_rfl) (fun _ _ _ h => h) (by kernel_rfl) (fun w hS => r_load hS.2.2 40 _ rfl rfl Try.underlying40 I_impl_Hand) ⟨hM.below, hM.blk 3 rfl, hM.blk 2 rfl⟩ ?_
  go_frame
  refine wa_one 2 (by kernel_rfl) ?_
  refine wo_store rfl (by kernel_rfl) hM 1 rfl 30 _ _ rfl rfl (by kernel_rfl) [.slice (some ⟨ga0, 0, none⟩) l.length k1, .slice (some ⟨gb0, 0, none⟩) c.length k2] (by kernel_rfl) I_impl_Shared rfl rfl ?_
  clear hM; intro W7 hM
  refine ⟨⟨hM.below, hM.blk 3 rfl, hM.blk 2 rfl⟩, ?_⟩
  refine wa_one 3 (by kernel_rfl) ?_
  refine wo_store rfl (by kernel_rfl) hM 0 rfl 40 _ _ rfl rfl (by kernel_rfl) (HD.cells { h with at_ := 5 }) (by kernel_rfl) I_impl_Hand rfl (hd_one' _) ?_
  clear hM; intro W8 hM
  refine ⟨⟨hM.below, hM.blk 3 rfl, hM.blk 2 rfl⟩, ?_⟩
  refine wa_done (by kernel_rfl) ?_
  refine cn8 _ _ ?_
  clear cn8
  refine wp_ret ?_
  rw [show (exitH l h : HD) = { h with at_ := 5 } from by simp [exit_eq (can_call hok h0), exitP, hx2, hx5, nce]]
  exact bodyPost_ret (ret_sh (p := 6) (q := 7) rfl hM 1 0 rfl rfl rfl rfl Try.underlying30 Try.underlying40 I_impl_Shared I_impl_Hand) rfl ⟨rfl, hM.sub (fun i => i + 4) (fun i b hb => hb) (fun i j _ _ e => by omega)⟩
end Go.Proofs.Ytoamnecoiicljaa
