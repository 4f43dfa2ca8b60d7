/- FnNodes: whatever the arguments are, the law answers true and leaves them as they were. No condition. -/
import Derived.Test.YtbkgphnkbemfgaaShort
import Derived.Test.YtbkgphnkbemfgaaShort2
import Derived.Test.YtbkgphnkbemfgaaOpenB
import Derived.Test.YtbkgphnkbemfgaaDrawNode
import Derived.Test.YtbkgphnkbemfgaaNodesImpl
import Derived.Laws.StructEq
namespace Go.Proofs.Ytbkgphnkbemfgaa.fnNodes
open Go.ChangeShapes Go.WideShapes Go.ChangeAt Go.RowKit
set_option linter.unusedVariables false
set_option maxRecDepth 100000
set_option maxHeartbeats 16000000
set_option linter.unusedSimpArgs false

theorem bts_later {w w1 : World} {v : Value} {l : List Int} (h : Bts w.heap.size w v l) (hb : Below w.heap.size w w1) : Bts w1.heap.size w1 v l := by
  have h1 := h.below hb
  exact ⟨h1.1, h1.2.1, fun hn g hg => Nat.lt_of_lt_of_le (h1.2.2 hn g hg) hb.size⟩
def ndEq (a b : ND) : Bool := a.k == b.k && (a.v == b.v && (a.l == b.l && (a.r == b.r && (a.o == b.o && (a.g == b.g && (a.lt == b.lt && (a.rt == b.rt && true)))))))
theorem ndEq_self (a : ND) : ndEq a a = true := by simp [ndEq]
section
variable {P : Program} {w : World}
theorem eqf_nil (d : Nat) (xs ys : Array Value) : (Op.eqFields d xs ys []).run P w = .ok true w := by simp [Op.eqFields]
theorem eqf_cons {d : Nat} {xs ys : Array Value} {f : Field} {fs : List Field} {a b : Value} {r s : Bool} (hn : f.name ≠ "_") (ha : (part f.type xs f.offset).run P w = .ok a w) (hb : (part f.type ys f.offset).run P w = .ok b w)
    (he : (Op.equalIn d f.type a b).run P w = .ok r w) (hr : (Op.eqFields d xs ys fs).run P w = .ok s w) : (Op.eqFields d xs ys (f :: fs)).run P w = .ok (r && s) w := by
  rw [Op.eqFields, if_pos hn]
  simp only [Sem.run_bind, ha, hb, he, Result.andThen_ok]
  cases r
  · simp
  · simpa using hr
end
theorem nd_eqIn (d : Nat) (w : World) (a b : ND) : (Op.equalIn (d + 2) 27 (.agg a.cells.toArray) (.agg b.cells.toArray)).run Try.prog w = .ok (ndEq a b) w := by
  rw [run_equalIn_struct w (d + 1) 27 _ _ (by kernel_rfl) (by kernel_rfl)]
  simp only [Program.fieldsOf, Try.underlying27]
  exact eqf_cons (by decide) (by kernel_rfl) (by kernel_rfl) (run_equalIn_int _ _ _ .i64 .i64 _ _ Try.underlying2) (eqf_cons (by decide) (by kernel_rfl) (by kernel_rfl) (run_equalIn_int _ _ _ .i64 .i64 _ _ Try.underlying2) (eqf_cons (by decide) (by kernel_rfl) (by kernel_rfl) (run_equalIn_int _ _ _ .i64 .i64 _ _ Try.underlying2) (eqf_cons (by decide) (by kernel_rfl) (by kernel_rfl) (run_equalIn_int _ _ _ .i64 .i64 _ _ Try.underlying2) (eqf_cons (by decide) (by kernel_rfl) (by kernel_rfl) (run_equalIn_int _ _ _ .i64 .i64 _ _ Try.underlying2) (eqf_cons (by decide) (by kernel_rfl) (by kernel_rfl) (run_equalIn_bool' _ _ _ _ _ Try.underlying4) (eqf_cons (by decide) (by kernel_rfl) (by kernel_rfl) (run_equalIn_int _ _ _ .i64 .i64 _ _ Try.underlying2) (eqf_cons (by decide) (by kernel_rfl) (by kernel_rfl) (run_equalIn_int _ _ _ .i64 .i64 _ _ Try.underlying2) (eqf_nil _ _ _))))))))
theorem nd_neq {f : Operand → Value} {o : Oper} {w : World} {T' : TypeId} {x y : Operand} (a b : ND) (ho : o.op = .binOp .neq 27 x y T') (hx : f x = .agg a.cells.toArray) (hy : f y = .agg b.cells.toArray) : (execOp f o).run Try.prog w = .ok (.value (.bool (!(ndEq a b)))) w := by
  have h := nd_eqIn 9998 w a b
  have hg : Try.prog.eqGuardType Try.prog.depth 27 = false := by kernel_rfl
  unfold execOp
  simp only [ho, hx, hy, Sem.run_bind, run_eqGuard_agg w .neq 27 x y _ _ hg, Result.andThen_ok, run_neq_struct]
  rw [show Op.equalIn 10000 27 (.agg a.cells.toArray) (.agg b.cells.toArray) = Op.equalIn (9998 + 2) 27 (.agg a.cells.toArray) (.agg b.cells.toArray) from rfl, h]
  rfl
theorem wrap_one {n : Int} (h : 0 ≤ n ∧ n ≤ 2) : wrap64 (n + 1) = n + 1 := by
  unfold wrap64
  omega
theorem tag0 (k v l r o : Int) (g : Bool) (lt rt : Int) (w : World) (h : 0 ≤ lt ∧ lt ≤ 2) : Calls Try.prog 17 #[.agg #[.int .i64 k, .int .i64 v, .int .i64 l, .int .i64 r, .int .i64 o, .bool g, .int .i64 lt, .int .i64 rt], .int .i64 0] w fun e w' => e = .returned (.agg (ND.cells ⟨k, v, l, r, o, g, (lt + 1), rt⟩).toArray) ∧ Below w.heap.size w w' := by
  refine (impl_WithTag k v l r o g lt rt 0 w).mono ?_
  rintro e w' ⟨rfl, hb⟩
  exact ⟨by rw [wrap_one h]; rfl, hb⟩
theorem tag1 (k v l r o : Int) (g : Bool) (lt rt : Int) (w : World) (h : 0 ≤ rt ∧ rt ≤ 2) : Calls Try.prog 17 #[.agg #[.int .i64 k, .int .i64 v, .int .i64 l, .int .i64 r, .int .i64 o, .bool g, .int .i64 lt, .int .i64 rt], .int .i64 1] w fun e w' => e = .returned (.agg (ND.cells ⟨k, v, l, r, o, g, lt, (rt + 1)⟩).toArray) ∧ Below w.heap.size w w' := by
  refine (impl_WithTag k v l r o g lt rt 1 w).mono ?_
  rintro e w' ⟨rfl, hb⟩
  by_cases h0 : leftF 1 (wrap64 (lt + 1)) lt = lt
  · exact ⟨by rw [show rightF 1 (wrap64 (rt + 1)) rt = rt + 1 from (wrap_one h)]; rfl, hb⟩
  · exact absurd rfl h0

theorem impl_RootsM (w0 : World) : Calls Try.prog 22 #[] w0 fun e w' => ∃ g, e = .returned (.slice (some ⟨g, 0, none⟩) 1 1) ∧ Mem w0 w' [(g, 27, cellsOf [root0] ++ [])] := by
  have hM := Mem.start w0
  go_enter Try.func22, Try.ntmps22
  refine wp_seq_k fun _ cn1 => wl_region ?_
  refine np (.slice none 0 0) ?_
  go_frame
  refine wl_nil (cn1 _ _ ?_)
  clear cn1
  refine wp_seq_k fun _ cn2 => wl_region ?_
  refine np (.agg (ND.cells ⟨(-1), 0, 0, 0, 0, false, 0, 0⟩).toArray) ?_
  go_frame
  refine wl_buildSlice (by kernel_rfl) hM 27 1 (ND.cells ⟨(-1), 0, 0, 0, 0, false, 0, 0⟩) (fun w => by kernel_rfl) ?_
  clear hM; intro g1 W1 hM
  refine np (.slice (some ⟨g1, 0, none⟩) 1 1) ?_
  go_frame
  refine wl_nil (cn2 _ _ ?_)
  clear cn2
  refine wp_ret ?_
  exact bodyPost_ret (v := .slice (some ⟨g1, 0, none⟩) 1 1) (ret_tmp 0 rfl rfl) rfl ⟨g1, rfl, hM⟩

theorem like_roots (ba bb : Nat) (w0 : World) (h1 : NSl w0 (.slice (some ⟨ba, 0, none⟩) 1 1) [root0]) (h2 : NSl w0 (.slice (some ⟨bb, 0, none⟩) 1 1) [root0]) :
    Calls Try.prog 21 #[.slice (some ⟨ba, 0, none⟩) 1 1, .slice (some ⟨bb, 0, none⟩) 1 1] w0 fun e w' => e = .returned (.bool true) ∧ Below w0.heap.size w0 w' := by
  obtain ⟨b1, o1, c1, e1, kk1, mm1, sA, G1⟩ := h1.at (by simp)
  obtain ⟨b2, o2, c2, e2, kk2, mm2, sB, G2⟩ := h2.at (by simp)
  simp only [Value.slice.injEq, Option.some.injEq, Addr.mk.injEq] at e1 e2
  obtain ⟨⟨rfl, rfl, -⟩, -, rfl⟩ := e1
  obtain ⟨⟨rfl, rfl, -⟩, -, rfl⟩ := e2
  have A1 := G1 0 _ rfl
  have B1 := G2 0 _ rfl
  have hM := Mem.start w0
  go_enter Try.func21, Try.ntmps21
  refine wp_seq_k fun _ cn1 => wl_region ?_
  refine np (.bool false) ?_
  go_frame
  refine wl_nil (cn1 _ _ ?_)
  clear cn1
  refine wp_seq_k fun Kn2 cn2 => ?_
  refine wp_seq_k fun _ cn3 => wl_region ?_
  refine np (.slice (some ⟨ba, 0, none⟩) 1 1) ?_
  refine np (.int .i64 1) ?_
  refine np (.slice (some ⟨bb, 0, none⟩) 1 1) ?_
  refine np (.int .i64 1) ?_
  refine np (.bool false) ?_
  go_frame
  refine wl_nil (cn3 _ _ ?_)
  clear cn3
  refine wp_cond_false rfl ?_
  refine wp_skip ?_
  refine cn2 _ _ ?_
  clear cn2
  refine wp_seq_k fun Kn4 cn4 => ?_
  refine wp_seq_k fun _ cn5 => wl_region ?_
  refine np (.int .i64 0) ?_
  go_frame
  refine wl_nil (cn5 _ _ ?_)
  clear cn5
  refine wp_block ?_
  refine wp_loop_rounds 2 ?_
  rw [rounds_succ]
  refine wp_seq_k fun Kn6 cn6 => ?_
  refine wp_seq_k fun _ cn7 => wl_region ?_
  refine np (.int .i64 0) ?_
  refine np (.slice (some ⟨ba, 0, none⟩) 1 1) ?_
  refine np (.int .i64 1) ?_
  refine np (.bool true) ?_
  go_frame
  refine wl_nil (cn7 _ _ ?_)
  clear cn7
  refine wp_cond_true rfl ?_
  refine wp_skip ?_
  refine cn6 _ _ ?_
  clear cn6
  refine wp_seq_k fun Kn8 cn8 => ?_
  refine wp_block ?_
  refine wp_seq_k fun Kn9 cn9 => ?_
  refine wa_start (fun w => Below w0.heap.size w0 w ∧ True) 9 rfl (by kernel_rfl) ?_
  replace hM := hM.drew
  refine wt 0 (some 17) (.slice (some ⟨ba, 0, none⟩) 1 1) ⟨hM.below, trivial⟩ ?_
  refine wt 1 (some 18) (.int .i64 0) ⟨hM.below, trivial⟩ ?_
  go_frame
  refine wq 2 (some 19) (.pointer (some ⟨ba, 0 + 0 * 8, none⟩)) ⟨hM.below, trivial⟩ rfl (fun w hS => r_index 24 27 _ _ rfl ba 0 1 1 8 0 rfl rfl rfl (by omega) Try.underlying24 I_impl_Node) ?_
  go_frame
  refine wq 3 (some 20) (.agg (ND.cells ⟨(-1), 0, 0, 0, 0, false, 0, 0⟩).toArray) ⟨hM.below, trivial⟩ rfl (fun w hS => r_cells 27 _ rfl ba (0 + 0 * 8) rfl Try.underlying27 (ND.cells ⟨(-1), 0, 0, 0, 0, false, 0, 0⟩) I_impl_Node (row_of (Mem.ofBelow hS.1) sA A1)) ?_
  refine wt 4 (some 21) (.slice (some ⟨bb, 0, none⟩) 1 1) ⟨hM.below, trivial⟩ ?_
  refine wt 5 (some 22) (.int .i64 0) ⟨hM.below, trivial⟩ ?_
  go_frame
  refine wq 6 (some 23) (.pointer (some ⟨bb, 0 + 0 * 8, none⟩)) ⟨hM.below, trivial⟩ rfl (fun w hS => r_index 24 27 _ _ rfl bb 0 1 1 8 0 rfl rfl rfl (by omega) Try.underlying24 I_impl_Node) ?_
  go_frame
  refine wq 7 (some 24) (.agg (ND.cells ⟨(-1), 0, 0, 0, 0, false, 0, 0⟩).toArray) ⟨hM.below, trivial⟩ rfl (fun w hS => r_cells 27 _ rfl bb (0 + 0 * 8) rfl Try.underlying27 (ND.cells ⟨(-1), 0, 0, 0, 0, false, 0, 0⟩) I_impl_Node (row_of (Mem.ofBelow hS.1) sB B1)) ?_
  go_frame
  refine wq 8 (some 25) (.bool false) ⟨hM.below, trivial⟩ rfl (fun w hS => r_eq (v := .bool (!(ndEq (⟨(-1), 0, 0, 0, 0, false, 0, 0⟩) (⟨(-1), 0, 0, 0, 0, false, 0, 0⟩)))) (nd_neq ⟨(-1), 0, 0, 0, 0, false, 0, 0⟩ ⟨(-1), 0, 0, 0, 0, false, 0, 0⟩ rfl rfl rfl) (congrArg Value.bool (congrArg Bool.not (ndEq_self _)))) ?_
  go_frame
  refine wa_done (by kernel_rfl) ?_
  refine cn9 _ _ ?_
  clear cn9
  refine wp_cond_false rfl ?_
  refine wp_skip ?_
  refine cn8 _ _ ?_
  clear cn8
  refine wl_region ?_
  refine np (.int .i64 0) ?_
  refine np (.int .i64 1) ?_
  refine np (.int .i64 1) ?_
  go_frame
  refine wl_nil ?_
  refine round_go ?_
  refine wp_seq_k fun Kn10 cn10 => ?_
  refine wp_seq_k fun _ cn11 => wl_region ?_
  refine np (.int .i64 1) ?_
  refine np (.slice (some ⟨ba, 0, none⟩) 1 1) ?_
  refine np (.int .i64 1) ?_
  refine np (.bool false) ?_
  go_frame
  refine wl_nil (cn11 _ _ ?_)
  clear cn11
  refine wp_cond_false rfl ?_
  refine wp_exit ?_
  refine cn4 _ _ ?_
  clear cn4
  refine wp_seq_k fun _ cn12 => wl_region ?_
  refine np (.bool true) ?_
  go_frame
  refine wl_nil (cn12 _ _ ?_)
  clear cn12
  refine wp_ret ?_
  exact bodyPost_ret (v := .bool true) (ret_tmp 4 rfl rfl) rfl ⟨rfl, hM.below⟩

theorem big_slice (a : Option Addr) (n c : Nat) (w0 : World) :
    Calls Try.prog 4 #[.slice a n c] w0 fun e w' => e = .returned (.bool (decide ((n : Int) > 4096))) ∧ Below w0.heap.size w0 w' := by
  have hM := Mem.start w0
  go_enter Try.func4, Try.ntmps4
  refine wp_seq_k fun _ cn1 => wl_region ?_
  refine np (.bool false) ?_
  go_frame
  refine wl_nil (cn1 _ _ ?_)
  clear cn1
  refine wp_seq_k fun _ cn2 => wl_region ?_
  refine np (.slice a n c) ?_
  refine np (.int .i64 (n : Int)) ?_
  refine np (.bool (decide ((n : Int) > 4096))) ?_
  refine np (.bool (decide ((n : Int) > 4096))) ?_
  go_frame
  refine wl_nil (cn2 _ _ ?_)
  clear cn2
  refine wp_ret ?_
  exact bodyPost_ret (v := .bool (decide ((n : Int) > 4096))) (ret_tmp 2 rfl rfl) rfl ⟨rfl, hM.below⟩
theorem root_ok : nodesB [root0] = true := by decide

theorem walk1 (va : Option Addr) (vc : Nat) (lb : List Int) (w0 : World) (hbt : Bts w0.heap.size w0 (.slice va lb.length vc) lb) (hl4 : lb.length ≤ 4096) :
    Calls Try.prog 3 #[(.slice va lb.length vc)] w0 fun e w' => e = .returned (.bool true) ∧ Below w0.heap.size w0 w' := by
  have hbg : decide ((lb.length : Int) > 4096) = false := by simp; omega
  have hM := Mem.start w0
  go_enter Try.func3, Try.ntmps3
  refine wp_seq_k fun _ cn1 => wl_region ?_
  refine np (.bool false) ?_
  go_frame
  refine wl_nil (cn1 _ _ ?_)
  clear cn1
  refine wp_seq_k fun Kn2 cn2 => ?_
  refine wp_seq_k fun _ cn3 => wl_region ?_
  refine np (.slice va lb.length vc) ?_
  refine nc (big_slice va lb.length vc _) ?_
  rintro e W1 ⟨rfl, hb⟩
  refine ⟨.bool false, rb hbg, ?_⟩
  replace hM := hM.call hb
  go_frame
  refine wl_nil (cn3 _ _ ?_)
  clear cn3
  refine wp_cond_false rfl ?_
  refine wp_skip ?_
  refine cn2 _ _ ?_
  clear cn2
  refine wp_seq_k fun _ cn4 => wl_region ?_
  refine np (.slice va lb.length vc) ?_
  refine nc (spec_DrawNodesOk va vc lb _ (bts_later hbt hM.below) hl4) ?_
  rintro e W2 ⟨⟨ln, un, rfl, hln, hNs⟩, hb⟩
  have hM0 := hM.call hb; clear hM; have hM := Mem.start W2
  have hbt1 := bts_later hbt hM0.below
  refine ⟨_, rfl, ?_⟩
  go_frame
  refine np (un) ?_
  go_frame
  refine wl_nil (cn4 _ _ ?_)
  clear cn4
  refine wp_seq_k fun _ cn5 => wl_region ?_
  refine np (.slice va lb.length vc) ?_
  refine nc (spec_DrawWithKid va vc lb _ (bts_later hbt1 hM.below) hl4) ?_
  rintro e W3 ⟨⟨nw, sd, kd, rfl, hnt⟩, hb⟩
  replace hM := hM.call hb
  obtain ⟨nwk, nwv, nwl, nwr, nwo, nwg, nwlt, nwrt⟩ := nw
  replace hnt : ((0 ≤ nwlt ∧ nwlt ≤ 2) ∧ (0 ≤ nwrt ∧ nwrt ≤ 2)) := hnt
  refine ⟨_, rfl, ?_⟩
  go_frame
  refine np (.tuple #[.agg (ND.cells ⟨nwk, nwv, nwl, nwr, nwo, nwg, nwlt, nwrt⟩).toArray, .int .i64 sd, .int .i64 kd]) ?_
  refine np (.agg (ND.cells ⟨nwk, nwv, nwl, nwr, nwo, nwg, nwlt, nwrt⟩).toArray) ?_
  refine np (.int .i64 sd) ?_
  refine np (.int .i64 kd) ?_
  refine na hM [.int .i64 0, .int .i64 0, .int .i64 0, .int .i64 0, .int .i64 0, .bool false, .int .i64 0, .int .i64 0] Z_impl_Node ?_
  clear hM; intro g1 W4 hM
  refine nS hM 0 rfl (ND.cells ⟨nwk, nwv, nwl, nwr, nwo, nwg, nwlt, nwrt⟩) I_impl_Node (nd_one _) ?_
  clear hM; intro W5 hM
  refine np (.int .i64 sd) ?_
  refine np (.int .i64 kd) ?_
  go_frame
  refine wl_nil (cn5 _ _ ?_)
  clear cn5
  refine wp_seq_k fun _ cn6 => wl_region ?_
  refine nl hM 0 rfl Try.underlying27 I_impl_Node ?_
  refine np (.int .i64 sd) ?_
  refine np (.int .i64 kd) ?_
  refine nc (impl_WithKid nwk nwv nwl nwr nwo nwg nwlt nwrt sd kd _) ?_
  rintro e W6 ⟨rfl, hb⟩
  refine ⟨_, rfl, ?_⟩
  replace hM := hM.call hb
  go_frame
  refine na hM [.int .i64 0, .int .i64 0, .int .i64 0, .int .i64 0, .int .i64 0, .bool false, .int .i64 0, .int .i64 0] Z_impl_Node ?_
  clear hM; intro g2 W7 hM
  refine nS hM 0 rfl (ND.cells ⟨nwk, nwv, (leftF sd kd nwl), (rightF sd kd nwr), nwo, nwg, nwlt, nwrt⟩) I_impl_Node (nd_one _) ?_
  clear hM; intro W8 hM
  refine wl_nil (cn6 _ _ ?_)
  clear cn6
  refine wp_seq_k fun _ cn7 => wl_region ?_
  refine np (.slice va lb.length vc) ?_
  refine nc (spec_DrawTagAt va vc lb _ (bts_later hbt1 hM.below) hl4) ?_
  rintro e W9 ⟨⟨nt, st, rfl⟩, hb⟩
  replace hM := hM.call hb
  obtain ⟨ntk, ntv, ntl, ntr, nto, ntg, ntlt, ntrt⟩ := nt
  refine ⟨_, rfl, ?_⟩
  go_frame
  refine np (.tuple #[.agg (ND.cells ⟨ntk, ntv, ntl, ntr, nto, ntg, ntlt, ntrt⟩).toArray, .int .i64 st]) ?_
  refine np (.agg (ND.cells ⟨ntk, ntv, ntl, ntr, nto, ntg, ntlt, ntrt⟩).toArray) ?_
  refine np (.int .i64 st) ?_
  refine na hM [.int .i64 0, .int .i64 0, .int .i64 0, .int .i64 0, .int .i64 0, .bool false, .int .i64 0, .int .i64 0] Z_impl_Node ?_
  clear hM; intro g3 W10 hM
  refine nS hM 0 rfl (ND.cells ⟨ntk, ntv, ntl, ntr, nto, ntg, ntlt, ntrt⟩) I_impl_Node (nd_one _) ?_
  clear hM; intro W11 hM
  refine np (.int .i64 st) ?_
  go_frame
  refine wl_nil (cn7 _ _ ?_)
  clear cn7
  refine wp_seq_k fun _ cn8 => wl_region ?_
  refine np (.slice va lb.length vc) ?_
  refine nc (spec_DrawSideOf va vc lb _ (bts_later hbt1 hM.below) hl4) ?_
  rintro e W12 ⟨⟨ns, sk, rfl⟩, hb⟩
  replace hM := hM.call hb
  obtain ⟨nsk, nsv, nsl, nsr, nso, nsg, nslt, nsrt⟩ := ns
  refine ⟨_, rfl, ?_⟩
  go_frame
  refine np (.tuple #[.agg (ND.cells ⟨nsk, nsv, nsl, nsr, nso, nsg, nslt, nsrt⟩).toArray, .int .i64 sk]) ?_
  refine np (.agg (ND.cells ⟨nsk, nsv, nsl, nsr, nso, nsg, nslt, nsrt⟩).toArray) ?_
  refine np (.int .i64 sk) ?_
  refine na hM [.int .i64 0, .int .i64 0, .int .i64 0, .int .i64 0, .int .i64 0, .bool false, .int .i64 0, .int .i64 0] Z_impl_Node ?_
  clear hM; intro g4 W13 hM
  refine nS hM 0 rfl (ND.cells ⟨nsk, nsv, nsl, nsr, nso, nsg, nslt, nsrt⟩) I_impl_Node (nd_one _) ?_
  clear hM; intro W14 hM
  refine np (.int .i64 sk) ?_
  go_frame
  refine wl_nil (cn8 _ _ ?_)
  clear cn8
  refine wp_seq_k fun Kn9 cn9 => ?_
  refine wp_seq_k fun Kn10 cn10 => ?_
  refine wa_start (fun w => Below W2.heap.size W2 w ∧ Blk w g2 27 (ND.cells ⟨nwk, nwv, (leftF sd kd nwl), (rightF sd kd nwr), nwo, nwg, nwlt, nwrt⟩) ∧ Blk w g1 27 (ND.cells ⟨nwk, nwv, nwl, nwr, nwo, nwg, nwlt, nwrt⟩) ∧ Blk w g3 27 (ND.cells ⟨ntk, ntv, ntl, ntr, nto, ntg, ntlt, ntrt⟩) ∧ Blk w g4 27 (ND.cells ⟨nsk, nsv, nsl, nsr, nso, nsg, nslt, nsrt⟩)) 55 rfl (by kernel_rfl) ?_
  replace hM := hM.drew
  refine wt 0 (some 38) (un) ⟨hM.below, hM.blk 2 rfl, hM.blk 3 rfl, hM.blk 1 rfl, hM.blk 0 rfl⟩ ?_
  refine wt 2 (some 40) (un) ⟨hM.below, hM.blk 2 rfl, hM.blk 3 rfl, hM.blk 1 rfl, hM.blk 0 rfl⟩ ?_
  go_frame
  refine wn 1 ?_
  refine oc (some 39) (impl_NodesOk un ln _ (hNs.below hM.below) (by omega)) ?_
  rintro e W15 ⟨rfl, hb⟩
  replace hM := hM.call hb
  refine ⟨_, rfl, ⟨hM.below, hM.blk 2 rfl, hM.blk 3 rfl, hM.blk 1 rfl, hM.blk 0 rfl⟩, ?_⟩
  go_frame
  refine wn 3 ?_
  refine oc (some 41) (spec_NodesOk un ln _ (hNs.below hM.below) (by omega)) ?_
  rintro e W16 ⟨rfl, hb⟩
  replace hM := hM.call hb
  refine ⟨_, rfl, wk ⟨hM.below, hM.blk 2 rfl, hM.blk 3 rfl, hM.blk 1 rfl, hM.blk 0 rfl⟩ fun hs => ?_⟩
  go_frame
  refine wq 4 (some 42) (.bool false) hs rfl (fun w hS => r_eq (v := .bool ((nodesB ln) != (nodesB ln))) (by kernel_rfl) (congrArg Value.bool (bne_self_eq_false _))) ?_
  refine wt 5 (some 43) (.bool false) hs ?_
  go_frame
  refine wq 6 (some 44) (.agg (ND.cells ⟨nwk, nwv, (leftF sd kd nwl), (rightF sd kd nwr), nwo, nwg, nwlt, nwrt⟩).toArray) hs rfl (fun w hS => r_load hS.2.1 27 _ rfl rfl Try.underlying27 I_impl_Node) ?_
  go_frame
  refine wq 7 (some 45) (.agg (ND.cells ⟨nwk, nwv, nwl, nwr, nwo, nwg, nwlt, nwrt⟩).toArray) hs rfl (fun w hS => r_load hS.2.2.1 27 _ rfl rfl Try.underlying27 I_impl_Node) ?_
  refine wt 8 (some 46) (.int .i64 sd) hs ?_
  refine wt 9 (some 47) (.int .i64 kd) hs ?_
  go_frame
  refine wn 10 ?_
  refine oc (some 48) (spec_WithKid nwk nwv nwl nwr nwo nwg nwlt nwrt sd kd _) ?_
  rintro e W17 ⟨rfl, hb⟩
  replace hM := hM.call hb
  refine ⟨_, rfl, wk ⟨hM.below, hM.blk 2 rfl, hM.blk 3 rfl, hM.blk 1 rfl, hM.blk 0 rfl⟩ fun hs => ?_⟩
  go_frame
  refine wq 11 (some 49) (.bool false) hs rfl (fun w hS => r_eq (v := .bool (!(ndEq (⟨nwk, nwv, (leftF sd kd nwl), (rightF sd kd nwr), nwo, nwg, nwlt, nwrt⟩) (⟨nwk, nwv, (leftF sd kd nwl), (rightF sd kd nwr), nwo, nwg, nwlt, nwrt⟩)))) (nd_neq ⟨nwk, nwv, (leftF sd kd nwl), (rightF sd kd nwr), nwo, nwg, nwlt, nwrt⟩ ⟨nwk, nwv, (leftF sd kd nwl), (rightF sd kd nwr), nwo, nwg, nwlt, nwrt⟩ rfl rfl rfl) (congrArg Value.bool (congrArg Bool.not (ndEq_self _)))) ?_
  refine wt 12 (some 50) (.bool false) hs ?_
  refine wt 13 (some 51) (.bool false) hs ?_
  go_frame
  refine wq 14 (some 52) (.agg (ND.cells ⟨ntk, ntv, ntl, ntr, nto, ntg, ntlt, ntrt⟩).toArray) hs rfl (fun w hS => r_load hS.2.2.2.1 27 _ rfl rfl Try.underlying27 I_impl_Node) ?_
  refine wt 15 (some 53) (.int .i64 st) hs ?_
  go_frame
  refine wq 17 (some 55) (.agg (ND.cells ⟨ntk, ntv, ntl, ntr, nto, ntg, ntlt, ntrt⟩).toArray) hs rfl (fun w hS => r_load hS.2.2.2.1 27 _ rfl rfl Try.underlying27 I_impl_Node) ?_
  refine wt 18 (some 56) (.int .i64 st) hs ?_
  go_frame
  refine wn 16 ?_
  refine oc (some 54) (impl_KidOf ntk ntv ntl ntr nto ntg ntlt ntrt st _) ?_
  rintro e W18 ⟨rfl, hb⟩
  replace hM := hM.call hb
  refine ⟨_, rfl, ⟨hM.below, hM.blk 2 rfl, hM.blk 3 rfl, hM.blk 1 rfl, hM.blk 0 rfl⟩, ?_⟩
  go_frame
  refine wn 19 ?_
  refine oc (some 57) (spec_KidOf ntk ntv ntl ntr nto ntg ntlt ntrt st _) ?_
  rintro e W19 ⟨rfl, hb⟩
  replace hM := hM.call hb
  refine ⟨_, rfl, wk ⟨hM.below, hM.blk 2 rfl, hM.blk 3 rfl, hM.blk 1 rfl, hM.blk 0 rfl⟩ fun hs => ?_⟩
  go_frame
  refine wq 20 (some 58) (.bool false) hs rfl (fun w hS => r_eq (v := .bool ((kidF st ntl ntr) != (kidF st ntl ntr))) (by kernel_rfl) (congrArg Value.bool (bne_self_eq_false _))) ?_
  refine wt 21 (some 59) (.bool false) hs ?_
  refine wt 22 (some 60) (.bool false) hs ?_
  go_frame
  refine wq 23 (some 61) (.agg (ND.cells ⟨ntk, ntv, ntl, ntr, nto, ntg, ntlt, ntrt⟩).toArray) hs rfl (fun w hS => r_load hS.2.2.2.1 27 _ rfl rfl Try.underlying27 I_impl_Node) ?_
  refine wt 24 (some 62) (.int .i64 st) hs ?_
  go_frame
  refine wq 26 (some 64) (.agg (ND.cells ⟨ntk, ntv, ntl, ntr, nto, ntg, ntlt, ntrt⟩).toArray) hs rfl (fun w hS => r_load hS.2.2.2.1 27 _ rfl rfl Try.underlying27 I_impl_Node) ?_
  refine wt 27 (some 65) (.int .i64 st) hs ?_
  go_frame
  refine wn 25 ?_
  refine oc (some 63) (impl_TagAt ntk ntv ntl ntr nto ntg ntlt ntrt st _) ?_
  rintro e W20 ⟨rfl, hb⟩
  replace hM := hM.call hb
  refine ⟨_, rfl, ⟨hM.below, hM.blk 2 rfl, hM.blk 3 rfl, hM.blk 1 rfl, hM.blk 0 rfl⟩, ?_⟩
  go_frame
  refine wn 28 ?_
  refine oc (some 66) (spec_TagAt ntk ntv ntl ntr nto ntg ntlt ntrt st _) ?_
  rintro e W21 ⟨rfl, hb⟩
  replace hM := hM.call hb
  refine ⟨_, rfl, wk ⟨hM.below, hM.blk 2 rfl, hM.blk 3 rfl, hM.blk 1 rfl, hM.blk 0 rfl⟩ fun hs => ?_⟩
  go_frame
  refine wq 29 (some 67) (.bool false) hs rfl (fun w hS => r_eq (v := .bool ((kidF st ntlt ntrt) != (kidF st ntlt ntrt))) (by kernel_rfl) (congrArg Value.bool (bne_self_eq_false _))) ?_
  refine wt 30 (some 68) (.bool false) hs ?_
  refine wt 31 (some 69) (.bool false) hs ?_
  go_frame
  refine wq 32 (some 70) (.agg (ND.cells ⟨ntk, ntv, ntl, ntr, nto, ntg, ntlt, ntrt⟩).toArray) hs rfl (fun w hS => r_load hS.2.2.2.1 27 _ rfl rfl Try.underlying27 I_impl_Node) ?_
  refine wt 33 (some 71) (.int .i64 st) hs ?_
  go_frame
  refine wq 35 (some 73) (.agg (ND.cells ⟨ntk, ntv, ntl, ntr, nto, ntg, ntlt, ntrt⟩).toArray) hs rfl (fun w hS => r_load hS.2.2.2.1 27 _ rfl rfl Try.underlying27 I_impl_Node) ?_
  refine wt 36 (some 74) (.int .i64 st) hs ?_
  go_frame
  refine wn 34 ?_
  refine oc (some 72) (impl_WithTag ntk ntv ntl ntr nto ntg ntlt ntrt st _) ?_
  rintro e W22 ⟨rfl, hb⟩
  replace hM := hM.call hb
  refine ⟨_, rfl, ⟨hM.below, hM.blk 2 rfl, hM.blk 3 rfl, hM.blk 1 rfl, hM.blk 0 rfl⟩, ?_⟩
  go_frame
  refine wn 37 ?_
  refine oc (some 75) (spec_WithTag ntk ntv ntl ntr nto ntg ntlt ntrt st _) ?_
  rintro e W23 ⟨rfl, hb⟩
  replace hM := hM.call hb
  refine ⟨_, rfl, wk ⟨hM.below, hM.blk 2 rfl, hM.blk 3 rfl, hM.blk 1 rfl, hM.blk 0 rfl⟩ fun hs => ?_⟩
  go_frame
  refine wq 38 (some 76) (.bool false) hs rfl (fun w hS => r_eq (v := .bool (!(ndEq (⟨ntk, ntv, ntl, ntr, nto, ntg, (leftF st (wrap64 (ntlt + 1)) ntlt), (rightF st (wrap64 (ntrt + 1)) ntrt)⟩) (⟨ntk, ntv, ntl, ntr, nto, ntg, (leftF st (wrap64 (ntlt + 1)) ntlt), (rightF st (wrap64 (ntrt + 1)) ntrt)⟩)))) (nd_neq ⟨ntk, ntv, ntl, ntr, nto, ntg, (leftF st (wrap64 (ntlt + 1)) ntlt), (rightF st (wrap64 (ntrt + 1)) ntrt)⟩ ⟨ntk, ntv, ntl, ntr, nto, ntg, (leftF st (wrap64 (ntlt + 1)) ntlt), (rightF st (wrap64 (ntrt + 1)) ntrt)⟩ rfl rfl rfl) (congrArg Value.bool (congrArg Bool.not (ndEq_self _)))) ?_
  refine wt 39 (some 77) (.bool false) hs ?_
  refine wt 40 (some 78) (.bool false) hs ?_
  go_frame
  refine wq 41 (some 79) (.agg (ND.cells ⟨nsk, nsv, nsl, nsr, nso, nsg, nslt, nsrt⟩).toArray) hs rfl (fun w hS => r_load hS.2.2.2.2 27 _ rfl rfl Try.underlying27 I_impl_Node) ?_
  refine wt 42 (some 80) (.int .i64 sk) hs ?_
  go_frame
  refine wq 44 (some 82) (.agg (ND.cells ⟨nsk, nsv, nsl, nsr, nso, nsg, nslt, nsrt⟩).toArray) hs rfl (fun w hS => r_load hS.2.2.2.2 27 _ rfl rfl Try.underlying27 I_impl_Node) ?_
  refine wt 45 (some 83) (.int .i64 sk) hs ?_
  go_frame
  refine wn 43 ?_
  refine oc (some 81) (impl_SideOf nsk nsv nsl nsr nso nsg nslt nsrt sk _) ?_
  rintro e W24 ⟨rfl, hb⟩
  replace hM := hM.call hb
  refine ⟨_, rfl, ⟨hM.below, hM.blk 2 rfl, hM.blk 3 rfl, hM.blk 1 rfl, hM.blk 0 rfl⟩, ?_⟩
  go_frame
  refine wn 46 ?_
  refine oc (some 84) (spec_SideOf nsk nsv nsl nsr nso nsg nslt nsrt sk _) ?_
  rintro e W25 ⟨rfl, hb⟩
  replace hM := hM.call hb
  refine ⟨_, rfl, wk ⟨hM.below, hM.blk 2 rfl, hM.blk 3 rfl, hM.blk 1 rfl, hM.blk 0 rfl⟩ fun hs => ?_⟩
  go_frame
  refine wq 47 (some 85) (.bool false) hs rfl (fun w hS => r_eq (v := .bool ((sideF sk nsk) != (sideF sk nsk))) (by kernel_rfl) (congrArg Value.bool (bne_self_eq_false _))) ?_
  refine wt 48 (some 86) (.bool false) hs ?_
  refine wt 49 (some 87) (.bool false) hs ?_
  go_frame
  refine wn 50 ?_
  refine oc (some 88) (impl_RootsM _) ?_
  rintro e W26 ⟨rg'1, rfl, hMr⟩
  replace hM := hM.join hMr
  refine ⟨_, rfl, ⟨hM.below, hM.blk 3 rfl, hM.blk 4 rfl, hM.blk 2 rfl, hM.blk 1 rfl⟩, ?_⟩
  go_frame
  refine wn 51 ?_
  refine oc (some 89) (spec_RootsM _) ?_
  rintro e W27 ⟨rg'2, rfl, hMr⟩
  replace hM := hM.join hMr
  refine ⟨_, rfl, ⟨hM.below, hM.blk 4 rfl, hM.blk 5 rfl, hM.blk 3 rfl, hM.blk 2 rfl⟩, ?_⟩
  go_frame
  refine wn 52 ?_
  refine oc (some 90) (like_roots rg'1 rg'2 _ (nsl_blk (l := [root0]) (p := []) (hM.blk 1 rfl) (by decide) (by simp [maxLen])) (nsl_blk (l := [root0]) (p := []) (hM.blk 0 rfl) (by decide) (by simp [maxLen]))) ?_
  rintro e W28 ⟨rfl, hb⟩
  replace hM := hM.call hb
  refine ⟨_, rfl, wk ⟨hM.below, hM.blk 4 rfl, hM.blk 5 rfl, hM.blk 3 rfl, hM.blk 2 rfl⟩ fun hs => ?_⟩
  go_frame
  refine wt 53 (some 91) (.bool false) hs ?_
  refine wt 54 (some 92) (.bool false) hs ?_
  go_frame
  refine wa_done (by kernel_rfl) ?_
  refine cn10 _ _ ?_
  clear cn10
  refine wp_cond_false rfl ?_
  refine wp_skip ?_
  refine cn9 _ _ ?_
  clear cn9
  refine wp_seq_k fun Kn11 cn11 => ?_
  refine wp_seq_k fun _ cn12 => wl_region ?_
  refine np (.int .i64 0) ?_
  go_frame
  refine wl_nil (cn12 _ _ ?_)
  clear cn12
  refine wp_block ?_
  refine wp_loop_rounds 3 ?_
  rw [rounds_succ]
  refine wp_seq_k fun Kn13 cn13 => ?_
  refine wp_seq_k fun _ cn14 => wl_region ?_
  refine np (.int .i64 0) ?_
  refine np (.bool true) ?_
  go_frame
  refine wl_nil (cn14 _ _ ?_)
  clear cn14
  refine wp_cond_true rfl ?_
  refine wp_skip ?_
  refine cn13 _ _ ?_
  clear cn13
  refine wp_seq_k fun Kn15 cn15 => ?_
  refine wp_block ?_
  refine wp_seq_k fun _ cn16 => wl_region ?_
  refine nl hM 5 rfl Try.underlying27 I_impl_Node ?_
  refine np (.int .i64 0) ?_
  refine nc (spec_KidOf nwk nwv nwl nwr nwo nwg nwlt nwrt 0 _) ?_
  rintro e W29 ⟨rfl, hb⟩
  refine ⟨.int .i64 nwl, rfl, ?_⟩
  replace hM := hM.call hb
  go_frame
  refine np (.int .i64 nwl) ?_
  go_frame
  refine wl_nil (cn16 _ _ ?_)
  clear cn16
  refine wp_seq_k fun Kn17 cn17 => ?_
  refine wp_seq_k fun _ cn18 => wl_region ?_
  refine np (.int .i64 0) ?_
  refine np (.int .i64 sd) ?_
  refine np (.bool (0 == sd)) ?_
  go_frame
  refine wl_nil (cn18 _ _ ?_)
  clear cn18
  rcases tf ((0 == sd)) with hx1 | hx1
  rw [hx1]
  have hx2 : ((leftF sd kd nwl) != kd) = false := by simp [leftF, rightF, show sd = 0 by simp at hx1; omega]
  refine wp_cond_true rfl ?_
  refine wl_region ?_
  refine np (.int .i64 kd) ?_
  refine np (.int .i64 kd) ?_
  go_frame
  refine wl_nil (cn17 _ _ ?_)
  clear cn17
  refine wp_seq_k fun Kn19 cn19 => ?_
  refine wa_start (fun w => Below W2.heap.size W2 w ∧ Blk w g2 27 (ND.cells ⟨nwk, nwv, (leftF sd kd nwl), (rightF sd kd nwr), nwo, nwg, nwlt, nwrt⟩) ∧ Blk w g1 27 (ND.cells ⟨nwk, nwv, nwl, nwr, nwo, nwg, nwlt, nwrt⟩)) 30 rfl (by kernel_rfl) ?_
  replace hM := hM.drew
  refine wq 0 (some 104) (.agg (ND.cells ⟨nwk, nwv, (leftF sd kd nwl), (rightF sd kd nwr), nwo, nwg, nwlt, nwrt⟩).toArray) ⟨hM.below, hM.blk 4 rfl, hM.blk 5 rfl⟩ rfl (fun w hS => r_load hS.2.1 27 _ rfl rfl Try.underlying27 I_impl_Node) ?_
  refine wt 1 (some 105) (.int .i64 0) ⟨hM.below, hM.blk 4 rfl, hM.blk 5 rfl⟩ ?_
  refine wt 3 (some 107) (.int .i64 kd) ⟨hM.below, hM.blk 4 rfl, hM.blk 5 rfl⟩ ?_
  go_frame
  refine wn 2 ?_
  refine oc (some 106) (impl_KidOf nwk nwv (leftF sd kd nwl) (rightF sd kd nwr) nwo nwg nwlt nwrt 0 _) ?_
  rintro e W30 ⟨rfl, hb⟩
  replace hM := hM.call hb
  refine ⟨.int .i64 (leftF sd kd nwl), rfl, wk ⟨hM.below, hM.blk 4 rfl, hM.blk 5 rfl⟩ fun hs => ?_⟩
  go_frame
  refine wq 4 (some 108) (.bool false) hs rfl (fun w hS => r_eq (v := .bool ((leftF sd kd nwl) != kd)) (by kernel_rfl) (congrArg Value.bool hx2)) ?_
  refine wt 5 (some 109) (.bool false) hs ?_
  go_frame
  refine wq 6 (some 110) (.agg (ND.cells ⟨nwk, nwv, nwl, nwr, nwo, nwg, nwlt, nwrt⟩).toArray) hs rfl (fun w hS => r_load hS.2.2 27 _ rfl rfl Try.underlying27 I_impl_Node) ?_
  refine wt 7 (some 111) (.int .i64 0) hs ?_
  refine wt 9 (some 113) (.int .i64 0) hs ?_
  go_frame
  refine wq 11 (some 115) (.agg (ND.cells ⟨nwk, nwv, nwl, nwr, nwo, nwg, nwlt, nwrt⟩).toArray) hs rfl (fun w hS => r_load hS.2.2 27 _ rfl rfl Try.underlying27 I_impl_Node) ?_
  refine wt 12 (some 116) (.int .i64 0) hs ?_
  go_frame
  refine wn 8 ?_
  refine oc (some 112) (tag0 nwk nwv nwl nwr nwo nwg nwlt nwrt _ hnt.1) ?_
  rintro e W31 ⟨rfl, hb⟩
  replace hM := hM.call hb
  refine ⟨_, rfl, ⟨hM.below, hM.blk 4 rfl, hM.blk 5 rfl⟩, ?_⟩
  go_frame
  refine wn 10 ?_
  refine oc (some 114) (impl_TagAt nwk nwv nwl nwr nwo nwg (nwlt + 1) nwrt 0 _) ?_
  rintro e W32 ⟨rfl, hb⟩
  replace hM := hM.call hb
  refine ⟨.int .i64 (nwlt + 1), rfl, ⟨hM.below, hM.blk 4 rfl, hM.blk 5 rfl⟩, ?_⟩
  go_frame
  refine wn 13 ?_
  refine oc (some 117) (impl_TagAt nwk nwv nwl nwr nwo nwg nwlt nwrt 0 _) ?_
  rintro e W33 ⟨rfl, hb⟩
  replace hM := hM.call hb
  refine ⟨.int .i64 nwlt, rfl, wk ⟨hM.below, hM.blk 4 rfl, hM.blk 5 rfl⟩ fun hs => ?_⟩
  go_frame
  refine wq 14 (some 118) (.int .i64 (nwlt + 1)) hs rfl (fun w hS => r_int (n := nwlt + 1) (by kernel_rfl) (by omega) (by omega)) ?_
  go_frame
  refine wq 15 (some 119) (.bool false) hs rfl (fun w hS => r_eq (v := .bool ((nwlt + 1) != (nwlt + 1))) (by kernel_rfl) (congrArg Value.bool (bne_self_eq_false _))) ?_
  refine wt 16 (some 120) (.bool false) hs ?_
  refine wt 17 (some 121) (.bool false) hs ?_
  go_frame
  refine wq 18 (some 122) (.agg (ND.cells ⟨nwk, nwv, nwl, nwr, nwo, nwg, nwlt, nwrt⟩).toArray) hs rfl (fun w hS => r_load hS.2.2 27 _ rfl rfl Try.underlying27 I_impl_Node) ?_
  refine wt 19 (some 123) (.int .i64 0) hs ?_
  refine wt 21 (some 125) (.int .i64 0) hs ?_
  refine wt 22 (some 126) (.int .i64 1) hs ?_
  go_frame
  refine wq 24 (some 128) (.agg (ND.cells ⟨nwk, nwv, nwl, nwr, nwo, nwg, nwlt, nwrt⟩).toArray) hs rfl (fun w hS => r_load hS.2.2 27 _ rfl rfl Try.underlying27 I_impl_Node) ?_
  refine wt 25 (some 129) (.int .i64 0) hs ?_
  refine wt 26 (some 130) (.int .i64 1) hs ?_
  go_frame
  refine wn 20 ?_
  refine oc (some 124) (tag0 nwk nwv nwl nwr nwo nwg nwlt nwrt _ hnt.1) ?_
  rintro e W34 ⟨rfl, hb⟩
  replace hM := hM.call hb
  refine ⟨_, rfl, ⟨hM.below, hM.blk 4 rfl, hM.blk 5 rfl⟩, ?_⟩
  go_frame
  refine wn 23 ?_
  refine oc (some 127) (impl_TagAt nwk nwv nwl nwr nwo nwg (nwlt + 1) nwrt 1 _) ?_
  rintro e W35 ⟨rfl, hb⟩
  replace hM := hM.call hb
  refine ⟨.int .i64 nwrt, rfl, ⟨hM.below, hM.blk 4 rfl, hM.blk 5 rfl⟩, ?_⟩
  go_frame
  refine wn 27 ?_
  refine oc (some 131) (impl_TagAt nwk nwv nwl nwr nwo nwg nwlt nwrt 1 _) ?_
  rintro e W36 ⟨rfl, hb⟩
  replace hM := hM.call hb
  refine ⟨.int .i64 nwrt, rfl, wk ⟨hM.below, hM.blk 4 rfl, hM.blk 5 rfl⟩ fun hs => ?_⟩
  go_frame
  refine wq 28 (some 132) (.bool false) hs rfl (fun w hS => r_eq (v := .bool (nwrt != nwrt)) (by kernel_rfl) (congrArg Value.bool (bne_self_eq_false _))) ?_
  refine wt 29 (some 133) (.bool false) hs ?_
  go_frame
  refine wa_done (by kernel_rfl) ?_
  refine cn19 _ _ ?_
  clear cn19
  refine wp_cond_false rfl ?_
  refine wp_skip ?_
  refine cn15 _ _ ?_
  clear cn15
  refine wl_region ?_
  refine np (.int .i64 0) ?_
  refine np (.int .i64 1) ?_
  refine np (.int .i64 1) ?_
  go_frame
  refine wl_nil ?_
  refine round_go ?_
  refine wp_seq_k fun Kn20 cn20 => ?_
  refine wp_seq_k fun _ cn21 => wl_region ?_
  refine np (.int .i64 1) ?_
  refine np (.bool true) ?_
  go_frame
  refine wl_nil (cn21 _ _ ?_)
  clear cn21
  refine wp_cond_true rfl ?_
  refine wp_skip ?_
  refine cn20 _ _ ?_
  clear cn20
  refine wp_seq_k fun Kn22 cn22 => ?_
  refine wp_block ?_
  refine wp_seq_k fun _ cn23 => wl_region ?_
  refine nl hM 5 rfl Try.underlying27 I_impl_Node ?_
  refine np (.int .i64 1) ?_
  refine nc (spec_KidOf nwk nwv nwl nwr nwo nwg nwlt nwrt 1 _) ?_
  rintro e W37 ⟨rfl, hb⟩
  refine ⟨.int .i64 nwr, rfl, ?_⟩
  replace hM := hM.call hb
  go_frame
  refine np (.int .i64 nwr) ?_
  go_frame
  refine wl_nil (cn23 _ _ ?_)
  clear cn23
  refine wp_seq_k fun Kn24 cn24 => ?_
  refine wp_seq_k fun _ cn25 => wl_region ?_
  refine np (.int .i64 1) ?_
  refine np (.int .i64 sd) ?_
  refine np (.bool (1 == sd)) ?_
  go_frame
  refine wl_nil (cn25 _ _ ?_)
  clear cn25
  rcases tf ((1 == sd)) with hx3 | hx3
  rw [hx3]
  exact absurd (show sd = 1 by simp at hx3; omega) (by simp at hx1; omega)
  rw [hx3]
  have hx5 : ((rightF sd kd nwr) != nwr) = false := by simp [leftF, rightF, show ¬ sd = 1 by simp at hx3; omega]
  refine wp_cond_false rfl ?_
  refine wp_skip ?_
  refine cn24 _ _ ?_
  clear cn24
  refine wp_seq_k fun Kn26 cn26 => ?_
  refine wa_start (fun w => Below W2.heap.size W2 w ∧ Blk w g2 27 (ND.cells ⟨nwk, nwv, (leftF sd kd nwl), (rightF sd kd nwr), nwo, nwg, nwlt, nwrt⟩) ∧ Blk w g1 27 (ND.cells ⟨nwk, nwv, nwl, nwr, nwo, nwg, nwlt, nwrt⟩)) 30 rfl (by kernel_rfl) ?_
  replace hM := hM.drew
  refine wq 0 (some 104) (.agg (ND.cells ⟨nwk, nwv, (leftF sd kd nwl), (rightF sd kd nwr), nwo, nwg, nwlt, nwrt⟩).toArray) ⟨hM.below, hM.blk 4 rfl, hM.blk 5 rfl⟩ rfl (fun w hS => r_load hS.2.1 27 _ rfl rfl Try.underlying27 I_impl_Node) ?_
  refine wt 1 (some 105) (.int .i64 1) ⟨hM.below, hM.blk 4 rfl, hM.blk 5 rfl⟩ ?_
  refine wt 3 (some 107) (.int .i64 nwr) ⟨hM.below, hM.blk 4 rfl, hM.blk 5 rfl⟩ ?_
  go_frame
  refine wn 2 ?_
  refine oc (some 106) (impl_KidOf nwk nwv (leftF sd kd nwl) (rightF sd kd nwr) nwo nwg nwlt nwrt 1 _) ?_
  rintro e W38 ⟨rfl, hb⟩
  replace hM := hM.call hb
  refine ⟨.int .i64 (rightF sd kd nwr), rfl, wk ⟨hM.below, hM.blk 4 rfl, hM.blk 5 rfl⟩ fun hs => ?_⟩
  go_frame
  refine wq 4 (some 108) (.bool false) hs rfl (fun w hS => r_eq (v := .bool ((rightF sd kd nwr) != nwr)) (by kernel_rfl) (congrArg Value.bool hx5)) ?_
  refine wt 5 (some 109) (.bool false) hs ?_
  go_frame
  refine wq 6 (some 110) (.agg (ND.cells ⟨nwk, nwv, nwl, nwr, nwo, nwg, nwlt, nwrt⟩).toArray) hs rfl (fun w hS => r_load hS.2.2 27 _ rfl rfl Try.underlying27 I_impl_Node) ?_
  refine wt 7 (some 111) (.int .i64 1) hs ?_
  refine wt 9 (some 113) (.int .i64 1) hs ?_
  go_frame
  refine wq 11 (some 115) (.agg (ND.cells ⟨nwk, nwv, nwl, nwr, nwo, nwg, nwlt, nwrt⟩).toArray) hs rfl (fun w hS => r_load hS.2.2 27 _ rfl rfl Try.underlying27 I_impl_Node) ?_
  refine wt 12 (some 116) (.int .i64 1) hs ?_
  go_frame
  refine wn 8 ?_
  refine oc (some 112) (tag1 nwk nwv nwl nwr nwo nwg nwlt nwrt _ hnt.2) ?_
  rintro e W39 ⟨rfl, hb⟩
  replace hM := hM.call hb
  refine ⟨_, rfl, ⟨hM.below, hM.blk 4 rfl, hM.blk 5 rfl⟩, ?_⟩
  go_frame
  refine wn 10 ?_
  refine oc (some 114) (impl_TagAt nwk nwv nwl nwr nwo nwg nwlt (nwrt + 1) 1 _) ?_
  rintro e W40 ⟨rfl, hb⟩
  replace hM := hM.call hb
  refine ⟨.int .i64 (nwrt + 1), rfl, ⟨hM.below, hM.blk 4 rfl, hM.blk 5 rfl⟩, ?_⟩
  go_frame
  refine wn 13 ?_
  refine oc (some 117) (impl_TagAt nwk nwv nwl nwr nwo nwg nwlt nwrt 1 _) ?_
  rintro e W41 ⟨rfl, hb⟩
  replace hM := hM.call hb
  refine ⟨.int .i64 nwrt, rfl, wk ⟨hM.below, hM.blk 4 rfl, hM.blk 5 rfl⟩ fun hs => ?_⟩
  go_frame
  refine wq 14 (some 118) (.int .i64 (nwrt + 1)) hs rfl (fun w hS => r_int (n := nwrt + 1) (by kernel_rfl) (by omega) (by omega)) ?_
  go_frame
  refine wq 15 (some 119) (.bool false) hs rfl (fun w hS => r_eq (v := .bool ((nwrt + 1) != (nwrt + 1))) (by kernel_rfl) (congrArg Value.bool (bne_self_eq_false _))) ?_
  refine wt 16 (some 120) (.bool false) hs ?_
  refine wt 17 (some 121) (.bool false) hs ?_
  go_frame
  refine wq 18 (some 122) (.agg (ND.cells ⟨nwk, nwv, nwl, nwr, nwo, nwg, nwlt, nwrt⟩).toArray) hs rfl (fun w hS => r_load hS.2.2 27 _ rfl rfl Try.underlying27 I_impl_Node) ?_
  refine wt 19 (some 123) (.int .i64 1) hs ?_
  refine wt 21 (some 125) (.int .i64 1) hs ?_
  refine wt 22 (some 126) (.int .i64 0) hs ?_
  go_frame
  refine wq 24 (some 128) (.agg (ND.cells ⟨nwk, nwv, nwl, nwr, nwo, nwg, nwlt, nwrt⟩).toArray) hs rfl (fun w hS => r_load hS.2.2 27 _ rfl rfl Try.underlying27 I_impl_Node) ?_
  refine wt 25 (some 129) (.int .i64 1) hs ?_
  refine wt 26 (some 130) (.int .i64 0) hs ?_
  go_frame
  refine wn 20 ?_
  refine oc (some 124) (tag1 nwk nwv nwl nwr nwo nwg nwlt nwrt _ hnt.2) ?_
  rintro e W42 ⟨rfl, hb⟩
  replace hM := hM.call hb
  refine ⟨_, rfl, ⟨hM.below, hM.blk 4 rfl, hM.blk 5 rfl⟩, ?_⟩
  go_frame
  refine wn 23 ?_
  refine oc (some 127) (impl_TagAt nwk nwv nwl nwr nwo nwg nwlt (nwrt + 1) 0 _) ?_
  rintro e W43 ⟨rfl, hb⟩
  replace hM := hM.call hb
  refine ⟨.int .i64 nwlt, rfl, ⟨hM.below, hM.blk 4 rfl, hM.blk 5 rfl⟩, ?_⟩
  go_frame
  refine wn 27 ?_
  refine oc (some 131) (impl_TagAt nwk nwv nwl nwr nwo nwg nwlt nwrt 0 _) ?_
  rintro e W44 ⟨rfl, hb⟩
  replace hM := hM.call hb
  refine ⟨.int .i64 nwlt, rfl, wk ⟨hM.below, hM.blk 4 rfl, hM.blk 5 rfl⟩ fun hs => ?_⟩
  go_frame
  refine wq 28 (some 132) (.bool false) hs rfl (fun w hS => r_eq (v := .bool (nwlt != nwlt)) (by kernel_rfl) (congrArg Value.bool (bne_self_eq_false _))) ?_
  refine wt 29 (some 133) (.bool false) hs ?_
  go_frame
  refine wa_done (by kernel_rfl) ?_
  refine cn26 _ _ ?_
  clear cn26
  refine wp_cond_false rfl ?_
  refine wp_skip ?_
  refine cn22 _ _ ?_
  clear cn22
  refine wl_region ?_
  refine np (.int .i64 1) ?_
  refine np (.int .i64 2) ?_
  refine np (.int .i64 2) ?_
  go_frame
  refine wl_nil ?_
  refine round_go ?_
  refine wp_seq_k fun Kn27 cn27 => ?_
  refine wp_seq_k fun _ cn28 => wl_region ?_
  refine np (.int .i64 2) ?_
  refine np (.bool false) ?_
  go_frame
  refine wl_nil (cn28 _ _ ?_)
  clear cn28
  refine wp_cond_false rfl ?_
  refine wp_exit ?_
  refine cn11 _ _ ?_
  clear cn11
  refine wp_seq_k fun _ cn29 => wl_region ?_
  refine nc (impl_RootsM _) ?_
  rintro e W45 ⟨rg'3, rfl, hMr⟩
  replace hM := hM.join hMr
  refine ⟨_, rfl, ?_⟩
  go_frame
  refine nc (impl_NodesOk (.slice (some ⟨rg'3, 0, none⟩) 1 1) [root0] _ (nsl_blk (l := [root0]) (p := []) (hM.blk 0 rfl) (by decide) (by simp [maxLen])) (by decide)) ?_
  rintro e W46 ⟨rfl, hb⟩
  refine ⟨.bool true, rb root_ok, ?_⟩
  replace hM := hM.call hb
  go_frame
  refine np (.bool true) ?_
  go_frame
  refine wl_nil (cn29 _ _ ?_)
  clear cn29
  refine wp_ret ?_
  exact bodyPost_ret (v := .bool true) (ret_tmp 2 rfl rfl) rfl ⟨rfl, hM0.below.trans (hM.below.mono hM0.size)⟩
  rw [hx1]
  have hx6 : ((leftF sd kd nwl) != nwl) = false := by simp [leftF, rightF, show ¬ sd = 0 by simp at hx1; omega]
  refine wp_cond_false rfl ?_
  refine wp_skip ?_
  refine cn17 _ _ ?_
  clear cn17
  refine wp_seq_k fun Kn19 cn19 => ?_
  refine wa_start (fun w => Below W2.heap.size W2 w ∧ Blk w g2 27 (ND.cells ⟨nwk, nwv, (leftF sd kd nwl), (rightF sd kd nwr), nwo, nwg, nwlt, nwrt⟩) ∧ Blk w g1 27 (ND.cells ⟨nwk, nwv, nwl, nwr, nwo, nwg, nwlt, nwrt⟩)) 30 rfl (by kernel_rfl) ?_
  replace hM := hM.drew
  refine wq 0 (some 104) (.agg (ND.cells ⟨nwk, nwv, (leftF sd kd nwl), (rightF sd kd nwr), nwo, nwg, nwlt, nwrt⟩).toArray) ⟨hM.below, hM.blk 4 rfl, hM.blk 5 rfl⟩ rfl (fun w hS => r_load hS.2.1 27 _ rfl rfl Try.underlying27 I_impl_Node) ?_
  refine wt 1 (some 105) (.int .i64 0) ⟨hM.below, hM.blk 4 rfl, hM.blk 5 rfl⟩ ?_
  refine wt 3 (some 107) (.int .i64 nwl) ⟨hM.below, hM.blk 4 rfl, hM.blk 5 rfl⟩ ?_
  go_frame
  refine wn 2 ?_
  refine oc (some 106) (impl_KidOf nwk nwv (leftF sd kd nwl) (rightF sd kd nwr) nwo nwg nwlt nwrt 0 _) ?_
  rintro e W30 ⟨rfl, hb⟩
  replace hM := hM.call hb
  refine ⟨.int .i64 (leftF sd kd nwl), rfl, wk ⟨hM.below, hM.blk 4 rfl, hM.blk 5 rfl⟩ fun hs => ?_⟩
  go_frame
  refine wq 4 (some 108) (.bool false) hs rfl (fun w hS => r_eq (v := .bool ((leftF sd kd nwl) != nwl)) (by kernel_rfl) (congrArg Value.bool hx6)) ?_
  refine wt 5 (some 109) (.bool false) hs ?_
  go_frame
  refine wq 6 (some 110) (.agg (ND.cells ⟨nwk, nwv, nwl, nwr, nwo, nwg, nwlt, nwrt⟩).toArray) hs rfl (fun w hS => r_load hS.2.2 27 _ rfl rfl Try.underlying27 I_impl_Node) ?_
  refine wt 7 (some 111) (.int .i64 0) hs ?_
  refine wt 9 (some 113) (.int .i64 0) hs ?_
  go_frame
  refine wq 11 (some 115) (.agg (ND.cells ⟨nwk, nwv, nwl, nwr, nwo, nwg, nwlt, nwrt⟩).toArray) hs rfl (fun w hS => r_load hS.2.2 27 _ rfl rfl Try.underlying27 I_impl_Node) ?_
  refine wt 12 (some 116) (.int .i64 0) hs ?_
  go_frame
  refine wn 8 ?_
  refine oc (some 112) (tag0 nwk nwv nwl nwr nwo nwg nwlt nwrt _ hnt.1) ?_
  rintro e W31 ⟨rfl, hb⟩
  replace hM := hM.call hb
  refine ⟨_, rfl, ⟨hM.below, hM.blk 4 rfl, hM.blk 5 rfl⟩, ?_⟩
  go_frame
  refine wn 10 ?_
  refine oc (some 114) (impl_TagAt nwk nwv nwl nwr nwo nwg (nwlt + 1) nwrt 0 _) ?_
  rintro e W32 ⟨rfl, hb⟩
  replace hM := hM.call hb
  refine ⟨.int .i64 (nwlt + 1), rfl, ⟨hM.below, hM.blk 4 rfl, hM.blk 5 rfl⟩, ?_⟩
  go_frame
  refine wn 13 ?_
  refine oc (some 117) (impl_TagAt nwk nwv nwl nwr nwo nwg nwlt nwrt 0 _) ?_
  rintro e W33 ⟨rfl, hb⟩
  replace hM := hM.call hb
  refine ⟨.int .i64 nwlt, rfl, wk ⟨hM.below, hM.blk 4 rfl, hM.blk 5 rfl⟩ fun hs => ?_⟩
  go_frame
  refine wq 14 (some 118) (.int .i64 (nwlt + 1)) hs rfl (fun w hS => r_int (n := nwlt + 1) (by kernel_rfl) (by omega) (by omega)) ?_
  go_frame
  refine wq 15 (some 119) (.bool false) hs rfl (fun w hS => r_eq (v := .bool ((nwlt + 1) != (nwlt + 1))) (by kernel_rfl) (congrArg Value.bool (bne_self_eq_false _))) ?_
  refine wt 16 (some 120) (.bool false) hs ?_
  refine wt 17 (some 121) (.bool false) hs ?_
  go_frame
  refine wq 18 (some 122) (.agg (ND.cells ⟨nwk, nwv, nwl, nwr, nwo, nwg, nwlt, nwrt⟩).toArray) hs rfl (fun w hS => r_load hS.2.2 27 _ rfl rfl Try.underlying27 I_impl_Node) ?_
  refine wt 19 (some 123) (.int .i64 0) hs ?_
  refine wt 21 (some 125) (.int .i64 0) hs ?_
  refine wt 22 (some 126) (.int .i64 1) hs ?_
  go_frame
  refine wq 24 (some 128) (.agg (ND.cells ⟨nwk, nwv, nwl, nwr, nwo, nwg, nwlt, nwrt⟩).toArray) hs rfl (fun w hS => r_load hS.2.2 27 _ rfl rfl Try.underlying27 I_impl_Node) ?_
  refine wt 25 (some 129) (.int .i64 0) hs ?_
  refine wt 26 (some 130) (.int .i64 1) hs ?_
  go_frame
  refine wn 20 ?_
  refine oc (some 124) (tag0 nwk nwv nwl nwr nwo nwg nwlt nwrt _ hnt.1) ?_
  rintro e W34 ⟨rfl, hb⟩
  replace hM := hM.call hb
  refine ⟨_, rfl, ⟨hM.below, hM.blk 4 rfl, hM.blk 5 rfl⟩, ?_⟩
  go_frame
  refine wn 23 ?_
  refine oc (some 127) (impl_TagAt nwk nwv nwl nwr nwo nwg (nwlt + 1) nwrt 1 _) ?_
  rintro e W35 ⟨rfl, hb⟩
  replace hM := hM.call hb
  refine ⟨.int .i64 nwrt, rfl, ⟨hM.below, hM.blk 4 rfl, hM.blk 5 rfl⟩, ?_⟩
  go_frame
  refine wn 27 ?_
  refine oc (some 131) (impl_TagAt nwk nwv nwl nwr nwo nwg nwlt nwrt 1 _) ?_
  rintro e W36 ⟨rfl, hb⟩
  replace hM := hM.call hb
  refine ⟨.int .i64 nwrt, rfl, wk ⟨hM.below, hM.blk 4 rfl, hM.blk 5 rfl⟩ fun hs => ?_⟩
  go_frame
  refine wq 28 (some 132) (.bool false) hs rfl (fun w hS => r_eq (v := .bool (nwrt != nwrt)) (by kernel_rfl) (congrArg Value.bool (bne_self_eq_false _))) ?_
  refine wt 29 (some 133) (.bool false) hs ?_
  go_frame
  refine wa_done (by kernel_rfl) ?_
  refine cn19 _ _ ?_
  clear cn19
  refine wp_cond_false rfl ?_
  refine wp_skip ?_
  refine cn15 _ _ ?_
  clear cn15
  refine wl_region ?_
  refine np (.int .i64 0) ?_
  refine np (.int .i64 1) ?_
  refine np (.int .i64 1) ?_
  go_frame
  refine wl_nil ?_
  refine round_go ?_
  refine wp_seq_k fun Kn20 cn20 => ?_
  refine wp_seq_k fun _ cn21 => wl_region ?_
  refine np (.int .i64 1) ?_
  refine np (.bool true) ?_
  go_frame
  refine wl_nil (cn21 _ _ ?_)
  clear cn21
  refine wp_cond_true rfl ?_
  refine wp_skip ?_
  refine cn20 _ _ ?_
  clear cn20
  refine wp_seq_k fun Kn22 cn22 => ?_
  refine wp_block ?_
  refine wp_seq_k fun _ cn23 => wl_region ?_
  refine nl hM 5 rfl Try.underlying27 I_impl_Node ?_
  refine np (.int .i64 1) ?_
  refine nc (spec_KidOf nwk nwv nwl nwr nwo nwg nwlt nwrt 1 _) ?_
  rintro e W37 ⟨rfl, hb⟩
  refine ⟨.int .i64 nwr, rfl, ?_⟩
  replace hM := hM.call hb
  go_frame
  refine np (.int .i64 nwr) ?_
  go_frame
  refine wl_nil (cn23 _ _ ?_)
  clear cn23
  refine wp_seq_k fun Kn24 cn24 => ?_
  refine wp_seq_k fun _ cn25 => wl_region ?_
  refine np (.int .i64 1) ?_
  refine np (.int .i64 sd) ?_
  refine np (.bool (1 == sd)) ?_
  go_frame
  refine wl_nil (cn25 _ _ ?_)
  clear cn25
  rcases tf ((1 == sd)) with hx7 | hx7
  rw [hx7]
  have hx8 : ((rightF sd kd nwr) != kd) = false := by simp [leftF, rightF, show sd = 1 by simp at hx7; omega]
  refine wp_cond_true rfl ?_
  refine wl_region ?_
  refine np (.int .i64 kd) ?_
  refine np (.int .i64 kd) ?_
  go_frame
  refine wl_nil (cn24 _ _ ?_)
  clear cn24
  refine wp_seq_k fun Kn26 cn26 => ?_
  refine wa_start (fun w => Below W2.heap.size W2 w ∧ Blk w g2 27 (ND.cells ⟨nwk, nwv, (leftF sd kd nwl), (rightF sd kd nwr), nwo, nwg, nwlt, nwrt⟩) ∧ Blk w g1 27 (ND.cells ⟨nwk, nwv, nwl, nwr, nwo, nwg, nwlt, nwrt⟩)) 30 rfl (by kernel_rfl) ?_
  replace hM := hM.drew
  refine wq 0 (some 104) (.agg (ND.cells ⟨nwk, nwv, (leftF sd kd nwl), (rightF sd kd nwr), nwo, nwg, nwlt, nwrt⟩).toArray) ⟨hM.below, hM.blk 4 rfl, hM.blk 5 rfl⟩ rfl (fun w hS => r_load hS.2.1 27 _ rfl rfl Try.underlying27 I_impl_Node) ?_
  refine wt 1 (some 105) (.int .i64 1) ⟨hM.below, hM.blk 4 rfl, hM.blk 5 rfl⟩ ?_
  refine wt 3 (some 107) (.int .i64 kd) ⟨hM.below, hM.blk 4 rfl, hM.blk 5 rfl⟩ ?_
  go_frame
  refine wn 2 ?_
  refine oc (some 106) (impl_KidOf nwk nwv (leftF sd kd nwl) (rightF sd kd nwr) nwo nwg nwlt nwrt 1 _) ?_
  rintro e W38 ⟨rfl, hb⟩
  replace hM := hM.call hb
  refine ⟨.int .i64 (rightF sd kd nwr), rfl, wk ⟨hM.below, hM.blk 4 rfl, hM.blk 5 rfl⟩ fun hs => ?_⟩
  go_frame
  refine wq 4 (some 108) (.bool false) hs rfl (fun w hS => r_eq (v := .bool ((rightF sd kd nwr) != kd)) (by kernel_rfl) (congrArg Value.bool hx8)) ?_
  refine wt 5 (some 109) (.bool false) hs ?_
  go_frame
  refine wq 6 (some 110) (.agg (ND.cells ⟨nwk, nwv, nwl, nwr, nwo, nwg, nwlt, nwrt⟩).toArray) hs rfl (fun w hS => r_load hS.2.2 27 _ rfl rfl Try.underlying27 I_impl_Node) ?_
  refine wt 7 (some 111) (.int .i64 1) hs ?_
  refine wt 9 (some 113) (.int .i64 1) hs ?_
  go_frame
  refine wq 11 (some 115) (.agg (ND.cells ⟨nwk, nwv, nwl, nwr, nwo, nwg, nwlt, nwrt⟩).toArray) hs rfl (fun w hS => r_load hS.2.2 27 _ rfl rfl Try.underlying27 I_impl_Node) ?_
  refine wt 12 (some 116) (.int .i64 1) hs ?_
  go_frame
  refine wn 8 ?_
  refine oc (some 112) (tag1 nwk nwv nwl nwr nwo nwg nwlt nwrt _ hnt.2) ?_
  rintro e W39 ⟨rfl, hb⟩
  replace hM := hM.call hb
  refine ⟨_, rfl, ⟨hM.below, hM.blk 4 rfl, hM.blk 5 rfl⟩, ?_⟩
  go_frame
  refine wn 10 ?_
  refine oc (some 114) (impl_TagAt nwk nwv nwl nwr nwo nwg nwlt (nwrt + 1) 1 _) ?_
  rintro e W40 ⟨rfl, hb⟩
  replace hM := hM.call hb
  refine ⟨.int .i64 (nwrt + 1), rfl, ⟨hM.below, hM.blk 4 rfl, hM.blk 5 rfl⟩, ?_⟩
  go_frame
  refine wn 13 ?_
  refine oc (some 117) (impl_TagAt nwk nwv nwl nwr nwo nwg nwlt nwrt 1 _) ?_
  rintro e W41 ⟨rfl, hb⟩
  replace hM := hM.call hb
  refine ⟨.int .i64 nwrt, rfl, wk ⟨hM.below, hM.blk 4 rfl, hM.blk 5 rfl⟩ fun hs => ?_⟩
  go_frame
  refine wq 14 (some 118) (.int .i64 (nwrt + 1)) hs rfl (fun w hS => r_int (n := nwrt + 1) (by kernel_rfl) (by omega) (by omega)) ?_
  go_frame
  refine wq 15 (some 119) (.bool false) hs rfl (fun w hS => r_eq (v := .bool ((nwrt + 1) != (nwrt + 1))) (by kernel_rfl) (congrArg Value.bool (bne_self_eq_false _))) ?_
  refine wt 16 (some 120) (.bool false) hs ?_
  refine wt 17 (some 121) (.bool false) hs ?_
  go_frame
  refine wq 18 (some 122) (.agg (ND.cells ⟨nwk, nwv, nwl, nwr, nwo, nwg, nwlt, nwrt⟩).toArray) hs rfl (fun w hS => r_load hS.2.2 27 _ rfl rfl Try.underlying27 I_impl_Node) ?_
  refine wt 19 (some 123) (.int .i64 1) hs ?_
  refine wt 21 (some 125) (.int .i64 1) hs ?_
  refine wt 22 (some 126) (.int .i64 0) hs ?_
  go_frame
  refine wq 24 (some 128) (.agg (ND.cells ⟨nwk, nwv, nwl, nwr, nwo, nwg, nwlt, nwrt⟩).toArray) hs rfl (fun w hS => r_load hS.2.2 27 _ rfl rfl Try.underlying27 I_impl_Node) ?_
  refine wt 25 (some 129) (.int .i64 1) hs ?_
  refine wt 26 (some 130) (.int .i64 0) hs ?_
  go_frame
  refine wn 20 ?_
  refine oc (some 124) (tag1 nwk nwv nwl nwr nwo nwg nwlt nwrt _ hnt.2) ?_
  rintro e W42 ⟨rfl, hb⟩
  replace hM := hM.call hb
  refine ⟨_, rfl, ⟨hM.below, hM.blk 4 rfl, hM.blk 5 rfl⟩, ?_⟩
  go_frame
  refine wn 23 ?_
  refine oc (some 127) (impl_TagAt nwk nwv nwl nwr nwo nwg nwlt (nwrt + 1) 0 _) ?_
  rintro e W43 ⟨rfl, hb⟩
  replace hM := hM.call hb
  refine ⟨.int .i64 nwlt, rfl, ⟨hM.below, hM.blk 4 rfl, hM.blk 5 rfl⟩, ?_⟩
  go_frame
  refine wn 27 ?_
  refine oc (some 131) (impl_TagAt nwk nwv nwl nwr nwo nwg nwlt nwrt 0 _) ?_
  rintro e W44 ⟨rfl, hb⟩
  replace hM := hM.call hb
  refine ⟨.int .i64 nwlt, rfl, wk ⟨hM.below, hM.blk 4 rfl, hM.blk 5 rfl⟩ fun hs => ?_⟩
  go_frame
  refine wq 28 (some 132) (.bool false) hs rfl (fun w hS => r_eq (v := .bool (nwlt != nwlt)) (by kernel_rfl) (congrArg Value.bool (bne_self_eq_false _))) ?_
  refine wt 29 (some 133) (.bool false) hs ?_
  go_frame
  refine wa_done (by kernel_rfl) ?_
  refine cn26 _ _ ?_
  clear cn26
  refine wp_cond_false rfl ?_
  refine wp_skip ?_
  refine cn22 _ _ ?_
  clear cn22
  refine wl_region ?_
  refine np (.int .i64 1) ?_
  refine np (.int .i64 2) ?_
  refine np (.int .i64 2) ?_
  go_frame
  refine wl_nil ?_
  refine round_go ?_
  refine wp_seq_k fun Kn27 cn27 => ?_
  refine wp_seq_k fun _ cn28 => wl_region ?_
  refine np (.int .i64 2) ?_
  refine np (.bool false) ?_
  go_frame
  refine wl_nil (cn28 _ _ ?_)
  clear cn28
  refine wp_cond_false rfl ?_
  refine wp_exit ?_
  refine cn11 _ _ ?_
  clear cn11
  refine wp_seq_k fun _ cn29 => wl_region ?_
  refine nc (impl_RootsM _) ?_
  rintro e W45 ⟨rg'3, rfl, hMr⟩
  replace hM := hM.join hMr
  refine ⟨_, rfl, ?_⟩
  go_frame
  refine nc (impl_NodesOk (.slice (some ⟨rg'3, 0, none⟩) 1 1) [root0] _ (nsl_blk (l := [root0]) (p := []) (hM.blk 0 rfl) (by decide) (by simp [maxLen])) (by decide)) ?_
  rintro e W46 ⟨rfl, hb⟩
  refine ⟨.bool true, rb root_ok, ?_⟩
  replace hM := hM.call hb
  go_frame
  refine np (.bool true) ?_
  go_frame
  refine wl_nil (cn29 _ _ ?_)
  clear cn29
  refine wp_ret ?_
  exact bodyPost_ret (v := .bool true) (ret_tmp 2 rfl rfl) rfl ⟨rfl, hM0.below.trans (hM.below.mono hM0.size)⟩
  rw [hx7]
  have hx9 : ((rightF sd kd nwr) != nwr) = false := by simp [leftF, rightF, show ¬ sd = 1 by simp at hx7; omega]
  refine wp_cond_false rfl ?_
  refine wp_skip ?_
  refine cn24 _ _ ?_
  clear cn24
  refine wp_seq_k fun Kn26 cn26 => ?_
  refine wa_start (fun w => Below W2.heap.size W2 w ∧ Blk w g2 27 (ND.cells ⟨nwk, nwv, (leftF sd kd nwl), (rightF sd kd nwr), nwo, nwg, nwlt, nwrt⟩) ∧ Blk w g1 27 (ND.cells ⟨nwk, nwv, nwl, nwr, nwo, nwg, nwlt, nwrt⟩)) 30 rfl (by kernel_rfl) ?_
  replace hM := hM.drew
  refine wq 0 (some 104) (.agg (ND.cells ⟨nwk, nwv, (leftF sd kd nwl), (rightF sd kd nwr), nwo, nwg, nwlt, nwrt⟩).toArray) ⟨hM.below, hM.blk 4 rfl, hM.blk 5 rfl⟩ rfl (fun w hS => r_load hS.2.1 27 _ rfl rfl Try.underlying27 I_impl_Node) ?_
  refine wt 1 (some 105) (.int .i64 1) ⟨hM.below, hM.blk 4 rfl, hM.blk 5 rfl⟩ ?_
  refine wt 3 (some 107) (.int .i64 nwr) ⟨hM.below, hM.blk 4 rfl, hM.blk 5 rfl⟩ ?_
  go_frame
  refine wn 2 ?_
  refine oc (some 106) (impl_KidOf nwk nwv (leftF sd kd nwl) (rightF sd kd nwr) nwo nwg nwlt nwrt 1 _) ?_
  rintro e W38 ⟨rfl, hb⟩
  replace hM := hM.call hb
  refine ⟨.int .i64 (rightF sd kd nwr), rfl, wk ⟨hM.below, hM.blk 4 rfl, hM.blk 5 rfl⟩ fun hs => ?_⟩
  go_frame
  refine wq 4 (some 108) (.bool false) hs rfl (fun w hS => r_eq (v := .bool ((rightF sd kd nwr) != nwr)) (by kernel_rfl) (congrArg Value.bool hx9)) ?_
  refine wt 5 (some 109) (.bool false) hs ?_
  go_frame
  refine wq 6 (some 110) (.agg (ND.cells ⟨nwk, nwv, nwl, nwr, nwo, nwg, nwlt, nwrt⟩).toArray) hs rfl (fun w hS => r_load hS.2.2 27 _ rfl rfl Try.underlying27 I_impl_Node) ?_
  refine wt 7 (some 111) (.int .i64 1) hs ?_
  refine wt 9 (some 113) (.int .i64 1) hs ?_
  go_frame
  refine wq 11 (some 115) (.agg (ND.cells ⟨nwk, nwv, nwl, nwr, nwo, nwg, nwlt, nwrt⟩).toArray) hs rfl (fun w hS => r_load hS.2.2 27 _ rfl rfl Try.underlying27 I_impl_Node) ?_
  refine wt 12 (some 116) (.int .i64 1) hs ?_
  go_frame
  refine wn 8 ?_
  refine oc (some 112) (tag1 nwk nwv nwl nwr nwo nwg nwlt nwrt _ hnt.2) ?_
  rintro e W39 ⟨rfl, hb⟩
  replace hM := hM.call hb
  refine ⟨_, rfl, ⟨hM.below, hM.blk 4 rfl, hM.blk 5 rfl⟩, ?_⟩
  go_frame
  refine wn 10 ?_
  refine oc (some 114) (impl_TagAt nwk nwv nwl nwr nwo nwg nwlt (nwrt + 1) 1 _) ?_
  rintro e W40 ⟨rfl, hb⟩
  replace hM := hM.call hb
  refine ⟨.int .i64 (nwrt + 1), rfl, ⟨hM.below, hM.blk 4 rfl, hM.blk 5 rfl⟩, ?_⟩
  go_frame
  refine wn 13 ?_
  refine oc (some 117) (impl_TagAt nwk nwv nwl nwr nwo nwg nwlt nwrt 1 _) ?_
  rintro e W41 ⟨rfl, hb⟩
  replace hM := hM.call hb
  refine ⟨.int .i64 nwrt, rfl, wk ⟨hM.below, hM.blk 4 rfl, hM.blk 5 rfl⟩ fun hs => ?_⟩
  go_frame
  refine wq 14 (some 118) (.int .i64 (nwrt + 1)) hs rfl (fun w hS => r_int (n := nwrt + 1) (by kernel_rfl) (by omega) (by omega)) ?_
  go_frame
  refine wq 15 (some 119) (.bool false) hs rfl (fun w hS => r_eq (v := .bool ((nwrt + 1) != (nwrt + 1))) (by kernel_rfl) (congrArg Value.bool (bne_self_eq_false _))) ?_
  refine wt 16 (some 120) (.bool false) hs ?_
  refine wt 17 (some 121) (.bool false) hs ?_
  go_frame
  refine wq 18 (some 122) (.agg (ND.cells ⟨nwk, nwv, nwl, nwr, nwo, nwg, nwlt, nwrt⟩).toArray) hs rfl (fun w hS => r_load hS.2.2 27 _ rfl rfl Try.underlying27 I_impl_Node) ?_
  refine wt 19 (some 123) (.int .i64 1) hs ?_
  refine wt 21 (some 125) (.int .i64 1) hs ?_
  refine wt 22 (some 126) (.int .i64 0) hs ?_
  go_frame
  refine wq 24 (some 128) (.agg (ND.cells ⟨nwk, nwv, nwl, nwr, nwo, nwg, nwlt, nwrt⟩).toArray) hs rfl (fun w hS => r_load hS.2.2 27 _ rfl rfl Try.underlying27 I_impl_Node) ?_
  refine wt 25 (some 129) (.int .i64 1) hs ?_
  refine wt 26 (some 130) (.int .i64 0) hs ?_
  go_frame
  refine wn 20 ?_
  refine oc (some 124) (tag1 nwk nwv nwl nwr nwo nwg nwlt nwrt _ hnt.2) ?_
  rintro e W42 ⟨rfl, hb⟩
  replace hM := hM.call hb
  refine ⟨_, rfl, ⟨hM.below, hM.blk 4 rfl, hM.blk 5 rfl⟩, ?_⟩
  go_frame
  refine wn 23 ?_
  refine oc (some 127) (impl_TagAt nwk nwv nwl nwr nwo nwg nwlt (nwrt + 1) 0 _) ?_
  rintro e W43 ⟨rfl, hb⟩
  replace hM := hM.call hb
  refine ⟨.int .i64 nwlt, rfl, ⟨hM.below, hM.blk 4 rfl, hM.blk 5 rfl⟩, ?_⟩
  go_frame
  refine wn 27 ?_
  refine oc (some 131) (impl_TagAt nwk nwv nwl nwr nwo nwg nwlt nwrt 0 _) ?_
  rintro e W44 ⟨rfl, hb⟩
  replace hM := hM.call hb
  refine ⟨.int .i64 nwlt, rfl, wk ⟨hM.below, hM.blk 4 rfl, hM.blk 5 rfl⟩ fun hs => ?_⟩
  go_frame
  refine wq 28 (some 132) (.bool false) hs rfl (fun w hS => r_eq (v := .bool (nwlt != nwlt)) (by kernel_rfl) (congrArg Value.bool (bne_self_eq_false _))) ?_
  refine wt 29 (some 133) (.bool false) hs ?_
  go_frame
  refine wa_done (by kernel_rfl) ?_
  refine cn26 _ _ ?_
  clear cn26
  refine wp_cond_false rfl ?_
  refine wp_skip ?_
  refine cn22 _ _ ?_
  clear cn22
  refine wl_region ?_
  refine np (.int .i64 1) ?_
  refine np (.int .i64 2) ?_
  refine np (.int .i64 2) ?_
  go_frame
  refine wl_nil ?_
  refine round_go ?_
  refine wp_seq_k fun Kn27 cn27 => ?_
  refine wp_seq_k fun _ cn28 => wl_region ?_
  refine np (.int .i64 2) ?_
  refine np (.bool false) ?_
  go_frame
  refine wl_nil (cn28 _ _ ?_)
  clear cn28
  refine wp_cond_false rfl ?_
  refine wp_exit ?_
  refine cn11 _ _ ?_
  clear cn11
  refine wp_seq_k fun _ cn29 => wl_region ?_
  refine nc (impl_RootsM _) ?_
  rintro e W45 ⟨rg'3, rfl, hMr⟩
  replace hM := hM.join hMr
  refine ⟨_, rfl, ?_⟩
  go_frame
  refine nc (impl_NodesOk (.slice (some ⟨rg'3, 0, none⟩) 1 1) [root0] _ (nsl_blk (l := [root0]) (p := []) (hM.blk 0 rfl) (by decide) (by simp [maxLen])) (by decide)) ?_
  rintro e W46 ⟨rfl, hb⟩
  refine ⟨.bool true, rb root_ok, ?_⟩
  replace hM := hM.call hb
  go_frame
  refine np (.bool true) ?_
  go_frame
  refine wl_nil (cn29 _ _ ?_)
  clear cn29
  refine wp_ret ?_
  exact bodyPost_ret (v := .bool true) (ret_tmp 2 rfl rfl) rfl ⟨rfl, hM0.below.trans (hM.below.mono hM0.size)⟩

theorem walk0 (va : Option Addr) (vc : Nat) (lb : List Int) (w0 : World) (hbt : Bts w0.heap.size w0 (.slice va lb.length vc) lb) (hl4 : ¬ lb.length ≤ 4096) :
    Calls Try.prog 3 #[(.slice va lb.length vc)] w0 fun e w' => e = .returned (.bool true) ∧ Below w0.heap.size w0 w' := by
  have hbg : decide ((lb.length : Int) > 4096) = true := by simp; omega
  have hM := Mem.start w0
  go_enter Try.func3, Try.ntmps3
  refine wp_seq_k fun _ cn1 => wl_region ?_
  refine np (.bool false) ?_
  go_frame
  refine wl_nil (cn1 _ _ ?_)
  clear cn1
  refine wp_seq_k fun Kn2 cn2 => ?_
  refine wp_seq_k fun _ cn3 => wl_region ?_
  refine np (.slice va lb.length vc) ?_
  refine nc (big_slice va lb.length vc _) ?_
  rintro e W1 ⟨rfl, hb⟩
  refine ⟨.bool true, rb hbg, ?_⟩
  replace hM := hM.call hb
  go_frame
  refine wl_nil (cn3 _ _ ?_)
  clear cn3
  refine wp_cond_true rfl ?_
  refine wp_seq_k fun _ cn4 => wl_region ?_
  refine np (.bool true) ?_
  go_frame
  refine wl_nil (cn4 _ _ ?_)
  clear cn4
  refine wp_ret ?_
  simp only [Exit.then, Exit.inBlock]
  exact bodyPost_ret (v := .bool true) (ret_tmp 2 rfl rfl) rfl ⟨rfl, hM.below⟩
theorem walk (v : Value) (l : List Int) (w : World) (h : Bts w.heap.size w v l) :
    Calls Try.prog 3 #[v] w fun e w' => e = .returned (.bool true) ∧ Below w.heap.size w w' := by
  obtain ⟨⟨a, c, rfl, hc1, hc2, -⟩, -⟩ := id h
  by_cases hl : l.length ≤ 4096
  · exact walk1 a c l w h hl
  · exact walk0 a c l w h hl

theorem lifted (os : Os) (started : os.Started) (H : Type) (enc : TypeId × Value → H) :
    ReturnsInHanded {} Try.checked os 3 .any (Rows.fnNodesSpec.pre6 enc Try.prog Try.f3 Rows.fnNodesRow.domain false) (Rows.fnNodesSpec.post enc Try.prog Try.f3 false true false false) := by
  refine returnsInHanded_of_change (C := Try.checked) own started (by kernel_rfl) Try.func3
    (ChangeSpec.witness6 (enc := enc) (C := Try.checked) false ⟨#[], #[.slice none 0 0], []⟩ 8 (by kernel_rfl) (by kernel_rfl) (by kernel_rfl) (by kernel_rfl)) ?_
  intro W base args ds gs before hval0 hW hcnd _
  have hval : ∀ (j : Nat) t v, Try.f3.params[j]? = some t → args[j]? = some v → Value.okWide Try.prog W .any base t v := hval0
  have hW' := hW
  obtain ⟨p, q, hA0, hV, rfl, hfz, hnd⟩ := hW
  have hA : DataW.TrodAll enc Try.prog W 0 (fun _ => true) true Try.f3.params.toList args.toList ds p := hA0
  rw [Try.params3] at hA hval
  obtain ⟨v0, vs0, d0, ds0, p0, q0, hargs, rfl, rfl, h0, r0⟩ := trodAll_cons hA
  obtain ⟨rfl, rfl, rfl⟩ := trodAll_nil r0
  obtain rfl : args = #[v0] := by cases args; simp_all
  obtain ⟨rfl, rfl⟩ := trodVars_none hV
  have k0 := h0
  have lt0 : ∀ x ∈ p0, x.block < W.heap.size := by obtain ⟨m, hm⟩ := k0; exact DataW.trod_lt m _ _ _ hm
  obtain ⟨l_0, hl_0⟩ := open_bytes (hval 0 22 v0 rfl rfl) h0
  clear hA0 hval0
  refine (walk v0 l_0 W hl_0).mono fun e W' ⟨he, bel⟩ => ?_
  subst he
  exact ⟨_, rfl, _, _, _, [], _, [], hW', trodAll_mk1 (shut_bool Try.underlying4 _), (trodAll_cons_mk (Below.trod laidOut (by kernel_rfl) (of_decide_eq_true (by kernel_rfl)) k0 bel lt0) trodAll_mk0), rfl, bel.frame _, fun h => by cases h⟩

theorem over : Rows.fnNodesRow.holds Try.pinned (OpenSpec.ofChange Rows.fnNodesSpec) :=
  OpenClaim.holds_of_wide 3 Try.f3 rfl rfl rfl rfl rfl rfl rfl ⟨rfl, rfl, rfl, rfl, rfl⟩ rfl rfl rfl rfl rfl (by kernel_rfl) Try.func3 (by kernel_rfl)
    (of_decide_eq_true (by kernel_rfl)) (by unfold Func.isWrapper; rw [if_neg (of_decide_eq_false (by kernel_rfl))]; exact ⟨rfl, rfl⟩)
    (fun os started H enc _ => lifted os started H enc)

theorem proved : Rows.FnNodesSaid := over
end Go.Proofs.Ytbkgphnkbemfgaa.fnNodes
