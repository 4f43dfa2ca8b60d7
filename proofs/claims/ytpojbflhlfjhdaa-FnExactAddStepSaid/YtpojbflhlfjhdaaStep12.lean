/- What is written into memory of the caller's own: the model. -/
import Derived.Test.YtpojbflhlfjhdaaStep11
import Derived.Test.YtpojbflhlfjhdaaMem4
namespace Go.Proofs.Ytpojbflhlfjhdaa
open Go.ChangeShapes Go.WideShapes Go.ChangeAt Go.RowKit
set_option linter.unusedVariables false
set_option linter.unusedSimpArgs false

/-- A list of nodes in a block of one's own, behind a call that has written it; L: what else there was. -/
def SaysM (w00 : World) (L : List Bk) (f : Value → Value) (l : List ND) (e : Ending) (w' : World) : Prop :=
  ∃ (g k : Nat) (p : List Value), e = .returned (f (.slice (some ⟨g, 0, none⟩) l.length k)) ∧ (l.length ≤ k ∧ k ≤ maxLen ∧ (cellsOf l ++ p).length = k * 8) ∧ Mem w00 w' ((g, 51, cellsOf l ++ p) :: L)
theorem ret_cc {fn : Func} {p q : Tmp} {t1 t2 : TypeId} (h : fn.results = #[.cell p t1, .cell q t2]) {tmps : Array Value} {w0 w : World} {L : List Bk} (hM : Mem w0 w L) (i j : Nat) {g g' : Nat} {t t' : TypeId} {cs cs' : List Value} (hi : L[i]? = some (g, t, cs)) (hj : L[j]? = some (g', t', cs'))
    (hp : tmps.getD p undef = .pointer (some ⟨g, 0, none⟩)) (hq : tmps.getD q undef = .pointer (some ⟨g', 0, none⟩)) {fs fs' : Array Field} (hu : Try.prog.underlying t1 = some (.struct fs)) (hu' : Try.prog.underlying t2 = some (.struct fs')) (hn : (Try.prog.info? t1).map (·.size) = some cs.length) (hn' : (Try.prog.info? t2).map (·.size) = some cs'.length) :
    (results fn tmps).run Try.prog w = .ok (.tuple #[.agg cs.toArray, .agg cs'.toArray]) w := by
  have e1 := run_loadVar_row (P := Try.prog) w g t t1 cs.toArray (0, 0) _ (hM.blk i hi) hu rfl (by simpa using hn)
  have e2 := run_loadVar_row (P := Try.prog) w g' t' t2 cs'.toArray (0, 0) _ (hM.blk j hj) hu' rfl (by simpa using hn')
  have hp' : tmps[p]?.getD undef = .pointer (some ⟨g, 0, none⟩) := by simpa using hp
  have hq' : tmps[q]?.getD undef = .pointer (some ⟨g', 0, none⟩) := by simpa using hq
  simp [results, h, hp', hq', asAddr, e1, e2, Sem.run_bind, Result.andThen]
def withK (n : ND) (s kid : Int) : ND := ⟨n.k, n.v, leftF s kid n.l, rightF s kid n.r, n.o, n.g, n.lt, n.rt⟩
def setK (l : List ND) (i : Int) (f : ND → ND) : List ND := l.set i.toNat (f (nd l i))
def makeR (l : List ND) (h : HD) : List ND × HD :=
  if decide ((l.length : Int) ≥ 30) then (l, endH h 3) else (l ++ [⟨h.k, h.v, 0, 0, 0, false, 0, 0⟩], { h with new := (l.length : Int), at_ := 8 })
def liftR (l : List ND) (at' s kid : Int) : List ND × Bool := (setK l at' fun n => withK n s kid, kid == 0)
set_option maxRecDepth 100000 in
set_option maxHeartbeats 4000000 in
theorem spec_l8Make (l : List ND) (h : HD) (g0 k0 : Nat) (p0 : List Value) (xa : Option Addr) (xn xk : Nat) (L : List Bk) (w00 w0 : World) (hM0 : Mem w00 w0 ((g0, 51, cellsOf l ++ p0) :: L)) (q1 : l.length ≤ k0) (q2 : k0 ≤ maxLen) (q5 : (cellsOf l ++ p0).length = k0 * 8) (hl30 : l.length ≤ 30) :
    Calls Try.prog 22 #[.agg #[.slice (some ⟨g0, 0, none⟩) l.length k0, .slice xa xn xk], h.val] w0 (SaysM w00 L (fun s => .tuple #[.agg #[s, .slice xa xn xk], (makeR l h).2.val]) (makeR l h).1) := by
  unfold HD.val
  have hM := hM0
  go_enter Try.func22, Try.ntmps22
  refine wp_seq_k fun Kn1 cn1 => ?_
  refine wl_region ?_
  refine wl_box (by kernel_rfl) hM 33 _ rfl [.slice (some ⟨g0, 0, none⟩) l.length k0, .slice xa xn xk] rfl ?_
  clear hM; intro g1 W1 hM
  go_frame
  refine wl_box (by kernel_rfl) hM 36 _ rfl (HD.cells h) rfl ?_
  clear hM; intro g2 W2 hM
  go_frame
  refine wl_alloc (by kernel_rfl) hM 33 rfl [.slice none 0 0, .slice none 0 0] Z_impl_Shared ?_
  clear hM; intro g3 W3 hM
  go_frame
  refine wl_alloc (by kernel_rfl) hM 36 rfl (HD.cells HD.zero) Z_impl_Hand ?_
  clear hM; intro g4 W4 hM
  go_frame
  refine wl_nil ?_
  refine cn1 _ _ ?_
  clear cn1
  refine wp_seq_k fun Kn2 cn2 => ?_
  refine wp_seq_k fun Kn3 cn3 => ?_
  refine wl_region ?_
  refine wl_pure (by kernel_rfl) (.pointer (some ⟨g1, 0, none⟩)) (by kernel_rfl) ?_
  go_frame
  refine wl_loadc (by kernel_rfl) hM 3 rfl 31 _ rfl 0 rfl Try.underlying31 rfl rfl ?_
  go_frame
  refine wl_pure (by kernel_rfl) (.int .i64 (l.length : Int)) (by kernel_rfl) ?_
  go_frame
  refine wl_pure (by kernel_rfl) (.bool (decide ((l.length : Int) ≥ 30))) (by kernel_rfl) ?_
  go_frame
  refine wl_nil ?_
  refine cn3 _ _ ?_
  clear cn3
  rcases Bool.eq_false_or_eq_true (decide ((l.length : Int) ≥ 30)) with hx1 | hx1
  rw [hx1]
  refine wp_cond_true rfl ?_
  refine wp_seq_k fun Kn4 cn4 => ?_
  -- region 2, drawn: one after the other
  refine wa_start (fun w => Below w00.heap.size w00 w ∧ Blk w g1 33 [.slice (some ⟨g0, 0, none⟩) l.length k0, .slice xa xn xk] ∧ Blk w g2 36 (HD.cells h)) 5 rfl (by kernel_rfl) ?_
  replace hM := hM.drew
  refine wa_take 0 (some 10) (.agg #[.slice (some ⟨g0, 0, none⟩) l.length k0, .slice xa xn xk]) rfl rfl (by kernel_rfl) (by kernel_rfl) (by kernel_rfl) (fun _ _ _ h => h) (by kernel_rfl) (fun w hS => r_load hS.2.1 33 _ rfl rfl Try.underlying33 I_impl_Shared) ⟨hM.below, hM.blk 3 rfl, hM.blk 2 rfl⟩ ?_
  go_frame
  refine wa_take 1 (some 11) (.agg (HD.cells h).toArray) rfl rfl (by kernel_rfl) (by kernel_rfl) (by kernel_rfl) (fun _ _ _ h => h) (by kernel_rfl) (fun w hS => r_load hS.2.2 36 _ rfl rfl Try.underlying36 I_impl_Hand) ⟨hM.below, hM.blk 3 rfl, hM.blk 2 rfl⟩ ?_
  go_frame
  refine wa_one 2 (by kernel_rfl) ?_
  refine wo_call (some 12) rfl rfl (by kernel_rfl) 24 #[.agg (HD.cells h).toArray, .int .i64 3] (by kernel_rfl) (spec_l8End h 3 _) ?_
  rintro e W5 ⟨rfl, hb⟩
  replace hM := hM.call hb
  refine ⟨_, rfl, ⟨hM.below, hM.blk 3 rfl, hM.blk 2 rfl⟩, ?_⟩
  go_frame
  refine wa_one 3 (by kernel_rfl) ?_
  refine wo_store rfl (by kernel_rfl) hM 1 rfl 33 _ _ rfl rfl (by kernel_rfl) [.slice (some ⟨g0, 0, none⟩) l.length k0, .slice xa xn xk] (by kernel_rfl) I_impl_Shared rfl rfl ?_
  clear hM; intro W6 hM
  refine ⟨⟨hM.below, hM.blk 3 rfl, hM.blk 2 rfl⟩, ?_⟩
  refine wa_one 4 (by kernel_rfl) ?_
  refine wo_store rfl (by kernel_rfl) hM 0 rfl 36 _ _ rfl rfl (by kernel_rfl) (HD.cells (endH h 3)) (by kernel_rfl) I_impl_Hand rfl (hd_one' _) ?_
  clear hM; intro W7 hM
  refine ⟨⟨hM.below, hM.blk 3 rfl, hM.blk 2 rfl⟩, ?_⟩
  refine wa_done (by kernel_rfl) ?_
  refine cn4 _ _ ?_
  clear cn4
  refine wp_ret ?_
  simp only [Exit.then, Exit.inBlock]
  have hR : makeR l h = (l, (endH h 3)) := by simp [makeR, hx1]
  rw [hR]
  have hN : (l : List ND).length = l.length := by first | rfl | simp
  refine bodyPost_ret (ret_cc (p := 4) (q := 5) rfl hM 1 0 rfl rfl rfl rfl Try.underlying33 Try.underlying36 I_impl_Shared I_impl_Hand) rfl ⟨g0, k0, p0, congrArg (fun q : Nat => Ending.returned ((fun s => .tuple #[.agg #[s, .slice xa xn xk], (((l, (endH h 3)) : List ND × HD)).2.val]) (Value.slice (some ⟨g0, 0, none⟩) q k0))) hN.symm, ⟨by rw [hN]; exact q1, q2, q5⟩, ?_⟩
  exact (hM.pull 4 rfl).sub (fun i => if i = 0 then 0 else i + 4) (fun i x hx => by cases i with | zero => exact hx | succ i => simpa [Nat.add_assoc, Nat.add_comm] using hx) (fun i j _ _ e => by (try simp only at e); split at e <;> split at e <;> omega)
  rw [hx1]
  refine wp_cond_false rfl ?_
  refine wp_skip ?_
  refine cn2 _ _ ?_
  clear cn2
  refine wp_seq_k fun Kn4 cn4 => ?_
  refine wl_region ?_
  refine wl_pure (by kernel_rfl) (.pointer (some ⟨g1, 0, none⟩)) (by kernel_rfl) ?_
  go_frame
  refine wl_loadc (by kernel_rfl) hM 3 rfl 31 _ rfl 0 rfl Try.underlying31 rfl rfl ?_
  go_frame
  refine wl_pure (by kernel_rfl) (.int .i64 (l.length : Int)) (by kernel_rfl) ?_
  go_frame
  refine wl_pure (by kernel_rfl) (.pointer (some ⟨g2, 10, none⟩)) (by kernel_rfl) ?_
  go_frame
  refine wl_storec (by kernel_rfl) hM 2 rfl 2 _ _ rfl rfl 10 rfl (.int .i64 (l.length : Int)) rfl rfl rfl I_int64 (by simp [HD.cells]) ?_
  clear hM; intro W5 hM
  refine wl_nil ?_
  refine cn4 _ _ ?_
  clear cn4
  refine wp_seq_k fun Kn5 cn5 => ?_
  refine wl_region ?_
  refine wl_pure (by kernel_rfl) (.pointer (some ⟨g2, 0, none⟩)) (by kernel_rfl) ?_
  go_frame
  refine wl_storec (by kernel_rfl) hM 2 rfl 2 _ _ rfl rfl 0 rfl (.int .i64 8) rfl rfl rfl I_int64 (by simp [HD.cells]) ?_
  clear hM; intro W6 hM
  refine wl_nil ?_
  refine cn5 _ _ ?_
  clear cn5
  refine wp_seq_k fun Kn6 cn6 => ?_
  refine wl_region ?_
  refine wl_pure (by kernel_rfl) (.pointer (some ⟨g1, 0, none⟩)) (by kernel_rfl) ?_
  go_frame
  refine wl_loadc (by kernel_rfl) hM 3 rfl 31 _ rfl 0 rfl Try.underlying31 rfl rfl ?_
  go_frame
  refine wl_pure (by kernel_rfl) (.pointer (some ⟨g2, 1, none⟩)) (by kernel_rfl) ?_
  go_frame
  refine wl_pure (by kernel_rfl) (.pointer (some ⟨g2, 2, none⟩)) (by kernel_rfl) ?_
  go_frame
  refine wl_loadc (by kernel_rfl) hM 2 rfl 2 _ rfl 2 rfl Try.underlying2 rfl rfl ?_
  go_frame
  refine wl_pure (by kernel_rfl) (.pointer (some ⟨g2, 1, none⟩)) (by kernel_rfl) ?_
  go_frame
  refine wl_pure (by kernel_rfl) (.pointer (some ⟨g2, 3, none⟩)) (by kernel_rfl) ?_
  go_frame
  refine wl_loadc (by kernel_rfl) hM 2 rfl 2 _ rfl 3 rfl Try.underlying2 rfl rfl ?_
  go_frame
  refine wl_pure (by kernel_rfl) (.agg (ND.cells ⟨h.k, h.v, 0, 0, 0, false, 0, 0⟩).toArray) (by kernel_rfl) ?_
  go_frame
  refine wl_buildSlice (by kernel_rfl) hM 51 1 (ND.cells ⟨h.k, h.v, 0, 0, 0, false, 0, 0⟩) (fun w => by kernel_rfl) ?_
  clear hM; intro g5 W7 hM
  go_frame
  refine wl_append (by kernel_rfl) hM 5 rfl 0 rfl _ _ 31 rfl Try.underlying31 infoNode rfl (by decide) l.length k0 1 1 rfl q1 q2 (cellsOf_len _) q5 rfl rfl (nd_one _) (by decide) (by (try unfold maxLen); omega) (by (try unfold maxLen); omega) ?_
  clear hM; intro ga'1 ka'2 pa'3 W8 qa'4 qb'5 qe'6 hM
  rw [node_snoc _ (⟨h.k, h.v, 0, 0, 0, false, 0, 0⟩) _] at hM qe'6
  replace hM : Mem w00 W8 ((g5, 51, (ND.cells ⟨h.k, h.v, 0, 0, 0, false, 0, 0⟩)) :: (g4, 36, (HD.cells HD.zero)) :: (g3, 33, [.slice none 0 0, .slice none 0 0]) :: (g2, 36, (HD.cells { h with new := (l.length : Int), at_ := 8 })) :: (g1, 33, [.slice (some ⟨g0, 0, none⟩) l.length k0, .slice xa xn xk]) :: (ga'1, 51, (cellsOf (l ++ [⟨h.k, h.v, 0, 0, 0, false, 0, 0⟩]) ++ pa'3)) :: L) := hM
  go_frame
  refine wl_pure (by kernel_rfl) (.pointer (some ⟨g1, 0, none⟩)) (by kernel_rfl) ?_
  go_frame
  refine wl_storec (by kernel_rfl) hM 4 rfl 31 _ _ rfl rfl 0 rfl (.slice (some ⟨ga'1, 0, none⟩) (l.length + 1) ka'2) rfl rfl rfl I_S_impl_Node (by simp) ?_
  clear hM; intro W9 hM
  refine wl_nil ?_
  refine cn6 _ _ ?_
  clear cn6
  refine wp_seq_k fun Kn7 cn7 => ?_
  -- region 6, drawn: one after the other
  refine wa_start (fun w => Below w00.heap.size w00 w ∧ Blk w g1 33 [.slice (some ⟨ga'1, 0, none⟩) (l.length + 1) ka'2, .slice xa xn xk] ∧ Blk w g2 36 (HD.cells { h with new := (l.length : Int), at_ := 8 })) 4 rfl (by kernel_rfl) ?_
  replace hM := hM.drew
  refine wa_take 0 (some 30) (.agg #[.slice (some ⟨ga'1, 0, none⟩) (l.length + 1) ka'2, .slice xa xn xk]) rfl rfl (by kernel_rfl) (by kernel_rfl) (by kernel_rfl) (fun _ _ _ h => h) (by kernel_rfl) (fun w hS => r_load hS.2.1 33 _ rfl rfl Try.underlying33 I_impl_Shared) ⟨hM.below, hM.blk 4 rfl, hM.blk 3 rfl⟩ ?_
  go_frame
  refine wa_take 1 (some 31) (.agg (HD.cells { h with new := (l.length : Int), at_ := 8 }).toArray) rfl rfl (by kernel_rfl) (by kernel_rfl) (by kernel_rfl) (fun _ _ _ h => h) (by kernel_rfl) (fun w hS => r_load hS.2.2 36 _ rfl rfl Try.underlying36 I_impl_Hand) ⟨hM.below, hM.blk 4 rfl, hM.blk 3 rfl⟩ ?_
  go_frame
  refine wa_one 2 (by kernel_rfl) ?_
  refine wo_store rfl (by kernel_rfl) hM 2 rfl 33 _ _ rfl rfl (by kernel_rfl) [.slice (some ⟨ga'1, 0, none⟩) (l.length + 1) ka'2, .slice xa xn xk] (by kernel_rfl) I_impl_Shared rfl rfl ?_
  clear hM; intro W10 hM
  refine ⟨⟨hM.below, hM.blk 4 rfl, hM.blk 3 rfl⟩, ?_⟩
  refine wa_one 3 (by kernel_rfl) ?_
  refine wo_store rfl (by kernel_rfl) hM 1 rfl 36 _ _ rfl rfl (by kernel_rfl) (HD.cells { h with new := (l.length : Int), at_ := 8 }) (by kernel_rfl) I_impl_Hand rfl (hd_one' _) ?_
  clear hM; intro W11 hM
  refine ⟨⟨hM.below, hM.blk 4 rfl, hM.blk 3 rfl⟩, ?_⟩
  refine wa_done (by kernel_rfl) ?_
  refine cn7 _ _ ?_
  clear cn7
  refine wp_ret ?_
  have hR : makeR l h = ((l ++ [⟨h.k, h.v, 0, 0, 0, false, 0, 0⟩]), { h with new := (l.length : Int), at_ := 8 }) := by simp [makeR, hx1]
  rw [hR]
  have hN : ((l ++ [⟨h.k, h.v, 0, 0, 0, false, 0, 0⟩]) : List ND).length = (l.length + 1) := by first | rfl | simp
  refine bodyPost_ret (ret_cc (p := 4) (q := 5) rfl hM 2 1 rfl rfl rfl rfl Try.underlying33 Try.underlying36 I_impl_Shared I_impl_Hand) rfl ⟨ga'1, ka'2, pa'3, congrArg (fun q : Nat => Ending.returned ((fun s => .tuple #[.agg #[s, .slice xa xn xk], ((((l ++ [⟨h.k, h.v, 0, 0, 0, false, 0, 0⟩]), { h with new := (l.length : Int), at_ := 8 }) : List ND × HD)).2.val]) (Value.slice (some ⟨ga'1, 0, none⟩) q ka'2))) hN.symm, ⟨by rw [hN]; exact qa'4, qb'5, qe'6⟩, ?_⟩
  exact (hM.pull 5 rfl).sub (fun i => if i = 0 then 0 else i + 5) (fun i x hx => by cases i with | zero => exact hx | succ i => simpa [Nat.add_assoc, Nat.add_comm] using hx) (fun i j _ _ e => by (try simp only at e); split at e <;> split at e <;> omega)

end Go.Proofs.Ytpojbflhlfjhdaa
