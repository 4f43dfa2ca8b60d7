/- What is written into memory of the caller's own: the model. -/
import Derived.Test.YtbfndoajchibbaaGreatShort
import Derived.Test.YtbfndoajchibbaaGreatStep11
import Derived.Test.YtbfndoajchibbaaGreatMem4
namespace Go.Proofs.YtbfndoajchibbaaGreat
open Go.ChangeShapes Go.WideShapes Go.ChangeAt Go.RowKit
set_option linter.unusedVariables false
set_option maxRecDepth 100000
set_option maxHeartbeats 16000000
set_option linter.unusedSimpArgs false

/-- A list of nodes in a block of one's own, behind a call that has written it; L: what else there was. -/
def SaysM (w00 : World) (L : List Bk) (f : Value → Value) (l : List ND) (e : Ending) (w' : World) : Prop :=
  ∃ (g k : Nat) (p : List Value), e = .returned (f (.slice (some ⟨g, 0, none⟩) l.length k)) ∧ (l.length ≤ k ∧ k ≤ maxLen ∧ (cellsOf l ++ p).length = k * 8) ∧ Mem w00 w' ((g, 49, cellsOf l ++ p) :: L)
theorem ret_cc {fn : Func} {p q : Tmp} {t1 t2 : TypeId} (h : fn.results = #[.cell p t1, .cell q t2]) {tmps : Array Value} {w0 w : World} {L : List Bk} (hM : Mem w0 w L) (i j : Nat) {g g' : Nat} {t t' : TypeId} {cs cs' : List Value} (hi : L[i]? = some (g, t, cs)) (hj : L[j]? = some (g', t', cs'))
    (hp : tmps.getD p undef = .pointer (some ⟨g, 0, none⟩)) (hq : tmps.getD q undef = .pointer (some ⟨g', 0, none⟩)) {fs fs' : Array Field} (hu : Tryz.prog.underlying t1 = some (.struct fs)) (hu' : Tryz.prog.underlying t2 = some (.struct fs')) (hn : (Tryz.prog.info? t1).map (·.size) = some cs.length) (hn' : (Tryz.prog.info? t2).map (·.size) = some cs'.length) :
    (results fn tmps).run Tryz.prog w = .ok (.tuple #[.agg cs.toArray, .agg cs'.toArray]) w := by
  have e1 := run_loadVar_row (P := Tryz.prog) w g t t1 cs.toArray (0, 0) _ (hM.blk i hi) hu rfl (by simpa using hn)
  have e2 := run_loadVar_row (P := Tryz.prog) w g' t' t2 cs'.toArray (0, 0) _ (hM.blk j hj) hu' rfl (by simpa using hn')
  have hp' : tmps[p]?.getD undef = .pointer (some ⟨g, 0, none⟩) := by simpa using hp
  have hq' : tmps[q]?.getD undef = .pointer (some ⟨g', 0, none⟩) := by simpa using hq
  simp [results, h, hp', hq', asAddr, e1, e2, Sem.run_bind, Result.andThen]
def withK (n : ND) (s kid : Int) : ND := ⟨n.k, n.v, leftF s kid n.l, rightF s kid n.r, n.o, n.g, n.lt, n.rt⟩
def withT (n : ND) (s : Int) : ND := ⟨n.k, n.v, n.l, n.r, n.o, n.g, leftF s (wrap64 (n.lt + 1)) n.lt, rightF s (wrap64 (n.rt + 1)) n.rt⟩
def goneN (n : ND) : ND := ⟨n.k, n.v, n.l, n.r, n.o, true, n.lt, n.rt⟩
def setK (l : List ND) (i : Int) (f : ND → ND) : List ND := l.set i.toNat (f (nd l i))
def makeR (l : List ND) (h : HD) : List ND × HD :=
  if decide ((l.length : Int) ≥ 30) then (l, endH h 3) else (l ++ [⟨h.k, h.v, 0, 0, 0, false, 0, 0⟩], { h with new := (l.length : Int), at_ := 8 })
def liftR (l : List ND) (at' s kid : Int) : List ND × Bool := (setK l at' fun n => withK n s kid, kid == 0)
def moveR (l : List ND) (task : Int) (h : HD) : List ND × HD :=
  if decide ((l.length : Int) ≥ 30) then (l, endH h 3) else (l ++ [⟨(nd l h.next).k, (nd l h.next).v, (nd l h.cur).l, (nd l h.cur).r, (task + 1), false, 0, 0⟩], { h with new := (l.length : Int), at_ := 20 })
def joinR (l : List ND) (h : HD) : List ND × HD :=
  if (liftR l (whereUp h) (sideUp h) (nd l h.next).r).2 then ((liftR l (whereUp h) (sideUp h) (nd l h.next).r).1, { h with at_ := 25 }) else ((liftR l (whereUp h) (sideUp h) (nd l h.next).r).1, endH h 1)
def doR (l : List ND) (task : Int) (h : HD) : List ND × HD :=
  if h.at_ == 14 then (l, { h with up := h.cur, next := (nd l h.cur).r, at_ := 15 })
  else if h.at_ == 15 then (l, leftUpH l h)
  else if h.at_ == 18 then (l, checkUpH l h)
  else if h.at_ == 19 then moveR l task h
  else if h.at_ == 20 then (setK l h.cur goneN, { h with at_ := 21 })
  else if h.at_ == 21 then (setK l h.prev fun n => withK n h.side h.new, { h with index := 0, seen := -1, at_ := 22 })
  else if h.at_ == 23 then (setK l h.next goneN, { h with at_ := 24 })
  else if h.at_ == 24 then joinR l h
  else if h.at_ == 25 then (setK l (whereUp h) fun n => withT n (sideUp h), endH h 1)
  else (l, h)
/-- What is held is let go, the last one; and what the hand is then. -/
def freeL (l : List ND) (task : Int) : List ND := match (heldB l task).getLast? with | some i => setK l i (fun n => setO n 0) | none => l
def freeR (l : List ND) (task : Int) (h : HD) : List ND × HD :=
  (freeL l task, if decide (((heldB l task).length : Int) > 1) then h else if h.again then { (calledR (restH 0 0) h.c h.k h.v).1 with begin_ := h.begin_ } else restH h.reply 0)
theorem where_has {l : List ND} {h : HD} (q1 : hasB l h.up = true) (q2 : hasB l h.new = true) : hasB l (whereUp h) = true := by
  unfold whereUp; split <;> assumption

theorem spec_l8Make (l : List ND) (h : HD) (g0 k0 : Nat) (p0 : List Value) (xa : Option Addr) (xn xk : Nat) (L : List Bk) (w00 w0 : World) (hM0 : Mem w00 w0 ((g0, 49, cellsOf l ++ p0) :: L)) (q1 : l.length ≤ k0) (q2 : k0 ≤ maxLen) (q5 : (cellsOf l ++ p0).length = k0 * 8) (hl30 : l.length ≤ 30) :
    Calls Tryz.prog 103 #[.agg #[.slice (some ⟨g0, 0, none⟩) l.length k0, .slice xa xn xk], h.val] w0 (SaysM w00 L (fun s => .tuple #[.agg #[s, .slice xa xn xk], (makeR l h).2.val]) (makeR l h).1) := by
  unfold HD.val
  have hM := hM0
  go_enter Tryz.func103, Tryz.ntmps103
  refine wp_seq_k fun _ cn1 => wl_region ?_
  refine nx hM 55 [.slice (some ⟨g0, 0, none⟩) l.length k0, .slice xa xn xk] ?_
  clear hM; intro g1 W1 hM
  refine nx hM 73 (HD.cells h) ?_
  clear hM; intro g2 W2 hM
  refine na hM [.slice none 0 0, .slice none 0 0] Z_impl_Shared ?_
  clear hM; intro g3 W3 hM
  refine na hM (HD.cells HD.zero) Z_impl_Hand ?_
  clear hM; intro g4 W4 hM
  go_frame
  refine wl_nil (cn1 _ _ ?_)
  clear cn1
  refine wp_seq_k fun Kn2 cn2 => ?_
  refine wp_seq_k fun _ cn3 => wl_region ?_
  refine np (.pointer (some ⟨g1, 0, none⟩)) ?_
  refine ng hM 3 rfl 0 Tryz.underlying24 rfl ?_
  refine np (.int .i64 (l.length : Int)) ?_
  refine np (.bool (decide ((l.length : Int) ≥ 30))) ?_
  go_frame
  refine wl_nil (cn3 _ _ ?_)
  clear cn3
  rcases tf (decide ((l.length : Int) ≥ 30)) with hx1 | hx1
  rw [hx1]
  refine wp_cond_true rfl ?_
  refine wp_seq_k fun Kn4 cn4 => ?_
  refine wa_start (fun w => Below w00.heap.size w00 w ∧ Blk w g1 55 [.slice (some ⟨g0, 0, none⟩) l.length k0, .slice xa xn xk] ∧ Blk w g2 73 (HD.cells h)) 5 rfl (by kernel_rfl) ?_
  replace hM := hM.drew
  refine wq 0 (some 10) (.agg #[.slice (some ⟨g0, 0, none⟩) l.length k0, .slice xa xn xk]) ⟨hM.below, hM.blk 3 rfl, hM.blk 2 rfl⟩ rfl (fun w hS => r_load hS.2.1 55 _ rfl rfl Tryz.underlying55 I_impl_Shared) ?_
  go_frame
  refine wq 1 (some 11) (.agg (HD.cells h).toArray) ⟨hM.below, hM.blk 3 rfl, hM.blk 2 rfl⟩ rfl (fun w hS => r_load hS.2.2 73 _ rfl rfl Tryz.underlying73 I_impl_Hand) ?_
  go_frame
  refine wn 2 ?_
  refine oc (some 12) (spec_l8End h 3 _) ?_
  rintro e W5 ⟨rfl, hb⟩
  replace hM := hM.call hb
  refine ⟨_, rfl, ⟨hM.below, hM.blk 3 rfl, hM.blk 2 rfl⟩, ?_⟩
  go_frame
  refine wn 3 ?_
  refine oS hM 1 rfl [.slice (some ⟨g0, 0, none⟩) l.length k0, .slice xa xn xk] I_impl_Shared rfl ?_
  clear hM; intro W6 hM
  refine ⟨⟨hM.below, hM.blk 3 rfl, hM.blk 2 rfl⟩, ?_⟩
  refine wn 4 ?_
  refine oS hM 0 rfl (HD.cells (endH h 3)) I_impl_Hand (hd_one' _) ?_
  clear hM; intro W7 hM
  refine ⟨⟨hM.below, hM.blk 3 rfl, hM.blk 2 rfl⟩, ?_⟩
  refine wa_done (by kernel_rfl) ?_
  refine cn4 _ _ ?_
  clear cn4
  refine wp_ret ?_
  simp only [Exit.then, Exit.inBlock]
  have hR : makeR l h = (l, (endH h 3)) := by simp [makeR, hx1]
  rw [hR]
  have hN : (l : List ND).length = l.length := by first | rfl | simp
  refine bodyPost_ret (ret_cc (p := 4) (q := 5) rfl hM 1 0 rfl rfl rfl rfl Tryz.underlying55 Tryz.underlying73 I_impl_Shared I_impl_Hand) rfl ⟨g0, k0, p0, congrArg (fun q : Nat => Ending.returned ((fun s => .tuple #[.agg #[s, .slice xa xn xk], (((l, (endH h 3)) : List ND × HD)).2.val]) (Value.slice (some ⟨g0, 0, none⟩) q k0))) hN.symm, ⟨by rw [hN]; exact q1, q2, q5⟩, ?_⟩
  exact (hM.pull 4 rfl).sub (fun i => if i = 0 then 0 else i + 4) (fun i x hx => by cases i with | zero => exact hx | succ i => simpa [Nat.add_assoc, Nat.add_comm] using hx) (fun i j _ _ e => by (try simp only at e); split at e <;> split at e <;> omega)
  rw [hx1]
  refine wp_cond_false rfl ?_
  refine wp_skip ?_
  refine cn2 _ _ ?_
  clear cn2
  refine wp_seq_k fun _ cn4 => wl_region ?_
  refine np (.pointer (some ⟨g1, 0, none⟩)) ?_
  refine ng hM 3 rfl 0 Tryz.underlying24 rfl ?_
  refine np (.int .i64 (l.length : Int)) ?_
  refine np (.pointer (some ⟨g2, 10, none⟩)) ?_
  refine nk hM 2 rfl 10 (.int .i64 (l.length : Int)) I_int64 (by simp [HD.cells, splice_len]) ?_
  clear hM; intro W5 hM
  refine wl_nil (cn4 _ _ ?_)
  clear cn4
  refine wp_seq_k fun _ cn5 => wl_region ?_
  refine np (.pointer (some ⟨g2, 0, none⟩)) ?_
  refine nk hM 2 rfl 0 (.int .i64 8) I_int64 (by simp [HD.cells, splice_len]) ?_
  clear hM; intro W6 hM
  refine wl_nil (cn5 _ _ ?_)
  clear cn5
  refine wp_seq_k fun _ cn6 => wl_region ?_
  refine np (.pointer (some ⟨g1, 0, none⟩)) ?_
  refine ng hM 3 rfl 0 Tryz.underlying24 rfl ?_
  refine np (.pointer (some ⟨g2, 1, none⟩)) ?_
  refine np (.pointer (some ⟨g2, 2, none⟩)) ?_
  refine ng hM 2 rfl 2 Tryz.underlying2 rfl ?_
  refine np (.pointer (some ⟨g2, 1, none⟩)) ?_
  refine np (.pointer (some ⟨g2, 3, none⟩)) ?_
  refine ng hM 2 rfl 3 Tryz.underlying2 rfl ?_
  refine np (.agg (ND.cells ⟨h.k, h.v, 0, 0, 0, false, 0, 0⟩).toArray) ?_
  go_frame
  refine wl_buildSlice (by kernel_rfl) hM 49 1 (ND.cells ⟨h.k, h.v, 0, 0, 0, false, 0, 0⟩) (fun w => by kernel_rfl) ?_
  clear hM; intro g5 W7 hM
  go_frame
  refine wl_append (by kernel_rfl) hM 5 rfl 0 rfl _ _ 24 rfl Tryz.underlying24 infoNode rfl (by decide) l.length k0 1 1 rfl q1 q2 (cellsOf_len _) q5 rfl rfl (nd_one _) (by decide) (by (try unfold maxLen); omega) (by (try unfold maxLen); omega) ?_
  clear hM; intro ga'1 ka'2 pa'3 W8 qa'4 qb'5 qe'6 hM
  rw [node_snoc _ (⟨h.k, h.v, 0, 0, 0, false, 0, 0⟩) _] at hM qe'6
  go_frame
  refine np (.pointer (some ⟨g1, 0, none⟩)) ?_
  refine nk hM 4 rfl 0 (.slice (some ⟨ga'1, 0, none⟩) (l.length + 1) ka'2) I_S_impl_Node (by simp) ?_
  clear hM; intro W9 hM
  refine wl_nil (cn6 _ _ ?_)
  clear cn6
  refine wp_seq_k fun Kn7 cn7 => ?_
  refine wa_start (fun w => Below w00.heap.size w00 w ∧ Blk w g1 55 [.slice (some ⟨ga'1, 0, none⟩) (l.length + 1) ka'2, .slice xa xn xk] ∧ Blk w g2 73 (HD.cells { h with new := (l.length : Int), at_ := 8 })) 4 rfl (by kernel_rfl) ?_
  replace hM := hM.drew
  refine wq 0 (some 30) (.agg #[.slice (some ⟨ga'1, 0, none⟩) (l.length + 1) ka'2, .slice xa xn xk]) ⟨hM.below, hM.blk 4 rfl, hM.blk 3 rfl⟩ rfl (fun w hS => r_load hS.2.1 55 _ rfl rfl Tryz.underlying55 I_impl_Shared) ?_
  go_frame
  refine wq 1 (some 31) (.agg (HD.cells { h with new := (l.length : Int), at_ := 8 }).toArray) ⟨hM.below, hM.blk 4 rfl, hM.blk 3 rfl⟩ rfl (fun w hS => r_load hS.2.2 73 _ rfl rfl Tryz.underlying73 I_impl_Hand) ?_
  go_frame
  refine wn 2 ?_
  refine oS hM 2 rfl [.slice (some ⟨ga'1, 0, none⟩) (l.length + 1) ka'2, .slice xa xn xk] I_impl_Shared rfl ?_
  clear hM; intro W10 hM
  refine ⟨⟨hM.below, hM.blk 4 rfl, hM.blk 3 rfl⟩, ?_⟩
  refine wn 3 ?_
  refine oS hM 1 rfl (HD.cells { h with new := (l.length : Int), at_ := 8 }) I_impl_Hand (hd_one' _) ?_
  clear hM; intro W11 hM
  refine ⟨⟨hM.below, hM.blk 4 rfl, hM.blk 3 rfl⟩, ?_⟩
  refine wa_done (by kernel_rfl) ?_
  refine cn7 _ _ ?_
  clear cn7
  refine wp_ret ?_
  have hR : makeR l h = ((l ++ [⟨h.k, h.v, 0, 0, 0, false, 0, 0⟩]), { h with new := (l.length : Int), at_ := 8 }) := by simp [makeR, hx1]
  rw [hR]
  have hN : ((l ++ [⟨h.k, h.v, 0, 0, 0, false, 0, 0⟩]) : List ND).length = (l.length + 1) := by first | rfl | simp
  refine bodyPost_ret (ret_cc (p := 4) (q := 5) rfl hM 2 1 rfl rfl rfl rfl Tryz.underlying55 Tryz.underlying73 I_impl_Shared I_impl_Hand) rfl ⟨ga'1, ka'2, pa'3, congrArg (fun q : Nat => Ending.returned ((fun s => .tuple #[.agg #[s, .slice xa xn xk], ((((l ++ [⟨h.k, h.v, 0, 0, 0, false, 0, 0⟩]), { h with new := (l.length : Int), at_ := 8 }) : List ND × HD)).2.val]) (Value.slice (some ⟨ga'1, 0, none⟩) q ka'2))) hN.symm, ⟨by rw [hN]; exact qa'4, qb'5, qe'6⟩, ?_⟩
  exact (hM.pull 5 rfl).sub (fun i => if i = 0 then 0 else i + 5) (fun i x hx => by cases i with | zero => exact hx | succ i => simpa [Nat.add_assoc, Nat.add_comm] using hx) (fun i j _ _ e => by (try simp only at e); split at e <;> split at e <;> omega)

theorem spec_l9Lift (l : List ND) (at' sd kid : Int) (g0 k0 : Nat) (p0 : List Value) (xa : Option Addr) (xn xk : Nat) (L : List Bk) (w00 w0 : World) (hM0 : Mem w00 w0 ((g0, 49, cellsOf l ++ p0) :: L)) (q1 : l.length ≤ k0) (q2 : k0 ≤ maxLen) (q5 : (cellsOf l ++ p0).length = k0 * 8) (qa0 : hasB l at' = true) :
    Calls Tryz.prog 107 #[.agg #[.slice (some ⟨g0, 0, none⟩) l.length k0, .slice xa xn xk], .int .i64 at', .int .i64 sd, .int .i64 kid] w0 (SaysM w00 L (fun s => .tuple #[.agg #[s, .slice xa xn xk], .bool (liftR l at' sd kid).2]) (liftR l at' sd kid).1) := by
  obtain ⟨kna, ⟨nak, nav, nal, nar, nao, nag, nalt, nart⟩, hkna, nae, hlna, hnna⟩ := nd_at qa0
  have tna : (at').toNat = kna := by omega
  have hM := hM0
  go_enter Tryz.func107, Tryz.ntmps107
  refine wp_seq_k fun _ cn1 => wl_region ?_
  refine nx hM 55 [.slice (some ⟨g0, 0, none⟩) l.length k0, .slice xa xn xk] ?_
  clear hM; intro g1 W1 hM
  refine na hM [.slice none 0 0, .slice none 0 0] Z_impl_Shared ?_
  clear hM; intro g2 W2 hM
  refine np (.bool false) ?_
  go_frame
  refine wl_nil (cn1 _ _ ?_)
  clear cn1
  refine wp_seq_k fun Kn2 cn2 => ?_
  refine wa_start (fun w => Below w00.heap.size w00 w ∧ Blk w g1 55 [.slice (some ⟨g0, 0, none⟩) l.length k0, .slice xa xn xk]) 13 rfl (by kernel_rfl) ?_
  replace hM := hM.drew
  refine wt 0 (some 10) (.pointer (some ⟨g1, 0, none⟩)) ⟨hM.below, hM.blk 1 rfl⟩ ?_
  go_frame
  refine wq 1 (some 11) (.slice (some ⟨g0, 0, none⟩) l.length k0) ⟨hM.below, hM.blk 1 rfl⟩ rfl (fun w hS => r_loadc hS.2 24 _ rfl 0 rfl Tryz.underlying24 rfl rfl) ?_
  refine wt 2 (some 12) (.int .i64 at') ⟨hM.below, hM.blk 1 rfl⟩ ?_
  refine wt 3 (some 13) (.pointer (some ⟨g1, 0, none⟩)) ⟨hM.below, hM.blk 1 rfl⟩ ?_
  go_frame
  refine wq 4 (some 14) (.slice (some ⟨g0, 0, none⟩) l.length k0) ⟨hM.below, hM.blk 1 rfl⟩ rfl (fun w hS => r_loadc hS.2 24 _ rfl 0 rfl Tryz.underlying24 rfl rfl) ?_
  refine wt 5 (some 15) (.int .i64 at') ⟨hM.below, hM.blk 1 rfl⟩ ?_
  go_frame
  refine wq 6 (some 16) (.pointer (some ⟨g0, 0 + kna * 8, none⟩)) ⟨hM.below, hM.blk 1 rfl⟩ rfl (fun w hS => r_index 24 49 _ _ rfl g0 0 l.length k0 8 kna rfl rfl hkna (by omega) Tryz.underlying24 I_impl_Node) ?_
  refine wt 8 (some 18) (.int .i64 sd) ⟨hM.below, hM.blk 1 rfl⟩ ?_
  refine wt 9 (some 19) (.int .i64 kid) ⟨hM.below, hM.blk 1 rfl⟩ ?_
  go_frame
  refine wn 7 ?_
  refine oq (some 17) (.agg (ND.cells ⟨nak, nav, nal, nar, nao, nag, nalt, nart⟩).toArray) ⟨hM.below, hM.blk 1 rfl⟩ rfl (r_part (hM.blk 2 rfl) 49 _ rfl (0 + kna * 8) rfl Tryz.underlying49 (ND.cells ⟨nak, nav, nal, nar, nao, nag, nalt, nart⟩) I_impl_Node (node_part hnna)) ?_
  go_frame
  refine wn 10 ?_
  refine oc (some 20) (spec_WithKid nak nav nal nar nao nag nalt nart sd kid _) ?_
  rintro e W3 ⟨rfl, hb⟩
  replace hM := hM.call hb
  refine ⟨_, rfl, wk ⟨hM.below, hM.blk 1 rfl⟩ fun hs => ?_⟩
  go_frame
  refine wq 11 (some 21) (.pointer (some ⟨g0, 0 + kna * 8, none⟩)) hs rfl (fun w hS => r_index 24 49 _ _ rfl g0 0 l.length k0 8 kna rfl rfl hkna (by omega) Tryz.underlying24 I_impl_Node) ?_
  go_frame
  refine wn 12 ?_
  refine wo_storep rfl (by kernel_rfl) hM 2 rfl 49 _ _ rfl rfl (0 + kna * 8) (by kernel_rfl) (ND.cells ⟨nak, nav, (leftF sd kid nal), (rightF sd kid nar), nao, nag, nalt, nart⟩) (by kernel_rfl) I_impl_Node (node_room hlna) (nd_one _) ?_
  clear hM; intro W4 hM; rw [splice_node hlna] at hM
  refine ⟨⟨hM.below, hM.blk 1 rfl⟩, ?_⟩
  refine wa_done (by kernel_rfl) ?_
  refine cn2 _ _ ?_
  clear cn2
  refine wp_seq_k fun _ cn3 => wl_region ?_
  refine nl hM 1 rfl Tryz.underlying55 I_impl_Shared ?_
  refine np (.int .i64 kid) ?_
  refine np (.bool (kid == 0)) ?_
  refine nS hM 0 rfl [.slice (some ⟨g0, 0, none⟩) l.length k0, .slice xa xn xk] I_impl_Shared rfl ?_
  clear hM; intro W5 hM
  refine np (.bool (kid == 0)) ?_
  go_frame
  refine wl_nil (cn3 _ _ ?_)
  clear cn3
  refine wp_ret ?_
  have hR : liftR l at' sd kid = ((l.set kna ⟨nak, nav, (leftF sd kid nal), (rightF sd kid nar), nao, nag, nalt, nart⟩), (kid == 0)) := by simp [liftR, setK, withK, nae, tna]
  rw [hR]
  have hN : ((l.set kna ⟨nak, nav, (leftF sd kid nal), (rightF sd kid nar), nao, nag, nalt, nart⟩) : List ND).length = l.length := by first | rfl | simp
  refine bodyPost_ret (ret_two (p := 8) (u := 9) (v := .bool (kid == 0)) rfl hM 0 rfl rfl rfl Tryz.underlying55 I_impl_Shared) rfl ⟨g0, k0, p0, congrArg (fun q : Nat => Ending.returned ((fun s => .tuple #[.agg #[s, .slice xa xn xk], .bool ((((l.set kna ⟨nak, nav, (leftF sd kid nal), (rightF sd kid nar), nao, nag, nalt, nart⟩), (kid == 0)) : List ND × Bool)).2]) (Value.slice (some ⟨g0, 0, none⟩) q k0))) hN.symm, ⟨by rw [hN]; exact q1, q2, (by rw [node_keep]; exact q5)⟩, ?_⟩
  exact (hM.pull 2 rfl).sub (fun i => if i = 0 then 0 else i + 2) (fun i x hx => by cases i with | zero => exact hx | succ i => simpa [Nat.add_assoc, Nat.add_comm] using hx) (fun i j _ _ e => by (try simp only at e); split at e <;> split at e <;> omega)

theorem spec_l10Copy (l : List ND) (task : Int) (h : HD) (g0 k0 : Nat) (p0 : List Value) (xa : Option Addr) (xn xk : Nat) (L : List Bk) (w00 w0 : World) (hM0 : Mem w00 w0 ((g0, 49, cellsOf l ++ p0) :: L)) (q1 : l.length ≤ k0) (q2 : k0 ≤ maxLen) (q5 : (cellsOf l ++ p0).length = k0 * 8) (hl30 : l.length ≤ 30) (ht : 0 ≤ task ∧ task ≤ 6) (qnc : hasB l h.cur = true) (qnx : hasB l h.next = true) :
    Calls Tryz.prog 115 #[.agg #[.slice (some ⟨g0, 0, none⟩) l.length k0, .slice xa xn xk], .int .i64 task, h.val] w0 (SaysM w00 L (fun s => .tuple #[.agg #[s, .slice xa xn xk], (moveR l task h).2.val]) (moveR l task h).1) := by
  unfold HD.val
  obtain ⟨knc, ⟨nck, ncv, ncl, ncr, nco, ncg, nclt, ncrt⟩, hknc, nce, hlnc, hnnc⟩ := nd_at qnc
  have tnc : (h.cur).toNat = knc := by omega
  obtain ⟨knx, ⟨nxk, nxv, nxl, nxr, nxo, nxg, nxlt, nxrt⟩, hknx, nxe, hlnx, hnnx⟩ := nd_at qnx
  have tnx : (h.next).toNat = knx := by omega
  have hM := hM0
  go_enter Tryz.func115, Tryz.ntmps115
  refine wp_seq_k fun _ cn1 => wl_region ?_
  refine nx hM 55 [.slice (some ⟨g0, 0, none⟩) l.length k0, .slice xa xn xk] ?_
  clear hM; intro g1 W1 hM
  refine nx hM 73 (HD.cells h) ?_
  clear hM; intro g2 W2 hM
  refine na hM [.slice none 0 0, .slice none 0 0] Z_impl_Shared ?_
  clear hM; intro g3 W3 hM
  refine na hM (HD.cells HD.zero) Z_impl_Hand ?_
  clear hM; intro g4 W4 hM
  go_frame
  refine wl_nil (cn1 _ _ ?_)
  clear cn1
  refine wp_seq_k fun Kn2 cn2 => ?_
  refine wp_seq_k fun _ cn3 => wl_region ?_
  refine np (.pointer (some ⟨g1, 0, none⟩)) ?_
  refine ng hM 3 rfl 0 Tryz.underlying24 rfl ?_
  refine np (.int .i64 (l.length : Int)) ?_
  refine np (.bool (decide ((l.length : Int) ≥ 30))) ?_
  go_frame
  refine wl_nil (cn3 _ _ ?_)
  clear cn3
  rcases tf (decide ((l.length : Int) ≥ 30)) with hx1 | hx1
  rw [hx1]
  refine wp_cond_true rfl ?_
  refine wp_seq_k fun Kn4 cn4 => ?_
  refine wa_start (fun w => Below w00.heap.size w00 w ∧ Blk w g1 55 [.slice (some ⟨g0, 0, none⟩) l.length k0, .slice xa xn xk] ∧ Blk w g2 73 (HD.cells h)) 5 rfl (by kernel_rfl) ?_
  replace hM := hM.drew
  refine wq 0 (some 14) (.agg #[.slice (some ⟨g0, 0, none⟩) l.length k0, .slice xa xn xk]) ⟨hM.below, hM.blk 3 rfl, hM.blk 2 rfl⟩ rfl (fun w hS => r_load hS.2.1 55 _ rfl rfl Tryz.underlying55 I_impl_Shared) ?_
  go_frame
  refine wq 1 (some 15) (.agg (HD.cells h).toArray) ⟨hM.below, hM.blk 3 rfl, hM.blk 2 rfl⟩ rfl (fun w hS => r_load hS.2.2 73 _ rfl rfl Tryz.underlying73 I_impl_Hand) ?_
  go_frame
  refine wn 2 ?_
  refine oc (some 16) (spec_l8End h 3 _) ?_
  rintro e W5 ⟨rfl, hb⟩
  replace hM := hM.call hb
  refine ⟨_, rfl, ⟨hM.below, hM.blk 3 rfl, hM.blk 2 rfl⟩, ?_⟩
  go_frame
  refine wn 3 ?_
  refine oS hM 1 rfl [.slice (some ⟨g0, 0, none⟩) l.length k0, .slice xa xn xk] I_impl_Shared rfl ?_
  clear hM; intro W6 hM
  refine ⟨⟨hM.below, hM.blk 3 rfl, hM.blk 2 rfl⟩, ?_⟩
  refine wn 4 ?_
  refine oS hM 0 rfl (HD.cells (endH h 3)) I_impl_Hand (hd_one' _) ?_
  clear hM; intro W7 hM
  refine ⟨⟨hM.below, hM.blk 3 rfl, hM.blk 2 rfl⟩, ?_⟩
  refine wa_done (by kernel_rfl) ?_
  refine cn4 _ _ ?_
  clear cn4
  refine wp_ret ?_
  simp only [Exit.then, Exit.inBlock]
  have hR : moveR l task h = (l, (endH h 3)) := by simp [moveR, hx1, nce, tnc, nxe, tnx]
  rw [hR]
  have hN : (l : List ND).length = l.length := by first | rfl | simp
  refine bodyPost_ret (ret_cc (p := 6) (q := 7) rfl hM 1 0 rfl rfl rfl rfl Tryz.underlying55 Tryz.underlying73 I_impl_Shared I_impl_Hand) rfl ⟨g0, k0, p0, congrArg (fun q : Nat => Ending.returned ((fun s => .tuple #[.agg #[s, .slice xa xn xk], (((l, (endH h 3)) : List ND × HD)).2.val]) (Value.slice (some ⟨g0, 0, none⟩) q k0))) hN.symm, ⟨by rw [hN]; exact q1, q2, q5⟩, ?_⟩
  exact (hM.pull 4 rfl).sub (fun i => if i = 0 then 0 else i + 4) (fun i x hx => by cases i with | zero => exact hx | succ i => simpa [Nat.add_assoc, Nat.add_comm] using hx) (fun i j _ _ e => by (try simp only at e); split at e <;> split at e <;> omega)
  rw [hx1]
  refine wp_cond_false rfl ?_
  refine wp_skip ?_
  refine cn2 _ _ ?_
  clear cn2
  refine wp_seq_k fun _ cn4 => wl_region ?_
  refine np (.pointer (some ⟨g1, 0, none⟩)) ?_
  refine ng hM 3 rfl 0 Tryz.underlying24 rfl ?_
  refine np (.int .i64 (l.length : Int)) ?_
  refine np (.pointer (some ⟨g2, 10, none⟩)) ?_
  refine nk hM 2 rfl 10 (.int .i64 (l.length : Int)) I_int64 (by simp [HD.cells, splice_len]) ?_
  clear hM; intro W5 hM
  refine wl_nil (cn4 _ _ ?_)
  clear cn4
  refine wp_seq_k fun _ cn5 => wl_region ?_
  refine np (.pointer (some ⟨g2, 0, none⟩)) ?_
  refine nk hM 2 rfl 0 (.int .i64 20) I_int64 (by simp [HD.cells, splice_len]) ?_
  clear hM; intro W6 hM
  refine wl_nil (cn5 _ _ ?_)
  clear cn5
  refine wp_seq_k fun _ cn6 => wl_region ?_
  refine np (.pointer (some ⟨g1, 0, none⟩)) ?_
  refine ng hM 3 rfl 0 Tryz.underlying24 rfl ?_
  refine np (.pointer (some ⟨g2, 5, none⟩)) ?_
  refine ng hM 2 rfl 5 Tryz.underlying2 rfl ?_
  go_frame
  refine wl_index (by kernel_rfl) 24 49 _ _ rfl g0 0 l.length k0 8 knc rfl rfl hknc (by omega) Tryz.underlying24 I_impl_Node ?_
  go_frame
  refine wl_part (by kernel_rfl) hM 4 rfl 49 _ rfl (0 + knc * 8) rfl Tryz.underlying49 (ND.cells ⟨nck, ncv, ncl, ncr, nco, ncg, nclt, ncrt⟩) I_impl_Node (node_part hnnc) ?_
  go_frame
  refine na hM [.int .i64 0, .int .i64 0, .int .i64 0, .int .i64 0, .int .i64 0, .bool false, .int .i64 0, .int .i64 0] Z_impl_Node ?_
  clear hM; intro g5 W7 hM
  refine nS hM 0 rfl (ND.cells ⟨nck, ncv, ncl, ncr, nco, ncg, nclt, ncrt⟩) I_impl_Node (nd_one _) ?_
  clear hM; intro W8 hM
  refine wl_nil (cn6 _ _ ?_)
  clear cn6
  refine wp_seq_k fun _ cn7 => wl_region ?_
  refine np (.pointer (some ⟨g1, 0, none⟩)) ?_
  refine ng hM 4 rfl 0 Tryz.underlying24 rfl ?_
  refine np (.pointer (some ⟨g2, 9, none⟩)) ?_
  refine ng hM 3 rfl 9 Tryz.underlying2 rfl ?_
  go_frame
  refine wl_index (by kernel_rfl) 24 49 _ _ rfl g0 0 l.length k0 8 knx rfl rfl hknx (by omega) Tryz.underlying24 I_impl_Node ?_
  go_frame
  refine wl_part (by kernel_rfl) hM 5 rfl 49 _ rfl (0 + knx * 8) rfl Tryz.underlying49 (ND.cells ⟨nxk, nxv, nxl, nxr, nxo, nxg, nxlt, nxrt⟩) I_impl_Node (node_part hnnx) ?_
  go_frame
  refine na hM [.int .i64 0, .int .i64 0, .int .i64 0, .int .i64 0, .int .i64 0, .bool false, .int .i64 0, .int .i64 0] Z_impl_Node ?_
  clear hM; intro g6 W9 hM
  refine nS hM 0 rfl (ND.cells ⟨nxk, nxv, nxl, nxr, nxo, nxg, nxlt, nxrt⟩) I_impl_Node (nd_one _) ?_
  clear hM; intro W10 hM
  refine wl_nil (cn7 _ _ ?_)
  clear cn7
  refine wp_seq_k fun _ cn8 => wl_region ?_
  refine np (.pointer (some ⟨g1, 0, none⟩)) ?_
  refine ng hM 5 rfl 0 Tryz.underlying24 rfl ?_
  refine np (.pointer (some ⟨g6, 0, none⟩)) ?_
  refine ng hM 0 rfl 0 Tryz.underlying2 rfl ?_
  refine np (.pointer (some ⟨g6, 1, none⟩)) ?_
  refine ng hM 0 rfl 1 Tryz.underlying2 rfl ?_
  refine np (.pointer (some ⟨g5, 2, none⟩)) ?_
  refine ng hM 1 rfl 2 Tryz.underlying2 rfl ?_
  refine np (.pointer (some ⟨g5, 3, none⟩)) ?_
  refine ng hM 1 rfl 3 Tryz.underlying2 rfl ?_
  refine np (.int .i64 task) ?_
  refine nI (task + 1) ?_
  refine np (.agg (ND.cells ⟨nxk, nxv, ncl, ncr, (task + 1), false, 0, 0⟩).toArray) ?_
  go_frame
  refine wl_buildSlice (by kernel_rfl) hM 49 1 (ND.cells ⟨nxk, nxv, ncl, ncr, (task + 1), false, 0, 0⟩) (fun w => by kernel_rfl) ?_
  clear hM; intro g7 W11 hM
  go_frame
  refine wl_append (by kernel_rfl) hM 7 rfl 0 rfl _ _ 24 rfl Tryz.underlying24 infoNode rfl (by decide) l.length k0 1 1 rfl q1 q2 (cellsOf_len _) q5 rfl rfl (nd_one _) (by decide) (by (try unfold maxLen); omega) (by (try unfold maxLen); omega) ?_
  clear hM; intro ga'1 ka'2 pa'3 W12 qa'4 qb'5 qe'6 hM
  rw [node_snoc _ (⟨nxk, nxv, ncl, ncr, (task + 1), false, 0, 0⟩) _] at hM qe'6
  go_frame
  refine np (.pointer (some ⟨g1, 0, none⟩)) ?_
  refine nk hM 6 rfl 0 (.slice (some ⟨ga'1, 0, none⟩) (l.length + 1) ka'2) I_S_impl_Node (by simp) ?_
  clear hM; intro W13 hM
  refine wl_nil (cn8 _ _ ?_)
  clear cn8
  refine wp_seq_k fun Kn9 cn9 => ?_
  refine wa_start (fun w => Below w00.heap.size w00 w ∧ Blk w g1 55 [.slice (some ⟨ga'1, 0, none⟩) (l.length + 1) ka'2, .slice xa xn xk] ∧ Blk w g2 73 (HD.cells { h with new := (l.length : Int), at_ := 20 })) 4 rfl (by kernel_rfl) ?_
  replace hM := hM.drew
  refine wq 0 (some 50) (.agg #[.slice (some ⟨ga'1, 0, none⟩) (l.length + 1) ka'2, .slice xa xn xk]) ⟨hM.below, hM.blk 6 rfl, hM.blk 5 rfl⟩ rfl (fun w hS => r_load hS.2.1 55 _ rfl rfl Tryz.underlying55 I_impl_Shared) ?_
  go_frame
  refine wq 1 (some 51) (.agg (HD.cells { h with new := (l.length : Int), at_ := 20 }).toArray) ⟨hM.below, hM.blk 6 rfl, hM.blk 5 rfl⟩ rfl (fun w hS => r_load hS.2.2 73 _ rfl rfl Tryz.underlying73 I_impl_Hand) ?_
  go_frame
  refine wn 2 ?_
  refine oS hM 4 rfl [.slice (some ⟨ga'1, 0, none⟩) (l.length + 1) ka'2, .slice xa xn xk] I_impl_Shared rfl ?_
  clear hM; intro W14 hM
  refine ⟨⟨hM.below, hM.blk 6 rfl, hM.blk 5 rfl⟩, ?_⟩
  refine wn 3 ?_
  refine oS hM 3 rfl (HD.cells { h with new := (l.length : Int), at_ := 20 }) I_impl_Hand (hd_one' _) ?_
  clear hM; intro W15 hM
  refine ⟨⟨hM.below, hM.blk 6 rfl, hM.blk 5 rfl⟩, ?_⟩
  refine wa_done (by kernel_rfl) ?_
  refine cn9 _ _ ?_
  clear cn9
  refine wp_ret ?_
  have hR : moveR l task h = ((l ++ [⟨nxk, nxv, ncl, ncr, (task + 1), false, 0, 0⟩]), { h with new := (l.length : Int), at_ := 20 }) := by simp [moveR, hx1, nce, tnc, nxe, tnx]
  rw [hR]
  have hN : ((l ++ [⟨nxk, nxv, ncl, ncr, (task + 1), false, 0, 0⟩]) : List ND).length = (l.length + 1) := by first | rfl | simp
  refine bodyPost_ret (ret_cc (p := 6) (q := 7) rfl hM 4 3 rfl rfl rfl rfl Tryz.underlying55 Tryz.underlying73 I_impl_Shared I_impl_Hand) rfl ⟨ga'1, ka'2, pa'3, congrArg (fun q : Nat => Ending.returned ((fun s => .tuple #[.agg #[s, .slice xa xn xk], ((((l ++ [⟨nxk, nxv, ncl, ncr, (task + 1), false, 0, 0⟩]), { h with new := (l.length : Int), at_ := 20 }) : List ND × HD)).2.val]) (Value.slice (some ⟨ga'1, 0, none⟩) q ka'2))) hN.symm, ⟨by rw [hN]; exact qa'4, qb'5, qe'6⟩, ?_⟩
  exact (hM.pull 7 rfl).sub (fun i => if i = 0 then 0 else i + 7) (fun i x hx => by cases i with | zero => exact hx | succ i => simpa [Nat.add_assoc, Nat.add_comm] using hx) (fun i j _ _ e => by (try simp only at e); split at e <;> split at e <;> omega)

theorem spec_l10Join (l : List ND) (h : HD) (g0 k0 : Nat) (p0 : List Value) (xa : Option Addr) (xn xk : Nat) (L : List Bk) (w00 w0 : World) (hM0 : Mem w00 w0 ((g0, 49, cellsOf l ++ p0) :: L)) (q1 : l.length ≤ k0) (q2 : k0 ≤ maxLen) (q5 : (cellsOf l ++ p0).length = k0 * 8) (qnx : hasB l h.next = true) (qwh : hasB l (whereUp h) = true) :
    Calls Tryz.prog 116 #[.agg #[.slice (some ⟨g0, 0, none⟩) l.length k0, .slice xa xn xk], h.val] w0 (SaysM w00 L (fun s => .tuple #[.agg #[s, .slice xa xn xk], (joinR l h).2.val]) (joinR l h).1) := by
  unfold HD.val
  obtain ⟨knx, ⟨nxk, nxv, nxl, nxr, nxo, nxg, nxlt, nxrt⟩, hknx, nxe, hlnx, hnnx⟩ := nd_at qnx
  have tnx : (h.next).toNat = knx := by omega
  have hM := hM0
  go_enter Tryz.func116, Tryz.ntmps116
  refine wp_seq_k fun _ cn1 => wl_region ?_
  refine nx hM 55 [.slice (some ⟨g0, 0, none⟩) l.length k0, .slice xa xn xk] ?_
  clear hM; intro g1 W1 hM
  refine nx hM 73 (HD.cells h) ?_
  clear hM; intro g2 W2 hM
  refine na hM [.slice none 0 0, .slice none 0 0] Z_impl_Shared ?_
  clear hM; intro g3 W3 hM
  refine na hM (HD.cells HD.zero) Z_impl_Hand ?_
  clear hM; intro g4 W4 hM
  go_frame
  refine wl_nil (cn1 _ _ ?_)
  clear cn1
  refine wp_seq_k fun Kn2 cn2 => ?_
  refine wa_join (fun act W => ∃ (g5 ga'1 : Nat) (ka'2 : Nat) (pa'3 : List Value), act = ⟨#[.agg #[.slice (some ⟨g0, 0, none⟩) l.length k0, .slice xa xn xk], .agg (HD.cells h).toArray, .pointer (some ⟨g1, 0, none⟩), .pointer (some ⟨g2, 0, none⟩), .pointer (some ⟨g3, 0, none⟩), .pointer (some ⟨g4, 0, none⟩), .pointer (some ⟨g5, 0, none⟩), .bool ((liftR l (whereUp h) (sideUp h) nxr).2), .tuple #[.agg #[.slice (some ⟨ga'1, 0, none⟩) ((liftR l (whereUp h) (sideUp h) nxr).1.length) ka'2, .slice xa xn xk], .bool ((liftR l (whereUp h) (sideUp h) nxr).2)], .agg #[.slice (some ⟨g0, 0, none⟩) l.length k0, .slice xa xn xk], .agg (HD.cells h).toArray, .int .i64 (whereUp h), .agg (HD.cells h).toArray, .int .i64 (sideUp h), .pointer (some ⟨g1, 0, none⟩), .slice (some ⟨g0, 0, none⟩) l.length k0, .pointer (some ⟨g2, 9, none⟩), .int .i64 h.next, .pointer (some ⟨g0, 0 + knx * 8, none⟩), .pointer (some ⟨g0, 0 + knx * 8 + 3, none⟩), .int .i64 nxr, .tuple #[.agg #[.slice (some ⟨ga'1, 0, none⟩) ((liftR l (whereUp h) (sideUp h) nxr).1.length) ka'2, .slice xa xn xk], .bool ((liftR l (whereUp h) (sideUp h) nxr).2)], .agg #[.slice (some ⟨ga'1, 0, none⟩) ((liftR l (whereUp h) (sideUp h) nxr).1.length) ka'2, .slice xa xn xk], .bool ((liftR l (whereUp h) (sideUp h) nxr).2), undef, undef, undef, undef, undef, undef, undef], []⟩ ∧ Mem w00 W ((g5, 55, [.slice (some ⟨ga'1, 0, none⟩) ((liftR l (whereUp h) (sideUp h) nxr).1.length) ka'2, .slice xa xn xk]) :: (ga'1, 49, (cellsOf ((liftR l (whereUp h) (sideUp h) nxr).1) ++ pa'3)) :: (g4, 73, (HD.cells HD.zero)) :: (g3, 55, [.slice none 0 0, .slice none 0 0]) :: (g2, 73, (HD.cells h)) :: (g1, 55, [.slice (some ⟨g0, 0, none⟩) l.length k0, .slice xa xn xk]) :: L) ∧ ((liftR l (whereUp h) (sideUp h) nxr).1.length ≤ ka'2 ∧ ka'2 ≤ maxLen ∧ (cellsOf (liftR l (whereUp h) (sideUp h) nxr).1 ++ pa'3).length = ka'2 * 8)) ?_ ?_
  clear hM
  rintro act W10 ⟨g5, ga'1, ka'2, pa'3, rfl, hM, ⟨qa'4, qb'5, qe'6⟩⟩
  refine cn2 _ _ ?_
  clear cn2
  refine wp_seq_k fun Kn3 cn3 => ?_
  refine wp_seq_k fun _ cn4 => wl_region ?_
  refine np (.bool ((liftR l (whereUp h) (sideUp h) nxr).2)) ?_
  go_frame
  refine wl_nil (cn4 _ _ ?_)
  clear cn4
  rcases tf ((liftR l (whereUp h) (sideUp h) nxr).2) with hx1 | hx1
  rw [hx1]
  refine wp_cond_true rfl ?_
  refine wp_seq_k fun _ cn5 => wl_region ?_
  refine np (.pointer (some ⟨g2, 0, none⟩)) ?_
  refine nk hM 4 rfl 0 (.int .i64 25) I_int64 (by simp [HD.cells, splice_len]) ?_
  clear hM; intro W11 hM
  refine wl_nil (cn5 _ _ ?_)
  clear cn5
  refine wp_seq_k fun Kn6 cn6 => ?_
  refine wa_start (fun w => Below w00.heap.size w00 w ∧ Blk w g5 55 [.slice (some ⟨ga'1, 0, none⟩) ((liftR l (whereUp h) (sideUp h) nxr).1.length) ka'2, .slice xa xn xk] ∧ Blk w g2 73 (HD.cells { h with at_ := 25 })) 4 rfl (by kernel_rfl) ?_
  replace hM := hM.drew
  refine wq 0 (some 26) (.agg #[.slice (some ⟨ga'1, 0, none⟩) ((liftR l (whereUp h) (sideUp h) nxr).1.length) ka'2, .slice xa xn xk]) ⟨hM.below, hM.blk 0 rfl, hM.blk 4 rfl⟩ rfl (fun w hS => r_load hS.2.1 55 _ rfl rfl Tryz.underlying55 I_impl_Shared) ?_
  go_frame
  refine wq 1 (some 27) (.agg (HD.cells { h with at_ := 25 }).toArray) ⟨hM.below, hM.blk 0 rfl, hM.blk 4 rfl⟩ rfl (fun w hS => r_load hS.2.2 73 _ rfl rfl Tryz.underlying73 I_impl_Hand) ?_
  go_frame
  refine wn 2 ?_
  refine oS hM 3 rfl [.slice (some ⟨ga'1, 0, none⟩) ((liftR l (whereUp h) (sideUp h) nxr).1.length) ka'2, .slice xa xn xk] I_impl_Shared rfl ?_
  clear hM; intro W12 hM
  refine ⟨⟨hM.below, hM.blk 0 rfl, hM.blk 4 rfl⟩, ?_⟩
  refine wn 3 ?_
  refine oS hM 2 rfl (HD.cells { h with at_ := 25 }) I_impl_Hand (hd_one' _) ?_
  clear hM; intro W13 hM
  refine ⟨⟨hM.below, hM.blk 0 rfl, hM.blk 4 rfl⟩, ?_⟩
  refine wa_done (by kernel_rfl) ?_
  refine cn6 _ _ ?_
  clear cn6
  refine wp_ret ?_
  simp only [Exit.then, Exit.inBlock]
  have hR : joinR l h = ((liftR l (whereUp h) (sideUp h) nxr).1, { h with at_ := 25 }) := by simp [joinR, hx1, nxe, tnx]
  rw [hR]
  have hN : ((liftR l (whereUp h) (sideUp h) nxr).1 : List ND).length = (liftR l (whereUp h) (sideUp h) nxr).1.length := by first | rfl | simp
  refine bodyPost_ret (ret_cc (p := 4) (q := 5) rfl hM 3 2 rfl rfl rfl rfl Tryz.underlying55 Tryz.underlying73 I_impl_Shared I_impl_Hand) rfl ⟨ga'1, ka'2, pa'3, congrArg (fun q : Nat => Ending.returned ((fun s => .tuple #[.agg #[s, .slice xa xn xk], ((((liftR l (whereUp h) (sideUp h) nxr).1, { h with at_ := 25 }) : List ND × HD)).2.val]) (Value.slice (some ⟨ga'1, 0, none⟩) q ka'2))) hN.symm, ⟨by rw [hN]; exact qa'4, qb'5, qe'6⟩, ?_⟩
  exact (hM.pull 1 rfl).sub (fun i => if i = 0 then 0 else i + 5) (fun i x hx => by cases i with | zero => exact hx | succ i => simpa [Nat.add_assoc, Nat.add_comm] using hx) (fun i j _ _ e => by (try simp only at e); split at e <;> split at e <;> omega)
  rw [hx1]
  refine wp_cond_false rfl ?_
  refine wp_skip ?_
  refine cn3 _ _ ?_
  clear cn3
  refine wp_seq_k fun Kn5 cn5 => ?_
  refine wa_start (fun w => Below w00.heap.size w00 w ∧ Blk w g5 55 [.slice (some ⟨ga'1, 0, none⟩) ((liftR l (whereUp h) (sideUp h) nxr).1.length) ka'2, .slice xa xn xk] ∧ Blk w g2 73 (HD.cells h)) 5 rfl (by kernel_rfl) ?_
  replace hM := hM.drew
  refine wq 0 (some 28) (.agg #[.slice (some ⟨ga'1, 0, none⟩) ((liftR l (whereUp h) (sideUp h) nxr).1.length) ka'2, .slice xa xn xk]) ⟨hM.below, hM.blk 0 rfl, hM.blk 4 rfl⟩ rfl (fun w hS => r_load hS.2.1 55 _ rfl rfl Tryz.underlying55 I_impl_Shared) ?_
  go_frame
  refine wq 1 (some 29) (.agg (HD.cells h).toArray) ⟨hM.below, hM.blk 0 rfl, hM.blk 4 rfl⟩ rfl (fun w hS => r_load hS.2.2 73 _ rfl rfl Tryz.underlying73 I_impl_Hand) ?_
  go_frame
  refine wn 2 ?_
  refine oc (some 30) (spec_l8End h 1 _) ?_
  rintro e W11 ⟨rfl, hb⟩
  replace hM := hM.call hb
  refine ⟨_, rfl, ⟨hM.below, hM.blk 0 rfl, hM.blk 4 rfl⟩, ?_⟩
  go_frame
  refine wn 3 ?_
  refine oS hM 3 rfl [.slice (some ⟨ga'1, 0, none⟩) ((liftR l (whereUp h) (sideUp h) nxr).1.length) ka'2, .slice xa xn xk] I_impl_Shared rfl ?_
  clear hM; intro W12 hM
  refine ⟨⟨hM.below, hM.blk 0 rfl, hM.blk 4 rfl⟩, ?_⟩
  refine wn 4 ?_
  refine oS hM 2 rfl (HD.cells (endH h 1)) I_impl_Hand (hd_one' _) ?_
  clear hM; intro W13 hM
  refine ⟨⟨hM.below, hM.blk 0 rfl, hM.blk 4 rfl⟩, ?_⟩
  refine wa_done (by kernel_rfl) ?_
  refine cn5 _ _ ?_
  clear cn5
  refine wp_ret ?_
  have hR : joinR l h = ((liftR l (whereUp h) (sideUp h) nxr).1, (endH h 1)) := by simp [joinR, hx1, nxe, tnx]
  rw [hR]
  have hN : ((liftR l (whereUp h) (sideUp h) nxr).1 : List ND).length = (liftR l (whereUp h) (sideUp h) nxr).1.length := by first | rfl | simp
  refine bodyPost_ret (ret_cc (p := 4) (q := 5) rfl hM 3 2 rfl rfl rfl rfl Tryz.underlying55 Tryz.underlying73 I_impl_Shared I_impl_Hand) rfl ⟨ga'1, ka'2, pa'3, congrArg (fun q : Nat => Ending.returned ((fun s => .tuple #[.agg #[s, .slice xa xn xk], ((((liftR l (whereUp h) (sideUp h) nxr).1, (endH h 1)) : List ND × HD)).2.val]) (Value.slice (some ⟨ga'1, 0, none⟩) q ka'2))) hN.symm, ⟨by rw [hN]; exact qa'4, qb'5, qe'6⟩, ?_⟩
  exact (hM.pull 1 rfl).sub (fun i => if i = 0 then 0 else i + 5) (fun i x hx => by cases i with | zero => exact hx | succ i => simpa [Nat.add_assoc, Nat.add_comm] using hx) (fun i j _ _ e => by (try simp only at e); split at e <;> split at e <;> omega)
  refine wa_start (fun w => Below w00.heap.size w00 w ∧ Blk w g1 55 [.slice (some ⟨g0, 0, none⟩) l.length k0, .slice xa xn xk] ∧ Blk w g2 73 (HD.cells h)) 19 rfl (by kernel_rfl) ?_
  replace hM := hM.drew
  refine wq 0 (some 9) (.agg #[.slice (some ⟨g0, 0, none⟩) l.length k0, .slice xa xn xk]) ⟨hM.below, hM.blk 3 rfl, hM.blk 2 rfl⟩ rfl (fun w hS => r_load hS.2.1 55 _ rfl rfl Tryz.underlying55 I_impl_Shared) ?_
  go_frame
  refine wq 1 (some 10) (.agg (HD.cells h).toArray) ⟨hM.below, hM.blk 3 rfl, hM.blk 2 rfl⟩ rfl (fun w hS => r_load hS.2.2 73 _ rfl rfl Tryz.underlying73 I_impl_Hand) ?_
  go_frame
  refine wq 3 (some 12) (.agg (HD.cells h).toArray) ⟨hM.below, hM.blk 3 rfl, hM.blk 2 rfl⟩ rfl (fun w hS => r_load hS.2.2 73 _ rfl rfl Tryz.underlying73 I_impl_Hand) ?_
  refine wt 5 (some 14) (.pointer (some ⟨g1, 0, none⟩)) ⟨hM.below, hM.blk 3 rfl, hM.blk 2 rfl⟩ ?_
  go_frame
  refine wq 6 (some 15) (.slice (some ⟨g0, 0, none⟩) l.length k0) ⟨hM.below, hM.blk 3 rfl, hM.blk 2 rfl⟩ rfl (fun w hS => r_loadc hS.2.1 24 _ rfl 0 rfl Tryz.underlying24 rfl rfl) ?_
  refine wt 7 (some 16) (.pointer (some ⟨g2, 9, none⟩)) ⟨hM.below, hM.blk 3 rfl, hM.blk 2 rfl⟩ ?_
  go_frame
  refine wq 8 (some 17) (.int .i64 h.next) ⟨hM.below, hM.blk 3 rfl, hM.blk 2 rfl⟩ rfl (fun w hS => r_loadc hS.2.2 2 _ rfl 9 rfl Tryz.underlying2 rfl rfl) ?_
  go_frame
  refine wq 9 (some 18) (.pointer (some ⟨g0, 0 + knx * 8, none⟩)) ⟨hM.below, hM.blk 3 rfl, hM.blk 2 rfl⟩ rfl (fun w hS => r_index 24 49 _ _ rfl g0 0 l.length k0 8 knx rfl rfl hknx (by omega) Tryz.underlying24 I_impl_Node) ?_
  refine wt 10 (some 19) (.pointer (some ⟨g0, 0 + knx * 8 + 3, none⟩)) ⟨hM.below, hM.blk 3 rfl, hM.blk 2 rfl⟩ ?_
  go_frame
  refine wa_three 2 11 16 (by kernel_rfl) ?_ ?_ ?_
  refine oc (some 11) (spec_l10Where h _) ?_
  rintro e W5 ⟨rfl, hb⟩
  replace hM := hM.call hb
  refine ⟨_, rfl, ⟨hM.below, hM.blk 3 rfl, hM.blk 2 rfl⟩, ?_⟩
  go_frame
  refine wa_three 4 11 16 (by kernel_rfl) ?_ ?_ ?_
  refine oc (some 13) (spec_l10Side h _) ?_
  rintro e W6 ⟨rfl, hb⟩
  replace hM := hM.call hb
  refine ⟨_, rfl, ⟨hM.below, hM.blk 3 rfl, hM.blk 2 rfl⟩, ?_⟩
  go_frame
  refine wa_two 11 16 (by kernel_rfl) ?_ ?_
  refine oq (some 20) (.int .i64 nxr) ⟨hM.below, hM.blk 3 rfl, hM.blk 2 rfl⟩ rfl (r_loadc (hM.blk 4 rfl) 2 _ rfl (0 + knx * 8 + 3) rfl Tryz.underlying2 rfl (node_cell (j := 3) hnnx rfl)) ?_
  go_frame
  refine wa_two 12 16 (by kernel_rfl) ?_ ?_
  replace hM := hM.pull 4 rfl
  refine oC (some 21) #[.agg #[.slice (some ⟨g0, 0, none⟩) l.length k0, .slice xa xn xk], .int .i64 (whereUp h), .int .i64 (sideUp h), .int .i64 nxr] (spec_l9Lift l (whereUp h) (sideUp h) nxr g0 k0 p0 _ _ _ _ _ _ hM q1 q2 q5 qwh) ?_
  rintro e W7 ⟨ga'1, ka'2, pa'3, rfl, ⟨qa'4, qb'5, qe'6⟩, hM2⟩
  clear hM; have hM := hM2; clear hM2
  refine ⟨_, rfl, wk ⟨hM.below, hM.blk 4 rfl, hM.blk 3 rfl⟩ fun hs => ?_⟩
  go_frame
  refine wt 13 (some 8) (.tuple #[.agg #[.slice (some ⟨ga'1, 0, none⟩) ((liftR l (whereUp h) (sideUp h) nxr).1.length) ka'2, .slice xa xn xk], .bool ((liftR l (whereUp h) (sideUp h) nxr).2)]) hs ?_
  refine wt 14 (some 22) (.agg #[.slice (some ⟨ga'1, 0, none⟩) ((liftR l (whereUp h) (sideUp h) nxr).1.length) ka'2, .slice xa xn xk]) hs ?_
  refine wt 15 (some 23) (.bool ((liftR l (whereUp h) (sideUp h) nxr).2)) hs ?_
  go_frame
  refine wn 16 ?_
  refine oa (some 6) hM [.slice none 0 0, .slice none 0 0] Z_impl_Shared ?_
  clear hM; intro g5 W8 hM
  refine ⟨⟨hM.below, hM.blk 5 rfl, hM.blk 4 rfl⟩, ?_⟩
  go_frame
  refine wn 17 ?_
  refine oS hM 0 rfl [.slice (some ⟨ga'1, 0, none⟩) ((liftR l (whereUp h) (sideUp h) nxr).1.length) ka'2, .slice xa xn xk] I_impl_Shared rfl ?_
  clear hM; intro W9 hM
  refine wk ⟨hM.below, hM.blk 5 rfl, hM.blk 4 rfl⟩ fun hs => ?_
  refine wt 18 (some 7) (.bool ((liftR l (whereUp h) (sideUp h) nxr).2)) hs ?_
  go_frame
  refine wa_doneJ (by kernel_rfl) ?_
  exact ⟨g5, ga'1, ka'2, pa'3, rfl, hM, ⟨qa'4, qb'5, qe'6⟩⟩
  refine oa (some 6) hM [.slice none 0 0, .slice none 0 0] Z_impl_Shared ?_
  clear hM; intro g5 W7 hM
  refine ⟨⟨hM.below, hM.blk 4 rfl, hM.blk 3 rfl⟩, ?_⟩
  go_frame
  refine wn 12 ?_
  replace hM := hM.pull 5 rfl
  refine oC (some 21) #[.agg #[.slice (some ⟨g0, 0, none⟩) l.length k0, .slice xa xn xk], .int .i64 (whereUp h), .int .i64 (sideUp h), .int .i64 nxr] (spec_l9Lift l (whereUp h) (sideUp h) nxr g0 k0 p0 _ _ _ _ _ _ hM q1 q2 q5 qwh) ?_
  rintro e W8 ⟨ga'1, ka'2, pa'3, rfl, ⟨qa'4, qb'5, qe'6⟩, hM2⟩
  clear hM; have hM := hM2; clear hM2
  refine ⟨_, rfl, wk ⟨hM.below, hM.blk 5 rfl, hM.blk 4 rfl⟩ fun hs => ?_⟩
  go_frame
  refine wt 13 (some 8) (.tuple #[.agg #[.slice (some ⟨ga'1, 0, none⟩) ((liftR l (whereUp h) (sideUp h) nxr).1.length) ka'2, .slice xa xn xk], .bool ((liftR l (whereUp h) (sideUp h) nxr).2)]) hs ?_
  refine wt 14 (some 22) (.agg #[.slice (some ⟨ga'1, 0, none⟩) ((liftR l (whereUp h) (sideUp h) nxr).1.length) ka'2, .slice xa xn xk]) hs ?_
  refine wt 15 (some 23) (.bool ((liftR l (whereUp h) (sideUp h) nxr).2)) hs ?_
  go_frame
  refine wn 17 ?_
  refine oS hM 1 rfl [.slice (some ⟨ga'1, 0, none⟩) ((liftR l (whereUp h) (sideUp h) nxr).1.length) ka'2, .slice xa xn xk] I_impl_Shared rfl ?_
  clear hM; intro W9 hM
  refine wk ⟨hM.below, hM.blk 5 rfl, hM.blk 4 rfl⟩ fun hs => ?_
  refine wt 18 (some 7) (.bool ((liftR l (whereUp h) (sideUp h) nxr).2)) hs ?_
  go_frame
  refine wa_doneJ (by kernel_rfl) ?_
  replace hM := hM.pull 0 rfl
  replace hM := hM.pull 1 rfl
  exact ⟨g5, ga'1, ka'2, pa'3, rfl, hM, ⟨qa'4, qb'5, qe'6⟩⟩
  refine oa (some 6) hM [.slice none 0 0, .slice none 0 0] Z_impl_Shared ?_
  clear hM; intro g5 W7 hM
  refine wk ⟨hM.below, hM.blk 4 rfl, hM.blk 3 rfl⟩ fun hs => ?_
  go_frame
  refine wn 11 ?_
  refine oq (some 20) (.int .i64 nxr) hs rfl (r_loadc (hM.blk 5 rfl) 2 _ rfl (0 + knx * 8 + 3) rfl Tryz.underlying2 rfl (node_cell (j := 3) hnnx rfl)) ?_
  go_frame
  refine wn 12 ?_
  replace hM := hM.pull 5 rfl
  refine oC (some 21) #[.agg #[.slice (some ⟨g0, 0, none⟩) l.length k0, .slice xa xn xk], .int .i64 (whereUp h), .int .i64 (sideUp h), .int .i64 nxr] (spec_l9Lift l (whereUp h) (sideUp h) nxr g0 k0 p0 _ _ _ _ _ _ hM q1 q2 q5 qwh) ?_
  rintro e W8 ⟨ga'1, ka'2, pa'3, rfl, ⟨qa'4, qb'5, qe'6⟩, hM2⟩
  clear hM; have hM := hM2; clear hM2
  refine ⟨_, rfl, wk ⟨hM.below, hM.blk 5 rfl, hM.blk 4 rfl⟩ fun hs => ?_⟩
  go_frame
  refine wt 13 (some 8) (.tuple #[.agg #[.slice (some ⟨ga'1, 0, none⟩) ((liftR l (whereUp h) (sideUp h) nxr).1.length) ka'2, .slice xa xn xk], .bool ((liftR l (whereUp h) (sideUp h) nxr).2)]) hs ?_
  refine wt 14 (some 22) (.agg #[.slice (some ⟨ga'1, 0, none⟩) ((liftR l (whereUp h) (sideUp h) nxr).1.length) ka'2, .slice xa xn xk]) hs ?_
  refine wt 15 (some 23) (.bool ((liftR l (whereUp h) (sideUp h) nxr).2)) hs ?_
  go_frame
  refine wn 17 ?_
  refine oS hM 1 rfl [.slice (some ⟨ga'1, 0, none⟩) ((liftR l (whereUp h) (sideUp h) nxr).1.length) ka'2, .slice xa xn xk] I_impl_Shared rfl ?_
  clear hM; intro W9 hM
  refine wk ⟨hM.below, hM.blk 5 rfl, hM.blk 4 rfl⟩ fun hs => ?_
  refine wt 18 (some 7) (.bool ((liftR l (whereUp h) (sideUp h) nxr).2)) hs ?_
  go_frame
  refine wa_doneJ (by kernel_rfl) ?_
  replace hM := hM.pull 0 rfl
  replace hM := hM.pull 1 rfl
  exact ⟨g5, ga'1, ka'2, pa'3, rfl, hM, ⟨qa'4, qb'5, qe'6⟩⟩
  refine oq (some 20) (.int .i64 nxr) ⟨hM.below, hM.blk 3 rfl, hM.blk 2 rfl⟩ rfl (r_loadc (hM.blk 4 rfl) 2 _ rfl (0 + knx * 8 + 3) rfl Tryz.underlying2 rfl (node_cell (j := 3) hnnx rfl)) ?_
  go_frame
  refine wa_two 4 16 (by kernel_rfl) ?_ ?_
  refine oc (some 13) (spec_l10Side h _) ?_
  rintro e W6 ⟨rfl, hb⟩
  replace hM := hM.call hb
  refine ⟨_, rfl, ⟨hM.below, hM.blk 3 rfl, hM.blk 2 rfl⟩, ?_⟩
  go_frame
  refine wa_two 12 16 (by kernel_rfl) ?_ ?_
  replace hM := hM.pull 4 rfl
  refine oC (some 21) #[.agg #[.slice (some ⟨g0, 0, none⟩) l.length k0, .slice xa xn xk], .int .i64 (whereUp h), .int .i64 (sideUp h), .int .i64 nxr] (spec_l9Lift l (whereUp h) (sideUp h) nxr g0 k0 p0 _ _ _ _ _ _ hM q1 q2 q5 qwh) ?_
  rintro e W7 ⟨ga'1, ka'2, pa'3, rfl, ⟨qa'4, qb'5, qe'6⟩, hM2⟩
  clear hM; have hM := hM2; clear hM2
  refine ⟨_, rfl, wk ⟨hM.below, hM.blk 4 rfl, hM.blk 3 rfl⟩ fun hs => ?_⟩
  go_frame
  refine wt 13 (some 8) (.tuple #[.agg #[.slice (some ⟨ga'1, 0, none⟩) ((liftR l (whereUp h) (sideUp h) nxr).1.length) ka'2, .slice xa xn xk], .bool ((liftR l (whereUp h) (sideUp h) nxr).2)]) hs ?_
  refine wt 14 (some 22) (.agg #[.slice (some ⟨ga'1, 0, none⟩) ((liftR l (whereUp h) (sideUp h) nxr).1.length) ka'2, .slice xa xn xk]) hs ?_
  refine wt 15 (some 23) (.bool ((liftR l (whereUp h) (sideUp h) nxr).2)) hs ?_
  go_frame
  refine wn 16 ?_
  refine oa (some 6) hM [.slice none 0 0, .slice none 0 0] Z_impl_Shared ?_
  clear hM; intro g5 W8 hM
  refine ⟨⟨hM.below, hM.blk 5 rfl, hM.blk 4 rfl⟩, ?_⟩
  go_frame
  refine wn 17 ?_
  refine oS hM 0 rfl [.slice (some ⟨ga'1, 0, none⟩) ((liftR l (whereUp h) (sideUp h) nxr).1.length) ka'2, .slice xa xn xk] I_impl_Shared rfl ?_
  clear hM; intro W9 hM
  refine wk ⟨hM.below, hM.blk 5 rfl, hM.blk 4 rfl⟩ fun hs => ?_
  refine wt 18 (some 7) (.bool ((liftR l (whereUp h) (sideUp h) nxr).2)) hs ?_
  go_frame
  refine wa_doneJ (by kernel_rfl) ?_
  exact ⟨g5, ga'1, ka'2, pa'3, rfl, hM, ⟨qa'4, qb'5, qe'6⟩⟩
  refine oa (some 6) hM [.slice none 0 0, .slice none 0 0] Z_impl_Shared ?_
  clear hM; intro g5 W7 hM
  refine ⟨⟨hM.below, hM.blk 4 rfl, hM.blk 3 rfl⟩, ?_⟩
  go_frame
  refine wn 12 ?_
  replace hM := hM.pull 5 rfl
  refine oC (some 21) #[.agg #[.slice (some ⟨g0, 0, none⟩) l.length k0, .slice xa xn xk], .int .i64 (whereUp h), .int .i64 (sideUp h), .int .i64 nxr] (spec_l9Lift l (whereUp h) (sideUp h) nxr g0 k0 p0 _ _ _ _ _ _ hM q1 q2 q5 qwh) ?_
  rintro e W8 ⟨ga'1, ka'2, pa'3, rfl, ⟨qa'4, qb'5, qe'6⟩, hM2⟩
  clear hM; have hM := hM2; clear hM2
  refine ⟨_, rfl, wk ⟨hM.below, hM.blk 5 rfl, hM.blk 4 rfl⟩ fun hs => ?_⟩
  go_frame
  refine wt 13 (some 8) (.tuple #[.agg #[.slice (some ⟨ga'1, 0, none⟩) ((liftR l (whereUp h) (sideUp h) nxr).1.length) ka'2, .slice xa xn xk], .bool ((liftR l (whereUp h) (sideUp h) nxr).2)]) hs ?_
  refine wt 14 (some 22) (.agg #[.slice (some ⟨ga'1, 0, none⟩) ((liftR l (whereUp h) (sideUp h) nxr).1.length) ka'2, .slice xa xn xk]) hs ?_
  refine wt 15 (some 23) (.bool ((liftR l (whereUp h) (sideUp h) nxr).2)) hs ?_
  go_frame
  refine wn 17 ?_
  refine oS hM 1 rfl [.slice (some ⟨ga'1, 0, none⟩) ((liftR l (whereUp h) (sideUp h) nxr).1.length) ka'2, .slice xa xn xk] I_impl_Shared rfl ?_
  clear hM; intro W9 hM
  refine wk ⟨hM.below, hM.blk 5 rfl, hM.blk 4 rfl⟩ fun hs => ?_
  refine wt 18 (some 7) (.bool ((liftR l (whereUp h) (sideUp h) nxr).2)) hs ?_
  go_frame
  refine wa_doneJ (by kernel_rfl) ?_
  replace hM := hM.pull 0 rfl
  replace hM := hM.pull 1 rfl
  exact ⟨g5, ga'1, ka'2, pa'3, rfl, hM, ⟨qa'4, qb'5, qe'6⟩⟩
  refine oa (some 6) hM [.slice none 0 0, .slice none 0 0] Z_impl_Shared ?_
  clear hM; intro g5 W6 hM
  refine ⟨⟨hM.below, hM.blk 4 rfl, hM.blk 3 rfl⟩, ?_⟩
  go_frame
  refine wn 4 ?_
  refine oc (some 13) (spec_l10Side h _) ?_
  rintro e W7 ⟨rfl, hb⟩
  replace hM := hM.call hb
  refine ⟨_, rfl, ⟨hM.below, hM.blk 4 rfl, hM.blk 3 rfl⟩, ?_⟩
  go_frame
  refine wn 12 ?_
  replace hM := hM.pull 5 rfl
  refine oC (some 21) #[.agg #[.slice (some ⟨g0, 0, none⟩) l.length k0, .slice xa xn xk], .int .i64 (whereUp h), .int .i64 (sideUp h), .int .i64 nxr] (spec_l9Lift l (whereUp h) (sideUp h) nxr g0 k0 p0 _ _ _ _ _ _ hM q1 q2 q5 qwh) ?_
  rintro e W8 ⟨ga'1, ka'2, pa'3, rfl, ⟨qa'4, qb'5, qe'6⟩, hM2⟩
  clear hM; have hM := hM2; clear hM2
  refine ⟨_, rfl, wk ⟨hM.below, hM.blk 5 rfl, hM.blk 4 rfl⟩ fun hs => ?_⟩
  go_frame
  refine wt 13 (some 8) (.tuple #[.agg #[.slice (some ⟨ga'1, 0, none⟩) ((liftR l (whereUp h) (sideUp h) nxr).1.length) ka'2, .slice xa xn xk], .bool ((liftR l (whereUp h) (sideUp h) nxr).2)]) hs ?_
  refine wt 14 (some 22) (.agg #[.slice (some ⟨ga'1, 0, none⟩) ((liftR l (whereUp h) (sideUp h) nxr).1.length) ka'2, .slice xa xn xk]) hs ?_
  refine wt 15 (some 23) (.bool ((liftR l (whereUp h) (sideUp h) nxr).2)) hs ?_
  go_frame
  refine wn 17 ?_
  refine oS hM 1 rfl [.slice (some ⟨ga'1, 0, none⟩) ((liftR l (whereUp h) (sideUp h) nxr).1.length) ka'2, .slice xa xn xk] I_impl_Shared rfl ?_
  clear hM; intro W9 hM
  refine wk ⟨hM.below, hM.blk 5 rfl, hM.blk 4 rfl⟩ fun hs => ?_
  refine wt 18 (some 7) (.bool ((liftR l (whereUp h) (sideUp h) nxr).2)) hs ?_
  go_frame
  refine wa_doneJ (by kernel_rfl) ?_
  replace hM := hM.pull 0 rfl
  replace hM := hM.pull 1 rfl
  exact ⟨g5, ga'1, ka'2, pa'3, rfl, hM, ⟨qa'4, qb'5, qe'6⟩⟩
  refine oa (some 6) hM [.slice none 0 0, .slice none 0 0] Z_impl_Shared ?_
  clear hM; intro g5 W6 hM
  refine ⟨⟨hM.below, hM.blk 4 rfl, hM.blk 3 rfl⟩, ?_⟩
  go_frame
  refine wa_two 4 11 (by kernel_rfl) ?_ ?_
  refine oc (some 13) (spec_l10Side h _) ?_
  rintro e W7 ⟨rfl, hb⟩
  replace hM := hM.call hb
  refine ⟨_, rfl, wk ⟨hM.below, hM.blk 4 rfl, hM.blk 3 rfl⟩ fun hs => ?_⟩
  go_frame
  refine wn 11 ?_
  refine oq (some 20) (.int .i64 nxr) hs rfl (r_loadc (hM.blk 5 rfl) 2 _ rfl (0 + knx * 8 + 3) rfl Tryz.underlying2 rfl (node_cell (j := 3) hnnx rfl)) ?_
  go_frame
  refine wn 12 ?_
  replace hM := hM.pull 5 rfl
  refine oC (some 21) #[.agg #[.slice (some ⟨g0, 0, none⟩) l.length k0, .slice xa xn xk], .int .i64 (whereUp h), .int .i64 (sideUp h), .int .i64 nxr] (spec_l9Lift l (whereUp h) (sideUp h) nxr g0 k0 p0 _ _ _ _ _ _ hM q1 q2 q5 qwh) ?_
  rintro e W8 ⟨ga'1, ka'2, pa'3, rfl, ⟨qa'4, qb'5, qe'6⟩, hM2⟩
  clear hM; have hM := hM2; clear hM2
  refine ⟨_, rfl, wk ⟨hM.below, hM.blk 5 rfl, hM.blk 4 rfl⟩ fun hs => ?_⟩
  go_frame
  refine wt 13 (some 8) (.tuple #[.agg #[.slice (some ⟨ga'1, 0, none⟩) ((liftR l (whereUp h) (sideUp h) nxr).1.length) ka'2, .slice xa xn xk], .bool ((liftR l (whereUp h) (sideUp h) nxr).2)]) hs ?_
  refine wt 14 (some 22) (.agg #[.slice (some ⟨ga'1, 0, none⟩) ((liftR l (whereUp h) (sideUp h) nxr).1.length) ka'2, .slice xa xn xk]) hs ?_
  refine wt 15 (some 23) (.bool ((liftR l (whereUp h) (sideUp h) nxr).2)) hs ?_
  go_frame
  refine wn 17 ?_
  refine oS hM 1 rfl [.slice (some ⟨ga'1, 0, none⟩) ((liftR l (whereUp h) (sideUp h) nxr).1.length) ka'2, .slice xa xn xk] I_impl_Shared rfl ?_
  clear hM; intro W9 hM
  refine wk ⟨hM.below, hM.blk 5 rfl, hM.blk 4 rfl⟩ fun hs => ?_
  refine wt 18 (some 7) (.bool ((liftR l (whereUp h) (sideUp h) nxr).2)) hs ?_
  go_frame
  refine wa_doneJ (by kernel_rfl) ?_
  replace hM := hM.pull 0 rfl
  replace hM := hM.pull 1 rfl
  exact ⟨g5, ga'1, ka'2, pa'3, rfl, hM, ⟨qa'4, qb'5, qe'6⟩⟩
  refine oq (some 20) (.int .i64 nxr) ⟨hM.below, hM.blk 4 rfl, hM.blk 3 rfl⟩ rfl (r_loadc (hM.blk 5 rfl) 2 _ rfl (0 + knx * 8 + 3) rfl Tryz.underlying2 rfl (node_cell (j := 3) hnnx rfl)) ?_
  go_frame
  refine wn 4 ?_
  refine oc (some 13) (spec_l10Side h _) ?_
  rintro e W7 ⟨rfl, hb⟩
  replace hM := hM.call hb
  refine ⟨_, rfl, ⟨hM.below, hM.blk 4 rfl, hM.blk 3 rfl⟩, ?_⟩
  go_frame
  refine wn 12 ?_
  replace hM := hM.pull 5 rfl
  refine oC (some 21) #[.agg #[.slice (some ⟨g0, 0, none⟩) l.length k0, .slice xa xn xk], .int .i64 (whereUp h), .int .i64 (sideUp h), .int .i64 nxr] (spec_l9Lift l (whereUp h) (sideUp h) nxr g0 k0 p0 _ _ _ _ _ _ hM q1 q2 q5 qwh) ?_
  rintro e W8 ⟨ga'1, ka'2, pa'3, rfl, ⟨qa'4, qb'5, qe'6⟩, hM2⟩
  clear hM; have hM := hM2; clear hM2
  refine ⟨_, rfl, wk ⟨hM.below, hM.blk 5 rfl, hM.blk 4 rfl⟩ fun hs => ?_⟩
  go_frame
  refine wt 13 (some 8) (.tuple #[.agg #[.slice (some ⟨ga'1, 0, none⟩) ((liftR l (whereUp h) (sideUp h) nxr).1.length) ka'2, .slice xa xn xk], .bool ((liftR l (whereUp h) (sideUp h) nxr).2)]) hs ?_
  refine wt 14 (some 22) (.agg #[.slice (some ⟨ga'1, 0, none⟩) ((liftR l (whereUp h) (sideUp h) nxr).1.length) ka'2, .slice xa xn xk]) hs ?_
  refine wt 15 (some 23) (.bool ((liftR l (whereUp h) (sideUp h) nxr).2)) hs ?_
  go_frame
  refine wn 17 ?_
  refine oS hM 1 rfl [.slice (some ⟨ga'1, 0, none⟩) ((liftR l (whereUp h) (sideUp h) nxr).1.length) ka'2, .slice xa xn xk] I_impl_Shared rfl ?_
  clear hM; intro W9 hM
  refine wk ⟨hM.below, hM.blk 5 rfl, hM.blk 4 rfl⟩ fun hs => ?_
  refine wt 18 (some 7) (.bool ((liftR l (whereUp h) (sideUp h) nxr).2)) hs ?_
  go_frame
  refine wa_doneJ (by kernel_rfl) ?_
  replace hM := hM.pull 0 rfl
  replace hM := hM.pull 1 rfl
  exact ⟨g5, ga'1, ka'2, pa'3, rfl, hM, ⟨qa'4, qb'5, qe'6⟩⟩
  refine oq (some 20) (.int .i64 nxr) ⟨hM.below, hM.blk 3 rfl, hM.blk 2 rfl⟩ rfl (r_loadc (hM.blk 4 rfl) 2 _ rfl (0 + knx * 8 + 3) rfl Tryz.underlying2 rfl (node_cell (j := 3) hnnx rfl)) ?_
  go_frame
  refine wa_two 2 16 (by kernel_rfl) ?_ ?_
  refine oc (some 11) (spec_l10Where h _) ?_
  rintro e W5 ⟨rfl, hb⟩
  replace hM := hM.call hb
  refine ⟨_, rfl, ⟨hM.below, hM.blk 3 rfl, hM.blk 2 rfl⟩, ?_⟩
  go_frame
  refine wa_two 4 16 (by kernel_rfl) ?_ ?_
  refine oc (some 13) (spec_l10Side h _) ?_
  rintro e W6 ⟨rfl, hb⟩
  replace hM := hM.call hb
  refine ⟨_, rfl, ⟨hM.below, hM.blk 3 rfl, hM.blk 2 rfl⟩, ?_⟩
  go_frame
  refine wa_two 12 16 (by kernel_rfl) ?_ ?_
  replace hM := hM.pull 4 rfl
  refine oC (some 21) #[.agg #[.slice (some ⟨g0, 0, none⟩) l.length k0, .slice xa xn xk], .int .i64 (whereUp h), .int .i64 (sideUp h), .int .i64 nxr] (spec_l9Lift l (whereUp h) (sideUp h) nxr g0 k0 p0 _ _ _ _ _ _ hM q1 q2 q5 qwh) ?_
  rintro e W7 ⟨ga'1, ka'2, pa'3, rfl, ⟨qa'4, qb'5, qe'6⟩, hM2⟩
  clear hM; have hM := hM2; clear hM2
  refine ⟨_, rfl, wk ⟨hM.below, hM.blk 4 rfl, hM.blk 3 rfl⟩ fun hs => ?_⟩
  go_frame
  refine wt 13 (some 8) (.tuple #[.agg #[.slice (some ⟨ga'1, 0, none⟩) ((liftR l (whereUp h) (sideUp h) nxr).1.length) ka'2, .slice xa xn xk], .bool ((liftR l (whereUp h) (sideUp h) nxr).2)]) hs ?_
  refine wt 14 (some 22) (.agg #[.slice (some ⟨ga'1, 0, none⟩) ((liftR l (whereUp h) (sideUp h) nxr).1.length) ka'2, .slice xa xn xk]) hs ?_
  refine wt 15 (some 23) (.bool ((liftR l (whereUp h) (sideUp h) nxr).2)) hs ?_
  go_frame
  refine wn 16 ?_
  refine oa (some 6) hM [.slice none 0 0, .slice none 0 0] Z_impl_Shared ?_
  clear hM; intro g5 W8 hM
  refine ⟨⟨hM.below, hM.blk 5 rfl, hM.blk 4 rfl⟩, ?_⟩
  go_frame
  refine wn 17 ?_
  refine oS hM 0 rfl [.slice (some ⟨ga'1, 0, none⟩) ((liftR l (whereUp h) (sideUp h) nxr).1.length) ka'2, .slice xa xn xk] I_impl_Shared rfl ?_
  clear hM; intro W9 hM
  refine wk ⟨hM.below, hM.blk 5 rfl, hM.blk 4 rfl⟩ fun hs => ?_
  refine wt 18 (some 7) (.bool ((liftR l (whereUp h) (sideUp h) nxr).2)) hs ?_
  go_frame
  refine wa_doneJ (by kernel_rfl) ?_
  exact ⟨g5, ga'1, ka'2, pa'3, rfl, hM, ⟨qa'4, qb'5, qe'6⟩⟩
  refine oa (some 6) hM [.slice none 0 0, .slice none 0 0] Z_impl_Shared ?_
  clear hM; intro g5 W7 hM
  refine ⟨⟨hM.below, hM.blk 4 rfl, hM.blk 3 rfl⟩, ?_⟩
  go_frame
  refine wn 12 ?_
  replace hM := hM.pull 5 rfl
  refine oC (some 21) #[.agg #[.slice (some ⟨g0, 0, none⟩) l.length k0, .slice xa xn xk], .int .i64 (whereUp h), .int .i64 (sideUp h), .int .i64 nxr] (spec_l9Lift l (whereUp h) (sideUp h) nxr g0 k0 p0 _ _ _ _ _ _ hM q1 q2 q5 qwh) ?_
  rintro e W8 ⟨ga'1, ka'2, pa'3, rfl, ⟨qa'4, qb'5, qe'6⟩, hM2⟩
  clear hM; have hM := hM2; clear hM2
  refine ⟨_, rfl, wk ⟨hM.below, hM.blk 5 rfl, hM.blk 4 rfl⟩ fun hs => ?_⟩
  go_frame
  refine wt 13 (some 8) (.tuple #[.agg #[.slice (some ⟨ga'1, 0, none⟩) ((liftR l (whereUp h) (sideUp h) nxr).1.length) ka'2, .slice xa xn xk], .bool ((liftR l (whereUp h) (sideUp h) nxr).2)]) hs ?_
  refine wt 14 (some 22) (.agg #[.slice (some ⟨ga'1, 0, none⟩) ((liftR l (whereUp h) (sideUp h) nxr).1.length) ka'2, .slice xa xn xk]) hs ?_
  refine wt 15 (some 23) (.bool ((liftR l (whereUp h) (sideUp h) nxr).2)) hs ?_
  go_frame
  refine wn 17 ?_
  refine oS hM 1 rfl [.slice (some ⟨ga'1, 0, none⟩) ((liftR l (whereUp h) (sideUp h) nxr).1.length) ka'2, .slice xa xn xk] I_impl_Shared rfl ?_
  clear hM; intro W9 hM
  refine wk ⟨hM.below, hM.blk 5 rfl, hM.blk 4 rfl⟩ fun hs => ?_
  refine wt 18 (some 7) (.bool ((liftR l (whereUp h) (sideUp h) nxr).2)) hs ?_
  go_frame
  refine wa_doneJ (by kernel_rfl) ?_
  replace hM := hM.pull 0 rfl
  replace hM := hM.pull 1 rfl
  exact ⟨g5, ga'1, ka'2, pa'3, rfl, hM, ⟨qa'4, qb'5, qe'6⟩⟩
  refine oa (some 6) hM [.slice none 0 0, .slice none 0 0] Z_impl_Shared ?_
  clear hM; intro g5 W6 hM
  refine ⟨⟨hM.below, hM.blk 4 rfl, hM.blk 3 rfl⟩, ?_⟩
  go_frame
  refine wn 4 ?_
  refine oc (some 13) (spec_l10Side h _) ?_
  rintro e W7 ⟨rfl, hb⟩
  replace hM := hM.call hb
  refine ⟨_, rfl, ⟨hM.below, hM.blk 4 rfl, hM.blk 3 rfl⟩, ?_⟩
  go_frame
  refine wn 12 ?_
  replace hM := hM.pull 5 rfl
  refine oC (some 21) #[.agg #[.slice (some ⟨g0, 0, none⟩) l.length k0, .slice xa xn xk], .int .i64 (whereUp h), .int .i64 (sideUp h), .int .i64 nxr] (spec_l9Lift l (whereUp h) (sideUp h) nxr g0 k0 p0 _ _ _ _ _ _ hM q1 q2 q5 qwh) ?_
  rintro e W8 ⟨ga'1, ka'2, pa'3, rfl, ⟨qa'4, qb'5, qe'6⟩, hM2⟩
  clear hM; have hM := hM2; clear hM2
  refine ⟨_, rfl, wk ⟨hM.below, hM.blk 5 rfl, hM.blk 4 rfl⟩ fun hs => ?_⟩
  go_frame
  refine wt 13 (some 8) (.tuple #[.agg #[.slice (some ⟨ga'1, 0, none⟩) ((liftR l (whereUp h) (sideUp h) nxr).1.length) ka'2, .slice xa xn xk], .bool ((liftR l (whereUp h) (sideUp h) nxr).2)]) hs ?_
  refine wt 14 (some 22) (.agg #[.slice (some ⟨ga'1, 0, none⟩) ((liftR l (whereUp h) (sideUp h) nxr).1.length) ka'2, .slice xa xn xk]) hs ?_
  refine wt 15 (some 23) (.bool ((liftR l (whereUp h) (sideUp h) nxr).2)) hs ?_
  go_frame
  refine wn 17 ?_
  refine oS hM 1 rfl [.slice (some ⟨ga'1, 0, none⟩) ((liftR l (whereUp h) (sideUp h) nxr).1.length) ka'2, .slice xa xn xk] I_impl_Shared rfl ?_
  clear hM; intro W9 hM
  refine wk ⟨hM.below, hM.blk 5 rfl, hM.blk 4 rfl⟩ fun hs => ?_
  refine wt 18 (some 7) (.bool ((liftR l (whereUp h) (sideUp h) nxr).2)) hs ?_
  go_frame
  refine wa_doneJ (by kernel_rfl) ?_
  replace hM := hM.pull 0 rfl
  replace hM := hM.pull 1 rfl
  exact ⟨g5, ga'1, ka'2, pa'3, rfl, hM, ⟨qa'4, qb'5, qe'6⟩⟩
  refine oa (some 6) hM [.slice none 0 0, .slice none 0 0] Z_impl_Shared ?_
  clear hM; intro g5 W5 hM
  refine ⟨⟨hM.below, hM.blk 4 rfl, hM.blk 3 rfl⟩, ?_⟩
  go_frame
  refine wn 2 ?_
  refine oc (some 11) (spec_l10Where h _) ?_
  rintro e W6 ⟨rfl, hb⟩
  replace hM := hM.call hb
  refine ⟨_, rfl, ⟨hM.below, hM.blk 4 rfl, hM.blk 3 rfl⟩, ?_⟩
  go_frame
  refine wn 4 ?_
  refine oc (some 13) (spec_l10Side h _) ?_
  rintro e W7 ⟨rfl, hb⟩
  replace hM := hM.call hb
  refine ⟨_, rfl, ⟨hM.below, hM.blk 4 rfl, hM.blk 3 rfl⟩, ?_⟩
  go_frame
  refine wn 12 ?_
  replace hM := hM.pull 5 rfl
  refine oC (some 21) #[.agg #[.slice (some ⟨g0, 0, none⟩) l.length k0, .slice xa xn xk], .int .i64 (whereUp h), .int .i64 (sideUp h), .int .i64 nxr] (spec_l9Lift l (whereUp h) (sideUp h) nxr g0 k0 p0 _ _ _ _ _ _ hM q1 q2 q5 qwh) ?_
  rintro e W8 ⟨ga'1, ka'2, pa'3, rfl, ⟨qa'4, qb'5, qe'6⟩, hM2⟩
  clear hM; have hM := hM2; clear hM2
  refine ⟨_, rfl, wk ⟨hM.below, hM.blk 5 rfl, hM.blk 4 rfl⟩ fun hs => ?_⟩
  go_frame
  refine wt 13 (some 8) (.tuple #[.agg #[.slice (some ⟨ga'1, 0, none⟩) ((liftR l (whereUp h) (sideUp h) nxr).1.length) ka'2, .slice xa xn xk], .bool ((liftR l (whereUp h) (sideUp h) nxr).2)]) hs ?_
  refine wt 14 (some 22) (.agg #[.slice (some ⟨ga'1, 0, none⟩) ((liftR l (whereUp h) (sideUp h) nxr).1.length) ka'2, .slice xa xn xk]) hs ?_
  refine wt 15 (some 23) (.bool ((liftR l (whereUp h) (sideUp h) nxr).2)) hs ?_
  go_frame
  refine wn 17 ?_
  refine oS hM 1 rfl [.slice (some ⟨ga'1, 0, none⟩) ((liftR l (whereUp h) (sideUp h) nxr).1.length) ka'2, .slice xa xn xk] I_impl_Shared rfl ?_
  clear hM; intro W9 hM
  refine wk ⟨hM.below, hM.blk 5 rfl, hM.blk 4 rfl⟩ fun hs => ?_
  refine wt 18 (some 7) (.bool ((liftR l (whereUp h) (sideUp h) nxr).2)) hs ?_
  go_frame
  refine wa_doneJ (by kernel_rfl) ?_
  replace hM := hM.pull 0 rfl
  replace hM := hM.pull 1 rfl
  exact ⟨g5, ga'1, ka'2, pa'3, rfl, hM, ⟨qa'4, qb'5, qe'6⟩⟩
  refine oa (some 6) hM [.slice none 0 0, .slice none 0 0] Z_impl_Shared ?_
  clear hM; intro g5 W5 hM
  refine ⟨⟨hM.below, hM.blk 4 rfl, hM.blk 3 rfl⟩, ?_⟩
  go_frame
  refine wa_two 2 11 (by kernel_rfl) ?_ ?_
  refine oc (some 11) (spec_l10Where h _) ?_
  rintro e W6 ⟨rfl, hb⟩
  replace hM := hM.call hb
  refine ⟨_, rfl, ⟨hM.below, hM.blk 4 rfl, hM.blk 3 rfl⟩, ?_⟩
  go_frame
  refine wa_two 4 11 (by kernel_rfl) ?_ ?_
  refine oc (some 13) (spec_l10Side h _) ?_
  rintro e W7 ⟨rfl, hb⟩
  replace hM := hM.call hb
  refine ⟨_, rfl, wk ⟨hM.below, hM.blk 4 rfl, hM.blk 3 rfl⟩ fun hs => ?_⟩
  go_frame
  refine wn 11 ?_
  refine oq (some 20) (.int .i64 nxr) hs rfl (r_loadc (hM.blk 5 rfl) 2 _ rfl (0 + knx * 8 + 3) rfl Tryz.underlying2 rfl (node_cell (j := 3) hnnx rfl)) ?_
  go_frame
  refine wn 12 ?_
  replace hM := hM.pull 5 rfl
  refine oC (some 21) #[.agg #[.slice (some ⟨g0, 0, none⟩) l.length k0, .slice xa xn xk], .int .i64 (whereUp h), .int .i64 (sideUp h), .int .i64 nxr] (spec_l9Lift l (whereUp h) (sideUp h) nxr g0 k0 p0 _ _ _ _ _ _ hM q1 q2 q5 qwh) ?_
  rintro e W8 ⟨ga'1, ka'2, pa'3, rfl, ⟨qa'4, qb'5, qe'6⟩, hM2⟩
  clear hM; have hM := hM2; clear hM2
  refine ⟨_, rfl, wk ⟨hM.below, hM.blk 5 rfl, hM.blk 4 rfl⟩ fun hs => ?_⟩
  go_frame
  refine wt 13 (some 8) (.tuple #[.agg #[.slice (some ⟨ga'1, 0, none⟩) ((liftR l (whereUp h) (sideUp h) nxr).1.length) ka'2, .slice xa xn xk], .bool ((liftR l (whereUp h) (sideUp h) nxr).2)]) hs ?_
  refine wt 14 (some 22) (.agg #[.slice (some ⟨ga'1, 0, none⟩) ((liftR l (whereUp h) (sideUp h) nxr).1.length) ka'2, .slice xa xn xk]) hs ?_
  refine wt 15 (some 23) (.bool ((liftR l (whereUp h) (sideUp h) nxr).2)) hs ?_
  go_frame
  refine wn 17 ?_
  refine oS hM 1 rfl [.slice (some ⟨ga'1, 0, none⟩) ((liftR l (whereUp h) (sideUp h) nxr).1.length) ka'2, .slice xa xn xk] I_impl_Shared rfl ?_
  clear hM; intro W9 hM
  refine wk ⟨hM.below, hM.blk 5 rfl, hM.blk 4 rfl⟩ fun hs => ?_
  refine wt 18 (some 7) (.bool ((liftR l (whereUp h) (sideUp h) nxr).2)) hs ?_
  go_frame
  refine wa_doneJ (by kernel_rfl) ?_
  replace hM := hM.pull 0 rfl
  replace hM := hM.pull 1 rfl
  exact ⟨g5, ga'1, ka'2, pa'3, rfl, hM, ⟨qa'4, qb'5, qe'6⟩⟩
  refine oq (some 20) (.int .i64 nxr) ⟨hM.below, hM.blk 4 rfl, hM.blk 3 rfl⟩ rfl (r_loadc (hM.blk 5 rfl) 2 _ rfl (0 + knx * 8 + 3) rfl Tryz.underlying2 rfl (node_cell (j := 3) hnnx rfl)) ?_
  go_frame
  refine wn 4 ?_
  refine oc (some 13) (spec_l10Side h _) ?_
  rintro e W7 ⟨rfl, hb⟩
  replace hM := hM.call hb
  refine ⟨_, rfl, ⟨hM.below, hM.blk 4 rfl, hM.blk 3 rfl⟩, ?_⟩
  go_frame
  refine wn 12 ?_
  replace hM := hM.pull 5 rfl
  refine oC (some 21) #[.agg #[.slice (some ⟨g0, 0, none⟩) l.length k0, .slice xa xn xk], .int .i64 (whereUp h), .int .i64 (sideUp h), .int .i64 nxr] (spec_l9Lift l (whereUp h) (sideUp h) nxr g0 k0 p0 _ _ _ _ _ _ hM q1 q2 q5 qwh) ?_
  rintro e W8 ⟨ga'1, ka'2, pa'3, rfl, ⟨qa'4, qb'5, qe'6⟩, hM2⟩
  clear hM; have hM := hM2; clear hM2
  refine ⟨_, rfl, wk ⟨hM.below, hM.blk 5 rfl, hM.blk 4 rfl⟩ fun hs => ?_⟩
  go_frame
  refine wt 13 (some 8) (.tuple #[.agg #[.slice (some ⟨ga'1, 0, none⟩) ((liftR l (whereUp h) (sideUp h) nxr).1.length) ka'2, .slice xa xn xk], .bool ((liftR l (whereUp h) (sideUp h) nxr).2)]) hs ?_
  refine wt 14 (some 22) (.agg #[.slice (some ⟨ga'1, 0, none⟩) ((liftR l (whereUp h) (sideUp h) nxr).1.length) ka'2, .slice xa xn xk]) hs ?_
  refine wt 15 (some 23) (.bool ((liftR l (whereUp h) (sideUp h) nxr).2)) hs ?_
  go_frame
  refine wn 17 ?_
  refine oS hM 1 rfl [.slice (some ⟨ga'1, 0, none⟩) ((liftR l (whereUp h) (sideUp h) nxr).1.length) ka'2, .slice xa xn xk] I_impl_Shared rfl ?_
  clear hM; intro W9 hM
  refine wk ⟨hM.below, hM.blk 5 rfl, hM.blk 4 rfl⟩ fun hs => ?_
  refine wt 18 (some 7) (.bool ((liftR l (whereUp h) (sideUp h) nxr).2)) hs ?_
  go_frame
  refine wa_doneJ (by kernel_rfl) ?_
  replace hM := hM.pull 0 rfl
  replace hM := hM.pull 1 rfl
  exact ⟨g5, ga'1, ka'2, pa'3, rfl, hM, ⟨qa'4, qb'5, qe'6⟩⟩
  refine oq (some 20) (.int .i64 nxr) ⟨hM.below, hM.blk 4 rfl, hM.blk 3 rfl⟩ rfl (r_loadc (hM.blk 5 rfl) 2 _ rfl (0 + knx * 8 + 3) rfl Tryz.underlying2 rfl (node_cell (j := 3) hnnx rfl)) ?_
  go_frame
  refine wn 2 ?_
  refine oc (some 11) (spec_l10Where h _) ?_
  rintro e W6 ⟨rfl, hb⟩
  replace hM := hM.call hb
  refine ⟨_, rfl, ⟨hM.below, hM.blk 4 rfl, hM.blk 3 rfl⟩, ?_⟩
  go_frame
  refine wn 4 ?_
  refine oc (some 13) (spec_l10Side h _) ?_
  rintro e W7 ⟨rfl, hb⟩
  replace hM := hM.call hb
  refine ⟨_, rfl, ⟨hM.below, hM.blk 4 rfl, hM.blk 3 rfl⟩, ?_⟩
  go_frame
  refine wn 12 ?_
  replace hM := hM.pull 5 rfl
  refine oC (some 21) #[.agg #[.slice (some ⟨g0, 0, none⟩) l.length k0, .slice xa xn xk], .int .i64 (whereUp h), .int .i64 (sideUp h), .int .i64 nxr] (spec_l9Lift l (whereUp h) (sideUp h) nxr g0 k0 p0 _ _ _ _ _ _ hM q1 q2 q5 qwh) ?_
  rintro e W8 ⟨ga'1, ka'2, pa'3, rfl, ⟨qa'4, qb'5, qe'6⟩, hM2⟩
  clear hM; have hM := hM2; clear hM2
  refine ⟨_, rfl, wk ⟨hM.below, hM.blk 5 rfl, hM.blk 4 rfl⟩ fun hs => ?_⟩
  go_frame
  refine wt 13 (some 8) (.tuple #[.agg #[.slice (some ⟨ga'1, 0, none⟩) ((liftR l (whereUp h) (sideUp h) nxr).1.length) ka'2, .slice xa xn xk], .bool ((liftR l (whereUp h) (sideUp h) nxr).2)]) hs ?_
  refine wt 14 (some 22) (.agg #[.slice (some ⟨ga'1, 0, none⟩) ((liftR l (whereUp h) (sideUp h) nxr).1.length) ka'2, .slice xa xn xk]) hs ?_
  refine wt 15 (some 23) (.bool ((liftR l (whereUp h) (sideUp h) nxr).2)) hs ?_
  go_frame
  refine wn 17 ?_
  refine oS hM 1 rfl [.slice (some ⟨ga'1, 0, none⟩) ((liftR l (whereUp h) (sideUp h) nxr).1.length) ka'2, .slice xa xn xk] I_impl_Shared rfl ?_
  clear hM; intro W9 hM
  refine wk ⟨hM.below, hM.blk 5 rfl, hM.blk 4 rfl⟩ fun hs => ?_
  refine wt 18 (some 7) (.bool ((liftR l (whereUp h) (sideUp h) nxr).2)) hs ?_
  go_frame
  refine wa_doneJ (by kernel_rfl) ?_
  replace hM := hM.pull 0 rfl
  replace hM := hM.pull 1 rfl
  exact ⟨g5, ga'1, ka'2, pa'3, rfl, hM, ⟨qa'4, qb'5, qe'6⟩⟩

theorem spec_l10Do (l : List ND) (task : Int) (h : HD) (g0 k0 : Nat) (p0 : List Value) (xa : Option Addr) (xn xk : Nat) (L : List Bk) (w00 w0 : World) (hM0 : Mem w00 w0 ((g0, 49, cellsOf l ++ p0) :: L)) (q1 : l.length ≤ k0) (q2 : k0 ≤ maxLen) (q5 : (cellsOf l ++ p0).length = k0 * 8) (hl30 : l.length ≤ 30) (ht : 0 ≤ task ∧ task ≤ 6) (qnp : hasB l h.prev = true) (qnc : hasB l h.cur = true) (qnu : hasB l h.up = true) (qnx : hasB l h.next = true) (qnw : hasB l h.new = true) :
    Calls Tryz.prog 111 #[.agg #[.slice (some ⟨g0, 0, none⟩) l.length k0, .slice xa xn xk], .int .i64 task, h.val] w0 (SaysM w00 L (fun s => .tuple #[.agg #[s, .slice xa xn xk], (doR l task h).2.val]) (doR l task h).1) := by
  unfold HD.val
  have qwh := where_has qnu qnw
  obtain ⟨knp, ⟨npk, npv, npl, npr, npo, npg, nplt, nprt⟩, hknp, npe, hlnp, hnnp⟩ := nd_at qnp
  have tnp : (h.prev).toNat = knp := by omega
  obtain ⟨knc, ⟨nck, ncv, ncl, ncr, nco, ncg, nclt, ncrt⟩, hknc, nce, hlnc, hnnc⟩ := nd_at qnc
  have tnc : (h.cur).toNat = knc := by omega
  obtain ⟨knx, ⟨nxk, nxv, nxl, nxr, nxo, nxg, nxlt, nxrt⟩, hknx, nxe, hlnx, hnnx⟩ := nd_at qnx
  have tnx : (h.next).toNat = knx := by omega
  obtain ⟨knw, ⟨nwk, nwv, nwl, nwr, nwo, nwg, nwlt, nwrt⟩, hknw, nwe, hlnw, hnnw⟩ := nd_at qwh
  have tnw : ((whereUp h)).toNat = knw := by omega
  have hM := hM0
  go_enter Tryz.func111, Tryz.ntmps111
  refine wp_seq_k fun _ cn1 => wl_region ?_
  refine nx hM 55 [.slice (some ⟨g0, 0, none⟩) l.length k0, .slice xa xn xk] ?_
  clear hM; intro g1 W1 hM
  refine nx hM 73 (HD.cells h) ?_
  clear hM; intro g2 W2 hM
  refine na hM [.slice none 0 0, .slice none 0 0] Z_impl_Shared ?_
  clear hM; intro g3 W3 hM
  refine na hM (HD.cells HD.zero) Z_impl_Hand ?_
  clear hM; intro g4 W4 hM
  go_frame
  refine wl_nil (cn1 _ _ ?_)
  clear cn1
  refine wp_seq_k fun Kn2 cn2 => ?_
  refine wp_seq_k fun _ cn3 => wl_region ?_
  refine np (.pointer (some ⟨g2, 0, none⟩)) ?_
  refine ng hM 2 rfl 0 Tryz.underlying2 rfl ?_
  go_frame
  refine wl_nil (cn3 _ _ ?_)
  clear cn3
  refine wp_block ?_
  refine wp_seq_k fun _ cn4 => wl_region ?_
  refine np (.bool (h.at_ == 14)) ?_
  refine np (.bool (h.at_ == 14)) ?_
  go_frame
  refine wl_nil (cn4 _ _ ?_)
  clear cn4
  rcases tf ((h.at_ == 14)) with hx1 | hx1
  rw [hx1]
  refine wp_cond_true rfl ?_
  refine wp_seq_k fun _ cn5 => wl_region ?_
  refine np (.pointer (some ⟨g2, 5, none⟩)) ?_
  refine ng hM 2 rfl 5 Tryz.underlying2 rfl ?_
  refine np (.pointer (some ⟨g2, 8, none⟩)) ?_
  refine nk hM 2 rfl 8 (.int .i64 h.cur) I_int64 (by simp [HD.cells, splice_len]) ?_
  clear hM; intro W5 hM
  refine wl_nil (cn5 _ _ ?_)
  clear cn5
  refine wp_seq_k fun _ cn6 => wl_region ?_
  refine np (.pointer (some ⟨g1, 0, none⟩)) ?_
  refine ng hM 3 rfl 0 Tryz.underlying24 rfl ?_
  refine np (.pointer (some ⟨g2, 5, none⟩)) ?_
  refine ng hM 2 rfl 5 Tryz.underlying2 rfl ?_
  go_frame
  refine wl_index (by kernel_rfl) 24 49 _ _ rfl g0 0 l.length k0 8 knc rfl rfl hknc (by omega) Tryz.underlying24 I_impl_Node ?_
  go_frame
  refine np (.pointer (some ⟨g0, 0 + knc * 8 + 3, none⟩)) ?_
  refine ng hM 4 rfl (0 + knc * 8 + 3) Tryz.underlying2 (node_cell (j := 3) hnnc rfl) ?_
  refine np (.pointer (some ⟨g2, 9, none⟩)) ?_
  refine nk hM 2 rfl 9 (.int .i64 ncr) I_int64 (by simp [HD.cells, splice_len]) ?_
  clear hM; intro W6 hM
  refine wl_nil (cn6 _ _ ?_)
  clear cn6
  refine wl_region ?_
  refine np (.pointer (some ⟨g2, 0, none⟩)) ?_
  refine nk hM 2 rfl 0 (.int .i64 15) I_int64 (by simp [HD.cells, splice_len]) ?_
  clear hM; intro W7 hM
  refine wl_nil (cn2 _ _ ?_)
  clear cn2
  refine wp_seq_k fun Kn7 cn7 => ?_
  refine wa_start (fun w => Below w00.heap.size w00 w ∧ Blk w g1 55 [.slice (some ⟨g0, 0, none⟩) l.length k0, .slice xa xn xk] ∧ Blk w g2 73 (HD.cells { h with up := h.cur, next := ncr, at_ := 15 })) 4 rfl (by kernel_rfl) ?_
  replace hM := hM.drew
  refine wq 0 (some 107) (.agg #[.slice (some ⟨g0, 0, none⟩) l.length k0, .slice xa xn xk]) ⟨hM.below, hM.blk 3 rfl, hM.blk 2 rfl⟩ rfl (fun w hS => r_load hS.2.1 55 _ rfl rfl Tryz.underlying55 I_impl_Shared) ?_
  go_frame
  refine wq 1 (some 108) (.agg (HD.cells { h with up := h.cur, next := ncr, at_ := 15 }).toArray) ⟨hM.below, hM.blk 3 rfl, hM.blk 2 rfl⟩ rfl (fun w hS => r_load hS.2.2 73 _ rfl rfl Tryz.underlying73 I_impl_Hand) ?_
  go_frame
  refine wn 2 ?_
  refine oS hM 1 rfl [.slice (some ⟨g0, 0, none⟩) l.length k0, .slice xa xn xk] I_impl_Shared rfl ?_
  clear hM; intro W8 hM
  refine ⟨⟨hM.below, hM.blk 3 rfl, hM.blk 2 rfl⟩, ?_⟩
  refine wn 3 ?_
  refine oS hM 0 rfl (HD.cells { h with up := h.cur, next := ncr, at_ := 15 }) I_impl_Hand (hd_one' _) ?_
  clear hM; intro W9 hM
  refine ⟨⟨hM.below, hM.blk 3 rfl, hM.blk 2 rfl⟩, ?_⟩
  refine wa_done (by kernel_rfl) ?_
  refine cn7 _ _ ?_
  clear cn7
  refine wp_ret ?_
  have hR : doR l task h = (l, { h with up := h.cur, next := ncr, at_ := 15 }) := by simp [doR, setK, withK, withT, goneN, hx1, npe, tnp, nce, tnc, nxe, tnx, nwe, tnw]
  rw [hR]
  have hN : (l : List ND).length = l.length := by first | rfl | simp
  refine bodyPost_ret (ret_cc (p := 6) (q := 7) rfl hM 1 0 rfl rfl rfl rfl Tryz.underlying55 Tryz.underlying73 I_impl_Shared I_impl_Hand) rfl ⟨g0, k0, p0, congrArg (fun q : Nat => Ending.returned ((fun s => .tuple #[.agg #[s, .slice xa xn xk], (((l, { h with up := h.cur, next := ncr, at_ := 15 }) : List ND × HD)).2.val]) (Value.slice (some ⟨g0, 0, none⟩) q k0))) hN.symm, ⟨by rw [hN]; exact q1, q2, q5⟩, ?_⟩
  exact (hM.pull 4 rfl).sub (fun i => if i = 0 then 0 else i + 4) (fun i x hx => by cases i with | zero => exact hx | succ i => simpa [Nat.add_assoc, Nat.add_comm] using hx) (fun i j _ _ e => by (try simp only at e); split at e <;> split at e <;> omega)
  rw [hx1]
  refine wp_cond_false rfl ?_
  refine wp_seq_k fun _ cn5 => wl_region ?_
  refine np (.bool (h.at_ == 15)) ?_
  refine np (.bool (h.at_ == 15)) ?_
  go_frame
  refine wl_nil (cn5 _ _ ?_)
  clear cn5
  rcases tf ((h.at_ == 15)) with hx2 | hx2
  rw [hx2]
  refine wp_cond_true rfl ?_
  refine wl_region ?_
  refine nl hM 3 rfl Tryz.underlying55 I_impl_Shared ?_
  refine nl hM 2 rfl Tryz.underlying73 I_impl_Hand ?_
  go_frame
  refine nC #[.agg #[.slice (some ⟨g0, 0, none⟩) l.length k0, .slice xa xn xk], .agg (HD.cells h).toArray] (spec_l10Left _ _ l h _ (nsl_blk (hM.blk 4 rfl) q1 q2) qnx) ?_
  rintro e W5 ⟨rfl, hb⟩
  refine ⟨_, rfl, ?_⟩
  replace hM := hM.call hb
  go_frame
  refine nS hM 2 rfl (HD.cells (leftUpH l h)) I_impl_Hand (hd_one' _) ?_
  clear hM; intro W6 hM
  refine wl_nil (cn2 _ _ ?_)
  clear cn2
  refine wp_seq_k fun Kn6 cn6 => ?_
  refine wa_start (fun w => Below w00.heap.size w00 w ∧ Blk w g1 55 [.slice (some ⟨g0, 0, none⟩) l.length k0, .slice xa xn xk] ∧ Blk w g2 73 (HD.cells (leftUpH l h))) 4 rfl (by kernel_rfl) ?_
  replace hM := hM.drew
  refine wq 0 (some 107) (.agg #[.slice (some ⟨g0, 0, none⟩) l.length k0, .slice xa xn xk]) ⟨hM.below, hM.blk 3 rfl, hM.blk 2 rfl⟩ rfl (fun w hS => r_load hS.2.1 55 _ rfl rfl Tryz.underlying55 I_impl_Shared) ?_
  go_frame
  refine wq 1 (some 108) (.agg (HD.cells (leftUpH l h)).toArray) ⟨hM.below, hM.blk 3 rfl, hM.blk 2 rfl⟩ rfl (fun w hS => r_load hS.2.2 73 _ rfl rfl Tryz.underlying73 I_impl_Hand) ?_
  go_frame
  refine wn 2 ?_
  refine oS hM 1 rfl [.slice (some ⟨g0, 0, none⟩) l.length k0, .slice xa xn xk] I_impl_Shared rfl ?_
  clear hM; intro W7 hM
  refine ⟨⟨hM.below, hM.blk 3 rfl, hM.blk 2 rfl⟩, ?_⟩
  refine wn 3 ?_
  refine oS hM 0 rfl (HD.cells (leftUpH l h)) I_impl_Hand (hd_one' _) ?_
  clear hM; intro W8 hM
  refine ⟨⟨hM.below, hM.blk 3 rfl, hM.blk 2 rfl⟩, ?_⟩
  refine wa_done (by kernel_rfl) ?_
  refine cn6 _ _ ?_
  clear cn6
  refine wp_ret ?_
  have hR : doR l task h = (l, (leftUpH l h)) := by simp [doR, setK, withK, withT, goneN, hx1, hx2, npe, tnp, nce, tnc, nxe, tnx, nwe, tnw]
  rw [hR]
  have hN : (l : List ND).length = l.length := by first | rfl | simp
  refine bodyPost_ret (ret_cc (p := 6) (q := 7) rfl hM 1 0 rfl rfl rfl rfl Tryz.underlying55 Tryz.underlying73 I_impl_Shared I_impl_Hand) rfl ⟨g0, k0, p0, congrArg (fun q : Nat => Ending.returned ((fun s => .tuple #[.agg #[s, .slice xa xn xk], (((l, (leftUpH l h)) : List ND × HD)).2.val]) (Value.slice (some ⟨g0, 0, none⟩) q k0))) hN.symm, ⟨by rw [hN]; exact q1, q2, q5⟩, ?_⟩
  exact (hM.pull 4 rfl).sub (fun i => if i = 0 then 0 else i + 4) (fun i x hx => by cases i with | zero => exact hx | succ i => simpa [Nat.add_assoc, Nat.add_comm] using hx) (fun i j _ _ e => by (try simp only at e); split at e <;> split at e <;> omega)
  rw [hx2]
  refine wp_cond_false rfl ?_
  refine wp_seq_k fun _ cn6 => wl_region ?_
  refine np (.bool (h.at_ == 18)) ?_
  refine np (.bool (h.at_ == 18)) ?_
  go_frame
  refine wl_nil (cn6 _ _ ?_)
  clear cn6
  rcases tf ((h.at_ == 18)) with hx3 | hx3
  rw [hx3]
  refine wp_cond_true rfl ?_
  refine wl_region ?_
  refine nl hM 3 rfl Tryz.underlying55 I_impl_Shared ?_
  refine nl hM 2 rfl Tryz.underlying73 I_impl_Hand ?_
  go_frame
  refine nC #[.agg #[.slice (some ⟨g0, 0, none⟩) l.length k0, .slice xa xn xk], .agg (HD.cells h).toArray] (spec_l10Check _ _ l h _ (nsl_blk (hM.blk 4 rfl) q1 q2) qnu qnx) ?_
  rintro e W5 ⟨rfl, hb⟩
  refine ⟨_, rfl, ?_⟩
  replace hM := hM.call hb
  go_frame
  refine nS hM 2 rfl (HD.cells (checkUpH l h)) I_impl_Hand (hd_one' _) ?_
  clear hM; intro W6 hM
  refine wl_nil (cn2 _ _ ?_)
  clear cn2
  refine wp_seq_k fun Kn7 cn7 => ?_
  refine wa_start (fun w => Below w00.heap.size w00 w ∧ Blk w g1 55 [.slice (some ⟨g0, 0, none⟩) l.length k0, .slice xa xn xk] ∧ Blk w g2 73 (HD.cells (checkUpH l h))) 4 rfl (by kernel_rfl) ?_
  replace hM := hM.drew
  refine wq 0 (some 107) (.agg #[.slice (some ⟨g0, 0, none⟩) l.length k0, .slice xa xn xk]) ⟨hM.below, hM.blk 3 rfl, hM.blk 2 rfl⟩ rfl (fun w hS => r_load hS.2.1 55 _ rfl rfl Tryz.underlying55 I_impl_Shared) ?_
  go_frame
  refine wq 1 (some 108) (.agg (HD.cells (checkUpH l h)).toArray) ⟨hM.below, hM.blk 3 rfl, hM.blk 2 rfl⟩ rfl (fun w hS => r_load hS.2.2 73 _ rfl rfl Tryz.underlying73 I_impl_Hand) ?_
  go_frame
  refine wn 2 ?_
  refine oS hM 1 rfl [.slice (some ⟨g0, 0, none⟩) l.length k0, .slice xa xn xk] I_impl_Shared rfl ?_
  clear hM; intro W7 hM
  refine ⟨⟨hM.below, hM.blk 3 rfl, hM.blk 2 rfl⟩, ?_⟩
  refine wn 3 ?_
  refine oS hM 0 rfl (HD.cells (checkUpH l h)) I_impl_Hand (hd_one' _) ?_
  clear hM; intro W8 hM
  refine ⟨⟨hM.below, hM.blk 3 rfl, hM.blk 2 rfl⟩, ?_⟩
  refine wa_done (by kernel_rfl) ?_
  refine cn7 _ _ ?_
  clear cn7
  refine wp_ret ?_
  have hR : doR l task h = (l, (checkUpH l h)) := by simp [doR, setK, withK, withT, goneN, hx1, hx2, hx3, npe, tnp, nce, tnc, nxe, tnx, nwe, tnw]
  rw [hR]
  have hN : (l : List ND).length = l.length := by first | rfl | simp
  refine bodyPost_ret (ret_cc (p := 6) (q := 7) rfl hM 1 0 rfl rfl rfl rfl Tryz.underlying55 Tryz.underlying73 I_impl_Shared I_impl_Hand) rfl ⟨g0, k0, p0, congrArg (fun q : Nat => Ending.returned ((fun s => .tuple #[.agg #[s, .slice xa xn xk], (((l, (checkUpH l h)) : List ND × HD)).2.val]) (Value.slice (some ⟨g0, 0, none⟩) q k0))) hN.symm, ⟨by rw [hN]; exact q1, q2, q5⟩, ?_⟩
  exact (hM.pull 4 rfl).sub (fun i => if i = 0 then 0 else i + 4) (fun i x hx => by cases i with | zero => exact hx | succ i => simpa [Nat.add_assoc, Nat.add_comm] using hx) (fun i j _ _ e => by (try simp only at e); split at e <;> split at e <;> omega)
  rw [hx3]
  refine wp_cond_false rfl ?_
  refine wp_seq_k fun _ cn7 => wl_region ?_
  refine np (.bool (h.at_ == 19)) ?_
  refine np (.bool (h.at_ == 19)) ?_
  go_frame
  refine wl_nil (cn7 _ _ ?_)
  clear cn7
  rcases tf ((h.at_ == 19)) with hx4 | hx4
  rw [hx4]
  refine wp_cond_true rfl ?_
  refine wp_seq_k fun _ cn8 => wl_region ?_
  refine nl hM 3 rfl Tryz.underlying55 I_impl_Shared ?_
  refine np (.int .i64 task) ?_
  refine nl hM 2 rfl Tryz.underlying73 I_impl_Hand ?_
  go_frame
  replace hM := hM.pull 4 rfl
  refine nC #[.agg #[.slice (some ⟨g0, 0, none⟩) l.length k0, .slice xa xn xk], .int .i64 task, .agg (HD.cells h).toArray] (spec_l10Copy l task h g0 k0 p0 _ _ _ _ _ _ hM q1 q2 q5 hl30 ht qnc qnx) ?_
  rintro e W5 ⟨ga'1, ka'2, pa'3, rfl, ⟨qa'4, qb'5, qe'6⟩, hM2⟩
  refine ⟨_, rfl, ?_⟩
  clear hM; have hM := hM2; clear hM2
  go_frame
  refine np (.agg #[.slice (some ⟨ga'1, 0, none⟩) ((moveR l task h).1.length) ka'2, .slice xa xn xk]) ?_
  refine np (.agg (HD.cells ((moveR l task h).2)).toArray) ?_
  refine nS hM 2 rfl [.slice (some ⟨ga'1, 0, none⟩) ((moveR l task h).1.length) ka'2, .slice xa xn xk] I_impl_Shared rfl ?_
  clear hM; intro W6 hM
  refine nS hM 1 rfl (HD.cells ((moveR l task h).2)) I_impl_Hand (hd_one' _) ?_
  clear hM; intro W7 hM
  refine wl_nil (cn8 _ _ ?_)
  clear cn8
  refine wp_ret ?_
  simp only [Exit.then, Exit.inBlock]
  have hR : doR l task h = ((moveR l task h).1, (moveR l task h).2) := by simp [doR, setK, withK, withT, goneN, hx1, hx2, hx3, hx4, npe, tnp, nce, tnc, nxe, tnx, nwe, tnw]
  rw [hR]
  have hN : ((moveR l task h).1 : List ND).length = (moveR l task h).1.length := by first | rfl | simp
  refine bodyPost_ret (ret_cc (p := 6) (q := 7) rfl hM 2 1 rfl rfl rfl rfl Tryz.underlying55 Tryz.underlying73 I_impl_Shared I_impl_Hand) rfl ⟨ga'1, ka'2, pa'3, congrArg (fun q : Nat => Ending.returned ((fun s => .tuple #[.agg #[s, .slice xa xn xk], ((((moveR l task h).1, (moveR l task h).2) : List ND × HD)).2.val]) (Value.slice (some ⟨ga'1, 0, none⟩) q ka'2))) hN.symm, ⟨by rw [hN]; exact qa'4, qb'5, qe'6⟩, ?_⟩
  exact (hM.pull 0 rfl).sub (fun i => if i = 0 then 0 else i + 4) (fun i x hx => by cases i with | zero => exact hx | succ i => simpa [Nat.add_assoc, Nat.add_comm] using hx) (fun i j _ _ e => by (try simp only at e); split at e <;> split at e <;> omega)
  rw [hx4]
  refine wp_cond_false rfl ?_
  refine wp_seq_k fun _ cn8 => wl_region ?_
  refine np (.bool (h.at_ == 20)) ?_
  refine np (.bool (h.at_ == 20)) ?_
  go_frame
  refine wl_nil (cn8 _ _ ?_)
  clear cn8
  rcases tf ((h.at_ == 20)) with hx5 | hx5
  rw [hx5]
  refine wp_cond_true rfl ?_
  refine wp_seq_k fun _ cn9 => wl_region ?_
  refine np (.pointer (some ⟨g1, 0, none⟩)) ?_
  refine ng hM 3 rfl 0 Tryz.underlying24 rfl ?_
  refine np (.pointer (some ⟨g2, 5, none⟩)) ?_
  refine ng hM 2 rfl 5 Tryz.underlying2 rfl ?_
  go_frame
  refine wl_index (by kernel_rfl) 24 49 _ _ rfl g0 0 l.length k0 8 knc rfl rfl hknc (by omega) Tryz.underlying24 I_impl_Node ?_
  go_frame
  refine np (.pointer (some ⟨g0, 0 + knc * 8 + 5, none⟩)) ?_
  refine nk hM 4 rfl (0 + knc * 8 + 5) (.bool true) I_bool (node_room1 hlnc (by decide)) ?_
  clear hM; intro W5 hM; rw [node_set (j := 5) (n' := ⟨nck, ncv, ncl, ncr, nco, true, nclt, ncrt⟩) hnnc (by decide) rfl] at hM
  refine wl_nil (cn9 _ _ ?_)
  clear cn9
  refine wl_region ?_
  refine np (.pointer (some ⟨g2, 0, none⟩)) ?_
  refine nk hM 2 rfl 0 (.int .i64 21) I_int64 (by simp [HD.cells, splice_len]) ?_
  clear hM; intro W6 hM
  refine wl_nil (cn2 _ _ ?_)
  clear cn2
  refine wp_seq_k fun Kn10 cn10 => ?_
  refine wa_start (fun w => Below w00.heap.size w00 w ∧ Blk w g1 55 [.slice (some ⟨g0, 0, none⟩) l.length k0, .slice xa xn xk] ∧ Blk w g2 73 (HD.cells { h with at_ := 21 })) 4 rfl (by kernel_rfl) ?_
  replace hM := hM.drew
  refine wq 0 (some 107) (.agg #[.slice (some ⟨g0, 0, none⟩) l.length k0, .slice xa xn xk]) ⟨hM.below, hM.blk 3 rfl, hM.blk 2 rfl⟩ rfl (fun w hS => r_load hS.2.1 55 _ rfl rfl Tryz.underlying55 I_impl_Shared) ?_
  go_frame
  refine wq 1 (some 108) (.agg (HD.cells { h with at_ := 21 }).toArray) ⟨hM.below, hM.blk 3 rfl, hM.blk 2 rfl⟩ rfl (fun w hS => r_load hS.2.2 73 _ rfl rfl Tryz.underlying73 I_impl_Hand) ?_
  go_frame
  refine wn 2 ?_
  refine oS hM 1 rfl [.slice (some ⟨g0, 0, none⟩) l.length k0, .slice xa xn xk] I_impl_Shared rfl ?_
  clear hM; intro W7 hM
  refine ⟨⟨hM.below, hM.blk 3 rfl, hM.blk 2 rfl⟩, ?_⟩
  refine wn 3 ?_
  refine oS hM 0 rfl (HD.cells { h with at_ := 21 }) I_impl_Hand (hd_one' _) ?_
  clear hM; intro W8 hM
  refine ⟨⟨hM.below, hM.blk 3 rfl, hM.blk 2 rfl⟩, ?_⟩
  refine wa_done (by kernel_rfl) ?_
  refine cn10 _ _ ?_
  clear cn10
  refine wp_ret ?_
  have hR : doR l task h = ((l.set knc ⟨nck, ncv, ncl, ncr, nco, true, nclt, ncrt⟩), { h with at_ := 21 }) := by simp [doR, setK, withK, withT, goneN, hx1, hx2, hx3, hx4, hx5, npe, tnp, nce, tnc, nxe, tnx, nwe, tnw]
  rw [hR]
  have hN : ((l.set knc ⟨nck, ncv, ncl, ncr, nco, true, nclt, ncrt⟩) : List ND).length = l.length := by first | rfl | simp
  refine bodyPost_ret (ret_cc (p := 6) (q := 7) rfl hM 1 0 rfl rfl rfl rfl Tryz.underlying55 Tryz.underlying73 I_impl_Shared I_impl_Hand) rfl ⟨g0, k0, p0, congrArg (fun q : Nat => Ending.returned ((fun s => .tuple #[.agg #[s, .slice xa xn xk], ((((l.set knc ⟨nck, ncv, ncl, ncr, nco, true, nclt, ncrt⟩), { h with at_ := 21 }) : List ND × HD)).2.val]) (Value.slice (some ⟨g0, 0, none⟩) q k0))) hN.symm, ⟨by rw [hN]; exact q1, q2, (by rw [node_keep]; exact q5)⟩, ?_⟩
  exact (hM.pull 4 rfl).sub (fun i => if i = 0 then 0 else i + 4) (fun i x hx => by cases i with | zero => exact hx | succ i => simpa [Nat.add_assoc, Nat.add_comm] using hx) (fun i j _ _ e => by (try simp only at e); split at e <;> split at e <;> omega)
  rw [hx5]
  refine wp_cond_false rfl ?_
  refine wp_seq_k fun _ cn9 => wl_region ?_
  refine np (.bool (h.at_ == 21)) ?_
  refine np (.bool (h.at_ == 21)) ?_
  go_frame
  refine wl_nil (cn9 _ _ ?_)
  clear cn9
  rcases tf ((h.at_ == 21)) with hx6 | hx6
  rw [hx6]
  refine wp_cond_true rfl ?_
  refine wp_seq_k fun Kn10 cn10 => ?_
  refine wa_start (fun w => Below w00.heap.size w00 w ∧ Blk w g1 55 [.slice (some ⟨g0, 0, none⟩) l.length k0, .slice xa xn xk] ∧ Blk w g2 73 (HD.cells h)) 17 rfl (by kernel_rfl) ?_
  replace hM := hM.drew
  refine wt 0 (some 54) (.pointer (some ⟨g1, 0, none⟩)) ⟨hM.below, hM.blk 3 rfl, hM.blk 2 rfl⟩ ?_
  go_frame
  refine wq 1 (some 55) (.slice (some ⟨g0, 0, none⟩) l.length k0) ⟨hM.below, hM.blk 3 rfl, hM.blk 2 rfl⟩ rfl (fun w hS => r_loadc hS.2.1 24 _ rfl 0 rfl Tryz.underlying24 rfl rfl) ?_
  refine wt 2 (some 56) (.pointer (some ⟨g2, 4, none⟩)) ⟨hM.below, hM.blk 3 rfl, hM.blk 2 rfl⟩ ?_
  go_frame
  refine wq 3 (some 57) (.int .i64 h.prev) ⟨hM.below, hM.blk 3 rfl, hM.blk 2 rfl⟩ rfl (fun w hS => r_loadc hS.2.2 2 _ rfl 4 rfl Tryz.underlying2 rfl rfl) ?_
  refine wt 4 (some 58) (.pointer (some ⟨g1, 0, none⟩)) ⟨hM.below, hM.blk 3 rfl, hM.blk 2 rfl⟩ ?_
  go_frame
  refine wq 5 (some 59) (.slice (some ⟨g0, 0, none⟩) l.length k0) ⟨hM.below, hM.blk 3 rfl, hM.blk 2 rfl⟩ rfl (fun w hS => r_loadc hS.2.1 24 _ rfl 0 rfl Tryz.underlying24 rfl rfl) ?_
  refine wt 6 (some 60) (.pointer (some ⟨g2, 4, none⟩)) ⟨hM.below, hM.blk 3 rfl, hM.blk 2 rfl⟩ ?_
  go_frame
  refine wq 7 (some 61) (.int .i64 h.prev) ⟨hM.below, hM.blk 3 rfl, hM.blk 2 rfl⟩ rfl (fun w hS => r_loadc hS.2.2 2 _ rfl 4 rfl Tryz.underlying2 rfl rfl) ?_
  go_frame
  refine wq 8 (some 62) (.pointer (some ⟨g0, 0 + knp * 8, none⟩)) ⟨hM.below, hM.blk 3 rfl, hM.blk 2 rfl⟩ rfl (fun w hS => r_index 24 49 _ _ rfl g0 0 l.length k0 8 knp rfl rfl hknp (by omega) Tryz.underlying24 I_impl_Node) ?_
  refine wt 10 (some 64) (.pointer (some ⟨g2, 6, none⟩)) ⟨hM.below, hM.blk 3 rfl, hM.blk 2 rfl⟩ ?_
  go_frame
  refine wq 11 (some 65) (.int .i64 h.side) ⟨hM.below, hM.blk 3 rfl, hM.blk 2 rfl⟩ rfl (fun w hS => r_loadc hS.2.2 2 _ rfl 6 rfl Tryz.underlying2 rfl rfl) ?_
  refine wt 12 (some 66) (.pointer (some ⟨g2, 10, none⟩)) ⟨hM.below, hM.blk 3 rfl, hM.blk 2 rfl⟩ ?_
  go_frame
  refine wq 13 (some 67) (.int .i64 h.new) ⟨hM.below, hM.blk 3 rfl, hM.blk 2 rfl⟩ rfl (fun w hS => r_loadc hS.2.2 2 _ rfl 10 rfl Tryz.underlying2 rfl rfl) ?_
  go_frame
  refine wn 9 ?_
  refine oq (some 63) (.agg (ND.cells ⟨npk, npv, npl, npr, npo, npg, nplt, nprt⟩).toArray) ⟨hM.below, hM.blk 3 rfl, hM.blk 2 rfl⟩ rfl (r_part (hM.blk 4 rfl) 49 _ rfl (0 + knp * 8) rfl Tryz.underlying49 (ND.cells ⟨npk, npv, npl, npr, npo, npg, nplt, nprt⟩) I_impl_Node (node_part hnnp)) ?_
  go_frame
  refine wn 14 ?_
  refine oc (some 68) (spec_WithKid npk npv npl npr npo npg nplt nprt h.side h.new _) ?_
  rintro e W5 ⟨rfl, hb⟩
  replace hM := hM.call hb
  refine ⟨_, rfl, wk ⟨hM.below, hM.blk 3 rfl, hM.blk 2 rfl⟩ fun hs => ?_⟩
  go_frame
  refine wq 15 (some 69) (.pointer (some ⟨g0, 0 + knp * 8, none⟩)) hs rfl (fun w hS => r_index 24 49 _ _ rfl g0 0 l.length k0 8 knp rfl rfl hknp (by omega) Tryz.underlying24 I_impl_Node) ?_
  go_frame
  refine wn 16 ?_
  refine wo_storep rfl (by kernel_rfl) hM 4 rfl 49 _ _ rfl rfl (0 + knp * 8) (by kernel_rfl) (ND.cells ⟨npk, npv, (leftF h.side h.new npl), (rightF h.side h.new npr), npo, npg, nplt, nprt⟩) (by kernel_rfl) I_impl_Node (node_room hlnp) (nd_one _) ?_
  clear hM; intro W6 hM; rw [splice_node hlnp] at hM
  refine ⟨⟨hM.below, hM.blk 3 rfl, hM.blk 2 rfl⟩, ?_⟩
  refine wa_done (by kernel_rfl) ?_
  refine cn10 _ _ ?_
  clear cn10
  refine wp_seq_k fun _ cn11 => wl_region ?_
  refine np (.pointer (some ⟨g2, 11, none⟩)) ?_
  refine nk hM 2 rfl 11 (.int .i64 0) I_int64 (by simp [HD.cells, splice_len]) ?_
  clear hM; intro W7 hM
  refine wl_nil (cn11 _ _ ?_)
  clear cn11
  refine wp_seq_k fun _ cn12 => wl_region ?_
  refine np (.pointer (some ⟨g2, 12, none⟩)) ?_
  refine nk hM 2 rfl 12 (.int .i64 (-1)) I_int64 (by simp [HD.cells, splice_len]) ?_
  clear hM; intro W8 hM
  refine wl_nil (cn12 _ _ ?_)
  clear cn12
  refine wl_region ?_
  refine np (.pointer (some ⟨g2, 0, none⟩)) ?_
  refine nk hM 2 rfl 0 (.int .i64 22) I_int64 (by simp [HD.cells, splice_len]) ?_
  clear hM; intro W9 hM
  refine wl_nil (cn2 _ _ ?_)
  clear cn2
  refine wp_seq_k fun Kn13 cn13 => ?_
  refine wa_start (fun w => Below w00.heap.size w00 w ∧ Blk w g1 55 [.slice (some ⟨g0, 0, none⟩) l.length k0, .slice xa xn xk] ∧ Blk w g2 73 (HD.cells { h with index := 0, seen := (-1), at_ := 22 })) 4 rfl (by kernel_rfl) ?_
  replace hM := hM.drew
  refine wq 0 (some 107) (.agg #[.slice (some ⟨g0, 0, none⟩) l.length k0, .slice xa xn xk]) ⟨hM.below, hM.blk 3 rfl, hM.blk 2 rfl⟩ rfl (fun w hS => r_load hS.2.1 55 _ rfl rfl Tryz.underlying55 I_impl_Shared) ?_
  go_frame
  refine wq 1 (some 108) (.agg (HD.cells { h with index := 0, seen := (-1), at_ := 22 }).toArray) ⟨hM.below, hM.blk 3 rfl, hM.blk 2 rfl⟩ rfl (fun w hS => r_load hS.2.2 73 _ rfl rfl Tryz.underlying73 I_impl_Hand) ?_
  go_frame
  refine wn 2 ?_
  refine oS hM 1 rfl [.slice (some ⟨g0, 0, none⟩) l.length k0, .slice xa xn xk] I_impl_Shared rfl ?_
  clear hM; intro W10 hM
  refine ⟨⟨hM.below, hM.blk 3 rfl, hM.blk 2 rfl⟩, ?_⟩
  refine wn 3 ?_
  refine oS hM 0 rfl (HD.cells { h with index := 0, seen := (-1), at_ := 22 }) I_impl_Hand (hd_one' _) ?_
  clear hM; intro W11 hM
  refine ⟨⟨hM.below, hM.blk 3 rfl, hM.blk 2 rfl⟩, ?_⟩
  refine wa_done (by kernel_rfl) ?_
  refine cn13 _ _ ?_
  clear cn13
  refine wp_ret ?_
  have hR : doR l task h = ((l.set knp ⟨npk, npv, (leftF h.side h.new npl), (rightF h.side h.new npr), npo, npg, nplt, nprt⟩), { h with index := 0, seen := (-1), at_ := 22 }) := by simp [doR, setK, withK, withT, goneN, hx1, hx2, hx3, hx4, hx5, hx6, npe, tnp, nce, tnc, nxe, tnx, nwe, tnw]
  rw [hR]
  have hN : ((l.set knp ⟨npk, npv, (leftF h.side h.new npl), (rightF h.side h.new npr), npo, npg, nplt, nprt⟩) : List ND).length = l.length := by first | rfl | simp
  refine bodyPost_ret (ret_cc (p := 6) (q := 7) rfl hM 1 0 rfl rfl rfl rfl Tryz.underlying55 Tryz.underlying73 I_impl_Shared I_impl_Hand) rfl ⟨g0, k0, p0, congrArg (fun q : Nat => Ending.returned ((fun s => .tuple #[.agg #[s, .slice xa xn xk], ((((l.set knp ⟨npk, npv, (leftF h.side h.new npl), (rightF h.side h.new npr), npo, npg, nplt, nprt⟩), { h with index := 0, seen := (-1), at_ := 22 }) : List ND × HD)).2.val]) (Value.slice (some ⟨g0, 0, none⟩) q k0))) hN.symm, ⟨by rw [hN]; exact q1, q2, (by rw [node_keep]; exact q5)⟩, ?_⟩
  exact (hM.pull 4 rfl).sub (fun i => if i = 0 then 0 else i + 4) (fun i x hx => by cases i with | zero => exact hx | succ i => simpa [Nat.add_assoc, Nat.add_comm] using hx) (fun i j _ _ e => by (try simp only at e); split at e <;> split at e <;> omega)
  rw [hx6]
  refine wp_cond_false rfl ?_
  refine wp_seq_k fun _ cn10 => wl_region ?_
  refine np (.bool (h.at_ == 23)) ?_
  refine np (.bool (h.at_ == 23)) ?_
  go_frame
  refine wl_nil (cn10 _ _ ?_)
  clear cn10
  rcases tf ((h.at_ == 23)) with hx7 | hx7
  rw [hx7]
  refine wp_cond_true rfl ?_
  refine wp_seq_k fun _ cn11 => wl_region ?_
  refine np (.pointer (some ⟨g1, 0, none⟩)) ?_
  refine ng hM 3 rfl 0 Tryz.underlying24 rfl ?_
  refine np (.pointer (some ⟨g2, 9, none⟩)) ?_
  refine ng hM 2 rfl 9 Tryz.underlying2 rfl ?_
  go_frame
  refine wl_index (by kernel_rfl) 24 49 _ _ rfl g0 0 l.length k0 8 knx rfl rfl hknx (by omega) Tryz.underlying24 I_impl_Node ?_
  go_frame
  refine np (.pointer (some ⟨g0, 0 + knx * 8 + 5, none⟩)) ?_
  refine nk hM 4 rfl (0 + knx * 8 + 5) (.bool true) I_bool (node_room1 hlnx (by decide)) ?_
  clear hM; intro W5 hM; rw [node_set (j := 5) (n' := ⟨nxk, nxv, nxl, nxr, nxo, true, nxlt, nxrt⟩) hnnx (by decide) rfl] at hM
  refine wl_nil (cn11 _ _ ?_)
  clear cn11
  refine wl_region ?_
  refine np (.pointer (some ⟨g2, 0, none⟩)) ?_
  refine nk hM 2 rfl 0 (.int .i64 24) I_int64 (by simp [HD.cells, splice_len]) ?_
  clear hM; intro W6 hM
  refine wl_nil (cn2 _ _ ?_)
  clear cn2
  refine wp_seq_k fun Kn12 cn12 => ?_
  refine wa_start (fun w => Below w00.heap.size w00 w ∧ Blk w g1 55 [.slice (some ⟨g0, 0, none⟩) l.length k0, .slice xa xn xk] ∧ Blk w g2 73 (HD.cells { h with at_ := 24 })) 4 rfl (by kernel_rfl) ?_
  replace hM := hM.drew
  refine wq 0 (some 107) (.agg #[.slice (some ⟨g0, 0, none⟩) l.length k0, .slice xa xn xk]) ⟨hM.below, hM.blk 3 rfl, hM.blk 2 rfl⟩ rfl (fun w hS => r_load hS.2.1 55 _ rfl rfl Tryz.underlying55 I_impl_Shared) ?_
  go_frame
  refine wq 1 (some 108) (.agg (HD.cells { h with at_ := 24 }).toArray) ⟨hM.below, hM.blk 3 rfl, hM.blk 2 rfl⟩ rfl (fun w hS => r_load hS.2.2 73 _ rfl rfl Tryz.underlying73 I_impl_Hand) ?_
  go_frame
  refine wn 2 ?_
  refine oS hM 1 rfl [.slice (some ⟨g0, 0, none⟩) l.length k0, .slice xa xn xk] I_impl_Shared rfl ?_
  clear hM; intro W7 hM
  refine ⟨⟨hM.below, hM.blk 3 rfl, hM.blk 2 rfl⟩, ?_⟩
  refine wn 3 ?_
  refine oS hM 0 rfl (HD.cells { h with at_ := 24 }) I_impl_Hand (hd_one' _) ?_
  clear hM; intro W8 hM
  refine ⟨⟨hM.below, hM.blk 3 rfl, hM.blk 2 rfl⟩, ?_⟩
  refine wa_done (by kernel_rfl) ?_
  refine cn12 _ _ ?_
  clear cn12
  refine wp_ret ?_
  have hR : doR l task h = ((l.set knx ⟨nxk, nxv, nxl, nxr, nxo, true, nxlt, nxrt⟩), { h with at_ := 24 }) := by simp [doR, setK, withK, withT, goneN, hx1, hx2, hx3, hx4, hx5, hx6, hx7, npe, tnp, nce, tnc, nxe, tnx, nwe, tnw]
  rw [hR]
  have hN : ((l.set knx ⟨nxk, nxv, nxl, nxr, nxo, true, nxlt, nxrt⟩) : List ND).length = l.length := by first | rfl | simp
  refine bodyPost_ret (ret_cc (p := 6) (q := 7) rfl hM 1 0 rfl rfl rfl rfl Tryz.underlying55 Tryz.underlying73 I_impl_Shared I_impl_Hand) rfl ⟨g0, k0, p0, congrArg (fun q : Nat => Ending.returned ((fun s => .tuple #[.agg #[s, .slice xa xn xk], ((((l.set knx ⟨nxk, nxv, nxl, nxr, nxo, true, nxlt, nxrt⟩), { h with at_ := 24 }) : List ND × HD)).2.val]) (Value.slice (some ⟨g0, 0, none⟩) q k0))) hN.symm, ⟨by rw [hN]; exact q1, q2, (by rw [node_keep]; exact q5)⟩, ?_⟩
  exact (hM.pull 4 rfl).sub (fun i => if i = 0 then 0 else i + 4) (fun i x hx => by cases i with | zero => exact hx | succ i => simpa [Nat.add_assoc, Nat.add_comm] using hx) (fun i j _ _ e => by (try simp only at e); split at e <;> split at e <;> omega)
  rw [hx7]
  refine wp_cond_false rfl ?_
  refine wp_seq_k fun _ cn11 => wl_region ?_
  refine np (.bool (h.at_ == 24)) ?_
  refine np (.bool (h.at_ == 24)) ?_
  go_frame
  refine wl_nil (cn11 _ _ ?_)
  clear cn11
  rcases tf ((h.at_ == 24)) with hx8 | hx8
  rw [hx8]
  refine wp_cond_true rfl ?_
  refine wp_seq_k fun _ cn12 => wl_region ?_
  refine nl hM 3 rfl Tryz.underlying55 I_impl_Shared ?_
  refine nl hM 2 rfl Tryz.underlying73 I_impl_Hand ?_
  go_frame
  replace hM := hM.pull 4 rfl
  refine nC #[.agg #[.slice (some ⟨g0, 0, none⟩) l.length k0, .slice xa xn xk], .agg (HD.cells h).toArray] (spec_l10Join l h g0 k0 p0 _ _ _ _ _ _ hM q1 q2 q5 qnx qwh) ?_
  rintro e W5 ⟨ga'1, ka'2, pa'3, rfl, ⟨qa'4, qb'5, qe'6⟩, hM2⟩
  refine ⟨_, rfl, ?_⟩
  clear hM; have hM := hM2; clear hM2
  go_frame
  refine np (.agg #[.slice (some ⟨ga'1, 0, none⟩) ((joinR l h).1.length) ka'2, .slice xa xn xk]) ?_
  refine np (.agg (HD.cells ((joinR l h).2)).toArray) ?_
  refine nS hM 2 rfl [.slice (some ⟨ga'1, 0, none⟩) ((joinR l h).1.length) ka'2, .slice xa xn xk] I_impl_Shared rfl ?_
  clear hM; intro W6 hM
  refine nS hM 1 rfl (HD.cells ((joinR l h).2)) I_impl_Hand (hd_one' _) ?_
  clear hM; intro W7 hM
  refine wl_nil (cn12 _ _ ?_)
  clear cn12
  refine wp_ret ?_
  simp only [Exit.then, Exit.inBlock]
  have hR : doR l task h = ((joinR l h).1, (joinR l h).2) := by simp [doR, setK, withK, withT, goneN, hx1, hx2, hx3, hx4, hx5, hx6, hx7, hx8, npe, tnp, nce, tnc, nxe, tnx, nwe, tnw]
  rw [hR]
  have hN : ((joinR l h).1 : List ND).length = (joinR l h).1.length := by first | rfl | simp
  refine bodyPost_ret (ret_cc (p := 6) (q := 7) rfl hM 2 1 rfl rfl rfl rfl Tryz.underlying55 Tryz.underlying73 I_impl_Shared I_impl_Hand) rfl ⟨ga'1, ka'2, pa'3, congrArg (fun q : Nat => Ending.returned ((fun s => .tuple #[.agg #[s, .slice xa xn xk], ((((joinR l h).1, (joinR l h).2) : List ND × HD)).2.val]) (Value.slice (some ⟨ga'1, 0, none⟩) q ka'2))) hN.symm, ⟨by rw [hN]; exact qa'4, qb'5, qe'6⟩, ?_⟩
  exact (hM.pull 0 rfl).sub (fun i => if i = 0 then 0 else i + 4) (fun i x hx => by cases i with | zero => exact hx | succ i => simpa [Nat.add_assoc, Nat.add_comm] using hx) (fun i j _ _ e => by (try simp only at e); split at e <;> split at e <;> omega)
  rw [hx8]
  refine wp_cond_false rfl ?_
  refine wp_seq_k fun _ cn12 => wl_region ?_
  refine np (.bool (h.at_ == 25)) ?_
  refine np (.bool (h.at_ == 25)) ?_
  go_frame
  refine wl_nil (cn12 _ _ ?_)
  clear cn12
  rcases tf ((h.at_ == 25)) with hx9 | hx9
  rw [hx9]
  refine wp_cond_true rfl ?_
  refine wp_seq_k fun _ cn13 => wl_region ?_
  refine nl hM 2 rfl Tryz.underlying73 I_impl_Hand ?_
  refine nc (spec_l10Where h _) ?_
  rintro e W5 ⟨rfl, hb⟩
  refine ⟨_, rfl, ?_⟩
  replace hM := hM.call hb
  go_frame
  refine np (.int .i64 (whereUp h)) ?_
  go_frame
  refine wl_nil (cn13 _ _ ?_)
  clear cn13
  refine wp_seq_k fun Kn14 cn14 => ?_
  refine wa_start (fun w => Below w00.heap.size w00 w ∧ Blk w g1 55 [.slice (some ⟨g0, 0, none⟩) l.length k0, .slice xa xn xk] ∧ Blk w g2 73 (HD.cells h)) 13 rfl (by kernel_rfl) ?_
  replace hM := hM.drew
  refine wt 0 (some 93) (.pointer (some ⟨g1, 0, none⟩)) ⟨hM.below, hM.blk 3 rfl, hM.blk 2 rfl⟩ ?_
  go_frame
  refine wq 1 (some 94) (.slice (some ⟨g0, 0, none⟩) l.length k0) ⟨hM.below, hM.blk 3 rfl, hM.blk 2 rfl⟩ rfl (fun w hS => r_loadc hS.2.1 24 _ rfl 0 rfl Tryz.underlying24 rfl rfl) ?_
  refine wt 2 (some 95) (.int .i64 (whereUp h)) ⟨hM.below, hM.blk 3 rfl, hM.blk 2 rfl⟩ ?_
  refine wt 3 (some 96) (.pointer (some ⟨g1, 0, none⟩)) ⟨hM.below, hM.blk 3 rfl, hM.blk 2 rfl⟩ ?_
  go_frame
  refine wq 4 (some 97) (.slice (some ⟨g0, 0, none⟩) l.length k0) ⟨hM.below, hM.blk 3 rfl, hM.blk 2 rfl⟩ rfl (fun w hS => r_loadc hS.2.1 24 _ rfl 0 rfl Tryz.underlying24 rfl rfl) ?_
  refine wt 5 (some 98) (.int .i64 (whereUp h)) ⟨hM.below, hM.blk 3 rfl, hM.blk 2 rfl⟩ ?_
  go_frame
  refine wq 6 (some 99) (.pointer (some ⟨g0, 0 + knw * 8, none⟩)) ⟨hM.below, hM.blk 3 rfl, hM.blk 2 rfl⟩ rfl (fun w hS => r_index 24 49 _ _ rfl g0 0 l.length k0 8 knw rfl rfl hknw (by omega) Tryz.underlying24 I_impl_Node) ?_
  go_frame
  refine wq 8 (some 101) (.agg (HD.cells h).toArray) ⟨hM.below, hM.blk 3 rfl, hM.blk 2 rfl⟩ rfl (fun w hS => r_load hS.2.2 73 _ rfl rfl Tryz.underlying73 I_impl_Hand) ?_
  go_frame
  refine wa_two 7 9 (by kernel_rfl) ?_ ?_
  refine oq (some 100) (.agg (ND.cells ⟨nwk, nwv, nwl, nwr, nwo, nwg, nwlt, nwrt⟩).toArray) ⟨hM.below, hM.blk 3 rfl, hM.blk 2 rfl⟩ rfl (r_part (hM.blk 4 rfl) 49 _ rfl (0 + knw * 8) rfl Tryz.underlying49 (ND.cells ⟨nwk, nwv, nwl, nwr, nwo, nwg, nwlt, nwrt⟩) I_impl_Node (node_part hnnw)) ?_
  go_frame
  refine wn 9 ?_
  refine oc (some 102) (spec_l10Side h _) ?_
  rintro e W6 ⟨rfl, hb⟩
  replace hM := hM.call hb
  refine ⟨_, rfl, ⟨hM.below, hM.blk 3 rfl, hM.blk 2 rfl⟩, ?_⟩
  go_frame
  refine wn 10 ?_
  refine oc (some 103) (spec_WithTag nwk nwv nwl nwr nwo nwg nwlt nwrt (sideUp h) _) ?_
  rintro e W7 ⟨rfl, hb⟩
  replace hM := hM.call hb
  refine ⟨_, rfl, wk ⟨hM.below, hM.blk 3 rfl, hM.blk 2 rfl⟩ fun hs => ?_⟩
  go_frame
  refine wq 11 (some 104) (.pointer (some ⟨g0, 0 + knw * 8, none⟩)) hs rfl (fun w hS => r_index 24 49 _ _ rfl g0 0 l.length k0 8 knw rfl rfl hknw (by omega) Tryz.underlying24 I_impl_Node) ?_
  go_frame
  refine wn 12 ?_
  refine wo_storep rfl (by kernel_rfl) hM 4 rfl 49 _ _ rfl rfl (0 + knw * 8) (by kernel_rfl) (ND.cells ⟨nwk, nwv, nwl, nwr, nwo, nwg, (leftF (sideUp h) (wrap64 (nwlt + 1)) nwlt), (rightF (sideUp h) (wrap64 (nwrt + 1)) nwrt)⟩) (by kernel_rfl) I_impl_Node (node_room hlnw) (nd_one _) ?_
  clear hM; intro W8 hM; rw [splice_node hlnw] at hM
  refine ⟨⟨hM.below, hM.blk 3 rfl, hM.blk 2 rfl⟩, ?_⟩
  refine wa_done (by kernel_rfl) ?_
  refine cn14 _ _ ?_
  clear cn14
  refine wl_region ?_
  refine nl hM 2 rfl Tryz.underlying73 I_impl_Hand ?_
  refine nc (spec_l8End h 1 _) ?_
  rintro e W9 ⟨rfl, hb⟩
  refine ⟨_, rfl, ?_⟩
  replace hM := hM.call hb
  go_frame
  refine nS hM 2 rfl (HD.cells (endH h 1)) I_impl_Hand (hd_one' _) ?_
  clear hM; intro W10 hM
  refine wl_nil (cn2 _ _ ?_)
  clear cn2
  refine wp_seq_k fun Kn15 cn15 => ?_
  refine wa_start (fun w => Below w00.heap.size w00 w ∧ Blk w g1 55 [.slice (some ⟨g0, 0, none⟩) l.length k0, .slice xa xn xk] ∧ Blk w g2 73 (HD.cells (endH h 1))) 4 rfl (by kernel_rfl) ?_
  replace hM := hM.drew
  refine wq 0 (some 107) (.agg #[.slice (some ⟨g0, 0, none⟩) l.length k0, .slice xa xn xk]) ⟨hM.below, hM.blk 3 rfl, hM.blk 2 rfl⟩ rfl (fun w hS => r_load hS.2.1 55 _ rfl rfl Tryz.underlying55 I_impl_Shared) ?_
  go_frame
  refine wq 1 (some 108) (.agg (HD.cells (endH h 1)).toArray) ⟨hM.below, hM.blk 3 rfl, hM.blk 2 rfl⟩ rfl (fun w hS => r_load hS.2.2 73 _ rfl rfl Tryz.underlying73 I_impl_Hand) ?_
  go_frame
  refine wn 2 ?_
  refine oS hM 1 rfl [.slice (some ⟨g0, 0, none⟩) l.length k0, .slice xa xn xk] I_impl_Shared rfl ?_
  clear hM; intro W11 hM
  refine ⟨⟨hM.below, hM.blk 3 rfl, hM.blk 2 rfl⟩, ?_⟩
  refine wn 3 ?_
  refine oS hM 0 rfl (HD.cells (endH h 1)) I_impl_Hand (hd_one' _) ?_
  clear hM; intro W12 hM
  refine ⟨⟨hM.below, hM.blk 3 rfl, hM.blk 2 rfl⟩, ?_⟩
  refine wa_done (by kernel_rfl) ?_
  refine cn15 _ _ ?_
  clear cn15
  refine wp_ret ?_
  have hR : doR l task h = ((l.set knw ⟨nwk, nwv, nwl, nwr, nwo, nwg, (leftF (sideUp h) (wrap64 (nwlt + 1)) nwlt), (rightF (sideUp h) (wrap64 (nwrt + 1)) nwrt)⟩), (endH h 1)) := by simp [doR, setK, withK, withT, goneN, hx1, hx2, hx3, hx4, hx5, hx6, hx7, hx8, hx9, npe, tnp, nce, tnc, nxe, tnx, nwe, tnw]
  rw [hR]
  have hN : ((l.set knw ⟨nwk, nwv, nwl, nwr, nwo, nwg, (leftF (sideUp h) (wrap64 (nwlt + 1)) nwlt), (rightF (sideUp h) (wrap64 (nwrt + 1)) nwrt)⟩) : List ND).length = l.length := by first | rfl | simp
  refine bodyPost_ret (ret_cc (p := 6) (q := 7) rfl hM 1 0 rfl rfl rfl rfl Tryz.underlying55 Tryz.underlying73 I_impl_Shared I_impl_Hand) rfl ⟨g0, k0, p0, congrArg (fun q : Nat => Ending.returned ((fun s => .tuple #[.agg #[s, .slice xa xn xk], ((((l.set knw ⟨nwk, nwv, nwl, nwr, nwo, nwg, (leftF (sideUp h) (wrap64 (nwlt + 1)) nwlt), (rightF (sideUp h) (wrap64 (nwrt + 1)) nwrt)⟩), (endH h 1)) : List ND × HD)).2.val]) (Value.slice (some ⟨g0, 0, none⟩) q k0))) hN.symm, ⟨by rw [hN]; exact q1, q2, (by rw [node_keep]; exact q5)⟩, ?_⟩
  exact (hM.pull 4 rfl).sub (fun i => if i = 0 then 0 else i + 4) (fun i x hx => by cases i with | zero => exact hx | succ i => simpa [Nat.add_assoc, Nat.add_comm] using hx) (fun i j _ _ e => by (try simp only at e); split at e <;> split at e <;> omega)
  refine oc (some 102) (spec_l10Side h _) ?_
  rintro e W6 ⟨rfl, hb⟩
  replace hM := hM.call hb
  refine ⟨_, rfl, wk ⟨hM.below, hM.blk 3 rfl, hM.blk 2 rfl⟩ fun hs => ?_⟩
  go_frame
  refine wn 7 ?_
  refine oq (some 100) (.agg (ND.cells ⟨nwk, nwv, nwl, nwr, nwo, nwg, nwlt, nwrt⟩).toArray) hs rfl (r_part (hM.blk 4 rfl) 49 _ rfl (0 + knw * 8) rfl Tryz.underlying49 (ND.cells ⟨nwk, nwv, nwl, nwr, nwo, nwg, nwlt, nwrt⟩) I_impl_Node (node_part hnnw)) ?_
  go_frame
  refine wn 10 ?_
  refine oc (some 103) (spec_WithTag nwk nwv nwl nwr nwo nwg nwlt nwrt (sideUp h) _) ?_
  rintro e W7 ⟨rfl, hb⟩
  replace hM := hM.call hb
  refine ⟨_, rfl, wk ⟨hM.below, hM.blk 3 rfl, hM.blk 2 rfl⟩ fun hs => ?_⟩
  go_frame
  refine wq 11 (some 104) (.pointer (some ⟨g0, 0 + knw * 8, none⟩)) hs rfl (fun w hS => r_index 24 49 _ _ rfl g0 0 l.length k0 8 knw rfl rfl hknw (by omega) Tryz.underlying24 I_impl_Node) ?_
  go_frame
  refine wn 12 ?_
  refine wo_storep rfl (by kernel_rfl) hM 4 rfl 49 _ _ rfl rfl (0 + knw * 8) (by kernel_rfl) (ND.cells ⟨nwk, nwv, nwl, nwr, nwo, nwg, (leftF (sideUp h) (wrap64 (nwlt + 1)) nwlt), (rightF (sideUp h) (wrap64 (nwrt + 1)) nwrt)⟩) (by kernel_rfl) I_impl_Node (node_room hlnw) (nd_one _) ?_
  clear hM; intro W8 hM; rw [splice_node hlnw] at hM
  refine ⟨⟨hM.below, hM.blk 3 rfl, hM.blk 2 rfl⟩, ?_⟩
  refine wa_done (by kernel_rfl) ?_
  refine cn14 _ _ ?_
  clear cn14
  refine wl_region ?_
  refine nl hM 2 rfl Tryz.underlying73 I_impl_Hand ?_
  refine nc (spec_l8End h 1 _) ?_
  rintro e W9 ⟨rfl, hb⟩
  refine ⟨_, rfl, ?_⟩
  replace hM := hM.call hb
  go_frame
  refine nS hM 2 rfl (HD.cells (endH h 1)) I_impl_Hand (hd_one' _) ?_
  clear hM; intro W10 hM
  refine wl_nil (cn2 _ _ ?_)
  clear cn2
  refine wp_seq_k fun Kn15 cn15 => ?_
  refine wa_start (fun w => Below w00.heap.size w00 w ∧ Blk w g1 55 [.slice (some ⟨g0, 0, none⟩) l.length k0, .slice xa xn xk] ∧ Blk w g2 73 (HD.cells (endH h 1))) 4 rfl (by kernel_rfl) ?_
  replace hM := hM.drew
  refine wq 0 (some 107) (.agg #[.slice (some ⟨g0, 0, none⟩) l.length k0, .slice xa xn xk]) ⟨hM.below, hM.blk 3 rfl, hM.blk 2 rfl⟩ rfl (fun w hS => r_load hS.2.1 55 _ rfl rfl Tryz.underlying55 I_impl_Shared) ?_
  go_frame
  refine wq 1 (some 108) (.agg (HD.cells (endH h 1)).toArray) ⟨hM.below, hM.blk 3 rfl, hM.blk 2 rfl⟩ rfl (fun w hS => r_load hS.2.2 73 _ rfl rfl Tryz.underlying73 I_impl_Hand) ?_
  go_frame
  refine wn 2 ?_
  refine oS hM 1 rfl [.slice (some ⟨g0, 0, none⟩) l.length k0, .slice xa xn xk] I_impl_Shared rfl ?_
  clear hM; intro W11 hM
  refine ⟨⟨hM.below, hM.blk 3 rfl, hM.blk 2 rfl⟩, ?_⟩
  refine wn 3 ?_
  refine oS hM 0 rfl (HD.cells (endH h 1)) I_impl_Hand (hd_one' _) ?_
  clear hM; intro W12 hM
  refine ⟨⟨hM.below, hM.blk 3 rfl, hM.blk 2 rfl⟩, ?_⟩
  refine wa_done (by kernel_rfl) ?_
  refine cn15 _ _ ?_
  clear cn15
  refine wp_ret ?_
  have hR : doR l task h = ((l.set knw ⟨nwk, nwv, nwl, nwr, nwo, nwg, (leftF (sideUp h) (wrap64 (nwlt + 1)) nwlt), (rightF (sideUp h) (wrap64 (nwrt + 1)) nwrt)⟩), (endH h 1)) := by simp [doR, setK, withK, withT, goneN, hx1, hx2, hx3, hx4, hx5, hx6, hx7, hx8, hx9, npe, tnp, nce, tnc, nxe, tnx, nwe, tnw]
  rw [hR]
  have hN : ((l.set knw ⟨nwk, nwv, nwl, nwr, nwo, nwg, (leftF (sideUp h) (wrap64 (nwlt + 1)) nwlt), (rightF (sideUp h) (wrap64 (nwrt + 1)) nwrt)⟩) : List ND).length = l.length := by first | rfl | simp
  refine bodyPost_ret (ret_cc (p := 6) (q := 7) rfl hM 1 0 rfl rfl rfl rfl Tryz.underlying55 Tryz.underlying73 I_impl_Shared I_impl_Hand) rfl ⟨g0, k0, p0, congrArg (fun q : Nat => Ending.returned ((fun s => .tuple #[.agg #[s, .slice xa xn xk], ((((l.set knw ⟨nwk, nwv, nwl, nwr, nwo, nwg, (leftF (sideUp h) (wrap64 (nwlt + 1)) nwlt), (rightF (sideUp h) (wrap64 (nwrt + 1)) nwrt)⟩), (endH h 1)) : List ND × HD)).2.val]) (Value.slice (some ⟨g0, 0, none⟩) q k0))) hN.symm, ⟨by rw [hN]; exact q1, q2, (by rw [node_keep]; exact q5)⟩, ?_⟩
  exact (hM.pull 4 rfl).sub (fun i => if i = 0 then 0 else i + 4) (fun i x hx => by cases i with | zero => exact hx | succ i => simpa [Nat.add_assoc, Nat.add_comm] using hx) (fun i j _ _ e => by (try simp only at e); split at e <;> split at e <;> omega)
  rw [hx9]
  refine wp_cond_false rfl ?_
  refine wp_skip ?_
  refine cn2 _ _ ?_
  clear cn2
  refine wp_seq_k fun Kn13 cn13 => ?_
  refine wa_start (fun w => Below w00.heap.size w00 w ∧ Blk w g1 55 [.slice (some ⟨g0, 0, none⟩) l.length k0, .slice xa xn xk] ∧ Blk w g2 73 (HD.cells h)) 4 rfl (by kernel_rfl) ?_
  replace hM := hM.drew
  refine wq 0 (some 107) (.agg #[.slice (some ⟨g0, 0, none⟩) l.length k0, .slice xa xn xk]) ⟨hM.below, hM.blk 3 rfl, hM.blk 2 rfl⟩ rfl (fun w hS => r_load hS.2.1 55 _ rfl rfl Tryz.underlying55 I_impl_Shared) ?_
  go_frame
  refine wq 1 (some 108) (.agg (HD.cells h).toArray) ⟨hM.below, hM.blk 3 rfl, hM.blk 2 rfl⟩ rfl (fun w hS => r_load hS.2.2 73 _ rfl rfl Tryz.underlying73 I_impl_Hand) ?_
  go_frame
  refine wn 2 ?_
  refine oS hM 1 rfl [.slice (some ⟨g0, 0, none⟩) l.length k0, .slice xa xn xk] I_impl_Shared rfl ?_
  clear hM; intro W5 hM
  refine ⟨⟨hM.below, hM.blk 3 rfl, hM.blk 2 rfl⟩, ?_⟩
  refine wn 3 ?_
  refine oS hM 0 rfl (HD.cells h) I_impl_Hand (hd_one' _) ?_
  clear hM; intro W6 hM
  refine ⟨⟨hM.below, hM.blk 3 rfl, hM.blk 2 rfl⟩, ?_⟩
  refine wa_done (by kernel_rfl) ?_
  refine cn13 _ _ ?_
  clear cn13
  refine wp_ret ?_
  have hR : doR l task h = (l, h) := by simp [doR, setK, withK, withT, goneN, hx1, hx2, hx3, hx4, hx5, hx6, hx7, hx8, hx9, npe, tnp, nce, tnc, nxe, tnx, nwe, tnw]
  rw [hR]
  have hN : (l : List ND).length = l.length := by first | rfl | simp
  refine bodyPost_ret (ret_cc (p := 6) (q := 7) rfl hM 1 0 rfl rfl rfl rfl Tryz.underlying55 Tryz.underlying73 I_impl_Shared I_impl_Hand) rfl ⟨g0, k0, p0, congrArg (fun q : Nat => Ending.returned ((fun s => .tuple #[.agg #[s, .slice xa xn xk], (((l, h) : List ND × HD)).2.val]) (Value.slice (some ⟨g0, 0, none⟩) q k0))) hN.symm, ⟨by rw [hN]; exact q1, q2, q5⟩, ?_⟩
  exact (hM.pull 4 rfl).sub (fun i => if i = 0 then 0 else i + 4) (fun i x hx => by cases i with | zero => exact hx | succ i => simpa [Nat.add_assoc, Nat.add_comm] using hx) (fun i j _ _ e => by (try simp only at e); split at e <;> split at e <;> omega)
end Go.Proofs.YtbfndoajchibbaaGreat
