/- What is written into memory of the caller's own: the model. -/
import Derived.Test.YthllpgjggmdmmaaStep11
import Derived.Test.YthllpgjggmdmmaaMem6
namespace Go.Proofs.Ythllpgjggmdmmaa
open Go.ChangeShapes Go.WideShapes Go.ChangeAt Go.RowKit
set_option linter.unusedVariables false
set_option linter.unusedSimpArgs false

/-- A list of nodes in a block of one's own, behind a call that has written it; L: what else there was. -/
def SaysM (w00 : World) (L : List Bk) (f : Value → Value) (l : List ND) (e : Ending) (w' : World) : Prop :=
  ∃ (g k : Nat) (p : List Value), e = .returned (f (.slice (some ⟨g, 0, none⟩) l.length k)) ∧ (l.length ≤ k ∧ k ≤ maxLen ∧ (cellsOf l ++ p).length = k * 8) ∧ Mem w00 w' ((g, 52, cellsOf l ++ p) :: L)
def withK (n : ND) (s kid : Int) : ND := ⟨n.k, n.v, leftF s kid n.l, rightF s kid n.r, n.o, n.g, n.lt, n.rt⟩
def withT (n : ND) (s : Int) : ND := ⟨n.k, n.v, n.l, n.r, n.o, n.g, leftF s (wrap64 (n.lt + 1)) n.lt, rightF s (wrap64 (n.rt + 1)) n.rt⟩
def goneN (n : ND) : ND := ⟨n.k, n.v, n.l, n.r, n.o, true, n.lt, n.rt⟩
def setK (l : List ND) (i : Int) (f : ND → ND) : List ND := l.set i.toNat (f (nd l i))
def liftR (l : List ND) (at' s kid : Int) : List ND × Bool := (setK l at' fun n => withK n s kid, kid == 0)
set_option maxRecDepth 100000 in
set_option maxHeartbeats 4000000 in
theorem spec_l9Lift (l : List ND) (at' sd kid : Int) (g0 k0 : Nat) (p0 : List Value) (xa : Option Addr) (xn xk : Nat) (L : List Bk) (w00 w0 : World) (hM0 : Mem w00 w0 ((g0, 52, cellsOf l ++ p0) :: L)) (q1 : l.length ≤ k0) (q2 : k0 ≤ maxLen) (q5 : (cellsOf l ++ p0).length = k0 * 8) (qa0 : hasB l at' = true) :
    Calls Try.prog 19 #[.agg #[.slice (some ⟨g0, 0, none⟩) l.length k0, .slice xa xn xk], .int .i64 at', .int .i64 sd, .int .i64 kid] w0 (SaysM w00 L (fun s => .tuple #[.agg #[s, .slice xa xn xk], .bool (liftR l at' sd kid).2]) (liftR l at' sd kid).1) := by
  obtain ⟨kna, ⟨nak, nav, nal, nar, nao, nag, nalt, nart⟩, hkna, nae, hlna, hnna⟩ := nd_at qa0
  have tna : (at').toNat = kna := by omega
  have hM := hM0
  go_enter Try.func19, Try.ntmps19
  refine wp_seq_k fun Kn1 cn1 => ?_
  refine wl_region ?_
  refine wl_box (by kernel_rfl) hM 33 _ rfl [.slice (some ⟨g0, 0, none⟩) l.length k0, .slice xa xn xk] rfl ?_
  clear hM; intro g1 W1 hM
  go_frame
  refine wl_alloc (by kernel_rfl) hM 33 rfl [.slice none 0 0, .slice none 0 0] Z_impl_Shared ?_
  clear hM; intro g2 W2 hM
  go_frame
  refine wl_pure (by kernel_rfl) (.bool false) (by kernel_rfl) ?_
  go_frame
  refine wl_nil ?_
  refine cn1 _ _ ?_
  clear cn1
  refine wp_seq_k fun Kn2 cn2 => ?_
  -- region 1, drawn: one after the other
  refine wa_start (fun w => Below w00.heap.size w00 w ∧ Blk w g1 33 [.slice (some ⟨g0, 0, none⟩) l.length k0, .slice xa xn xk]) 13 rfl (by kernel_rfl) ?_
  replace hM := hM.drew
  refine wa_take 0 (some 10) (.pointer (some ⟨g1, 0, none⟩)) rfl rfl (by kernel_rfl) (by kernel_rfl) (by kernel_rfl) (fun _ _ _ h => h) (by kernel_rfl) (fun w hS => by kernel_rfl) ⟨hM.below, hM.blk 1 rfl⟩ ?_
  go_frame
  refine wa_take 1 (some 11) (.slice (some ⟨g0, 0, none⟩) l.length k0) rfl rfl (by kernel_rfl) (by kernel_rfl) (by kernel_rfl) (fun _ _ _ h => h) (by kernel_rfl) (fun w hS => r_loadc hS.2 31 _ rfl 0 rfl Try.underlying31 rfl rfl) ⟨hM.below, hM.blk 1 rfl⟩ ?_
  go_frame
  refine wa_take 2 (some 12) (.int .i64 at') rfl rfl (by kernel_rfl) (by kernel_rfl) (by kernel_rfl) (fun _ _ _ h => h) (by kernel_rfl) (fun w hS => by kernel_rfl) ⟨hM.below, hM.blk 1 rfl⟩ ?_
  go_frame
  refine wa_take 3 (some 13) (.pointer (some ⟨g1, 0, none⟩)) rfl rfl (by kernel_rfl) (by kernel_rfl) (by kernel_rfl) (fun _ _ _ h => h) (by kernel_rfl) (fun w hS => by kernel_rfl) ⟨hM.below, hM.blk 1 rfl⟩ ?_
  go_frame
  refine wa_take 4 (some 14) (.slice (some ⟨g0, 0, none⟩) l.length k0) rfl rfl (by kernel_rfl) (by kernel_rfl) (by kernel_rfl) (fun _ _ _ h => h) (by kernel_rfl) (fun w hS => r_loadc hS.2 31 _ rfl 0 rfl Try.underlying31 rfl rfl) ⟨hM.below, hM.blk 1 rfl⟩ ?_
  go_frame
  refine wa_take 5 (some 15) (.int .i64 at') rfl rfl (by kernel_rfl) (by kernel_rfl) (by kernel_rfl) (fun _ _ _ h => h) (by kernel_rfl) (fun w hS => by kernel_rfl) ⟨hM.below, hM.blk 1 rfl⟩ ?_
  go_frame
  refine wa_take 6 (some 16) (.pointer (some ⟨g0, 0 + kna * 8, none⟩)) rfl rfl (by kernel_rfl) (by kernel_rfl) (by kernel_rfl) (fun _ _ _ h => h) (by kernel_rfl) (fun w hS => r_index 31 52 _ _ rfl g0 0 l.length k0 8 kna rfl rfl hkna (by omega) Try.underlying31 I_impl_Node) ⟨hM.below, hM.blk 1 rfl⟩ ?_
  go_frame
  refine wa_take 8 (some 18) (.int .i64 sd) rfl rfl (by kernel_rfl) (by kernel_rfl) (by kernel_rfl) (fun _ _ _ h => h) (by kernel_rfl) (fun w hS => by kernel_rfl) ⟨hM.below, hM.blk 1 rfl⟩ ?_
  go_frame
  refine wa_take 9 (some 19) (.int .i64 kid) rfl rfl (by kernel_rfl) (by kernel_rfl) (by kernel_rfl) (fun _ _ _ h => h) (by kernel_rfl) (fun w hS => by kernel_rfl) ⟨hM.below, hM.blk 1 rfl⟩ ?_
  go_frame
  refine wa_one 7 (by kernel_rfl) ?_
  refine wo_pure (some 17) rfl rfl (by kernel_rfl) (.agg (ND.cells ⟨nak, nav, nal, nar, nao, nag, nalt, nart⟩).toArray) (r_part (hM.blk 2 rfl) 52 _ rfl (0 + kna * 8) rfl Try.underlying52 (ND.cells ⟨nak, nav, nal, nar, nao, nag, nalt, nart⟩) I_impl_Node (node_part hnna)) ⟨hM.below, hM.blk 1 rfl⟩ ?_
  go_frame
  refine wa_one 10 (by kernel_rfl) ?_
  refine wo_call (some 20) rfl rfl (by kernel_rfl) 46 #[.agg (ND.cells ⟨nak, nav, nal, nar, nao, nag, nalt, nart⟩).toArray, .int .i64 sd, .int .i64 kid] (by kernel_rfl) (spec_WithKid nak nav nal nar nao nag nalt nart sd kid _) ?_
  rintro e W3 ⟨rfl, hb⟩
  replace hM := hM.call hb
  refine ⟨_, rfl, ⟨hM.below, hM.blk 1 rfl⟩, ?_⟩
  go_frame
  refine wa_take 11 (some 21) (.pointer (some ⟨g0, 0 + kna * 8, none⟩)) rfl rfl (by kernel_rfl) (by kernel_rfl) (by kernel_rfl) (fun _ _ _ h => h) (by kernel_rfl) (fun w hS => r_index 31 52 _ _ rfl g0 0 l.length k0 8 kna rfl rfl hkna (by omega) Try.underlying31 I_impl_Node) ⟨hM.below, hM.blk 1 rfl⟩ ?_
  go_frame
  refine wa_one 12 (by kernel_rfl) ?_
  refine wo_storep rfl (by kernel_rfl) hM 2 rfl 52 _ _ rfl rfl (0 + kna * 8) (by kernel_rfl) (ND.cells ⟨nak, nav, (leftF sd kid nal), (rightF sd kid nar), nao, nag, nalt, nart⟩) (by kernel_rfl) I_impl_Node (node_room hlna) (nd_one _) ?_
  clear hM; intro W4 hM; rw [splice_node hlna] at hM
  refine ⟨⟨hM.below, hM.blk 1 rfl⟩, ?_⟩
  refine wa_done (by kernel_rfl) ?_
  refine cn2 _ _ ?_
  clear cn2
  refine wp_seq_k fun Kn3 cn3 => ?_
  refine wl_region ?_
  refine wl_load (by kernel_rfl) hM 1 rfl 33 _ rfl rfl Try.underlying33 I_impl_Shared ?_
  go_frame
  refine wl_pure (by kernel_rfl) (.int .i64 kid) (by kernel_rfl) ?_
  go_frame
  refine wl_pure (by kernel_rfl) (.bool (kid == 0)) (by kernel_rfl) ?_
  go_frame
  refine wl_store (by kernel_rfl) hM 0 rfl 33 _ _ rfl rfl rfl [.slice (some ⟨g0, 0, none⟩) l.length k0, .slice xa xn xk] rfl I_impl_Shared rfl rfl ?_
  clear hM; intro W5 hM
  refine wl_pure (by kernel_rfl) (.bool (kid == 0)) (by kernel_rfl) ?_
  go_frame
  refine wl_nil ?_
  refine cn3 _ _ ?_
  clear cn3
  refine wp_ret ?_
  have hR : liftR l at' sd kid = ((l.set kna ⟨nak, nav, (leftF sd kid nal), (rightF sd kid nar), nao, nag, nalt, nart⟩), (kid == 0)) := by simp [liftR, setK, withK, nae, tna]
  rw [hR]
  have hN : ((l.set kna ⟨nak, nav, (leftF sd kid nal), (rightF sd kid nar), nao, nag, nalt, nart⟩) : List ND).length = l.length := by first | rfl | simp
  refine bodyPost_ret (ret_two (p := 8) (u := 9) (v := .bool (kid == 0)) rfl hM 0 rfl rfl rfl Try.underlying33 I_impl_Shared) rfl ⟨g0, k0, p0, congrArg (fun q : Nat => Ending.returned ((fun s => .tuple #[.agg #[s, .slice xa xn xk], .bool ((((l.set kna ⟨nak, nav, (leftF sd kid nal), (rightF sd kid nar), nao, nag, nalt, nart⟩), (kid == 0)) : List ND × Bool)).2]) (Value.slice (some ⟨g0, 0, none⟩) q k0))) hN.symm, ⟨by rw [hN]; exact q1, q2, (by rw [node_keep]; exact q5)⟩, ?_⟩
  exact (hM.pull 2 rfl).sub (fun i => if i = 0 then 0 else i + 2) (fun i x hx => by cases i with | zero => exact hx | succ i => simpa [Nat.add_assoc, Nat.add_comm] using hx) (fun i j _ _ e => by (try simp only at e); split at e <;> split at e <;> omega)

end Go.Proofs.Ythllpgjggmdmmaa
