/- Finding: the program's step. -/
import Derived.Test.YthllpgjggmdmmaaFindImpl2
namespace Go.Proofs.Ythllpgjggmdmmaa
open Go.ChangeShapes Go.WideShapes Go.ChangeAt Go.RowKit
set_option linter.unusedVariables false
set_option linter.unusedSimpArgs false

theorem ownr_blk {w' : World} {B E sz n : Nat} {t : TypeId} {cs : List Value} {u : Value} (h : OwnR w' B E t sz n cs u) (h0 : 0 < n) : ∃ (g k : Nat) (p : List Value), u = .slice (some ⟨g, 0, none⟩) n k ∧ n ≤ k ∧ k ≤ maxLen ∧ B ≤ g ∧ Blk w' g t (cs ++ p) ∧ (cs ++ p).length = k * sz := by
  rcases h with ⟨h1, -⟩ | ⟨-, g, hg, -, k, p, rfl, h1, h2, ⟨-, hx⟩, hb⟩
  · omega
  · exact ⟨g, k, p, rfl, h1, h2, hg, hb, hx⟩
theorem r_callfn {ρ : Operand → Value} {o : Oper} {w : World} {c : Call} {f : FuncId} (ho : o.op = .call c) (x : Operand) (hc : c.callee = .value x) (hx : ρ x = .func (.func f) #[] #[]) (vs : Array Value) (ha : c.args.map ρ = vs)
    (hE : ∀ (vs : Array Value) (w : World), (callFunc f vs).run Try.prog w = .ok (.enter f vs) w) : (execOp ρ o).run Try.prog w = .ok (.enter f vs) w := by
  unfold execOp
  simp [ho, resolve, hc, hx, ha, Deferred.ofValue, invoke, hE, Sem.run_bind, Result.andThen]
set_option maxRecDepth 100000 in
set_option maxHeartbeats 4000000 in
theorem touched_miss (ua : Option Addr) (uc : Nat) (xa : Option Addr) (xc : Nat) (l : List ND) (c : List Int) (task : Int) (h : HD) (bT : Nat) (es : Array MapEntry) (nT : Nat) (w0 : World) (h1 : NSl w0 (.slice ua l.length uc) l) (h2 : SlI w0 (.slice xa c.length xc) c) (hl : l.length ≤ 1048576) (hc : c.length ≤ 1048576) (hTb : Tbl w0 bT es nT) (hft : Instr.findNow (.int .i64) (.int .i64 h.at_) es.toList 0 = some none) :
    Calls Try.prog 50 #[.map (some bT), .agg #[.slice ua l.length uc, .slice xa c.length xc], .int .i64 task, h.val] w0 (Says3 noR w0) := by
  unfold HD.val
  have hM := Mem.start w0
  go_enter Try.func50, Try.ntmps50
  refine wp_seq_k fun Kn1 cn1 => ?_
  refine wl_region ?_
  refine wl_box (by kernel_rfl) hM 33 _ rfl [.slice ua l.length uc, .slice xa c.length xc] rfl ?_
  clear hM; intro g1 W1 hM
  go_frame
  refine wl_box (by kernel_rfl) hM 36 _ rfl (HD.cells h) rfl ?_
  clear hM; intro g2 W2 hM
  go_frame
  refine wl_alloc (by kernel_rfl) hM 33 rfl [.slice none 0 0, .slice none 0 0] Z_impl_Shared ?_
  clear hM; intro g3 W3 hM
  go_frame
  refine wl_alloc (by kernel_rfl) hM 36 rfl (HD.cells HD.zero) Z_impl_Hand ?_
  clear hM; intro g4 W4 hM
  go_frame
  refine wl_pure (by kernel_rfl) (.bool false) (by kernel_rfl) ?_
  go_frame
  refine wl_nil ?_
  refine cn1 _ _ ?_
  clear cn1
  refine wp_seq_k fun Kn2 cn2 => ?_
  refine wl_region ?_
  refine wl_pure (by kernel_rfl) (.map (some bT)) (by kernel_rfl) ?_
  go_frame
  refine wl_pure (by kernel_rfl) (.pointer (some ⟨g2, 0, none⟩)) (by kernel_rfl) ?_
  go_frame
  refine wl_loadc (by kernel_rfl) hM 2 rfl 2 _ rfl 0 rfl Try.underlying2 rfl rfl ?_
  go_frame
  refine wl_miss (by kernel_rfl) (hTb.below hM.below hTb.lt) 63 2 90 _ _ rfl Try.underlying63 Try.underlying2 rfl h.at_ rfl .nilFunc (fun w => by kernel_rfl) hft ?_
  go_frame
  refine wl_pure (by kernel_rfl) (.tuple #[.nilFunc, .bool false]) (by kernel_rfl) ?_
  go_frame
  refine wl_pure (by kernel_rfl) (.nilFunc) (by kernel_rfl) ?_
  go_frame
  refine wl_pure (by kernel_rfl) (.bool false) (by kernel_rfl) ?_
  go_frame
  refine wl_pure (by kernel_rfl) (.nilFunc) (by kernel_rfl) ?_
  go_frame
  refine wl_pure (by kernel_rfl) (.bool false) (by kernel_rfl) ?_
  go_frame
  refine wl_nil ?_
  refine cn2 _ _ ?_
  clear cn2
  refine wp_seq_k fun Kn3 cn3 => ?_
  refine wp_seq_k fun Kn4 cn4 => ?_
  refine wl_region ?_
  refine wl_pure (by kernel_rfl) (.bool false) (by kernel_rfl) ?_
  go_frame
  refine wl_pure (by kernel_rfl) (.bool true) (by kernel_rfl) ?_
  go_frame
  refine wl_pure (by kernel_rfl) (.bool true) (by kernel_rfl) ?_
  go_frame
  refine wl_skip (by kernel_rfl) ?_
  go_frame
  refine wl_skip (by kernel_rfl) ?_
  go_frame
  refine wl_skip (by kernel_rfl) ?_
  go_frame
  refine wl_skip (by kernel_rfl) ?_
  go_frame
  refine wl_skip (by kernel_rfl) ?_
  go_frame
  refine wl_pure (by kernel_rfl) (.bool true) (by kernel_rfl) ?_
  go_frame
  refine wl_nil ?_
  refine cn4 _ _ ?_
  clear cn4
  refine wp_cond_true rfl ?_
  refine wp_seq_k fun Kn5 cn5 => ?_
  refine wl_region ?_
  refine wl_pure (by kernel_rfl) (.agg #[.slice none 0 0, .slice none 0 0]) (by kernel_rfl) ?_
  go_frame
  refine wl_pure (by kernel_rfl) (.agg (HD.cells HD.zero).toArray) (by kernel_rfl) ?_
  go_frame
  refine wl_store (by kernel_rfl) hM 1 rfl 33 _ _ rfl rfl rfl [.slice none 0 0, .slice none 0 0] rfl I_impl_Shared rfl rfl ?_
  clear hM; intro W5 hM
  refine wl_store (by kernel_rfl) hM 0 rfl 36 _ _ rfl rfl rfl (HD.cells HD.zero) rfl I_impl_Hand rfl (hd_one' _) ?_
  clear hM; intro W6 hM
  refine wl_pure (by kernel_rfl) (.bool false) (by kernel_rfl) ?_
  go_frame
  refine wl_nil ?_
  refine cn5 _ _ ?_
  clear cn5
  refine wp_ret ?_
  simp only [Exit.then, Exit.inBlock]
  have hR : noR = ([], [], HD.zero, false) := by simp [noR, doneR]
  rw [hR]
  exact bodyPost_ret (ret_three (p := 8) (q := 9) (u := 10) (v := .bool false) rfl hM 1 0 rfl rfl rfl rfl rfl Try.underlying33 Try.underlying36 I_impl_Shared I_impl_Hand) rfl ⟨_, _, rfl, OwnR.nil _ _ _ _ _ _ _ (by simp [maxLen]), OwnR.nil _ _ _ _ _ _ _ (by simp [maxLen]), hM.below⟩

theorem doneR_cases (l : List ND) (c : List Int) (h : HD) : ((0 < l.length ∧ l.length ≤ 30) ∧ (0 < c.length ∧ c.length ≤ 6) ∧ doneR l c h = (l, c, h, true)) ∨ doneR l c h = noR := by
  unfold doneR
  split
  · next hb =>
    simp only [sharedB, Bool.and_eq_true] at hb
    exact .inl ⟨by have := nodes_some hb.1.1; omega, by have := countsB_some hb.1.2; omega, rfl⟩
  · exact .inr rfl
end Go.Proofs.Ythllpgjggmdmmaa
