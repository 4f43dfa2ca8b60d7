import Derived.Test.YtfjafncipjdnfaaGreatFindImpl2
namespace Go.Proofs.YtfjafncipjdnfaaGreat
open Go.ChangeShapes Go.WideShapes Go.ChangeAt Go.RowKit
set_option linter.unusedVariables false
set_option maxRecDepth 100000
set_option maxHeartbeats 16000000
set_option linter.unusedSimpArgs false
theorem vD {w' : World} {B E sz n : Nat} {t : TypeId} {cs : List Value} {u : Value} (h : OwnR w' B E t sz n cs u) (h0 : 0 < n) : ∃ (g k : Nat) (p : List Value), u = .slice (some ⟨g, 0, none⟩) n k ∧ n ≤ k ∧ k ≤ maxLen ∧ B ≤ g ∧ Blk w' g t (cs ++ p) ∧ (cs ++ p).length = k * sz := by
  rcases h with ⟨h1, -⟩ | ⟨-, g, hg, -, k, p, rfl, h1, h2, ⟨-, hx⟩, hb⟩
  · omega
  · exact ⟨g, k, p, rfl, h1, h2, hg, hb, hx⟩
theorem TB {ρ : Operand → Value} {o : Oper} {w : World} {c : Call} {f : FuncId} (ho : o.op = .call c) (x : Operand) (hc : c.callee = .value x) (hx : ρ x = .func (.func f) #[] #[]) (vs : Array Value) (ha : c.args.map ρ = vs)
    (hE : ∀ (vs : Array Value) (w : World), (callFunc f vs).run Tryz.prog w = .ok (.enter f vs) w) : (execOp ρ o).run Tryz.prog w = .ok (.enter f vs) w := by
  unfold execOp
  simp [ho, resolve, hc, hx, ha, Deferred.ofValue, invoke, hE, Sem.run_bind, Result.andThen]
theorem WJ (ua : Option Addr) (uc : Nat) (xa : Option Addr) (xc : Nat) (l : List ND) (c : List Int) (task : Int) (h : HD) (bT : Nat) (es : Array MapEntry) (nT : Nat) (w0 : World) (h1 : NSl w0 (.slice ua l.length uc) l) (h2 : SlI w0 (.slice xa c.length xc) c) (hl : l.length ≤ 1048576) (hc : c.length ≤ 1048576) (hTb : Tbl w0 bT es nT) (hft : Instr.findNow (.int .i64) (iJ h.at_) es.toList 0 = some none) :
    Calls Tryz.prog 48 #[.map (some bT), .agg #[.slice ua l.length uc, .slice xa c.length xc], iJ task, h.val] w0 (Says3 noR w0) := by
  unfold HD.val;have hM := Mem.start w0
  go_enter Tryz.func48, Tryz.ntmps48
  refine sr fun _ cn1 => ?_;refine nx hM 41 [.slice ua l.length uc, .slice xa c.length xc] ?_;clear hM;intro g1 W1 hM;refine nx hM 45 (HD.cells h) ?_;clear hM;intro g2 W2 hM;refine na hM [sZ, sZ] iA ?_;clear hM;intro g3 W3 hM;refine na hM (HD.cells HD.zero) lA ?_;clear hM;intro g4 W4 hM;refine np (.bool false) ?_;go_frame;refine wz cn1 ?_;clear cn1;refine sr fun _ cn2 => ?_;refine np (.map (some bT)) <| np (pt g2 0) <| ng hM 2 rfl 0 bA rfl ?_;go_frame;refine JO (by kernel_rfl) (hTb.below hM.below hTb.lt) 77 2 121 _ _ rfl QD bA rfl h.at_ rfl .nilFunc (fun w => by kernel_rfl) hft ?_;go_frame;refine np (.tuple #[.nilFunc, .bool false]) <| np (.nilFunc) <| np (.bool false) <| np (.nilFunc) <| np (.bool false) ?_;go_frame;refine wz cn2 ?_;clear cn2;refine wp_seq_k fun Kn3 cn3 => ?_;refine sr fun _ cn4 => ?_;refine np (.bool false) <| np (.bool true) <| np (.bool true) ?_
  iterate 5 refine ns ?_
  refine np (.bool true) ?_;go_frame;refine wz cn4 ?_;clear cn4;refine wp_cond_true rfl ?_;refine sr fun _ cn5 => ?_;refine np (.agg #[sZ, sZ]) <| np (.agg (HD.cells HD.zero).toArray) ?_;refine nS hM 1 rfl [sZ, sZ] cA rfl ?_;clear hM;intro W5 hM;refine nS hM 0 rfl (HD.cells HD.zero) aA (jA _) ?_;clear hM;intro W6 hM;refine np (.bool false) ?_;go_frame;refine wz cn5 ?_;clear cn5;refine wp_ret ?_;simp only [Exit.then, Exit.inBlock];have hR : noR = ([], [], HD.zero, false) := by simp [noR, RA]
  rw [hR];exact b3 hM 1 0 rfl rfl ⟨_, _, rfl, own0, own0, hM.below⟩
theorem ZH (l : List ND) (c : List Int) (h : HD) : ((0 < l.length ∧ l.length ≤ 30) ∧ (0 < c.length ∧ c.length ≤ 6) ∧ RA l c h = (l, c, h, true)) ∨ RA l c h = noR := by
  unfold RA
  split
  · next hb =>
    simp only [NA, Bool.and_eq_true] at hb;exact .inl ⟨by have := gB hb.1.1; omega, by have := ZB hb.1.2; omega, rfl⟩
  · exact .inr rfl
end Go.Proofs.YtfjafncipjdnfaaGreat
