import Derived.Test.YthkbmdhcpandmaaGreatHand
import Derived.Laws.StructEq
import Derived.Test.YthkbmdhcpandmaaGreatCall
import Derived.Deep.QuietTactic
import Derived.BigQuiet
import Derived.Test.YthkbmdhcpandmaaGreatShort
import Derived.Test.YthkbmdhcpandmaaGreatHand2
import Derived.Test.YthkbmdhcpandmaaGreatReads
namespace Go.Proofs.YthkbmdhcpandmaaGreat
open Go.ChangeShapes Go.WideShapes Go.ChangeAt Go.RowKit
set_option linter.unusedVariables false
set_option linter.unusedSimpArgs false
def hdEq (a b : HD) : Bool := a.at_ == b.at_ && ((a.c == b.c && (a.k == b.k && (a.v == b.v && true))) && (a.prev == b.prev && (a.cur == b.cur && (a.side == b.side && (a.tag == b.tag && (a.up == b.up && (a.next == b.next && (a.new == b.new && (a.index == b.index && (a.seen == b.seen && (a.again == b.again && (a.begin_ == b.begin_ && (a.reply == b.reply && (a.out == b.out && true))))))))))))))
def clEq (a b c d e f : Int) : Bool := a == d && (b == e && (c == f && true))
theorem hdEq_self (a : HD) : hdEq a a = true := by simp [hdEq]
section
variable {P : Program} {w : World}
theorem eqf_nil (d : Nat) (xs ys : Array Value) : (Op.eqFields d xs ys []).run P w = .ok true w := by simp [Op.eqFields]
theorem eqf_cons {d : Nat} {xs ys : Array Value} {f : Field} {fs : List Field} {a b : Value} {r s : Bool} (hn : f.name ≠ "_") (ha : (part f.type xs f.offset).run P w = .ok a w) (hb : (part f.type ys f.offset).run P w = .ok b w)
    (he : (Op.equalIn d f.type a b).run P w = .ok r w) (hr : (Op.eqFields d xs ys fs).run P w = .ok s w) : (Op.eqFields d xs ys (f :: fs)).run P w = .ok (r && s) w := by
  rw [Op.eqFields, if_pos hn]
  simp only [Sem.run_bind, ha, hb, he, Result.andThen_ok]
  cases r
  · simp
  · simpa using hr
end
theorem cl_eqIn (d : Nat) (w : World) (a b c a' b' c' : Int) : (Op.equalIn (d + 2) 29 (.agg #[.int .i64 a, .int .i64 b, .int .i64 c]) (.agg #[.int .i64 a', .int .i64 b', .int .i64 c'])).run Tryz.prog w = .ok (a == a' && (b == b' && (c == c' && true))) w := by
  rw [run_equalIn_struct w (d + 1) 29 _ _ (by kernel_rfl) (by kernel_rfl)]
  simp only [Program.fieldsOf, Tryz.underlying29]
  exact eqf_cons (by decide) (by kernel_rfl) (by kernel_rfl) (run_equalIn_int _ _ _ .i64 .i64 _ _ Tryz.underlying2) (eqf_cons (by decide) (by kernel_rfl) (by kernel_rfl) (run_equalIn_int _ _ _ .i64 .i64 _ _ Tryz.underlying2) (eqf_cons (by decide) (by kernel_rfl) (by kernel_rfl) (run_equalIn_int _ _ _ .i64 .i64 _ _ Tryz.underlying2) (eqf_nil _ _ _)))
theorem hd_eqIn (d : Nat) (w : World) (a b : HD) : (Op.equalIn (d + 3) 31 a.val b.val).run Tryz.prog w = .ok (hdEq a b) w := by
  rw [HD.val, HD.val, run_equalIn_struct w (d + 2) 31 _ _ (by kernel_rfl) (by kernel_rfl)]
  simp only [Program.fieldsOf, Tryz.underlying31]
  exact eqf_cons (by decide) (by kernel_rfl) (by kernel_rfl) (run_equalIn_int _ _ _ .i64 .i64 _ _ Tryz.underlying2) (eqf_cons (by decide) (by kernel_rfl) (by kernel_rfl) (cl_eqIn _ _ _ _ _ _ _ _) (eqf_cons (by decide) (by kernel_rfl) (by kernel_rfl) (run_equalIn_int _ _ _ .i64 .i64 _ _ Tryz.underlying2) (eqf_cons (by decide) (by kernel_rfl) (by kernel_rfl) (run_equalIn_int _ _ _ .i64 .i64 _ _ Tryz.underlying2) (eqf_cons (by decide) (by kernel_rfl) (by kernel_rfl) (run_equalIn_int _ _ _ .i64 .i64 _ _ Tryz.underlying2) (eqf_cons (by decide) (by kernel_rfl) (by kernel_rfl) (run_equalIn_int _ _ _ .i64 .i64 _ _ Tryz.underlying2) (eqf_cons (by decide) (by kernel_rfl) (by kernel_rfl) (run_equalIn_int _ _ _ .i64 .i64 _ _ Tryz.underlying2) (eqf_cons (by decide) (by kernel_rfl) (by kernel_rfl) (run_equalIn_int _ _ _ .i64 .i64 _ _ Tryz.underlying2) (eqf_cons (by decide) (by kernel_rfl) (by kernel_rfl) (run_equalIn_int _ _ _ .i64 .i64 _ _ Tryz.underlying2) (eqf_cons (by decide) (by kernel_rfl) (by kernel_rfl) (run_equalIn_int _ _ _ .i64 .i64 _ _ Tryz.underlying2) (eqf_cons (by decide) (by kernel_rfl) (by kernel_rfl) (run_equalIn_int _ _ _ .i64 .i64 _ _ Tryz.underlying2) (eqf_cons (by decide) (by kernel_rfl) (by kernel_rfl) (run_equalIn_bool' _ _ _ _ _ Tryz.underlying4) (eqf_cons (by decide) (by kernel_rfl) (by kernel_rfl) (run_equalIn_int _ _ _ .i64 .i64 _ _ Tryz.underlying2) (eqf_cons (by decide) (by kernel_rfl) (by kernel_rfl) (run_equalIn_int _ _ _ .i64 .i64 _ _ Tryz.underlying2) (eqf_cons (by decide) (by kernel_rfl) (by kernel_rfl) (run_equalIn_int _ _ _ .i64 .i64 _ _ Tryz.underlying2) (eqf_nil _ _ _)))))))))))))))
theorem cl_eql {f : Operand → Value} {o : Oper} {w : World} {T' : TypeId} {x y : Operand} (a b c a' b' c' : Int) (ho : o.op = .binOp .eql 29 x y T') (hx : f x = .agg #[.int .i64 a, .int .i64 b, .int .i64 c]) (hy : f y = .agg #[.int .i64 a', .int .i64 b', .int .i64 c']) : (execOp f o).run Tryz.prog w = .ok (.value (.bool (clEq a b c a' b' c'))) w := by
  have h := cl_eqIn 9998 w a b c a' b' c'
  have hg : Tryz.prog.eqGuardType Tryz.prog.depth 29 = false := by kernel_rfl
  unfold execOp
  simp only [ho, hx, hy, Sem.run_bind, run_eqGuard_agg w .eql 29 x y _ _ hg, Result.andThen_ok, run_eql_struct]
  rw [show Op.equalIn 10000 29 (.agg #[.int .i64 a, .int .i64 b, .int .i64 c]) (.agg #[.int .i64 a', .int .i64 b', .int .i64 c']) = Op.equalIn (9998 + 2) 29 (.agg #[.int .i64 a, .int .i64 b, .int .i64 c]) (.agg #[.int .i64 a', .int .i64 b', .int .i64 c']) from rfl, h]
  rfl
theorem hd_eql {f : Operand → Value} {o : Oper} {w : World} {T' : TypeId} {x y : Operand} (a b : HD) (ho : o.op = .binOp .eql 31 x y T') (hx : f x = .agg a.cells.toArray) (hy : f y = .agg b.cells.toArray) : (execOp f o).run Tryz.prog w = .ok (.value (.bool (hdEq a b))) w := by
  have h := hd_eqIn 9997 w a b
  have hg : Tryz.prog.eqGuardType Tryz.prog.depth 31 = false := by kernel_rfl
  unfold execOp
  simp only [ho, hx, hy, Sem.run_bind, run_eqGuard_agg w .eql 31 x y _ _ hg, Result.andThen_ok, run_eql_struct]
  rw [show Op.equalIn 10000 31 (.agg a.cells.toArray) (.agg b.cells.toArray) = Op.equalIn (9997 + 3) 31 a.val b.val from rfl, h]
  rfl
theorem hd_neq {f : Operand → Value} {o : Oper} {w : World} {T' : TypeId} {x y : Operand} (a b : HD) (ho : o.op = .binOp .neq 31 x y T') (hx : f x = .agg a.cells.toArray) (hy : f y = .agg b.cells.toArray) : (execOp f o).run Tryz.prog w = .ok (.value (.bool (!(hdEq a b)))) w := by
  have h := hd_eqIn 9997 w a b
  have hg : Tryz.prog.eqGuardType Tryz.prog.depth 31 = false := by kernel_rfl
  unfold execOp
  simp only [ho, hx, hy, Sem.run_bind, run_eqGuard_agg w .neq 31 x y _ _ hg, Result.andThen_ok, run_neq_struct]
  rw [show Op.equalIn 10000 31 (.agg a.cells.toArray) (.agg b.cells.toArray) = Op.equalIn (9997 + 3) 31 a.val b.val from rfl, h]
  rfl
def mostF (c : Int) : Int := if c = 2 then 999 else 0
theorem callB_most (c k v : Int) : callB c k v = (inB c 1 3 && inB k 0 99 && inB v 0 (mostF c)) := by
  unfold callB mostF
  by_cases h : c = 2
  · simp [h]
  · simp only [h, if_false]
    congr 1
    by_cases hv : v = 0
    · simp [hv, inB]
    · have : inB v 0 0 = false := by simp [inB]; omega
      rw [this]
      simpa using hv
set_option maxHeartbeats 1000000 in
theorem impl_isKnown (c : Int) (w : World) :
    Calls Tryz.prog 144 #[.int .i64 c] w fun e w' => e = .returned (.bool (inB c 1 3)) ∧ w = w' := by
  go_enter Tryz.func144, Tryz.ntmps144
  go_wp2_with fail
  refine (impl_in _ _ _ _).mono ?_
  rintro e w1 ⟨rfl, rfl⟩
  go_wp2
  go_ret
  exact ⟨rfl, rfl⟩
set_option maxHeartbeats 1000000 in
theorem impl_mostValue (c : Int) (w : World) :
    Calls Tryz.prog 145 #[.int .i64 c] w fun e w' => e = .returned (.int .i64 (mostF c)) ∧ w = w' := by
  by_cases h : c = 2
  · subst h
    go_enter Tryz.func145, Tryz.ntmps145
    go_wp2
    go_ret
    exact ⟨rfl, rfl⟩
  · have e : mostF c = 0 := by simp [mostF, h]
    rw [e]
    go_enter Tryz.func145, Tryz.ntmps145
    go_wp2
    go_ret
    exact ⟨rfl, rfl⟩
set_option maxHeartbeats 1000000 in
theorem impl_codedOf (c k v : Int) (w : World) :
    Calls Tryz.prog 133 #[.agg #[.int .i64 c, .int .i64 k, .int .i64 v]] w fun e w' => e = .returned (.agg #[.int .i64 c, .int .i64 k, .int .i64 v]) ∧ Below w.heap.size w w' := by
  go_enter Tryz.func133, Tryz.ntmps133
  go_wp2
  exact bodyPost_ret (v := .agg #[.int .i64 c, .int .i64 k, .int .i64 v]) (by simp [results, Tryz.results133, go_sem]) rfl ⟨rfl, by repeat (first | exact Below.refl _ _ | refine Below.alloc ?_ (by simp) _ | refine Below.setCell ?_ (by simp) _)⟩
theorem belowN {B : Nat} {a w : World} (h : Below B a w) (n : Nat) : Below B a (w.drewN n) := h.trans ⟨rfl, rfl, rfl, Nat.le_refl _, fun _ _ => rfl⟩
theorem quiet_same {f : FuncId} {args : Array Value} {w : World} {n : Nat} {v : Value} (h : Calls Tryz.prog f args (w.drewN n) fun e w' => e = .returned v ∧ w.drewN n = w') : Calls Tryz.prog f args (w.drewN n) fun e w'' => e = .returned v ∧ ∃ m, w'' = w.drewN m :=
  Calls.quiet_of_same (h.mono fun _ _ ⟨a, b⟩ => ⟨a, b.symm⟩)
set_option maxHeartbeats 1000000 in
theorem impl_isRight0 (c k v : Int) (w : World) :
    Calls Tryz.prog 134 #[.agg #[.int .i64 c, .int .i64 k, .int .i64 v]] w fun e w' => e = .returned (.bool (inB c 1 3 && inB k 0 99 && inB v 0 (mostF c))) ∧ Below w.heap.size w w' := by
  have C0 := fun w => impl_isKnown c w
  have C1 := fun w => impl_in k 0 99 w
  have C2 := fun w => impl_in v 0 (mostF c) w
  generalize inB c 1 3 = t0 at C0 ⊢
  generalize inB k 0 99 = t1 at C1 ⊢
  generalize inB v 0 (mostF c) = t2 at C2 ⊢
  cases t0
  · go_enter Tryz.func134, Tryz.ntmps134
    go_wp2
    go_quiet (first | (go_at_call 144; refine quiet_same (C0 _)) | (go_at_call 145; refine quiet_same (impl_mostValue _ _)) | (go_at_call 82; first | (with_reducible exact quiet_same (C1 _)) | (with_reducible exact quiet_same (C2 _))))
    go_wp2
    go_ret
    exact ⟨rfl, belowN ((Below.refl _ _).alloc (Nat.le_refl _) _) _⟩
  · cases t1
    · go_enter Tryz.func134, Tryz.ntmps134
      go_wp2
      go_quiet (first | (go_at_call 144; refine quiet_same (C0 _)) | (go_at_call 145; refine quiet_same (impl_mostValue _ _)) | (go_at_call 82; first | (with_reducible exact quiet_same (C1 _)) | (with_reducible exact quiet_same (C2 _))))
      go_wp2
      go_ret
      exact ⟨rfl, belowN ((Below.refl _ _).alloc (Nat.le_refl _) _) _⟩
    · go_enter Tryz.func134, Tryz.ntmps134
      go_wp2
      go_quiet (first | (go_at_call 144; refine quiet_same (C0 _)) | (go_at_call 145; refine quiet_same (impl_mostValue _ _)) | (go_at_call 82; first | (with_reducible exact quiet_same (C1 _)) | (with_reducible exact quiet_same (C2 _))))
      go_wp2
      go_ret
      exact ⟨rfl, belowN ((Below.refl _ _).alloc (Nat.le_refl _) _) _⟩
theorem impl_isRight (c k v : Int) (w : World) :
    Calls Tryz.prog 134 #[.agg #[.int .i64 c, .int .i64 k, .int .i64 v]] w fun e w' => e = .returned (.bool (callB c k v)) ∧ Below w.heap.size w w' := by
  rw [callB_most]
  exact impl_isRight0 c k v w
set_option maxHeartbeats 1000000 in
theorem impl_CallOk (c k v : Int) (w : World) :
    Calls Tryz.prog 127 #[.agg #[.int .i64 c, .int .i64 k, .int .i64 v]] w fun e w' => e = .returned (.bool (callB c k v)) ∧ Below w.heap.size w w' := by
  go_enter Tryz.func127, Tryz.ntmps127
  go_wp2_with fail
  refine (impl_codedOf _ _ _ _).mono ?_
  rintro e w1 ⟨rfl, hB1⟩
  go_wp2_with fail
  refine (impl_isRight _ _ _ _).mono ?_
  rintro e w2 ⟨rfl, hB2⟩
  go_wp2
  go_ret
  have s1 := hB1.size
  simp at s1
  exact ⟨rfl, (((Below.refl _ _).alloc (Nat.le_refl _) _).trans (hB1.mono (by simp))).trans (hB2.mono (by omega))⟩
set_option maxRecDepth 100000
set_option maxHeartbeats 16000000
def clampI (n lo hi : Int) : Int := min (max n lo) hi
theorem clampI_eq {n lo hi : Int} (h : lo ≤ hi) : (n == clampI n lo hi) = inB n lo hi := by
  unfold clampI inB;rw [Bool.eq_iff_iff];simp only [beq_iff_eq, Bool.and_eq_true, decide_eq_true_eq]
  omega
def clampH (h : HD) : HD := { h with at_ := clampI h.at_ 0 26, prev := clampI h.prev 0 29, cur := clampI h.cur 0 29, side := clampI h.side 0 1, tag := clampI h.tag 0 10000, up := clampI h.up 0 29, next := clampI h.next 0 29, new := clampI h.new 0 29, index := clampI h.index 0 6, seen := clampI h.seen (-1) 100000, begin_ := clampI h.begin_ 0 20000, reply := clampI h.reply 0 3, out := clampI h.out 0 999 }
theorem handB_clamp (h : HD) : (hdEq h (clampH h) && (callB h.c h.k h.v || (h.at_ == 0 && noneB h.c h.k h.v))) = handB h := by
  simp only [hdEq, clampH, clampI_eq (n := h.at_) (lo := 0) (hi := 26) (by omega), clampI_eq (lo := 0) (hi := 29) (by omega), clampI_eq (lo := 0) (hi := 1) (by omega), clampI_eq (lo := 0) (hi := 10000) (by omega), clampI_eq (lo := 0) (hi := 6) (by omega), clampI_eq (lo := -1) (hi := 100000) (by omega), clampI_eq (lo := 0) (hi := 20000) (by omega), clampI_eq (lo := 0) (hi := 3) (by omega), clampI_eq (lo := 0) (hi := 999) (by omega), beq_self_eq_true, Bool.and_true, Bool.true_and, handB, headB, five, handL, List.all_cons, List.all_nil];rw [Bool.eq_iff_iff];simp only [Bool.and_eq_true, Bool.or_eq_true]
  constructor
  · intro hh
    simp_all
  · intro hh
    simp_all
theorem handB_no {h : HD} (e : hdEq h (clampH h) = false) : handB h = false := by rw [← handB_clamp, e]; rfl
theorem handB_yes {h : HD} (e : hdEq h (clampH h) = true) : handB h = (callB h.c h.k h.v || (h.at_ == 0 && noneB h.c h.k h.v)) := by rw [← handB_clamp, e]; rfl
theorem impl_drawn (n lo hi : Int) (w : World) :
    Calls Tryz.prog 125 #[.int .i64 n, .int .i64 lo, .int .i64 hi] w fun e w' => e = .returned (.int .i64 (clampI n lo hi)) ∧ w = w' := by
  go_enter Tryz.func125, Tryz.ntmps125
  go_wp2
  go_ret
  exact ⟨rfl, rfl⟩
theorem impl_drawnToNode (n : Int) (w : World) :
    Calls Tryz.prog 126 #[.int .i64 n] w fun e w' => e = .returned (.int .i64 (clampI n 0 29)) ∧ w = w' := by
  go_enter Tryz.func126, Tryz.ntmps126
  go_wp2_with fail
  refine (impl_drawn _ _ _ _).mono ?_;rintro e w1 ⟨rfl, rfl⟩
  go_wp2
  go_ret
  exact ⟨rfl, rfl⟩
theorem impl_withinLimits (h : HD) (w0 : World) :
    Calls Tryz.prog 106 #[h.val] w0 fun e w' => e = .returned (clampH h).val ∧ Below w0.heap.size w0 w' := by
  unfold HD.val;have hM := Mem.start w0
  go_enter Tryz.func106, Tryz.ntmps106
  refine sr fun _ cn1 => ?_;refine nx hM 31 (HD.cells h) ?_;clear hM;intro g1 W1 hM;refine na hM (HD.cells HD.zero) Z_impl_Hand ?_;clear hM;intro g2 W2 hM;go_frame;refine wz cn1 ?_;clear cn1;refine sr fun _ cn2 => ?_;refine np (pt g1 0) <| ng hM 1 rfl 0 Tryz.underlying2 rfl ?_;refine nc (impl_drawn h.at_ 0 26 _) ?_;rintro e W3 ⟨rfl, rfl⟩;refine ⟨_, rfl, ?_⟩;go_frame;refine np (pt g1 0) ?_;refine nk hM 1 rfl 0 (.int .i64 (clampI h.at_ 0 26)) I_int64 (by simp [HD.cells, splice_len]) ?_;clear hM;intro W4 hM;refine wz cn2 ?_;clear cn2;refine sr fun _ cn3 => ?_;refine np (pt g1 4) <| ng hM 1 rfl 4 Tryz.underlying2 rfl ?_;refine nc (impl_drawnToNode h.prev _) ?_;rintro e W5 ⟨rfl, rfl⟩;refine ⟨_, rfl, ?_⟩;go_frame;refine np (pt g1 4) ?_;refine nk hM 1 rfl 4 (.int .i64 (clampI h.prev 0 29)) I_int64 (by simp [HD.cells, splice_len]) ?_;clear hM;intro W6 hM;refine wz cn3 ?_;clear cn3;refine sr fun _ cn4 => ?_;refine np (pt g1 5) <| ng hM 1 rfl 5 Tryz.underlying2 rfl ?_;refine nc (impl_drawnToNode h.cur _) ?_;rintro e W7 ⟨rfl, rfl⟩;refine ⟨_, rfl, ?_⟩;go_frame;refine np (pt g1 5) ?_;refine nk hM 1 rfl 5 (.int .i64 (clampI h.cur 0 29)) I_int64 (by simp [HD.cells, splice_len]) ?_;clear hM;intro W8 hM;refine wz cn4 ?_;clear cn4;refine sr fun _ cn5 => ?_;refine np (pt g1 6) <| ng hM 1 rfl 6 Tryz.underlying2 rfl ?_;refine nc (impl_drawn h.side 0 1 _) ?_;rintro e W9 ⟨rfl, rfl⟩;refine ⟨_, rfl, ?_⟩;go_frame;refine np (pt g1 6) ?_;refine nk hM 1 rfl 6 (.int .i64 (clampI h.side 0 1)) I_int64 (by simp [HD.cells, splice_len]) ?_;clear hM;intro W10 hM;refine wz cn5 ?_;clear cn5;refine sr fun _ cn6 => ?_;refine np (pt g1 7) <| ng hM 1 rfl 7 Tryz.underlying2 rfl ?_;refine nc (impl_drawn h.tag 0 10000 _) ?_;rintro e W11 ⟨rfl, rfl⟩;refine ⟨_, rfl, ?_⟩;go_frame;refine np (pt g1 7) ?_;refine nk hM 1 rfl 7 (.int .i64 (clampI h.tag 0 10000)) I_int64 (by simp [HD.cells, splice_len]) ?_;clear hM;intro W12 hM;refine wz cn6 ?_;clear cn6;refine sr fun _ cn7 => ?_;refine np (pt g1 8) <| ng hM 1 rfl 8 Tryz.underlying2 rfl ?_;refine nc (impl_drawnToNode h.up _) ?_;rintro e W13 ⟨rfl, rfl⟩;refine ⟨_, rfl, ?_⟩;go_frame;refine np (pt g1 8) ?_;refine nk hM 1 rfl 8 (.int .i64 (clampI h.up 0 29)) I_int64 (by simp [HD.cells, splice_len]) ?_;clear hM;intro W14 hM;refine wz cn7 ?_;clear cn7;refine sr fun _ cn8 => ?_;refine np (pt g1 9) <| ng hM 1 rfl 9 Tryz.underlying2 rfl ?_;refine nc (impl_drawnToNode h.next _) ?_;rintro e W15 ⟨rfl, rfl⟩;refine ⟨_, rfl, ?_⟩;go_frame;refine np (pt g1 9) ?_;refine nk hM 1 rfl 9 (.int .i64 (clampI h.next 0 29)) I_int64 (by simp [HD.cells, splice_len]) ?_;clear hM;intro W16 hM;refine wz cn8 ?_;clear cn8;refine sr fun _ cn9 => ?_;refine np (pt g1 10) <| ng hM 1 rfl 10 Tryz.underlying2 rfl ?_;refine nc (impl_drawnToNode h.new _) ?_;rintro e W17 ⟨rfl, rfl⟩;refine ⟨_, rfl, ?_⟩;go_frame;refine np (pt g1 10) ?_;refine nk hM 1 rfl 10 (.int .i64 (clampI h.new 0 29)) I_int64 (by simp [HD.cells, splice_len]) ?_;clear hM;intro W18 hM;refine wz cn9 ?_;clear cn9;refine sr fun _ cn10 => ?_;refine np (pt g1 11) <| ng hM 1 rfl 11 Tryz.underlying2 rfl ?_;refine nc (impl_drawn h.index 0 6 _) ?_;rintro e W19 ⟨rfl, rfl⟩;refine ⟨_, rfl, ?_⟩;go_frame;refine np (pt g1 11) ?_;refine nk hM 1 rfl 11 (.int .i64 (clampI h.index 0 6)) I_int64 (by simp [HD.cells, splice_len]) ?_;clear hM;intro W20 hM;refine wz cn10 ?_;clear cn10;refine sr fun _ cn11 => ?_;refine np (pt g1 12) <| ng hM 1 rfl 12 Tryz.underlying2 rfl ?_;refine nc (impl_drawn h.seen (-1) 100000 _) ?_;rintro e W21 ⟨rfl, rfl⟩;refine ⟨_, rfl, ?_⟩;go_frame;refine np (pt g1 12) ?_;refine nk hM 1 rfl 12 (.int .i64 (clampI h.seen (-1) 100000)) I_int64 (by simp [HD.cells, splice_len]) ?_;clear hM;intro W22 hM;refine wz cn11 ?_;clear cn11;refine sr fun _ cn12 => ?_;refine np (pt g1 14) <| ng hM 1 rfl 14 Tryz.underlying2 rfl ?_;refine nc (impl_drawn h.begin_ 0 20000 _) ?_;rintro e W23 ⟨rfl, rfl⟩;refine ⟨_, rfl, ?_⟩;go_frame;refine np (pt g1 14) ?_;refine nk hM 1 rfl 14 (.int .i64 (clampI h.begin_ 0 20000)) I_int64 (by simp [HD.cells, splice_len]) ?_
  clear hM;intro W24 hM;refine wz cn12 ?_;clear cn12;refine sr fun _ cn13 => ?_;refine np (pt g1 15) <| ng hM 1 rfl 15 Tryz.underlying2 rfl ?_;refine nc (impl_drawn h.reply 0 3 _) ?_;rintro e W25 ⟨rfl, rfl⟩;refine ⟨_, rfl, ?_⟩;go_frame;refine np (pt g1 15) ?_;refine nk hM 1 rfl 15 (.int .i64 (clampI h.reply 0 3)) I_int64 (by simp [HD.cells, splice_len]) ?_;clear hM;intro W26 hM;refine wz cn13 ?_;clear cn13;refine sr fun _ cn14 => ?_;refine np (pt g1 16) <| ng hM 1 rfl 16 Tryz.underlying2 rfl ?_;refine nc (impl_drawn h.out 0 999 _) ?_;rintro e W27 ⟨rfl, rfl⟩;refine ⟨_, rfl, ?_⟩;go_frame;refine np (pt g1 16) ?_;refine nk hM 1 rfl 16 (.int .i64 (clampI h.out 0 999)) I_int64 (by simp [HD.cells, splice_len]) ?_;clear hM;intro W28 hM;refine wz cn14 ?_;clear cn14;refine sr fun _ cn15 => ?_;refine nl hM 1 rfl Tryz.underlying31 I_impl_Hand ?_;refine nS hM 0 rfl (HD.cells { h with at_ := (clampI h.at_ 0 26), prev := (clampI h.prev 0 29), cur := (clampI h.cur 0 29), side := (clampI h.side 0 1), tag := (clampI h.tag 0 10000), up := (clampI h.up 0 29), next := (clampI h.next 0 29), new := (clampI h.new 0 29), index := (clampI h.index 0 6), seen := (clampI h.seen (-1) 100000), begin_ := (clampI h.begin_ 0 20000), reply := (clampI h.reply 0 3), out := (clampI h.out 0 999) }) I_impl_Hand (hd_one' _) ?_;clear hM;intro W29 hM;refine wz cn15 ?_;clear cn15;refine wp_ret ?_;exact bodyPost_ret (ret_row rfl hM 0 rfl rfl Tryz.underlying31 I_impl_Hand) rfl ⟨congrArg (fun z => Ending.returned (Value.agg (HD.cells z).toArray)) (show { h with at_ := (clampI h.at_ 0 26), prev := (clampI h.prev 0 29), cur := (clampI h.cur 0 29), side := (clampI h.side 0 1), tag := (clampI h.tag 0 10000), up := (clampI h.up 0 29), next := (clampI h.next 0 29), new := (clampI h.new 0 29), index := (clampI h.index 0 6), seen := (clampI h.seen (-1) 100000), begin_ := (clampI h.begin_ 0 20000), reply := (clampI h.reply 0 3), out := (clampI h.out 0 999) } = clampH h from by simp [clampH]), hM.below⟩
theorem impl_hasRightCall (h : HD) (w0 : World) :
    Calls Tryz.prog 107 #[h.val] w0 fun e w' => e = .returned (.bool (callB h.c h.k h.v || (h.at_ == 0 && noneB h.c h.k h.v))) ∧ Below w0.heap.size w0 w' := by
  unfold HD.val;have hM := Mem.start w0
  go_enter Tryz.func107, Tryz.ntmps107
  refine sr fun _ cn1 => ?_;refine nx hM 31 (HD.cells h) ?_;clear hM;intro g1 W1 hM;refine np (.bool false) ?_;go_frame;refine wz cn1 ?_;clear cn1;refine wp_seq_k fun Kn2 cn2 => ?_;rcases tf ((callB h.c h.k h.v)) with hx1 | hx1
  · refine wl_region ?_
    refine np (pt g1 1) ?_;go_frame;refine wl_part (by kernel_rfl) hM 0 rfl 29 _ rfl 1 rfl Tryz.underlying29 [.int .i64 h.c, .int .i64 h.k, .int .i64 h.v] I_impl_Call rfl ?_;go_frame;refine nc (impl_CallOk h.c h.k h.v _) ?_;rintro e W2 ⟨rfl, hb⟩;refine ⟨.bool true, rb hx1, ?_⟩;replace hM := hM.call hb;go_frame;refine np (.bool true) ?_
    iterate 9 refine ns ?_
    refine np (.bool true) <| np (.bool true) ?_;go_frame;refine wz cn2 ?_;clear cn2;refine wp_ret ?_;exact bt ⟨ret_b (show true = (callB h.c h.k h.v || (h.at_ == 0 && noneB h.c h.k h.v)) from by simp [noneB, clEq, Bool.and_assoc, hx1]), hM.below⟩
  · rcases tf ((h.at_ == 0)) with hx2 | hx2
    · refine wl_region ?_
      refine np (pt g1 1) ?_;go_frame;refine wl_part (by kernel_rfl) hM 0 rfl 29 _ rfl 1 rfl Tryz.underlying29 [.int .i64 h.c, .int .i64 h.k, .int .i64 h.v] I_impl_Call rfl ?_;go_frame;refine nc (impl_CallOk h.c h.k h.v _) ?_;rintro e W2 ⟨rfl, hb⟩;refine ⟨.bool false, rb hx1, ?_⟩;replace hM := hM.call hb;go_frame;refine np (.bool false) <| np (pt g1 0) <| ng hM 0 rfl 0 Tryz.underlying2 rfl <| nB (hx2) <| np (.bool true) <| np (pt g1 1) ?_;go_frame;refine wl_part (by kernel_rfl) hM 0 rfl 29 _ rfl 1 rfl Tryz.underlying29 [.int .i64 h.c, .int .i64 h.k, .int .i64 h.v] I_impl_Call rfl ?_;go_frame;refine np (.agg #[.int .i64 0, .int .i64 0, .int .i64 0]) ?_;go_frame;refine wl_pure (by kernel_rfl) (.bool (clEq h.c h.k h.v 0 0 0)) (cl_eql h.c h.k h.v 0 0 0 rfl rfl rfl) ?_;go_frame;refine np (.bool (clEq h.c h.k h.v 0 0 0)) <| np (.bool (clEq h.c h.k h.v 0 0 0)) <| np (.bool (clEq h.c h.k h.v 0 0 0)) ?_;go_frame;refine wz cn2 ?_;clear cn2;refine wp_ret ?_;exact bt ⟨ret_b (show (clEq h.c h.k h.v 0 0 0) = (callB h.c h.k h.v || (h.at_ == 0 && noneB h.c h.k h.v)) from by simp [noneB, clEq, Bool.and_assoc, hx1, hx2]), hM.below⟩
    · refine wl_region ?_
      refine np (pt g1 1) ?_;go_frame;refine wl_part (by kernel_rfl) hM 0 rfl 29 _ rfl 1 rfl Tryz.underlying29 [.int .i64 h.c, .int .i64 h.k, .int .i64 h.v] I_impl_Call rfl ?_;go_frame;refine nc (impl_CallOk h.c h.k h.v _) ?_;rintro e W2 ⟨rfl, hb⟩;refine ⟨.bool false, rb hx1, ?_⟩;replace hM := hM.call hb;go_frame;refine np (.bool false) <| np (pt g1 0) <| ng hM 0 rfl 0 Tryz.underlying2 rfl <| nB (hx2) <| np (.bool false) ?_
      iterate 4 refine ns ?_
      refine np (.bool false) <| np (.bool false) <| np (.bool false) ?_;go_frame;refine wz cn2 ?_;clear cn2;refine wp_ret ?_;exact bt ⟨ret_b (show false = (callB h.c h.k h.v || (h.at_ == 0 && noneB h.c h.k h.v)) from by simp [noneB, clEq, Bool.and_assoc, hx1, hx2]), hM.below⟩
theorem impl_HandOk (h : HD) (w0 : World) :
    Calls Tryz.prog 68 #[h.val] w0 fun e w' => e = .returned (.bool (handB h)) ∧ Below w0.heap.size w0 w' := by
  unfold HD.val;have hM := Mem.start w0
  go_enter Tryz.func68, Tryz.ntmps68
  refine sr fun _ cn1 => ?_;refine nx hM 31 (HD.cells h) ?_;clear hM;intro g1 W1 hM;refine np (.bool false) ?_;go_frame;refine wz cn1 ?_;clear cn1;refine wp_seq_k fun Kn2 cn2 => ?_;rcases tf ((hdEq h (clampH h))) with hx1 | hx1
  · -- region 1, drawn: 8, then 1
    refine wp_region_vals 8 (fun f => ⟨#[.agg (HD.cells h).toArray, pt g1 0, .bool false, f 0, f 1, f 2, f 3, f 4, f 5, f 6, f 7], []⟩) [.agg (HD.cells h).toArray, .agg (HD.cells h).toArray, .agg (HD.cells (clampH h)).toArray, .bool true, .bool true, .agg (HD.cells h).toArray, .bool (callB h.c h.k h.v || (h.at_ == 0 && noneB h.c h.k h.v)), .bool (callB h.c h.k h.v || (h.at_ == 0 && noneB h.c h.k h.v))] (fun f w => Mem w0 w [(g1, 31, (HD.cells h))]) ⟨#[.agg (HD.cells h).toArray, pt g1 0, .bool false, .agg (HD.cells h).toArray, .agg (HD.cells h).toArray, .agg (HD.cells (clampH h)).toArray, .bool true, .bool true, .agg (HD.cells h).toArray, .bool (callB h.c h.k h.v || (h.at_ == 0 && noneB h.c h.k h.v)), .bool (callB h.c h.k h.v || (h.at_ == 0 && noneB h.c h.k h.v))], []⟩ (fun _ => undef) (by kernel_rfl) (by kernel_rfl) (by kernel_rfl) (by kernel_rfl) rfl (fun f => rfl) hM.drew ⟨
      step_same [] (.agg (HD.cells h).toArray) (by kernel_rfl) rfl (fun f => by kernel_rfl) (fun f w K hM hK => m_load hM 0 rfl 31 _ rfl rfl Tryz.underlying31 I_impl_Hand (hK)) (fun f => rfl) (fun f w h => h),
      step_same [] (.agg (HD.cells h).toArray) (by kernel_rfl) rfl (fun f => by kernel_rfl) (fun f w K hM hK => m_load hM 0 rfl 31 _ rfl rfl Tryz.underlying31 I_impl_Hand (hK)) (fun f => rfl) (fun f w h => h),
      step_call [1] (.agg (HD.cells (clampH h)).toArray) (by kernel_rfl) rfl (fun f => by kernel_rfl) (fun f w K hM hK => m_call 106 #[.agg (HD.cells h).toArray] (by kernel_rfl) (impl_withinLimits h _) (fun e w' hs => by obtain ⟨rfl, hb⟩ := hs; exact ⟨_, rfl, hK _ (Mem.call hM hb)⟩)) (fun f => rfl) (fun f w h => h),
      step_same [0, 2] (.bool true) (by kernel_rfl) rfl (fun f => by kernel_rfl) (fun f w K hM hK => m_pureB (b := (hdEq h (clampH h))) (hd_eql h (clampH h) rfl rfl rfl) (hx1) (hK)) (fun f => rfl) (fun f w h => h),
      step_same [2, 3] (.bool true) (by kernel_rfl) rfl (fun f => by kernel_rfl) (fun f w K hM hK => m_pure (.bool true) (by kernel_rfl) (hK)) (fun f => rfl) (fun f w h => h),
      step_same [4] (.agg (HD.cells h).toArray) (by kernel_rfl) rfl (fun f => by kernel_rfl) (fun f w K hM hK => m_load hM 0 rfl 31 _ rfl rfl Tryz.underlying31 I_impl_Hand (hK)) (fun f => rfl) (fun f w h => h),
      step_call [4, 5] (.bool (callB h.c h.k h.v || (h.at_ == 0 && noneB h.c h.k h.v))) (by kernel_rfl) rfl (fun f => by kernel_rfl) (fun f w K hM hK => m_call 107 #[.agg (HD.cells h).toArray] (by kernel_rfl) (impl_hasRightCall h _) (fun e w' hs => by obtain ⟨rfl, hb⟩ := hs; exact ⟨_, rfl, hK _ (Mem.call hM hb)⟩)) (fun f => rfl) (fun f w h => h),
      step_same [4, 6] (.bool (callB h.c h.k h.v || (h.at_ == 0 && noneB h.c h.k h.v))) (by kernel_rfl) rfl (fun f => by kernel_rfl) (fun f w K hM hK => m_pure (.bool (callB h.c h.k h.v || (h.at_ == 0 && noneB h.c h.k h.v))) (by kernel_rfl) (hK)) (fun f => rfl) (fun f w h => h),
      trivial⟩ ?_
    clear hM;intro f w' hM;clear f;refine WL.out ?_;simp only [List.drop_succ_cons, List.drop_zero];refine np (.bool (callB h.c h.k h.v || (h.at_ == 0 && noneB h.c h.k h.v))) ?_;go_frame;refine wz cn2 ?_;clear cn2;refine wp_ret ?_;exact bodyPost_ret (v := .bool (callB h.c h.k h.v || (h.at_ == 0 && noneB h.c h.k h.v))) (ret_tmp 2 rfl rfl) rfl ⟨ret_b (by first | exact (handB_no (by assumption)).symm | exact (handB_yes (by assumption)).symm), hM.below⟩
  · -- region 1, drawn: 8, then 1
    refine wp_region_vals 8 (fun f => ⟨#[.agg (HD.cells h).toArray, pt g1 0, .bool false, f 0, f 1, f 2, f 3, f 4, f 5, f 6, f 7], []⟩) [.agg (HD.cells h).toArray, .agg (HD.cells h).toArray, .agg (HD.cells (clampH h)).toArray, .bool false, .bool false, undef, undef, .bool false] (fun f w => Mem w0 w [(g1, 31, (HD.cells h))]) ⟨#[.agg (HD.cells h).toArray, pt g1 0, .bool false, .agg (HD.cells h).toArray, .agg (HD.cells h).toArray, .agg (HD.cells (clampH h)).toArray, .bool false, .bool false, undef, undef, .bool false], []⟩ (fun _ => undef) (by kernel_rfl) (by kernel_rfl) (by kernel_rfl) (by kernel_rfl) rfl (fun f => rfl) hM.drew ⟨
      step_same [] (.agg (HD.cells h).toArray) (by kernel_rfl) rfl (fun f => by kernel_rfl) (fun f w K hM hK => m_load hM 0 rfl 31 _ rfl rfl Tryz.underlying31 I_impl_Hand (hK)) (fun f => rfl) (fun f w h => h),
      step_same [] (.agg (HD.cells h).toArray) (by kernel_rfl) rfl (fun f => by kernel_rfl) (fun f w K hM hK => m_load hM 0 rfl 31 _ rfl rfl Tryz.underlying31 I_impl_Hand (hK)) (fun f => rfl) (fun f w h => h),
      step_call [1] (.agg (HD.cells (clampH h)).toArray) (by kernel_rfl) rfl (fun f => by kernel_rfl) (fun f w K hM hK => m_call 106 #[.agg (HD.cells h).toArray] (by kernel_rfl) (impl_withinLimits h _) (fun e w' hs => by obtain ⟨rfl, hb⟩ := hs; exact ⟨_, rfl, hK _ (Mem.call hM hb)⟩)) (fun f => rfl) (fun f w h => h),
      step_same [0, 2] (.bool false) (by kernel_rfl) rfl (fun f => by kernel_rfl) (fun f w K hM hK => m_pureB (b := (hdEq h (clampH h))) (hd_eql h (clampH h) rfl rfl rfl) (hx1) (hK)) (fun f => rfl) (fun f w h => h),
      step_same [2, 3] (.bool false) (by kernel_rfl) rfl (fun f => by kernel_rfl) (fun f w K hM hK => m_pure (.bool false) (by kernel_rfl) (hK)) (fun f => rfl) (fun f w h => h),
      step_none [4] undef (by kernel_rfl) rfl (fun f => by kernel_rfl) (fun f => rfl) (fun f w h => h),
      step_none [4, 5] undef (by kernel_rfl) rfl (fun f => by kernel_rfl) (fun f => rfl) (fun f w h => h),
      step_same [4, 6] (.bool false) (by kernel_rfl) rfl (fun f => by kernel_rfl) (fun f w K hM hK => m_pure (.bool false) (by kernel_rfl) (hK)) (fun f => rfl) (fun f w h => h),
      trivial⟩ ?_
    clear hM;intro f w' hM;clear f;refine WL.out ?_;simp only [List.drop_succ_cons, List.drop_zero];refine np (.bool false) ?_;go_frame;refine wz cn2 ?_;clear cn2;refine wp_ret ?_;exact bodyPost_ret (v := .bool false) (ret_tmp 2 rfl rfl) rfl ⟨ret_b (by first | exact (handB_no (by assumption)).symm | exact (handB_yes (by assumption)).symm), hM.below⟩
end Go.Proofs.YthkbmdhcpandmaaGreat
