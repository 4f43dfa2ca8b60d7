import Derived.Laws.StructEq
import Derived.Deep.QuietTactic
import Derived.BigQuiet
import Derived.Test.YtfjafncipjdnfaaGreatHand2
namespace Go.Proofs.YtfjafncipjdnfaaGreat
open Go.ChangeShapes Go.WideShapes Go.ChangeAt Go.RowKit
set_option linter.unusedVariables false
set_option linter.unusedSimpArgs false
def TH (a b : HD) : Bool := a.at_ == b.at_ && ((a.c == b.c && (a.k == b.k && (a.v == b.v && true))) && (a.prev == b.prev && (a.cur == b.cur && (a.side == b.side && (a.tag == b.tag && (a.up == b.up && (a.next == b.next && (a.new == b.new && (a.index == b.index && (a.seen == b.seen && (a.again == b.again && (a.begin_ == b.begin_ && (a.reply == b.reply && (a.out == b.out && true))))))))))))))
def jL (a b c d e f : Int) : Bool := a == d && (b == e && (c == f && true))
theorem ZN (a : HD) : TH a a = true := by simp [TH]
section
variable {P : Program} {w : World}
theorem eqf_nil (d : Nat) (xs ys : Array Value) : (Op.eqFields d xs ys []).run P w = .ok true w := by simp [Op.eqFields]
theorem eqf_cons {d : Nat} {xs ys : Array Value} {f : Field} {fs : List Field} {a b : Value} {r s : Bool} (hn : f.name ≠ "_") (ha : (part f.type xs f.offset).run P w = .ok a w) (hb : (part f.type ys f.offset).run P w = .ok b w)
    (he : (Op.equalIn d f.type a b).run P w = .ok r w) (hr : (Op.eqFields d xs ys fs).run P w = .ok s w) : (Op.eqFields d xs ys (f :: fs)).run P w = .ok (r && s) w := by
  rw [Op.eqFields, if_pos hn]
  simp only [Sem.run_bind, ha, hb, he, Result.andThen_ok]
  cases r
  · simp
  · simpa using hr
end
theorem nN (d : Nat) (w : World) (a b c a' b' c' : Int) : (Op.equalIn (d + 2) 43 (.agg #[iJ a, iJ b, iJ c]) (.agg #[iJ a', iJ b', iJ c'])).run Tryz.prog w = .ok (a == a' && (b == b' && (c == c' && true))) w := by
  rw [run_equalIn_struct w (d + 1) 43 _ _ (by kernel_rfl) (by kernel_rfl)]
  simp only [Program.fieldsOf, DB]
  exact eqf_cons (by decide) (by kernel_rfl) (by kernel_rfl) (run_equalIn_int _ _ _ .i64 .i64 _ _ bA) (eqf_cons (by decide) (by kernel_rfl) (by kernel_rfl) (run_equalIn_int _ _ _ .i64 .i64 _ _ bA) (eqf_cons (by decide) (by kernel_rfl) (by kernel_rfl) (run_equalIn_int _ _ _ .i64 .i64 _ _ bA) (eqf_nil _ _ _)))
theorem jN (d : Nat) (w : World) (a b : HD) : (Op.equalIn (d + 3) 45 a.val b.val).run Tryz.prog w = .ok (TH a b) w := by
  rw [HD.val, HD.val, run_equalIn_struct w (d + 2) 45 _ _ (by kernel_rfl) (by kernel_rfl)]
  simp only [Program.fieldsOf, dA]
  exact eqf_cons (by decide) (by kernel_rfl) (by kernel_rfl) (run_equalIn_int _ _ _ .i64 .i64 _ _ bA) (eqf_cons (by decide) (by kernel_rfl) (by kernel_rfl) (nN _ _ _ _ _ _ _ _) (eqf_cons (by decide) (by kernel_rfl) (by kernel_rfl) (run_equalIn_int _ _ _ .i64 .i64 _ _ bA) (eqf_cons (by decide) (by kernel_rfl) (by kernel_rfl) (run_equalIn_int _ _ _ .i64 .i64 _ _ bA) (eqf_cons (by decide) (by kernel_rfl) (by kernel_rfl) (run_equalIn_int _ _ _ .i64 .i64 _ _ bA) (eqf_cons (by decide) (by kernel_rfl) (by kernel_rfl) (run_equalIn_int _ _ _ .i64 .i64 _ _ bA) (eqf_cons (by decide) (by kernel_rfl) (by kernel_rfl) (run_equalIn_int _ _ _ .i64 .i64 _ _ bA) (eqf_cons (by decide) (by kernel_rfl) (by kernel_rfl) (run_equalIn_int _ _ _ .i64 .i64 _ _ bA) (eqf_cons (by decide) (by kernel_rfl) (by kernel_rfl) (run_equalIn_int _ _ _ .i64 .i64 _ _ bA) (eqf_cons (by decide) (by kernel_rfl) (by kernel_rfl) (run_equalIn_int _ _ _ .i64 .i64 _ _ bA) (eqf_cons (by decide) (by kernel_rfl) (by kernel_rfl) (run_equalIn_int _ _ _ .i64 .i64 _ _ bA) (eqf_cons (by decide) (by kernel_rfl) (by kernel_rfl) (run_equalIn_bool' _ _ _ _ _ eD) (eqf_cons (by decide) (by kernel_rfl) (by kernel_rfl) (run_equalIn_int _ _ _ .i64 .i64 _ _ bA) (eqf_cons (by decide) (by kernel_rfl) (by kernel_rfl) (run_equalIn_int _ _ _ .i64 .i64 _ _ bA) (eqf_cons (by decide) (by kernel_rfl) (by kernel_rfl) (run_equalIn_int _ _ _ .i64 .i64 _ _ bA) (eqf_nil _ _ _)))))))))))))))
theorem mQ {f : Operand → Value} {o : Oper} {w : World} {T' : TypeId} {x y : Operand} (a b c a' b' c' : Int) (ho : o.op = .binOp .eql 43 x y T') (hx : f x = .agg #[iJ a, iJ b, iJ c]) (hy : f y = .agg #[iJ a', iJ b', iJ c']) : (execOp f o).run Tryz.prog w = .ok (.value (.bool (jL a b c a' b' c'))) w := by
  have h := nN 9998 w a b c a' b' c'
  have hg : Tryz.prog.eqGuardType Tryz.prog.depth 43 = false := by kernel_rfl
  unfold execOp
  simp only [ho, hx, hy, Sem.run_bind, run_eqGuard_agg w .eql 43 x y _ _ hg, Result.andThen_ok, run_eql_struct]
  rw [show Op.equalIn 10000 43 (.agg #[iJ a, iJ b, iJ c]) (.agg #[iJ a', iJ b', iJ c']) = Op.equalIn (9998 + 2) 43 (.agg #[iJ a, iJ b, iJ c]) (.agg #[iJ a', iJ b', iJ c']) from rfl, h]
  rfl
theorem OO {f : Operand → Value} {o : Oper} {w : World} {T' : TypeId} {x y : Operand} (a b : HD) (ho : o.op = .binOp .eql 45 x y T') (hx : f x = .agg a.cells.toArray) (hy : f y = .agg b.cells.toArray) : (execOp f o).run Tryz.prog w = .ok (.value (.bool (TH a b))) w := by
  have h := jN 9997 w a b
  have hg : Tryz.prog.eqGuardType Tryz.prog.depth 45 = false := by kernel_rfl
  unfold execOp
  simp only [ho, hx, hy, Sem.run_bind, run_eqGuard_agg w .eql 45 x y _ _ hg, Result.andThen_ok, run_eql_struct]
  rw [show Op.equalIn 10000 45 (.agg a.cells.toArray) (.agg b.cells.toArray) = Op.equalIn (9997 + 3) 45 a.val b.val from rfl, h]
  rfl
theorem kQ {f : Operand → Value} {o : Oper} {w : World} {T' : TypeId} {x y : Operand} (a b : HD) (ho : o.op = .binOp .neq 45 x y T') (hx : f x = .agg a.cells.toArray) (hy : f y = .agg b.cells.toArray) : (execOp f o).run Tryz.prog w = .ok (.value (.bool (!(TH a b)))) w := by
  have h := jN 9997 w a b
  have hg : Tryz.prog.eqGuardType Tryz.prog.depth 45 = false := by kernel_rfl
  unfold execOp
  simp only [ho, hx, hy, Sem.run_bind, run_eqGuard_agg w .neq 45 x y _ _ hg, Result.andThen_ok, run_neq_struct]
  rw [show Op.equalIn 10000 45 (.agg a.cells.toArray) (.agg b.cells.toArray) = Op.equalIn (9997 + 3) 45 a.val b.val from rfl, h]
  rfl
def lI (c : Int) : Int := if c = 2 then 999 else 0
theorem LM (c k v : Int) : IB c k v = (aB c 1 3 && aB k 0 99 && aB v 0 (lI c)) := by
  unfold IB lI
  by_cases h : c = 2
  · simp [h]
  · simp only [h, if_false]
    congr 1
    by_cases hv : v = 0
    · simp [hv, aB]
    · have : aB v 0 0 = false := by simp [aB]; omega
      rw [this]
      simpa using hv
set_option maxHeartbeats 1000000 in
theorem YK (c : Int) (w : World) :
    Calls Tryz.prog 152 #[iJ c] w fun e w' => e = .returned (.bool (aB c 1 3)) ∧ w = w' := by
  go_enter Tryz.func152, Tryz.ntmps152
  go_wp2_with fail
  refine (YB _ _ _ _).mono ?_
  rintro e w1 ⟨rfl, rfl⟩
  go_wp2
  go_ret
  exact ⟨rfl, rfl⟩
set_option maxHeartbeats 1000000 in
theorem nF (c : Int) (w : World) :
    Calls Tryz.prog 153 #[iJ c] w fun e w' => e = .returned (iJ (lI c)) ∧ w = w' := by
  by_cases h : c = 2
  · subst h
    go_enter Tryz.func153, Tryz.ntmps153
    go_wp2
    go_ret
    exact ⟨rfl, rfl⟩
  · have e : lI c = 0 := by simp [lI, h]
    rw [e]
    go_enter Tryz.func153, Tryz.ntmps153
    go_wp2
    go_ret
    exact ⟨rfl, rfl⟩
set_option maxHeartbeats 1000000 in
theorem bL (c k v : Int) (w : World) :
    Calls Tryz.prog 147 #[.agg #[iJ c, iJ k, iJ v]] w fun e w' => e = .returned (.agg #[iJ c, iJ k, iJ v]) ∧ Below w.heap.size w w' := by
  go_enter Tryz.func147, Tryz.ntmps147
  go_wp2
  exact bodyPost_ret (v := .agg #[iJ c, iJ k, iJ v]) (by simp [results, Tryz.results147, go_sem]) rfl ⟨rfl, by repeat (first | exact Below.refl _ _ | refine Below.alloc ?_ (by simp) _ | refine Below.setCell ?_ (by simp) _)⟩
theorem NM {B : Nat} {a w : World} (h : Below B a w) (n : Nat) : Below B a (w.drewN n) := h.trans ⟨rfl, rfl, rfl, Nat.le_refl _, fun _ _ => rfl⟩
theorem IC {f : FuncId} {args : Array Value} {w : World} {n : Nat} {v : Value} (h : Calls Tryz.prog f args (w.drewN n) fun e w' => e = .returned v ∧ w.drewN n = w') : Calls Tryz.prog f args (w.drewN n) fun e w'' => e = .returned v ∧ ∃ m, w'' = w.drewN m :=
  Calls.quiet_of_same (h.mono fun _ _ ⟨a, b⟩ => ⟨a, b.symm⟩)
set_option maxHeartbeats 1000000 in
theorem PJ (c k v : Int) (w : World) :
    Calls Tryz.prog 148 #[.agg #[iJ c, iJ k, iJ v]] w fun e w' => e = .returned (.bool (aB c 1 3 && aB k 0 99 && aB v 0 (lI c))) ∧ Below w.heap.size w w' := by
  have C0 := fun w => YK c w
  have C1 := fun w => YB k 0 99 w
  have C2 := fun w => YB v 0 (lI c) w
  generalize aB c 1 3 = t0 at C0 ⊢
  generalize aB k 0 99 = t1 at C1 ⊢
  generalize aB v 0 (lI c) = t2 at C2 ⊢
  cases t0
  · go_enter Tryz.func148, Tryz.ntmps148
    go_wp2
    go_quiet (first | (go_at_call 152; refine IC (C0 _)) | (go_at_call 153; refine IC (nF _ _)) | (go_at_call 83; first | (with_reducible exact IC (C1 _)) | (with_reducible exact IC (C2 _))))
    go_wp2
    go_ret
    exact ⟨rfl, NM ((Below.refl _ _).alloc (Nat.le_refl _) _) _⟩
  · cases t1
    · go_enter Tryz.func148, Tryz.ntmps148
      go_wp2
      go_quiet (first | (go_at_call 152; refine IC (C0 _)) | (go_at_call 153; refine IC (nF _ _)) | (go_at_call 83; first | (with_reducible exact IC (C1 _)) | (with_reducible exact IC (C2 _))))
      go_wp2
      go_ret
      exact ⟨rfl, NM ((Below.refl _ _).alloc (Nat.le_refl _) _) _⟩
    · go_enter Tryz.func148, Tryz.ntmps148
      go_wp2
      go_quiet (first | (go_at_call 152; refine IC (C0 _)) | (go_at_call 153; refine IC (nF _ _)) | (go_at_call 83; first | (with_reducible exact IC (C1 _)) | (with_reducible exact IC (C2 _))))
      go_wp2
      go_ret
      exact ⟨rfl, NM ((Below.refl _ _).alloc (Nat.le_refl _) _) _⟩
theorem XK (c k v : Int) (w : World) :
    Calls Tryz.prog 148 #[.agg #[iJ c, iJ k, iJ v]] w fun e w' => e = .returned (.bool (IB c k v)) ∧ Below w.heap.size w w' := by
  rw [LM]
  exact PJ c k v w
set_option maxHeartbeats 1000000 in
theorem tG (c k v : Int) (w : World) :
    Calls Tryz.prog 123 #[.agg #[iJ c, iJ k, iJ v]] w fun e w' => e = .returned (.bool (IB c k v)) ∧ Below w.heap.size w w' := by
  go_enter Tryz.func123, Tryz.ntmps123
  go_wp2_with fail
  refine (bL _ _ _ _).mono ?_
  rintro e w1 ⟨rfl, hB1⟩
  go_wp2_with fail
  refine (XK _ _ _ _).mono ?_
  rintro e w2 ⟨rfl, hB2⟩
  go_wp2
  go_ret
  have s1 := hB1.size
  simp at s1
  exact ⟨rfl, (((Below.refl _ _).alloc (Nat.le_refl _) _).trans (hB1.mono (by simp))).trans (hB2.mono (by omega))⟩
set_option maxRecDepth 100000
set_option maxHeartbeats 16000000
def fB (n lo hi : Int) : Int := min (max n lo) hi
theorem TD {n lo hi : Int} (h : lo ≤ hi) : (n == fB n lo hi) = aB n lo hi := by
  unfold fB aB;rw [Bool.eq_iff_iff];simp only [beq_iff_eq, Bool.and_eq_true, decide_eq_true_eq]
  omega
def KD (h : HD) : HD := { h with at_ := fB h.at_ 0 26, prev := fB h.prev 0 29, cur := fB h.cur 0 29, side := fB h.side 0 1, tag := fB h.tag 0 10000, up := fB h.up 0 29, next := fB h.next 0 29, new := fB h.new 0 29, index := fB h.index 0 6, seen := fB h.seen (-1) 100000, begin_ := fB h.begin_ 0 20000, reply := fB h.reply 0 3, out := fB h.out 0 999 }
theorem pI (h : HD) : (TH h (KD h) && (IB h.c h.k h.v || (h.at_ == 0 && kD h.c h.k h.v))) = TA h := by
  simp only [TH, KD, TD (n := h.at_) (lo := 0) (hi := 26) (by omega), TD (lo := 0) (hi := 29) (by omega), TD (lo := 0) (hi := 1) (by omega), TD (lo := 0) (hi := 10000) (by omega), TD (lo := 0) (hi := 6) (by omega), TD (lo := -1) (hi := 100000) (by omega), TD (lo := 0) (hi := 20000) (by omega), TD (lo := 0) (hi := 3) (by omega), TD (lo := 0) (hi := 999) (by omega), beq_self_eq_true, Bool.and_true, Bool.true_and, TA, gE, TF, BD, List.all_cons, List.all_nil];rw [Bool.eq_iff_iff];simp only [Bool.and_eq_true, Bool.or_eq_true]
  constructor
  · intro hh
    simp_all
  · intro hh
    simp_all
theorem ZL {h : HD} (e : TH h (KD h) = false) : TA h = false := by rw [← pI, e]; rfl
theorem jK {h : HD} (e : TH h (KD h) = true) : TA h = (IB h.c h.k h.v || (h.at_ == 0 && kD h.c h.k h.v)) := by rw [← pI, e]; rfl
theorem xD (n lo hi : Int) (w : World) :
    Calls Tryz.prog 121 #[iJ n, iJ lo, iJ hi] w fun e w' => e = .returned (iJ (fB n lo hi)) ∧ w = w' := by
  go_enter Tryz.func121, Tryz.ntmps121
  go_wp2
  go_ret
  exact ⟨rfl, rfl⟩
theorem qD (n : Int) (w : World) :
    Calls Tryz.prog 122 #[iJ n] w fun e w' => e = .returned (iJ (fB n 0 29)) ∧ w = w' := by
  go_enter Tryz.func122, Tryz.ntmps122
  go_wp2_with fail
  refine (xD _ _ _ _).mono ?_;rintro e w1 ⟨rfl, rfl⟩
  go_wp2
  go_ret
  exact ⟨rfl, rfl⟩
theorem tF (h : HD) (w0 : World) :
    Calls Tryz.prog 77 #[h.val] w0 fun e w' => e = .returned (KD h).val ∧ Below w0.heap.size w0 w' := by
  unfold HD.val;have hM := Mem.start w0
  go_enter Tryz.func77, Tryz.ntmps77
  refine sr fun _ cn1 => ?_;refine nx hM 45 (HD.cells h) ?_;clear hM;intro g1 W1 hM;refine na hM (HD.cells HD.zero) nA ?_;clear hM;intro g2 W2 hM;go_frame;refine wz cn1 ?_;clear cn1;refine sr fun _ cn2 => ?_;refine np (pt g1 0) <| ng hM 1 rfl 0 bA rfl ?_;refine nc (xD h.at_ 0 26 _) ?_;rintro e W3 ⟨rfl, rfl⟩;refine ⟨_, rfl, ?_⟩;go_frame;refine np (pt g1 0) ?_;refine nk hM 1 rfl 0 (iJ (fB h.at_ 0 26)) xA (by simp [HD.cells, oA]) ?_;clear hM;intro W4 hM;refine wz cn2 ?_;clear cn2;refine sr fun _ cn3 => ?_;refine np (pt g1 4) <| ng hM 1 rfl 4 bA rfl ?_;refine nc (qD h.prev _) ?_;rintro e W5 ⟨rfl, rfl⟩;refine ⟨_, rfl, ?_⟩;go_frame;refine np (pt g1 4) ?_;refine nk hM 1 rfl 4 (iJ (fB h.prev 0 29)) xA (by simp [HD.cells, oA]) ?_;clear hM;intro W6 hM;refine wz cn3 ?_;clear cn3;refine sr fun _ cn4 => ?_;refine np (pt g1 5) <| ng hM 1 rfl 5 bA rfl ?_;refine nc (qD h.cur _) ?_;rintro e W7 ⟨rfl, rfl⟩;refine ⟨_, rfl, ?_⟩;go_frame;refine np (pt g1 5) ?_;refine nk hM 1 rfl 5 (iJ (fB h.cur 0 29)) xA (by simp [HD.cells, oA]) ?_;clear hM;intro W8 hM;refine wz cn4 ?_;clear cn4;refine sr fun _ cn5 => ?_;refine np (pt g1 6) <| ng hM 1 rfl 6 bA rfl ?_;refine nc (xD h.side 0 1 _) ?_;rintro e W9 ⟨rfl, rfl⟩;refine ⟨_, rfl, ?_⟩;go_frame;refine np (pt g1 6) ?_;refine nk hM 1 rfl 6 (iJ (fB h.side 0 1)) xA (by simp [HD.cells, oA]) ?_;clear hM;intro W10 hM;refine wz cn5 ?_;clear cn5;refine sr fun _ cn6 => ?_;refine np (pt g1 7) <| ng hM 1 rfl 7 bA rfl ?_;refine nc (xD h.tag 0 10000 _) ?_;rintro e W11 ⟨rfl, rfl⟩;refine ⟨_, rfl, ?_⟩;go_frame;refine np (pt g1 7) ?_;refine nk hM 1 rfl 7 (iJ (fB h.tag 0 10000)) xA (by simp [HD.cells, oA]) ?_;clear hM;intro W12 hM;refine wz cn6 ?_;clear cn6;refine sr fun _ cn7 => ?_;refine np (pt g1 8) <| ng hM 1 rfl 8 bA rfl ?_;refine nc (qD h.up _) ?_;rintro e W13 ⟨rfl, rfl⟩;refine ⟨_, rfl, ?_⟩;go_frame;refine np (pt g1 8) ?_;refine nk hM 1 rfl 8 (iJ (fB h.up 0 29)) xA (by simp [HD.cells, oA]) ?_;clear hM;intro W14 hM;refine wz cn7 ?_;clear cn7;refine sr fun _ cn8 => ?_;refine np (pt g1 9) <| ng hM 1 rfl 9 bA rfl ?_;refine nc (qD h.next _) ?_;rintro e W15 ⟨rfl, rfl⟩;refine ⟨_, rfl, ?_⟩;go_frame;refine np (pt g1 9) ?_;refine nk hM 1 rfl 9 (iJ (fB h.next 0 29)) xA (by simp [HD.cells, oA]) ?_;clear hM;intro W16 hM;refine wz cn8 ?_;clear cn8;refine sr fun _ cn9 => ?_;refine np (pt g1 10) <| ng hM 1 rfl 10 bA rfl ?_;refine nc (qD h.new _) ?_;rintro e W17 ⟨rfl, rfl⟩;refine ⟨_, rfl, ?_⟩;go_frame;refine np (pt g1 10) ?_;refine nk hM 1 rfl 10 (iJ (fB h.new 0 29)) xA (by simp [HD.cells, oA]) ?_;clear hM;intro W18 hM;refine wz cn9 ?_;clear cn9;refine sr fun _ cn10 => ?_;refine np (pt g1 11) <| ng hM 1 rfl 11 bA rfl ?_;refine nc (xD h.index 0 6 _) ?_;rintro e W19 ⟨rfl, rfl⟩;refine ⟨_, rfl, ?_⟩;go_frame;refine np (pt g1 11) ?_;refine nk hM 1 rfl 11 (iJ (fB h.index 0 6)) xA (by simp [HD.cells, oA]) ?_;clear hM;intro W20 hM;refine wz cn10 ?_;clear cn10;refine sr fun _ cn11 => ?_;refine np (pt g1 12) <| ng hM 1 rfl 12 bA rfl ?_;refine nc (xD h.seen (-1) 100000 _) ?_;rintro e W21 ⟨rfl, rfl⟩;refine ⟨_, rfl, ?_⟩;go_frame;refine np (pt g1 12) ?_;refine nk hM 1 rfl 12 (iJ (fB h.seen (-1) 100000)) xA (by simp [HD.cells, oA]) ?_;clear hM;intro W22 hM;refine wz cn11 ?_;clear cn11;refine sr fun _ cn12 => ?_;refine np (pt g1 14) <| ng hM 1 rfl 14 bA rfl ?_;refine nc (xD h.begin_ 0 20000 _) ?_;rintro e W23 ⟨rfl, rfl⟩;refine ⟨_, rfl, ?_⟩;go_frame;refine np (pt g1 14) ?_;refine nk hM 1 rfl 14 (iJ (fB h.begin_ 0 20000)) xA (by simp [HD.cells, oA]) ?_
  clear hM;intro W24 hM;refine wz cn12 ?_;clear cn12;refine sr fun _ cn13 => ?_;refine np (pt g1 15) <| ng hM 1 rfl 15 bA rfl ?_;refine nc (xD h.reply 0 3 _) ?_;rintro e W25 ⟨rfl, rfl⟩;refine ⟨_, rfl, ?_⟩;go_frame;refine np (pt g1 15) ?_;refine nk hM 1 rfl 15 (iJ (fB h.reply 0 3)) xA (by simp [HD.cells, oA]) ?_;clear hM;intro W26 hM;refine wz cn13 ?_;clear cn13;refine sr fun _ cn14 => ?_;refine np (pt g1 16) <| ng hM 1 rfl 16 bA rfl ?_;refine nc (xD h.out 0 999 _) ?_;rintro e W27 ⟨rfl, rfl⟩;refine ⟨_, rfl, ?_⟩;go_frame;refine np (pt g1 16) ?_;refine nk hM 1 rfl 16 (iJ (fB h.out 0 999)) xA (by simp [HD.cells, oA]) ?_;clear hM;intro W28 hM;refine wz cn14 ?_;clear cn14;refine sr fun _ cn15 => ?_;refine nl hM 1 rfl dA aA ?_;refine nS hM 0 rfl (HD.cells { h with at_ := (fB h.at_ 0 26), prev := (fB h.prev 0 29), cur := (fB h.cur 0 29), side := (fB h.side 0 1), tag := (fB h.tag 0 10000), up := (fB h.up 0 29), next := (fB h.next 0 29), new := (fB h.new 0 29), index := (fB h.index 0 6), seen := (fB h.seen (-1) 100000), begin_ := (fB h.begin_ 0 20000), reply := (fB h.reply 0 3), out := (fB h.out 0 999) }) aA (iA _) ?_;clear hM;intro W29 hM;refine wz cn15 ?_;clear cn15;refine wp_ret ?_;exact bodyPost_ret (lB rfl hM 0 rfl rfl dA aA) rfl ⟨congrArg (fun z => Ending.returned (Value.agg (HD.cells z).toArray)) (show { h with at_ := (fB h.at_ 0 26), prev := (fB h.prev 0 29), cur := (fB h.cur 0 29), side := (fB h.side 0 1), tag := (fB h.tag 0 10000), up := (fB h.up 0 29), next := (fB h.next 0 29), new := (fB h.new 0 29), index := (fB h.index 0 6), seen := (fB h.seen (-1) 100000), begin_ := (fB h.begin_ 0 20000), reply := (fB h.reply 0 3), out := (fB h.out 0 999) } = KD h from by simp [KD]), hM.below⟩
theorem RF (r o : Int) (w0 : World) :
    Calls Tryz.prog 137 #[iJ r, iJ o] w0 fun e w' => e = .returned (FA r o).val ∧ Below w0.heap.size w0 w' := by
  unfold HD.val;have hM := Mem.start w0
  go_enter Tryz.func137, Tryz.ntmps137
  refine sr fun _ cn1 => ?_;refine na hM (HD.cells HD.zero) nA ?_;clear hM;intro g1 W1 hM;go_frame;refine wz cn1 ?_;clear cn1;refine sr fun _ cn2 => ?_;refine np (iJ r) <| np (iJ o) <| np (.agg (HD.cells { HD.zero with seen := (-1), reply := r, out := o }).toArray) ?_;refine nS hM 0 rfl (HD.cells { HD.zero with seen := (-1), reply := r, out := o }) aA (iA _) ?_;clear hM;intro W2 hM;refine wz cn2 ?_;clear cn2;refine wp_ret ?_;exact bodyPost_ret (lB rfl hM 0 rfl rfl dA aA) rfl ⟨congrArg (fun z => Ending.returned (Value.agg (HD.cells z).toArray)) (show { HD.zero with seen := (-1), reply := r, out := o } = FA r o from by simp [FA, HD.zero]), hM.below⟩
theorem AH (h : HD) (w0 : World) :
    Calls Tryz.prog 78 #[h.val] w0 fun e w' => e = .returned (.bool (IB h.c h.k h.v || (h.at_ == 0 && kD h.c h.k h.v))) ∧ Below w0.heap.size w0 w' := by
  unfold HD.val;have hM := Mem.start w0
  go_enter Tryz.func78, Tryz.ntmps78
  refine sr fun _ cn1 => ?_;refine nx hM 45 (HD.cells h) ?_;clear hM;intro g1 W1 hM;refine np (.bool false) ?_;go_frame;refine wz cn1 ?_;clear cn1;refine wp_seq_k fun Kn2 cn2 => ?_;rcases tf ((IB h.c h.k h.v)) with hx1 | hx1
  · refine uA ?_
    refine np (pt g1 1) ?_;go_frame;refine uC (by kernel_rfl) hM 0 rfl 43 _ rfl 1 rfl DB [iJ h.c, iJ h.k, iJ h.v] JB rfl ?_;go_frame;refine nc (tG h.c h.k h.v _) ?_;rintro e W2 ⟨rfl, hb⟩;refine ⟨.bool true, rb hx1, ?_⟩;replace hM := hM.call hb;go_frame;refine np (.bool true) ?_
    iterate 9 refine ns ?_
    refine np (.bool true) <| np (.bool true) ?_;go_frame;refine wz cn2 ?_;clear cn2;refine wp_ret ?_;exact bt ⟨aC (show true = (IB h.c h.k h.v || (h.at_ == 0 && kD h.c h.k h.v)) from by simp [kD, jL, Bool.and_assoc, hx1]), hM.below⟩
  · rcases tf ((h.at_ == 0)) with hx2 | hx2
    · refine uA ?_
      refine np (pt g1 1) ?_;go_frame;refine uC (by kernel_rfl) hM 0 rfl 43 _ rfl 1 rfl DB [iJ h.c, iJ h.k, iJ h.v] JB rfl ?_;go_frame;refine nc (tG h.c h.k h.v _) ?_;rintro e W2 ⟨rfl, hb⟩;refine ⟨.bool false, rb hx1, ?_⟩;replace hM := hM.call hb;go_frame;refine np (.bool false) <| np (pt g1 0) <| ng hM 0 rfl 0 bA rfl <| nB (hx2) <| np (.bool true) <| np (pt g1 1) ?_;go_frame;refine uC (by kernel_rfl) hM 0 rfl 43 _ rfl 1 rfl DB [iJ h.c, iJ h.k, iJ h.v] JB rfl ?_;go_frame;refine np (.agg #[iJ 0, iJ 0, iJ 0]) ?_;go_frame;refine pK (by kernel_rfl) (.bool (jL h.c h.k h.v 0 0 0)) (mQ h.c h.k h.v 0 0 0 rfl rfl rfl) ?_;go_frame;refine np (.bool (jL h.c h.k h.v 0 0 0)) <| np (.bool (jL h.c h.k h.v 0 0 0)) <| np (.bool (jL h.c h.k h.v 0 0 0)) ?_;go_frame;refine wz cn2 ?_;clear cn2;refine wp_ret ?_;exact bt ⟨aC (show (jL h.c h.k h.v 0 0 0) = (IB h.c h.k h.v || (h.at_ == 0 && kD h.c h.k h.v)) from by simp [kD, jL, Bool.and_assoc, hx1, hx2]), hM.below⟩
    · refine uA ?_
      refine np (pt g1 1) ?_;go_frame;refine uC (by kernel_rfl) hM 0 rfl 43 _ rfl 1 rfl DB [iJ h.c, iJ h.k, iJ h.v] JB rfl ?_;go_frame;refine nc (tG h.c h.k h.v _) ?_;rintro e W2 ⟨rfl, hb⟩;refine ⟨.bool false, rb hx1, ?_⟩;replace hM := hM.call hb;go_frame;refine np (.bool false) <| np (pt g1 0) <| ng hM 0 rfl 0 bA rfl <| nB (hx2) <| np (.bool false) ?_
      iterate 4 refine ns ?_
      refine np (.bool false) <| np (.bool false) <| np (.bool false) ?_;go_frame;refine wz cn2 ?_;clear cn2;refine wp_ret ?_;exact bt ⟨aC (show false = (IB h.c h.k h.v || (h.at_ == 0 && kD h.c h.k h.v)) from by simp [kD, jL, Bool.and_assoc, hx1, hx2]), hM.below⟩
theorem oI (h : HD) (w0 : World) :
    Calls Tryz.prog 37 #[h.val] w0 fun e w' => e = .returned (.bool (TA h)) ∧ Below w0.heap.size w0 w' := by
  unfold HD.val;have hM := Mem.start w0
  go_enter Tryz.func37, Tryz.ntmps37
  refine sr fun _ cn1 => ?_;refine nx hM 45 (HD.cells h) ?_;clear hM;intro g1 W1 hM;refine np (.bool false) ?_;go_frame;refine wz cn1 ?_;clear cn1;refine wp_seq_k fun Kn2 cn2 => ?_;rcases tf ((TH h (KD h))) with hx1 | hx1
  · -- region 1, drawn: 8, then 1
    refine cG 8 (fun f => ⟨#[.agg (HD.cells h).toArray, pt g1 0, .bool false, f 0, f 1, f 2, f 3, f 4, f 5, f 6, f 7], []⟩) [.agg (HD.cells h).toArray, .agg (HD.cells h).toArray, .agg (HD.cells (KD h)).toArray, .bool true, .bool true, .agg (HD.cells h).toArray, .bool (IB h.c h.k h.v || (h.at_ == 0 && kD h.c h.k h.v)), .bool (IB h.c h.k h.v || (h.at_ == 0 && kD h.c h.k h.v))] (fun f w => Mem w0 w [(g1, 45, (HD.cells h))]) ⟨#[.agg (HD.cells h).toArray, pt g1 0, .bool false, .agg (HD.cells h).toArray, .agg (HD.cells h).toArray, .agg (HD.cells (KD h)).toArray, .bool true, .bool true, .agg (HD.cells h).toArray, .bool (IB h.c h.k h.v || (h.at_ == 0 && kD h.c h.k h.v)), .bool (IB h.c h.k h.v || (h.at_ == 0 && kD h.c h.k h.v))], []⟩ (fun _ => undef) (by kernel_rfl) (by kernel_rfl) (by kernel_rfl) (by kernel_rfl) rfl (fun f => rfl) hM.drew ⟨
      mD [] (.agg (HD.cells h).toArray) (by kernel_rfl) rfl (fun f => by kernel_rfl) (fun f w K hM hK => RH hM 0 rfl 45 _ rfl rfl dA aA (hK)) (fun f => rfl) (fun f w h => h),
      mD [] (.agg (HD.cells h).toArray) (by kernel_rfl) rfl (fun f => by kernel_rfl) (fun f w K hM hK => RH hM 0 rfl 45 _ rfl rfl dA aA (hK)) (fun f => rfl) (fun f w h => h),
      KH [1] (.agg (HD.cells (KD h)).toArray) (by kernel_rfl) rfl (fun f => by kernel_rfl) (fun f w K hM hK => QF 77 #[.agg (HD.cells h).toArray] (by kernel_rfl) (tF h _) (fun e w' hs => by obtain ⟨rfl, hb⟩ := hs; exact ⟨_, rfl, hK _ (Mem.call hM hb)⟩)) (fun f => rfl) (fun f w h => h),
      mD [0, 2] (.bool true) (by kernel_rfl) rfl (fun f => by kernel_rfl) (fun f w K hM hK => TK (b := (TH h (KD h))) (OO h (KD h) rfl rfl rfl) (hx1) (hK)) (fun f => rfl) (fun f w h => h),
      mD [2, 3] (.bool true) (by kernel_rfl) rfl (fun f => by kernel_rfl) (fun f w K hM hK => XD (.bool true) (by kernel_rfl) (hK)) (fun f => rfl) (fun f w h => h),
      mD [4] (.agg (HD.cells h).toArray) (by kernel_rfl) rfl (fun f => by kernel_rfl) (fun f w K hM hK => RH hM 0 rfl 45 _ rfl rfl dA aA (hK)) (fun f => rfl) (fun f w h => h),
      KH [4, 5] (.bool (IB h.c h.k h.v || (h.at_ == 0 && kD h.c h.k h.v))) (by kernel_rfl) rfl (fun f => by kernel_rfl) (fun f w K hM hK => QF 78 #[.agg (HD.cells h).toArray] (by kernel_rfl) (AH h _) (fun e w' hs => by obtain ⟨rfl, hb⟩ := hs; exact ⟨_, rfl, hK _ (Mem.call hM hb)⟩)) (fun f => rfl) (fun f w h => h),
      mD [4, 6] (.bool (IB h.c h.k h.v || (h.at_ == 0 && kD h.c h.k h.v))) (by kernel_rfl) rfl (fun f => by kernel_rfl) (fun f w K hM hK => XD (.bool (IB h.c h.k h.v || (h.at_ == 0 && kD h.c h.k h.v))) (by kernel_rfl) (hK)) (fun f => rfl) (fun f w h => h),
      trivial⟩ ?_
    clear hM;intro f w' hM;clear f;refine WL.out ?_;simp only [List.drop_succ_cons, List.drop_zero];refine np (.bool (IB h.c h.k h.v || (h.at_ == 0 && kD h.c h.k h.v))) ?_;go_frame;refine wz cn2 ?_;clear cn2;refine wp_ret ?_;exact bodyPost_ret (v := .bool (IB h.c h.k h.v || (h.at_ == 0 && kD h.c h.k h.v))) (FB 2 rfl rfl) rfl ⟨aC (by first | exact (ZL (by assumption)).symm | exact (jK (by assumption)).symm), hM.below⟩
  · -- region 1, drawn: 8, then 1
    refine cG 8 (fun f => ⟨#[.agg (HD.cells h).toArray, pt g1 0, .bool false, f 0, f 1, f 2, f 3, f 4, f 5, f 6, f 7], []⟩) [.agg (HD.cells h).toArray, .agg (HD.cells h).toArray, .agg (HD.cells (KD h)).toArray, .bool false, .bool false, uD, uD, .bool false] (fun f w => Mem w0 w [(g1, 45, (HD.cells h))]) ⟨#[.agg (HD.cells h).toArray, pt g1 0, .bool false, .agg (HD.cells h).toArray, .agg (HD.cells h).toArray, .agg (HD.cells (KD h)).toArray, .bool false, .bool false, uD, uD, .bool false], []⟩ (fun _ => undef) (by kernel_rfl) (by kernel_rfl) (by kernel_rfl) (by kernel_rfl) rfl (fun f => rfl) hM.drew ⟨
      mD [] (.agg (HD.cells h).toArray) (by kernel_rfl) rfl (fun f => by kernel_rfl) (fun f w K hM hK => RH hM 0 rfl 45 _ rfl rfl dA aA (hK)) (fun f => rfl) (fun f w h => h),
      mD [] (.agg (HD.cells h).toArray) (by kernel_rfl) rfl (fun f => by kernel_rfl) (fun f w K hM hK => RH hM 0 rfl 45 _ rfl rfl dA aA (hK)) (fun f => rfl) (fun f w h => h),
      KH [1] (.agg (HD.cells (KD h)).toArray) (by kernel_rfl) rfl (fun f => by kernel_rfl) (fun f w K hM hK => QF 77 #[.agg (HD.cells h).toArray] (by kernel_rfl) (tF h _) (fun e w' hs => by obtain ⟨rfl, hb⟩ := hs; exact ⟨_, rfl, hK _ (Mem.call hM hb)⟩)) (fun f => rfl) (fun f w h => h),
      mD [0, 2] (.bool false) (by kernel_rfl) rfl (fun f => by kernel_rfl) (fun f w K hM hK => TK (b := (TH h (KD h))) (OO h (KD h) rfl rfl rfl) (hx1) (hK)) (fun f => rfl) (fun f w h => h),
      mD [2, 3] (.bool false) (by kernel_rfl) rfl (fun f => by kernel_rfl) (fun f w K hM hK => XD (.bool false) (by kernel_rfl) (hK)) (fun f => rfl) (fun f w h => h),
      WJ [4] undef (by kernel_rfl) rfl (fun f => by kernel_rfl) (fun f => rfl) (fun f w h => h),
      WJ [4, 5] undef (by kernel_rfl) rfl (fun f => by kernel_rfl) (fun f => rfl) (fun f w h => h),
      mD [4, 6] (.bool false) (by kernel_rfl) rfl (fun f => by kernel_rfl) (fun f w K hM hK => XD (.bool false) (by kernel_rfl) (hK)) (fun f => rfl) (fun f w h => h),
      trivial⟩ ?_
    clear hM;intro f w' hM;clear f;refine WL.out ?_;simp only [List.drop_succ_cons, List.drop_zero];refine np (.bool false) ?_;go_frame;refine wz cn2 ?_;clear cn2;refine wp_ret ?_;exact bodyPost_ret (v := .bool false) (FB 2 rfl rfl) rfl ⟨aC (by first | exact (ZL (by assumption)).symm | exact (jK (by assumption)).symm), hM.below⟩
end Go.Proofs.YtfjafncipjdnfaaGreat
