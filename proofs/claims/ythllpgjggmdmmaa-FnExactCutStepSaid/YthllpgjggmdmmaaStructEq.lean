/- '==' on whole hands, on whole calls. -/
import Derived.Test.YthllpgjggmdmmaaHand
import Derived.Laws.StructEq
namespace Go.Proofs.Ythllpgjggmdmmaa
open Go.ChangeShapes Go.WideShapes Go.ChangeAt Go.RowKit
set_option linter.unusedVariables false
set_option linter.unusedSimpArgs false

def hdEq (a b : HD) : Bool := a.at_ == b.at_ && ((a.c == b.c && (a.k == b.k && (a.v == b.v && true))) && (a.prev == b.prev && (a.cur == b.cur && (a.side == b.side && (a.tag == b.tag && (a.up == b.up && (a.next == b.next && (a.new == b.new && (a.index == b.index && (a.seen == b.seen && (a.again == b.again && (a.begin_ == b.begin_ && (a.reply == b.reply && (a.out == b.out && true))))))))))))))
def clEq (a b c d e f : Int) : Bool := a == d && (b == e && (c == f && true))
section
variable {P : Program} {w : World}
theorem eqf_nil (d : Nat) (xs ys : Array Value) : (Op.eqFields d xs ys []).run P w = .ok true w := by simp [Op.eqFields]
theorem eqf_cons {d : Nat} {xs ys : Array Value} {f : Field} {fs : List Field} {a b : Value} {r s : Bool} (hn : f.name ≠ "_") (ha : (part f.type xs f.offset).run P w = .ok a w) (hb : (part f.type ys f.offset).run P w = .ok b w)
    (he : (Op.equalIn d f.type a b).run P w = .ok r w) (hr : (Op.eqFields d xs ys fs).run P w = .ok s w) : (Op.eqFields d xs ys (f :: fs)).run P w = .ok (r && s) w := by
  rw [Op.eqFields, if_pos hn]
  simp only [Sem.run_bind, ha, hb, he, Result.andThen_ok]
  cases r
  · simp
  · simpa using hr
end
theorem cl_eqIn (d : Nat) (w : World) (a b c a' b' c' : Int) : (Op.equalIn (d + 2) 34 (.agg #[.int .i64 a, .int .i64 b, .int .i64 c]) (.agg #[.int .i64 a', .int .i64 b', .int .i64 c'])).run Try.prog w = .ok (a == a' && (b == b' && (c == c' && true))) w := by
  rw [run_equalIn_struct w (d + 1) 34 _ _ (by kernel_rfl) (by kernel_rfl)]
  simp only [Program.fieldsOf, Try.underlying34]
  exact eqf_cons (by decide) (by kernel_rfl) (by kernel_rfl) (run_equalIn_int _ _ _ .i64 .i64 _ _ Try.underlying2) (eqf_cons (by decide) (by kernel_rfl) (by kernel_rfl) (run_equalIn_int _ _ _ .i64 .i64 _ _ Try.underlying2) (eqf_cons (by decide) (by kernel_rfl) (by kernel_rfl) (run_equalIn_int _ _ _ .i64 .i64 _ _ Try.underlying2) (eqf_nil _ _ _)))
theorem hd_eqIn (d : Nat) (w : World) (a b : HD) : (Op.equalIn (d + 3) 36 a.val b.val).run Try.prog w = .ok (hdEq a b) w := by
  rw [HD.val, HD.val, run_equalIn_struct w (d + 2) 36 _ _ (by kernel_rfl) (by kernel_rfl)]
  simp only [Program.fieldsOf, Try.underlying36]
  exact eqf_cons (by decide) (by kernel_rfl) (by kernel_rfl) (run_equalIn_int _ _ _ .i64 .i64 _ _ Try.underlying2) (eqf_cons (by decide) (by kernel_rfl) (by kernel_rfl) (cl_eqIn _ _ _ _ _ _ _ _) (eqf_cons (by decide) (by kernel_rfl) (by kernel_rfl) (run_equalIn_int _ _ _ .i64 .i64 _ _ Try.underlying2) (eqf_cons (by decide) (by kernel_rfl) (by kernel_rfl) (run_equalIn_int _ _ _ .i64 .i64 _ _ Try.underlying2) (eqf_cons (by decide) (by kernel_rfl) (by kernel_rfl) (run_equalIn_int _ _ _ .i64 .i64 _ _ Try.underlying2) (eqf_cons (by decide) (by kernel_rfl) (by kernel_rfl) (run_equalIn_int _ _ _ .i64 .i64 _ _ Try.underlying2) (eqf_cons (by decide) (by kernel_rfl) (by kernel_rfl) (run_equalIn_int _ _ _ .i64 .i64 _ _ Try.underlying2) (eqf_cons (by decide) (by kernel_rfl) (by kernel_rfl) (run_equalIn_int _ _ _ .i64 .i64 _ _ Try.underlying2) (eqf_cons (by decide) (by kernel_rfl) (by kernel_rfl) (run_equalIn_int _ _ _ .i64 .i64 _ _ Try.underlying2) (eqf_cons (by decide) (by kernel_rfl) (by kernel_rfl) (run_equalIn_int _ _ _ .i64 .i64 _ _ Try.underlying2) (eqf_cons (by decide) (by kernel_rfl) (by kernel_rfl) (run_equalIn_int _ _ _ .i64 .i64 _ _ Try.underlying2) (eqf_cons (by decide) (by kernel_rfl) (by kernel_rfl) (run_equalIn_bool' _ _ _ _ _ Try.underlying4) (eqf_cons (by decide) (by kernel_rfl) (by kernel_rfl) (run_equalIn_int _ _ _ .i64 .i64 _ _ Try.underlying2) (eqf_cons (by decide) (by kernel_rfl) (by kernel_rfl) (run_equalIn_int _ _ _ .i64 .i64 _ _ Try.underlying2) (eqf_cons (by decide) (by kernel_rfl) (by kernel_rfl) (run_equalIn_int _ _ _ .i64 .i64 _ _ Try.underlying2) (eqf_nil _ _ _)))))))))))))))
theorem cl_eql {f : Operand → Value} {o : Oper} {w : World} {T' : TypeId} {x y : Operand} (a b c a' b' c' : Int) (ho : o.op = .binOp .eql 34 x y T') (hx : f x = .agg #[.int .i64 a, .int .i64 b, .int .i64 c]) (hy : f y = .agg #[.int .i64 a', .int .i64 b', .int .i64 c']) : (execOp f o).run Try.prog w = .ok (.value (.bool (clEq a b c a' b' c'))) w := by
  have h := cl_eqIn 9998 w a b c a' b' c'
  have hg : Try.prog.eqGuardType Try.prog.depth 34 = false := by kernel_rfl
  unfold execOp
  simp only [ho, hx, hy, Sem.run_bind, run_eqGuard_agg w .eql 34 x y _ _ hg, Result.andThen_ok, run_eql_struct]
  rw [show Op.equalIn 10000 34 (.agg #[.int .i64 a, .int .i64 b, .int .i64 c]) (.agg #[.int .i64 a', .int .i64 b', .int .i64 c']) = Op.equalIn (9998 + 2) 34 (.agg #[.int .i64 a, .int .i64 b, .int .i64 c]) (.agg #[.int .i64 a', .int .i64 b', .int .i64 c']) from rfl, h]
  rfl
theorem hd_eql {f : Operand → Value} {o : Oper} {w : World} {T' : TypeId} {x y : Operand} (a b : HD) (ho : o.op = .binOp .eql 36 x y T') (hx : f x = .agg a.cells.toArray) (hy : f y = .agg b.cells.toArray) : (execOp f o).run Try.prog w = .ok (.value (.bool (hdEq a b))) w := by
  have h := hd_eqIn 9997 w a b
  have hg : Try.prog.eqGuardType Try.prog.depth 36 = false := by kernel_rfl
  unfold execOp
  simp only [ho, hx, hy, Sem.run_bind, run_eqGuard_agg w .eql 36 x y _ _ hg, Result.andThen_ok, run_eql_struct]
  rw [show Op.equalIn 10000 36 (.agg a.cells.toArray) (.agg b.cells.toArray) = Op.equalIn (9997 + 3) 36 a.val b.val from rfl, h]
  rfl
end Go.Proofs.Ythllpgjggmdmmaa
