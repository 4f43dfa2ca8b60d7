/- Calls and hands: what the model answers. -/
import Derived.Test.YthllpgjggmdmmaaReader
import Derived.Test.YthllpgjggmdmmaaLock
import Derived.Test.YthllpgjggmdmmaaCall
import Derived.Test.YthllpgjggmdmmaaTypes
import Derived.Test.YthllpgjggmdmmaaReads
import Derived.Laws.ResultCell
namespace Go.Proofs.Ythllpgjggmdmmaa
open Go.ChangeShapes Go.WideShapes Go.ChangeAt Go.RowKit
set_option linter.unusedVariables false
set_option linter.unusedSimpArgs false

structure HD where
  at_ : Int
  c : Int
  k : Int
  v : Int
  prev : Int
  cur : Int
  side : Int
  tag : Int
  up : Int
  next : Int
  new : Int
  index : Int
  seen : Int
  again : Bool
  begin_ : Int
  reply : Int
  out : Int
def HD.cells (h : HD) : List Value := [.int .i64 h.at_, .int .i64 h.c, .int .i64 h.k, .int .i64 h.v, .int .i64 h.prev, .int .i64 h.cur, .int .i64 h.side, .int .i64 h.tag, .int .i64 h.up, .int .i64 h.next, .int .i64 h.new, .int .i64 h.index, .int .i64 h.seen, .bool h.again, .int .i64 h.begin_, .int .i64 h.reply, .int .i64 h.out]
def HD.val (h : HD) : Value := .agg h.cells.toArray
def HD.zero : HD := ⟨0, 0, 0, 0, 0, 0, 0, 0, 0, 0, 0, 0, 0, false, 0, 0, 0⟩
def five (h : HD) : List Int := [h.prev, h.cur, h.up, h.next, h.new]
def handL (h : HD) : Bool := inB h.side 0 1 && inB h.tag 0 10000 && inB h.index 0 6 && inB h.seen (-1) 100000 && inB h.begin_ 0 20000 && inB h.reply 0 3 && inB h.out 0 999
def headB (h : HD) : Bool := inB h.at_ 0 26 && (callB h.c h.k h.v || (h.at_ == 0 && noneB h.c h.k h.v))
def handB (h : HD) : Bool := headB h && (five h).all (fun n => inB n 0 29) && handL h
theorem hd_one' (x : HD) : x.cells.all (·.oneCell') = true := by simp [HD.cells, Value.oneCell']
theorem infoHd : (Try.prog.info? 36).map (fun i => i.size) = some 17 := by kernel_rfl
end Go.Proofs.Ythllpgjggmdmmaa
