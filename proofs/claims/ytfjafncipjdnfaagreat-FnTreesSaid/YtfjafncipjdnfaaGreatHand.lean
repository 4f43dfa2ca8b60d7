import Derived.Test.YtfjafncipjdnfaaGreatShort
import Derived.Test.YtfjafncipjdnfaaGreatReaderSpec
import Derived.Test.YtfjafncipjdnfaaGreatHeldSpec
import Derived.Test.YtfjafncipjdnfaaGreatCall
namespace Go.Proofs.YtfjafncipjdnfaaGreat
open Go.ChangeShapes Go.WideShapes Go.ChangeAt Go.RowKit
set_option linter.unusedVariables false
set_option maxRecDepth 100000
set_option maxHeartbeats 16000000
set_option linter.unusedSimpArgs false
structure HD where
  at_ : Int
  c : Int
  k : Int
  v : Int
  prev : Int
  cur : Int
  side : Int
  tag : Int
  up : Int
  next : Int
  new : Int
  index : Int
  seen : Int
  again : Bool
  begin_ : Int
  reply : Int
  out : Int
def HD.cells (h : HD) : List Value := [.int .i64 h.at_, .int .i64 h.c, .int .i64 h.k, .int .i64 h.v, .int .i64 h.prev, .int .i64 h.cur, .int .i64 h.side, .int .i64 h.tag, .int .i64 h.up, .int .i64 h.next, .int .i64 h.new, .int .i64 h.index, .int .i64 h.seen, .bool h.again, .int .i64 h.begin_, .int .i64 h.reply, .int .i64 h.out]
def HD.val (h : HD) : Value := .agg h.cells.toArray
def HD.zero : HD := ⟨0, 0, 0, 0, 0, 0, 0, 0, 0, 0, 0, 0, 0, false, 0, 0, 0⟩
def EA (reply out : Int) : HD := ⟨0, 0, 0, 0, 0, 0, 0, 0, 0, 0, 0, 0, -1, false, 0, reply, out⟩
def IL (c k v : Int) : HD := ⟨1, c, k, v, 0, 0, 0, 0, 0, 0, 0, 0, -1, false, 0, 0, 0⟩
def zG (h : HD) : List Int := [h.prev, h.cur, h.up, h.next, h.new]
def pD (h : HD) : Bool := ZA h.side 0 1 && ZA h.tag 0 10000 && ZA h.index 0 6 && ZA h.seen (-1) 100000 && ZA h.begin_ 0 20000 && ZA h.reply 0 3 && ZA h.out 0 999
def jE (h : HD) : Bool := ZA h.at_ 0 26 && (RC h.c h.k h.v || (h.at_ == 0 && uG h.c h.k h.v))
def SA (h : HD) : Bool := jE h && (zG h).all (fun n => ZA n 0 29) && pD h
def xA (h : HD) (c k v : Int) : HD × Int :=
  if !SA h then (HD.zero, 3) else if h.at_ != 0 then (h, 1) else if !RC c k v then (h, 2) else (IL c k v, 0)
theorem jA (x : HD) : x.cells.all (·.oneCell') = true := by simp [HD.cells, Value.oneCell']
theorem UH : (Tryz.prog.info? 45).map (fun i => i.size) = some 17 := by kernel_rfl
theorem vB (reply out : Int) (w0 : World) :
    Calls Tryz.prog 30 #[.int .i64 reply, .int .i64 out] w0 fun e w' => e = .returned (EA reply out).val ∧ Below w0.heap.size w0 w' := by
  unfold HD.val;have hM := Mem.start w0
  go_enter Tryz.func30, Tryz.ntmps30
  refine sr fun _ cn1 => ?_;refine na hM (HD.cells HD.zero) vA ?_;clear hM;intro g1 W1 hM;go_frame;refine wz cn1 ?_;clear cn1;refine sr fun _ cn2 => ?_;refine np (.int .i64 reply) <| np (.int .i64 out) <| np (.agg (HD.cells { HD.zero with seen := (-1), reply := reply, out := out }).toArray) ?_;refine nS hM 0 rfl (HD.cells { HD.zero with seen := (-1), reply := reply, out := out }) aA (jA _) ?_;clear hM;intro W2 hM;refine wz cn2 ?_;clear cn2;refine wp_ret ?_;exact bodyPost_ret (wB rfl hM 0 rfl rfl dA aA) rfl ⟨congrArg (fun z => Ending.returned (Value.agg (HD.cells z).toArray)) (show { HD.zero with seen := (-1), reply := reply, out := out } = EA reply out from by simp [EA, HD.zero]), hM.below⟩
end Go.Proofs.YtfjafncipjdnfaaGreat
