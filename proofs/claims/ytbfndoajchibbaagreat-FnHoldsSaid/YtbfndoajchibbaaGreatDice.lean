/- The dice of the laws: what they read from is kept, what they answer lies within bounds. -/
import Derived.Test.YtbfndoajchibbaaGreatCur2
import Derived.Test.YtbfndoajchibbaaGreatCall
import Derived.Laws.ResultCell
namespace Go.Proofs.YtbfndoajchibbaaGreat
open Go.ChangeShapes Go.WideShapes Go.ChangeAt Go.RowKit
set_option linter.unusedVariables false
set_option linter.unusedSimpArgs false

theorem But.fresh {g k : Nat} {w w1 : World} (h : But g w w1) (hk : w.heap.size ≤ k) (i : Nat) (v : Value) : But g w (w1.setCell ⟨k, i, none⟩ v) := by
  have hs := But.set k i w1 v
  exact ⟨hs.os.trans h.os, hs.tape.trans h.tape, hs.output.trans h.output, Nat.le_trans h.size hs.size, fun j hj hne => (hs.block j (Nat.lt_of_lt_of_le hj h.size) (by omega)).trans (h.block j hj hne)⟩
end Go.Proofs.YtbfndoajchibbaaGreat
