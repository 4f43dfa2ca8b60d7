import Derived.Test.YtfjafncipjdnfaaGreatCur2
import Derived.Test.YtfjafncipjdnfaaGreatCall
import Derived.Laws.ResultCell
namespace Go.Proofs.YtfjafncipjdnfaaGreat
open Go.ChangeShapes Go.WideShapes Go.ChangeAt Go.RowKit
set_option linter.unusedVariables false
set_option linter.unusedSimpArgs false
def DiceAt (B g : Nat) (v : Value) (l : List Int) (w : World) : Prop :=
  B ≤ g ∧ l.length ≤ 4096 ∧ Bts B w v l ∧ ∃ (i : Nat) (h : Int), i ≤ l.length ∧ Blk w g 93 [v, iJ i, .int .u64 h]
theorem DiceAt.lt {B g : Nat} {v : Value} {l : List Int} {w : World} (h : DiceAt B g v l w) : g < w.heap.size := by
  obtain ⟨-, -, -, i, x, -, hb⟩ := h
  exact hb.lt
theorem DiceAt.below {B g : Nat} {v : Value} {l : List Int} {w w' : World} (h : DiceAt B g v l w) (hb : Below w.heap.size w w') : DiceAt B g v l w' := by
  have hl := h.lt
  obtain ⟨h1, h2, h3, i, x, h4, h6⟩ := h
  exact ⟨h1, h2, h3.below hb, i, x, h4, h6.below hb hl⟩
theorem DiceAt.but {B g k : Nat} {v : Value} {l : List Int} {w w' : World} (h : DiceAt B g v l w) (hb : But k w w') (hk : k ≠ g) (hB : B ≤ k) : DiceAt B g v l w' := by
  obtain ⟨h1, h2, h3, i, x, h4, h6⟩ := h
  exact ⟨h1, h2, h3.but hb hB, i, x, h4, hb.blk h6 (Ne.symm hk)⟩
theorem DiceAt.fresh {B g k : Nat} {v : Value} {l : List Int} {w : World} (h : DiceAt B g v l w) (hk : k ≠ g) (hB : B ≤ k) (i : Nat) (x : Value) : DiceAt B g v l (w.setCell ⟨k, i, none⟩ x) := h.but (But.set k i w x) hk hB
theorem But.fresh {g k : Nat} {w w1 : World} (h : But g w w1) (hk : w.heap.size ≤ k) (i : Nat) (v : Value) : But g w (w1.setCell ⟨k, i, none⟩ v) := by
  have hs := But.set k i w1 v
  exact ⟨hs.os.trans h.os, hs.tape.trans h.tape, hs.output.trans h.output, Nat.le_trans h.size hs.size, fun j hj hne => (hs.block j (Nat.lt_of_lt_of_le hj h.size) (by omega)).trans (h.block j hj hne)⟩
end Go.Proofs.YtfjafncipjdnfaaGreat
