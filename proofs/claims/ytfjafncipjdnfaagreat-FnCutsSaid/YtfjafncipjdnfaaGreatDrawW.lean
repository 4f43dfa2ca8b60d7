import Derived.Test.YtfjafncipjdnfaaGreatNewW
import Derived.Test.YtfjafncipjdnfaaGreatDraw5b
namespace Go.Proofs.YtfjafncipjdnfaaGreat
open Go.ChangeShapes Go.WideShapes Go.ChangeAt Go.RowKit
set_option linter.unusedVariables false
set_option maxRecDepth 100000
set_option maxHeartbeats 16000000
set_option linter.unusedSimpArgs false
def rG (lb : List Int) (ci : Nat) (ch : Int) : Prop := ci ≤ lb.length ∧ dF ch
def jP (w00 : World) (B : Nat) (v : Value) (lb : List Int) : Prop := B ≤ w00.heap.size ∧ lb.length ≤ 4096 ∧ Bts B w00 v lb
theorem OB {w00 w : World} {L : List Bk} {B gc i ci : Nat} {v : Value} {lb : List Int} {ch : Int} (hM : Mem w00 w L) (hi : L[i]? = some (gc, 105, [v, iJ (ci : Int), iJ ch])) (h : jP w00 B v lb) (hc : rG lb ci ch) : CurAt B gc v lb w :=
  ⟨Nat.le_trans h.1 (hM.base i hi), h.2.1, h.2.2.below hM.below, ci, ch, hc.1, hc.2, hM.blk i hi⟩
theorem eB {w00 w W : World} {L : List Bk} {B gc i : Nat} {v : Value} {lb : List Int} {cs : List Value} (hM : Mem w00 w L) (hi : L[i]? = some (gc, 105, cs)) (hA : CurAt B gc v lb W) (hB : But gc w W) : ∃ (ci : Nat) (ch : Int), rG lb ci ch ∧ Mem w00 W (L.set i (gc, 105, [v, iJ (ci : Int), iJ ch])) := by
  obtain ⟨-, -, -, ci, ch, h1, h2, h3⟩ := hA;exact ⟨ci, ch, ⟨h1, h2⟩, hM.but i hi hB h3⟩
theorem Mem.dropM {w0 w : World} {A B C D : List Bk} (h : Mem w0 w (B ++ (A ++ (C ++ D)))) : Mem w0 w (B ++ (A ++ D)) := by
  have h1 : Mem w0 w ((B ++ A) ++ (C ++ D)) := by rw [List.append_assoc]; exact h
  have h2 := (Mem.mid (A := B ++ A) (B := C) (C := D) h1).tail;rw [← List.append_assoc];exact h2
def DrewW (w00 : World) (gc : Nat) (v : Value) (lb : List Int) (L : List Bk) (e : Ending) (w' : World) : Prop :=
  ∃ (d : WD) (E : List Bk) (u x y z : Value) (ci : Nat) (ch : Int), e = .returned (.agg #[u, x, y, z, iJ d.now]) ∧ MA d = true ∧ WorldIn E d u x y z ∧ rG lb ci ch ∧ Mem w00 w' ((gc, 105, [v, iJ (ci : Int), iJ ch]) :: (E ++ L))
theorem Mem.keep1 {w0 w : World} {A C : List Bk} {b : Bk} (h : Mem w0 w (b :: (A ++ C))) : Mem w0 w (b :: C) := Mem.tail (E := A) (Mem.mid (A := [b]) (B := A) (C := C) h)
end Go.Proofs.YtfjafncipjdnfaaGreat
