import Derived.Test.YtfjafncipjdnfaaGreatShort
namespace Go.Proofs.YtfjafncipjdnfaaGreat
open Go.ChangeShapes Go.WideShapes Go.ChangeAt Go.RowKit
set_option linter.unusedVariables false
section
variable {P : Program} {ops : Array Oper} {Q : Exit → Act → World → Prop} {S : World → Prop} {fuel : Nat} {listed : Array Bool} {a : Act} {w w0 : World} {L : List Bk} {o : Oper}
theorem w2 (i j : Nat) (h : WO P ops Q S fuel listed a w i) (h2 : WO P ops Q S fuel listed a w j) (hr : Region.ready .any ops listed = [i, j] := by kernel_rfl) : WA P ops Q S (fuel + 1) listed a w := wa_two i j hr h h2
theorem w3 (i j k : Nat) (h : WO P ops Q S fuel listed a w i) (h2 : WO P ops Q S fuel listed a w j) (h3 : WO P ops Q S fuel listed a w k) (hr : Region.ready .any ops listed = [i, j, k] := by kernel_rfl) : WA P ops Q S (fuel + 1) listed a w := pF i j k hr h h2 h3
theorem wJ {J : Act → World → Prop} (h : J a w) (hr : Region.ready .any ops listed = [] := by kernel_rfl) : WA P ops (JQ J) S fuel listed a w := wa_doneJ hr h
end
end Go.Proofs.YtfjafncipjdnfaaGreat
