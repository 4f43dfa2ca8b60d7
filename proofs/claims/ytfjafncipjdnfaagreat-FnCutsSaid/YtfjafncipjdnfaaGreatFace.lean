import Derived.Test.YtfjafncipjdnfaaGreatFindImpl
import Derived.Defers
import Derived.Recover
namespace Go.Proofs.YtfjafncipjdnfaaGreat
open Go.ChangeShapes Go.WideShapes Go.ChangeAt Go.RowKit
set_option linter.unusedVariables false
set_option maxRecDepth 100000
set_option maxHeartbeats 16000000
set_option linter.unusedSimpArgs false
section
variable {P : Program} {ops : Array Oper} {rest : List Oper} {o : Oper} {a : Act} {w : World} {Q : Exit → Act → World → Prop}
theorem FJ (hw : Region.wanted o (yielded ops a.tmps) = true) (f : FuncId) (args : Array Value) (hr : (execOp a.eval o).run P w = .ok (.enter f args) w) {S : Ending → World → Prop} (hc : Calls P f args w S) (h : ∀ e w', S e w' → ∃ ch, e = .panicked ch ∧ Q (.panic ch) a w') : WL P ops Q (o :: rest) a w :=
  ⟨BigFrame.wpList_want hw fun K hK => by
    unfold Oper.wp;rw [hr, Oper.upon_enter];refine hc.mono fun e w' hs => ?_;obtain ⟨ch, rfl, hk⟩ := h e w' hs;exact hk⟩
theorem RG (hw : Region.wanted o (yielded ops a.tmps) = true) (d : Deferred) (hr : (execOp a.eval o).run P w = .ok (.defer d) w) (h : WL P ops Q rest ({ a with defers := d :: a.defers }.put o.dst undef) w) : WL P ops Q (o :: rest) a w :=
  ⟨BigFrame.wpList_want hw fun K hK => by
    unfold Oper.wp;rw [hr, Oper.upon_defer];exact hK _ _ h.out⟩
theorem VN (hw : Region.wanted o (yielded ops a.tmps) = true) (v : Value) (hr : (execOp a.eval o).run P w = .halt (.panic v) w) (h : Q (.panic [{ v, recovered := false }]) a w) : WL P ops Q (o :: rest) a w :=
  ⟨BigFrame.wpList_want hw fun K hK => by
    unfold Oper.wp;rw [hr, Oper.upon_panic];exact h⟩
end
set_option maxHeartbeats 4000000
end Go.Proofs.YtfjafncipjdnfaaGreat
