/- The draws of calls. -/
import Derived.Test.YtgaakkdbfphgjaaCur2
import Derived.Test.YtgaakkdbfphgjaaDice
import Derived.Test.YtgaakkdbfphgjaaCall
import Derived.Laws.ResultCell
namespace Go.Proofs.Ytgaakkdbfphgjaa
open Go.ChangeShapes Go.WideShapes Go.ChangeAt Go.RowKit
set_option linter.unusedVariables false
set_option linter.unusedSimpArgs false

theorem CurAt.fresh {B g k : Nat} {v : Value} {l : List Int} {w : World} (h : CurAt B g v l w) (hk : k ≠ g) (hB : B ≤ k) (i : Nat) (x : Value) : CurAt B g v l (w.setCell ⟨k, i, none⟩ x) := h.but (But.set k i w x) hk hB
theorem CurAt.alloc {B g : Nat} {v : Value} {l : List Int} {w : World} (h : CurAt B g v l w) (o : Obj) : CurAt B g v l (w.alloc o) := h.below ((Below.refl _ _).alloc (Nat.le_refl _) o)
theorem infoCl6 : (Try.prog.info? 25).map (fun i => i.size) = some 3 := by kernel_rfl
theorem results_cl6 {fn : Func} {p : Tmp} (h : fn.results = #[.cell p 25]) {tmps : Array Value} {w : World} {g : Nat} {t : TypeId} {a b c : Value} (hp : tmps.getD p undef = .pointer (some ⟨g, 0, none⟩)) (hg : Blk w g t [a, b, c]) :
    (results fn tmps).run Try.prog w = .ok (.agg #[a, b, c]) w :=
  results_cell_row h tmps w g t #[a, b, c] (0, 0) _ hp hg Try.underlying25 rfl infoCl6
theorem results_cl62 {fn : Func} {p u : Tmp} (h : fn.results = #[.cell p 25, .tmp u]) {tmps : Array Value} {w : World} {g : Nat} {t : TypeId} {a b c : Value} (hp : tmps.getD p undef = .pointer (some ⟨g, 0, none⟩)) (hg : Blk w g t [a, b, c]) :
    (results fn tmps).run Try.prog w = .ok (.tuple #[.agg #[a, b, c], tmps.getD u undef]) w := by
  rw [results_cell_tmp h, hp]
  simp [asAddr, run_loadVar_row (P := Try.prog) w g t 25 #[a, b, c] (0, 0) _ hg Try.underlying25 rfl infoCl6, Result.andThen]
/-- A call that was drawn: with P of its numbers; the cursor at its place. -/
def DrewC (B g : Nat) (v : Value) (l : List Int) (w : World) (P : Int → Int → Int → Prop) (e : Ending) (w' : World) : Prop := ∃ c k y : Int, e = .returned (.agg #[.int .i64 c, .int .i64 k, .int .i64 y]) ∧ P c k y ∧ CurAt B g v l w' ∧ But g w w'

end Go.Proofs.Ytgaakkdbfphgjaa
