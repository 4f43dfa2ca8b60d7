/- An argument that is a slice of int64, opened. -/
import Derived.Test.YtoamnecoiicljaaOpen
import Derived.Test.YtoamnecoiicljaaRowInt
namespace Go.Proofs.Ytoamnecoiicljaa
open Go.ChangeShapes Go.WideShapes Go.ChangeAt Go.RowKit Go.Deep
set_option linter.unusedVariables false

theorem flat_ints (l : List Int) : (l.flatMap fun n => [Value.int .i64 n]) = cellsI l := by
  induction l with
  | nil => rfl
  | cons a r ih => simp only [List.flatMap_cons, ih]; rfl
set_option maxRecDepth 100000 in
theorem open_i64s {H : Type} {enc : TypeId × Value → H} {w : World} {base b0 : Nat} {spare : Nat → Bool} {held : Bool} {v : Value} {d : DataW H} {p : List MemPlace} (hv : Value.okWide Try.prog w .any b0 23 v)
    (h : DataW.Trod enc Try.prog w base spare held 23 v d p) : ∃ l : List Int, SlI w v l := by
  obtain ⟨a, len, cap, rfl⟩ := okWide_slice Try.underlying23 hv
  obtain ⟨l, hl, hs⟩ := open_rows (fun n : Int => [Value.int .i64 n]) 1 (fun _ => rfl) (by omega) Try.underlying23 (by kernel_rfl) (fun n cs x hx => by
    obtain ⟨k, e, _, _⟩ := DataW.trod_int Try.underlying2 hx
    exact ⟨k, e⟩) h
  subst hl
  rw [flat_ints] at hs
  exact ⟨l, hs⟩
end Go.Proofs.Ytoamnecoiicljaa
