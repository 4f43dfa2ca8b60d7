/- An argument that is a call, opened; the laws' own copy of it. -/
import Derived.Test.YtoamnecoiicljaaBase
namespace Go.Proofs.Ytoamnecoiicljaa
open Go.ChangeShapes Go.WideShapes Go.ChangeAt Go.RowKit
set_option linter.unusedVariables false

theorem call_cells {H : Type} {enc : TypeId × Value → H} {w : World} {base : Nat} {spare : Nat → Bool} {held : Bool} {fuel : Nat} {cs : List Value} {x : DataW H × List MemPlace}
    (h : DataW.trod enc Try.prog w base spare held fuel 35 cs = some x) :
    ∃ (c k v : Int), cs = [.int .i64 c, .int .i64 k, .int .i64 v] ∧ In64 c ∧ In64 k ∧ In64 v := by
  obtain ⟨_, _, _, _, hl, _, _⟩ := DataW.trod_struct Try.underlying35 h
  have hC : Try.prog.cellsOf 35 = 3 := by kernel_rfl
  obtain ⟨c, e0, b0⟩ := int_field Try.underlying35 h 0 0 _ rfl rfl (by kernel_rfl) Try.underlying2
  obtain ⟨k, e1, b1⟩ := int_field Try.underlying35 h 1 1 _ rfl rfl (by kernel_rfl) Try.underlying2
  obtain ⟨v, e2, b2⟩ := int_field Try.underlying35 h 2 2 _ rfl rfl (by kernel_rfl) Try.underlying2
  rw [hC] at hl
  obtain ⟨a0, a1, a2, rfl⟩ := len3 hl
  simp only [List.getElem?_cons_zero, List.getElem?_cons_succ, Option.some.injEq] at e0 e1 e2
  subst e0 e1 e2
  exact ⟨c, k, v, rfl, b0, b1, b2⟩

set_option maxRecDepth 100000 in
theorem open_call {H : Type} {enc : TypeId × Value → H} {w : World} {base b0 : Nat} {spare : Nat → Bool} {held : Bool} {v : Value} {d : DataW H} {p : List MemPlace} (hv : Value.okWide Try.prog w .any b0 35 v)
    (h : DataW.Trod enc Try.prog w base spare held 35 v d p) :
    ∃ (c k y : Int), v = .agg #[.int .i64 c, .int .i64 k, .int .i64 y] ∧ In64 c ∧ In64 k ∧ In64 y := by
  obtain ⟨cs, rfl, _⟩ := okWide_struct Try.underlying35 hv
  obtain ⟨fuel, hf⟩ := h
  obtain ⟨c, k, y, hcs, hb⟩ := call_cells hf
  exact ⟨c, k, y, by rw [agg_eta hcs], hb⟩

set_option maxHeartbeats 1000000 in
theorem toCall_any (c k v : Int) (w : World) :
    Calls Try.prog 32 #[.agg #[.int .i64 c, .int .i64 k, .int .i64 v]] w fun e w' => e = .returned (.agg #[.int .i64 c, .int .i64 k, .int .i64 v]) ∧ Below w.heap.size w w' := by
  go_enter Try.func32, Try.ntmps32
  go_wp2
  exact bodyPost_ret (v := .agg #[.int .i64 c, .int .i64 k, .int .i64 v]) (by simp [results, Try.results32, go_sem]) rfl ⟨rfl, by repeat (first | exact Below.refl _ _ | refine Below.alloc ?_ (by simp; try omega) _ | refine Below.setCell ?_ (by simp; try omega) _)⟩
end Go.Proofs.Ytoamnecoiicljaa
