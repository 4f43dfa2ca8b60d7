/- The laws' own helpers over slices of nodes: eqNodeS. -/
import Derived.Test.YtnojlncnepfaaaaList
namespace Go.Proofs.Ytnojlncnepfaaaa
open Go.ChangeShapes Go.WideShapes Go.ChangeAt Go.RowKit
set_option linter.unusedVariables false
set_option linter.unusedSimpArgs false

def S2 (w : World) (b1 o1 : Nat) (n1 : ND) (b2 o2 : Nat) (n2 : ND) (w' : World) : Prop := b1 < w.heap.size ∧ b2 < w.heap.size ∧ Below w.heap.size w w' ∧ At8 w' b1 o1 n1 ∧ At8 w' b2 o2 n2
theorem S2.drew {w : World} {b1 o1 : Nat} {n1 : ND} {b2 o2 : Nat} {n2 : ND} {w' : World} (h : S2 w b1 o1 n1 b2 o2 n2 w') : S2 w b1 o1 n1 b2 o2 n2 w'.drew := ⟨h.1, h.2.1, h.2.2.1.drew, h.2.2.2⟩
theorem S2.out {w : World} {b1 o1 : Nat} {n1 : ND} {b2 o2 : Nat} {n2 : ND} {w' : World} (h : S2 w b1 o1 n1 b2 o2 n2 w') : Below w.heap.size w w' ∧ w'.cell? ⟨b1, o1, none⟩ = some (.int .i64 n1.k) ∧ w'.cell? ⟨b1, o1 + 1, none⟩ = some (.int .i64 n1.v) ∧ w'.cell? ⟨b1, o1 + 2, none⟩ = some (.int .i64 n1.l) ∧ w'.cell? ⟨b1, o1 + 3, none⟩ = some (.int .i64 n1.r) ∧ w'.cell? ⟨b1, o1 + 4, none⟩ = some (.int .i64 n1.o) ∧ w'.cell? ⟨b1, o1 + 5, none⟩ = some (.bool n1.g) ∧ w'.cell? ⟨b1, o1 + 6, none⟩ = some (.int .i64 n1.lt) ∧ w'.cell? ⟨b1, o1 + 7, none⟩ = some (.int .i64 n1.rt) ∧ w'.cell? ⟨b2, o2, none⟩ = some (.int .i64 n2.k) ∧ w'.cell? ⟨b2, o2 + 1, none⟩ = some (.int .i64 n2.v) ∧ w'.cell? ⟨b2, o2 + 2, none⟩ = some (.int .i64 n2.l) ∧ w'.cell? ⟨b2, o2 + 3, none⟩ = some (.int .i64 n2.r) ∧ w'.cell? ⟨b2, o2 + 4, none⟩ = some (.int .i64 n2.o) ∧ w'.cell? ⟨b2, o2 + 5, none⟩ = some (.bool n2.g) ∧ w'.cell? ⟨b2, o2 + 6, none⟩ = some (.int .i64 n2.lt) ∧ w'.cell? ⟨b2, o2 + 7, none⟩ = some (.int .i64 n2.rt) := by
  obtain ⟨_, _, hb, h1, h2⟩ := h
  simp only [At8] at h1 h2
  simp only [h1, h2, hb, and_self]
theorem S2.below {w : World} {b1 o1 : Nat} {n1 : ND} {b2 o2 : Nat} {n2 : ND} {w' w1 : World} (h : S2 w b1 o1 n1 b2 o2 n2 w') (hb : Below w'.heap.size w' w1) : S2 w b1 o1 n1 b2 o2 n2 w1 := by
  obtain ⟨g1, g2, hw, h1, h2⟩ := h
  have hz := hw.size
  exact ⟨g1, g2, hw.trans (hb.mono hz), h1.below hb (by omega), h2.below hb (by omega)⟩

end Go.Proofs.Ytnojlncnepfaaaa
