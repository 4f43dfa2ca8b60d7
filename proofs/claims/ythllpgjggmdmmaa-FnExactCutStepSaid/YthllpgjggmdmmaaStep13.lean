/- Letting go: the model. -/
import Derived.Test.YthllpgjggmdmmaaStep12
import Derived.Test.YthllpgjggmdmmaaHand3
namespace Go.Proofs.Ythllpgjggmdmmaa
open Go.ChangeShapes Go.WideShapes Go.ChangeAt Go.RowKit
set_option linter.unusedVariables false
set_option linter.unusedSimpArgs false

theorem own_blk {w' : World} {B E sz n : Nat} {t : TypeId} {cs : List Value} {u : Value} (h : OwnR w' B E t sz n cs u) (h0 : 0 < n) : ∃ (g k : Nat) (p : List Value), u = .slice (some ⟨g, 0, none⟩) n k ∧ n ≤ k ∧ k ≤ maxLen ∧ B ≤ g ∧ Blk w' g t (cs ++ p) ∧ (cs ++ p).length = k * sz := by
  rcases h with ⟨h1, -⟩ | ⟨-, g, hg, -, k, p, rfl, h1, h2, ⟨-, hx⟩, hb⟩
  · omega
  · exact ⟨g, k, p, rfl, h1, h2, hg, hb, hx⟩
end Go.Proofs.Ythllpgjggmdmmaa
