/- A slice that a call hands back: memory of its own, or of no element. -/
import Derived.Test.YthllpgjggmdmmaaRows2
namespace Go.Proofs.Ythllpgjggmdmmaa
open Go.ChangeShapes Go.WideShapes Go.ChangeAt Go.RowKit
set_option linter.unusedVariables false
set_option linter.unusedSimpArgs false

/-- 'v' is a slice of 'n' elements of 'sz' cells, 'cs'; where it has one, it lies at the head of a block from B on, before E. -/
def OwnR (w : World) (B E : Nat) (t : TypeId) (sz n : Nat) (cs : List Value) (v : Value) : Prop :=
  (n = 0 ∧ cs = [] ∧ ∃ a cap, v = .slice a 0 cap ∧ cap ≤ maxLen) ∨ (0 < n ∧ ∃ g, B ≤ g ∧ g < E ∧ Own w v g t sz n cs)
theorem OwnR.sl {w : World} {B E sz n : Nat} {t : TypeId} {cs : List Value} {v : Value} (h : OwnR w B E t sz n cs v) : Sl w v sz n cs := by
  rcases h with ⟨rfl, rfl, a, cap, rfl, hc⟩ | ⟨-, g, -, -, h⟩
  · exact ⟨a, cap, rfl, Nat.zero_le _, hc, by simp, .inl rfl⟩
  · exact h.sl
theorem OwnR.below {w w' : World} {B E D sz n : Nat} {t : TypeId} {cs : List Value} {v : Value} (h : OwnR w B E t sz n cs v) (hb : Below D w w') (hD : E ≤ D) : OwnR w' B E t sz n cs v := by
  rcases h with h | ⟨h0, g, h1, h2, h⟩
  · exact .inl h
  · exact .inr ⟨h0, g, h1, h2, h.below hb (by omega)⟩
theorem OwnR.but {w w' : World} {B E g sz n : Nat} {t : TypeId} {cs : List Value} {v : Value} (h : OwnR w B E t sz n cs v) (hb : But g w w') (hg : g < B ∨ E ≤ g) : OwnR w' B E t sz n cs v := by
  rcases h with h | ⟨h0, g', h1, h2, h⟩
  · exact .inl h
  · exact .inr ⟨h0, g', h1, h2, h.but hb (by omega)⟩
theorem OwnR.mono {w : World} {B E B' E' sz n : Nat} {t : TypeId} {cs : List Value} {v : Value} (h : OwnR w B E t sz n cs v) (hB : B' ≤ B) (hE : E ≤ E') : OwnR w B' E' t sz n cs v := by
  rcases h with h | ⟨h0, g, h1, h2, h⟩
  · exact .inl h
  · exact .inr ⟨h0, g, by omega, by omega, h⟩
theorem OwnR.of_own {w : World} {B g sz n : Nat} {t : TypeId} {cs : List Value} {v : Value} (h : Own w v g t sz n cs) (hB : B ≤ g) (h0 : 0 < n) : OwnR w B w.heap.size t sz n cs v := .inr ⟨h0, g, hB, h.lt, h⟩
theorem OwnR.nil (w : World) (B E sz : Nat) (t : TypeId) (a : Option Addr) (cap : Nat) (hc : cap ≤ maxLen) : OwnR w B E t sz 0 [] (.slice a 0 cap) := .inl ⟨rfl, rfl, a, cap, rfl, hc⟩
theorem OwnR.slice {w : World} {B E sz n : Nat} {t : TypeId} {cs : List Value} {v : Value} (h : OwnR w B E t sz n cs v) : ∃ a cap, v = .slice a n cap ∧ n ≤ cap ∧ cap ≤ maxLen := by
  obtain ⟨a, cap, rfl, h1, h2, -⟩ := h.sl
  exact ⟨a, cap, rfl, h1, h2⟩

/-! ### Rows that grow -/
theorem none_row {w w1 : World} (t : TypeId) (sz : Nat) (hb : Below w.heap.size w w1) : (w1.alloc (.cells #[] t)).ownsRow w.heap.size t sz (.slice (some ⟨w1.heap.size, 0, none⟩) 0 0) 0 [] :=
  ⟨by simp, .inr ⟨w1.heap.size, 0, #[], rfl, hb.size, heap_alloc_new w1 _, Nat.le_refl _, by simp [maxLen], by simp, by simp⟩⟩
/-! ### markNodeS over such a slice -/
set_option maxHeartbeats 1000000 in
theorem markNodeS_nil (a : Option Addr) (c : Nat) (m : Int) (w : World) (m0 : 0 ≤ m) (m1 : m ≤ 1099511627776) :
    Calls Try.prog 32 #[.slice a 0 c, .int .i64 m] w fun e w' => e = .returned (.int .i64 m) ∧ Below w.heap.size w w' := by
  go_enter Try.func32, Try.ntmps32
  go_wp2
  go_loopw [1, 5] (fun q i wr => i = .int .i64 0 ∧ q = .int .i64 m ∧ Below w.heap.size w wr) (fun _ i _ => 0)
  case atStart => exact ⟨rfl, rfl, Below.refl _ _⟩
  case round =>
    obtain ⟨rfl, rfl, hb⟩ := hrel
    go_wp2
    go_ret
    exact ⟨rfl, hb⟩
end Go.Proofs.Ythllpgjggmdmmaa
