/- A new cursor. -/
import Derived.Test.YtgaakkdbfphgjaaCur
namespace Go.Proofs.Ytgaakkdbfphgjaa
open Go.ChangeShapes Go.WideShapes Go.ChangeAt Go.RowKit
set_option linter.unusedVariables false
set_option linter.unusedSimpArgs false

set_option maxRecDepth 100000 in
set_option maxHeartbeats 4000000 in
theorem l1New_any (B : Nat) (v : Value) (l : List Int) (w : World) (h : Bts B w v l) (hl : l.length ≤ 4096) (hB : B ≤ w.heap.size) :
    Calls Try.prog 13 #[v] w fun e w' => ∃ g, e = .returned (.pointer (some ⟨g, 0, none⟩)) ∧ w.heap.size ≤ g ∧ CurAt B g v l w' ∧ Below w.heap.size w w' := by
  obtain ⟨⟨a, c, rfl, k1, m1, -⟩, -⟩ := id h
  have z0 : (l.length : Int) ≤ 4096 := by omega
  have H := Lib.hid h
  clear h
  go_enter Try.func13, Try.ntmps13
  go_wp2
  go_loop [3, 4] (fun q i => ∃ (k : Nat) (x : Int), k ≤ l.length ∧ i = .int .i64 k ∧ q = .int .i64 x ∧ 0 ≤ x ∧ x ≤ 1073741824) (fun _ i => l.length - (intOf i).toNat)
  case atStart => exact ⟨0, 480017 + (l.length : Int), Nat.zero_le _, rfl, rfl, by omega, by omega⟩
  case round =>
    obtain ⟨k, x, hk, rfl, rfl, x0, x1⟩ := hrel
    by_cases hlt : k < l.length
    · obtain ⟨b, off, y, rfl, hb, q0, q1, hy, A0⟩ := H.out.at hlt
      have j0 : (0 : Int) ≤ (k : Int) := by omega
      have j1 : (k : Int) < (l.length : Int) := by omega
      clear hy
      go_wp2
      refine ⟨⟨k + 1, _, by omega, by go_num, rfl, ?_, ?_⟩, by simp [intOf]; omega⟩
      · rw [and30]; omega
      · rw [and30]; omega
    · obtain rfl : k = l.length := by omega
      go_wp2
      go_ret
      refine ⟨_, rfl, Nat.le_refl _, ⟨hB, hl, H.out.below ((Below.refl _ _).alloc (Nat.le_refl _) _), 0, x, Nat.zero_le _, ⟨by omega, by omega⟩, heap_alloc_new w _⟩, (Below.refl _ _).alloc (Nat.le_refl _) _⟩
end Go.Proofs.Ytgaakkdbfphgjaa
