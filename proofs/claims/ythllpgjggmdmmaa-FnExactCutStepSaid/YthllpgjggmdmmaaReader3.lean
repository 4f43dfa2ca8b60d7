/- Counted of the program. -/
import Derived.Test.YthllpgjggmdmmaaReader
import Derived.Maps.RangeWalk
import Derived.Deep.AppendLies
namespace Go.Proofs.Ythllpgjggmdmmaa
open Go.ChangeShapes Go.WideShapes Go.ChangeAt Go.RowKit
set_option linter.unusedVariables false
set_option linter.unusedSimpArgs false

/-! ### Counted -/
theorem cellsI_one (l : List Int) : ∀ u ∈ cellsI l, u.oneCell' = true := by
  intro u hu
  simp only [cellsI, List.mem_map] at hu
  obtain ⟨n, -, rfl⟩ := hu
  rfl
theorem addr_add (b off i : Nat) : (⟨b, off, none⟩ : Addr).add i = ⟨b, off + i, none⟩ := by
  unfold Addr.add
  split <;> simp_all
theorem cells_newsI {w w1 : World} {l : List Int} {b off c : Nat} (h : SlI w (.slice (some ⟨b, off, none⟩) l.length c) l) (hb : Below w.heap.size w w1) (hn : l ≠ []) : ∀ j u, (cellsI l)[j]? = some u → w1.cell? ((⟨b, off, none⟩ : Addr).add j) = some u := by
  intro j u hj
  obtain ⟨a, cap, hv, -, -, h3, h4⟩ := h.below hb
  cases hv
  rcases h4 with h4 | ⟨b', off', e, hc⟩
  · exact absurd (List.length_eq_zero_iff.1 h4) hn
  · cases e
    rw [addr_add, hc j (List.getElem?_eq_some_iff.1 hj).1, hj]

set_option maxHeartbeats 1000000 in
theorem clone_ints (v : Value) (l : List Int) (w : World) (h : SlI w v l) (hn : l ≠ []) (hl : l.length ≤ 1048576) : Calls Try.prog 64 #[v] w (FreshI w l) := by
  obtain ⟨b1, o1, c1, rfl, k1, m1, s1, H1⟩ := h.at hn
  have hl0 : 0 < l.length := List.length_pos_iff.2 hn
  obtain ⟨i0, hi0, hz0, hz1, hz2⟩ := info_parts infoI64
  have HW := Lib.hid h
  have he : ∀ w : World, (binOp .eql 23 (.slice (some ⟨b1, o1, none⟩) l.length c1) (.slice none 0 0)).run Try.prog w = .ok (.bool false) w := fun _ => by kernel_rfl
  clear H1 h
  go_enter Try.func64, Try.ntmps64
  go_wp2_with (first
    | (at_builtin; refine wpList_append_lies _ rfl _ _ 23 rfl w.heap.size 2 i0 _ 1 8 Try.underlying23 hi0 hz0 hz1 hz2 rfl (by decide) (.slice (some ⟨w.heap.size, 0, none⟩) 0 0) 0 [] rfl (none_row _ _ (Below.refl _ _)) ⟨b1, o1, none⟩ l.length c1 (cellsI l) rfl (by rw [cellsI_len]; omega) (cells_newsI HW.out ((Below.refl _ _).alloc (Nat.le_refl _) _) hn) (cellsI_one l) hl0 (by unfold maxLen; omega) (by omega) (by simp) (w.heap.size + 1) (by simp) ?_; intro g cap w1 hown hgrow hat hgl)
    | go_in)
  go_ret
  rw [List.nil_append, Nat.zero_add] at hown
  obtain ⟨q1, q2⟩ : w.heap.size ≤ g ∧ Below w.heap.size w w1 := ⟨by
      rcases hat with h | h
      · simp [Value.ownBlock] at h; omega
      · omega, ((Below.refl _ _).alloc (Nat.le_refl _) _).grown hgrow (by simp) (fun j hj => by simp [Value.ownBlock] at hj; omega)⟩
  exact ⟨g, _, rfl, q1, own_of_row hown, q2⟩

end Go.Proofs.Ythllpgjggmdmmaa
namespace Go.Proofs.Ythllpgjggmdmmaa
open Go.ChangeShapes Go.WideShapes Go.ChangeAt Go.RowKit
set_option linter.unusedVariables false
set_option linter.unusedSimpArgs false

theorem SaysIB.fresh {w w1 w' : World} {l : List Int} {b : Bool} {g : Nat} {u : Value} (hg : w1.heap.size ≤ g) (hO : Own w' u g 2 1 l.length (cellsI l)) (h1 : 1 ≤ l.length) (hB : Below w.heap.size w w1) (hB1 : Below w1.heap.size w1 w') : SaysIB (l, b) w (.returned (.tuple #[u, .bool b])) w' :=
  ⟨u, rfl, OwnR.of_own hO (by have := hB.size; omega) h1, hB.trans (hB1.mono hB.size)⟩

end Go.Proofs.Ythllpgjggmdmmaa
