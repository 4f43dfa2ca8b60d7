/- Walking and Counted of the model. -/
import Derived.Test.YtoamnecoiicljaaReader3
namespace Go.Proofs.Ytoamnecoiicljaa
open Go.ChangeShapes Go.WideShapes Go.ChangeAt Go.RowKit
set_option linter.unusedVariables false
set_option linter.unusedSimpArgs false

/-! ### Counted -/
set_option maxHeartbeats 1000000 in
theorem spec_copyI (v : Value) (l : List Int) (w : World) (h : SlI w v l) (hn : l ≠ []) (hl : l.length ≤ 1048576) : Calls Try.prog 53 #[v] w (FreshI w l) := by
  obtain ⟨b1, o1, c1, rfl, k1, m1, s1, H1⟩ := h.at hn
  have hl0 : 0 < l.length := List.length_pos_iff.2 hn
  obtain ⟨i0, hi0, hz0, hz1, hz2⟩ := info_parts infoI64
  have HW := Lib.hid h
  clear H1 h
  go_enter Try.func53, Try.ntmps53
  go_wp2_with (first
    | (at_builtin; refine wpList_append_lies _ rfl _ _ 23 rfl w.heap.size 2 i0 _ 1 8 Try.underlying23 hi0 hz0 hz1 hz2 rfl (by decide) (.slice (some ⟨w.heap.size, 0, none⟩) 0 0) 0 [] rfl (none_row _ _ (Below.refl _ _)) ⟨b1, o1, none⟩ l.length c1 (cellsI l) rfl (by rw [cellsI_len]; omega) (cells_newsI HW.out ((Below.refl _ _).alloc (Nat.le_refl _) _) hn) (cellsI_one l) hl0 (by unfold maxLen; omega) (by omega) (by simp) (w.heap.size + 1) (by simp) ?_; intro g cap w1 hown hgrow hat hgl)
    | go_in)
  go_ret
  rw [List.nil_append, Nat.zero_add] at hown
  obtain ⟨q1, q2⟩ : w.heap.size ≤ g ∧ Below w.heap.size w w1 := ⟨by
      rcases hat with h | h
      · simp [Value.ownBlock] at h; omega
      · omega, ((Below.refl _ _).alloc (Nat.le_refl _) _).grown hgrow (by simp) (fun j hj => by simp [Value.ownBlock] at hj; omega)⟩
  exact ⟨g, _, rfl, q1, own_of_row hown, q2⟩

theorem own_set {w1 : World} {l : List Int} {g k : Nat} {u : Value} (hO : Own w1 u g 2 1 l.length (cellsI l)) (hk : k < l.length) (o : Int) : Own (w1.setCell ⟨g, k, none⟩ (.int .i64 o)) u g 2 1 (l.set k o).length (cellsI (l.set k o)) := by
  obtain ⟨cap, sp, rfl, h1, h2, h3, h4⟩ := hO
  refine ⟨cap, sp, by simp, by simpa using h1, h2, by rw [cellsI_len]; omega, ?_⟩
  have := h4.set k (.int .i64 o)
  rw [List.set_append_left _ _ (by rw [cellsI_len]; exact hk)] at this
  simpa [cellsI] using this
theorem own_at {w1 : World} {l : List Int} {g k : Nat} {n c : Nat} (hO : Own w1 (.slice (some ⟨g, 0, none⟩) n c) g 2 1 l.length (cellsI l)) (hk : k < l.length) : w1.cell? ⟨g, k, none⟩ = some (.int .i64 (atI l k)) ∧ w1.frozen? ⟨g, k, none⟩ = false := by
  obtain ⟨cap, sp, hv, h1, h2, h3, h4⟩ := hO
  refine ⟨?_, h4.free k⟩
  rw [h4.cell, List.getElem?_append_left (by rw [cellsI_len]; exact hk), cellsI_get (List.getElem?_eq_getElem hk), atI_get (List.getElem?_eq_getElem hk)]

end Go.Proofs.Ytoamnecoiicljaa
