/- The laws' own helpers over slices of nodes: szNodeS, toNodeS, markNodeS, heldNodeS. -/
import Derived.Test.YtnojlncnepfaaaaList
namespace Go.Proofs.Ytnojlncnepfaaaa
open Go.ChangeShapes Go.WideShapes Go.ChangeAt Go.RowKit
set_option linter.unusedVariables false
set_option linter.unusedSimpArgs false

/-- The cells from 'p' on, written one after the other. -/
def setRow (w : World) (g p : Nat) : List Value → World
  | [] => w
  | v :: r => setRow (w.setCell ⟨g, p, none⟩ v) g (p + 1) r
theorem setRow_but (g : Nat) : ∀ (vs : List Value) (w : World) (p : Nat), But g w (setRow w g p vs)
  | [], w, p => But.refl g w
  | v :: r, w, p => (But.set g p w v).trans (setRow_but g r _ (p + 1))
theorem setRow_size (g : Nat) : ∀ (vs : List Value) (w : World) (p : Nat), (setRow w g p vs).heap.size = w.heap.size
  | [], w, p => rfl
  | v :: r, w, p => (setRow_size g r _ (p + 1)).trans (by simp)
theorem Blk.setRow {g : Nat} {e : TypeId} : ∀ (vs : List Value) {w : World} {p : Nat} {A X R : List Value}, Blk w g e (A ++ (X ++ R)) → A.length = p → X.length = vs.length → Blk (Ytnojlncnepfaaaa.setRow w g p vs) g e (A ++ (vs ++ R))
  | [], w, p, A, X, R, h, hp, hx => by
    obtain rfl : X = [] := List.length_eq_zero_iff.1 hx
    exact h
  | v :: r, w, p, A, [], R, h, hp, hx => by simp at hx
  | v :: r, w, p, A, x :: X, R, h, hp, hx => by
    have h0 := h.set p v
    have e1 : (A ++ (x :: X ++ R)).set p v = (A ++ [v]) ++ (X ++ R) := by
      subst hp
      rw [List.set_append_right _ _ (Nat.le_refl _)]
      simp
    rw [e1] at h0
    have h1 := Blk.setRow r (p := p + 1) h0 (by simp [hp]) (by simpa using hx)
    have e2 : A ++ (v :: r ++ R) = (A ++ [v]) ++ (r ++ R) := by simp
    rw [e2]
    exact h1
theorem Blk.there {w : World} {g p : Nat} {e : TypeId} {A X R : List Value} (h : Blk w g e (A ++ (X ++ R))) (hp : A.length = p) (j : Nat) (hj : j < X.length) : w.cell? ⟨g, p + j, none⟩ = X[j]? := by
  rw [h.cell, List.getElem?_append_right (by omega), List.getElem?_append_left (by omega), show p + j - A.length = j by omega]
theorem eight {α : Type} {R : List α} (h : 8 ≤ R.length) : ∃ a b c d e f g i T, R = [a, b, c, d, e, f, g, i] ++ T := by
  match R, h with
  | a :: b :: c :: d :: e :: f :: g :: i :: T, _ => exact ⟨a, b, c, d, e, f, g, i, T, rfl⟩

theorem own_of_row {w : World} {base g n cap : Nat} {e : TypeId} {sz : Nat} {xs : List Value} (h : w.ownsRow base e sz (.slice (some ⟨g, 0, none⟩) n cap) n xs) : Own w (.slice (some ⟨g, 0, none⟩) n cap) g e sz n xs := by
  obtain ⟨hx, h | ⟨g', cap', cur, hv, hb, hh, h1, h2, h3, h4⟩⟩ := h
  · simp at h
  · simp only [Value.slice.injEq, Option.some.injEq, Addr.mk.injEq, and_true, true_and] at hv
    obtain ⟨rfl, rfl⟩ := hv
    refine ⟨cap, cur.toList.drop (n * sz), rfl, h1, h2, hx, ?_⟩
    unfold Blk
    rw [hh, ← h4, List.take_append_drop]
theorem cellsOf_snoc {l : List ND} {k : Nat} {n : ND} (h : l[k]? = some n) : cellsOf (l.take (k + 1)) = cellsOf (l.take k) ++ n.cells := by
  rw [List.take_add_one, h]
  simp [cellsOf]
/-! ### markNodeS, heldNodeS -/
def markN (k : Int) : ND := ⟨k, k + 1, k + 1 + 1, k + 1 + 1 + 1, k + 1 + 1 + 1 + 1, (k + 1 + 1 + 1 + 1 + 1) % 3 == 0, k + 1 + 1 + 1 + 1 + 1 + 1, k + 1 + 1 + 1 + 1 + 1 + 1 + 1⟩
theorem val_i {a b : Int} (h : a = b) : Value.int .i64 a = .int .i64 b := by rw [h]
def markL (k : Int) : Nat → List ND
  | 0 => []
  | n + 1 => markN k :: markL (k + 8) n
theorem markL_len (k : Int) (n : Nat) : (markL k n).length = n := by
  induction n generalizing k with
  | zero => rfl
  | succ n ih => simp [markL, ih]
theorem markL_get (k : Int) (n i : Nat) (h : i < n) : (markL k n)[i]? = some (markN (k + 8 * i)) := by
  induction n generalizing k i with
  | zero => omega
  | succ n ih =>
    cases i with
    | zero => simp [markL]
    | succ i =>
      simp only [markL, List.getElem?_cons_succ]
      rw [ih (k + 8) i (by omega)]
      congr 2
      omega
theorem markL_take (k : Int) (n i : Nat) (h : i ≤ n) : (markL k n).take i = markL k i := by
  induction n generalizing k i with
  | zero => obtain rfl : i = 0 := by omega
            rfl
  | succ n ih =>
    cases i with
    | zero => rfl
    | succ i => simp only [markL, List.take_succ_cons, ih (k + 8) i (by omega)]
theorem markL_snoc (m : Int) (k : Nat) : cellsOf (markL m (k + 1)) = cellsOf (markL m k) ++ (markN (m + 8 * k)).cells := by
  have h := cellsOf_snoc (markL_get m (k + 1) k (by omega))
  rwa [markL_take m (k + 1) k (by omega), markL_take m (k + 1) (k + 1) (by omega)] at h
end Go.Proofs.Ytnojlncnepfaaaa
