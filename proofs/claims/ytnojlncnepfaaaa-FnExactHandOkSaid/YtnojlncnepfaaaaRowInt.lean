/- The laws' own helpers over slices of int64: eqInt64S, markInt64S, heldInt64S. -/
import Derived.Test.YtnojlncnepfaaaaOwnR
namespace Go.Proofs.Ytnojlncnepfaaaa
open Go.ChangeShapes Go.WideShapes Go.ChangeAt Go.RowKit
set_option linter.unusedVariables false
set_option linter.unusedSimpArgs false

def cellsI (l : List Int) : List Value := l.map (Value.int .i64)
theorem cellsI_len (l : List Int) : (cellsI l).length = l.length := by simp [cellsI]
theorem cellsI_get {l : List Int} {k : Nat} {n : Int} (h : l[k]? = some n) : (cellsI l)[k]? = some (.int .i64 n) := by simp [cellsI, h]
theorem cellsI_snoc (l : List Int) (n : Int) : cellsI (l ++ [n]) = cellsI l ++ [.int .i64 n] := by simp [cellsI]
def SlI (w : World) (v : Value) (l : List Int) : Prop := Sl w v 1 l.length (cellsI l)
theorem SlI.below {w w' : World} {v : Value} {l : List Int} (h : SlI w v l) (hb : Below w.heap.size w w') : SlI w' v l := Sl.below (by omega) h hb
theorem SlI.at {w : World} {v : Value} {l : List Int} (h : SlI w v l) (hn : l ≠ []) : ∃ b off cap, v = .slice (some ⟨b, off, none⟩) l.length cap ∧ l.length ≤ cap ∧ cap ≤ maxLen ∧ b < w.heap.size ∧ ∀ k n, l[k]? = some n → w.cell? ⟨b, off + k, none⟩ = some (.int .i64 n) := by
  obtain ⟨a, cap, rfl, h1, h2, h3, h4⟩ := h
  have hlen : 0 < l.length := List.length_pos_iff.2 hn
  rcases h4 with h4 | ⟨b, off, rfl, hc⟩
  · omega
  · have key : ∀ k n, l[k]? = some n → w.cell? ⟨b, off + k, none⟩ = some (.int .i64 n) := fun k n hk => by
      rw [hc k (by rw [cellsI_len]; exact (List.getElem?_eq_some_iff.1 hk).1), cellsI_get hk]
    refine ⟨b, off, cap, rfl, h1, h2, ?_, key⟩
    exact World.block_lt_of_cell? w ⟨b, _, none⟩ (key 0 _ (List.getElem?_eq_getElem hlen))
theorem SlI.nil {w : World} {v : Value} (h : SlI w v []) : ∃ a cap, v = .slice a 0 cap := by
  obtain ⟨a, cap, rfl, _⟩ := h
  exact ⟨a, cap, rfl⟩

/-! ### mark, held -/
def markLI (k : Int) : Nat → List Int
  | 0 => []
  | n + 1 => k :: markLI (k + 1) n
theorem markLI_len (k : Int) (n : Nat) : (markLI k n).length = n := by
  induction n generalizing k with
  | zero => rfl
  | succ n ih => simp [markLI, ih]
theorem markLI_get (k : Int) (n i : Nat) (h : i < n) : (markLI k n)[i]? = some (k + i) := by
  induction n generalizing k i with
  | zero => omega
  | succ n ih =>
    cases i with
    | zero => simp [markLI]
    | succ i =>
      simp only [markLI, List.getElem?_cons_succ]
      rw [ih (k + 1) i (by omega)]
      congr 1
      omega
theorem markLI_snoc (k : Int) (n : Nat) : markLI k (n + 1) = markLI k n ++ [k + n] := by
  induction n generalizing k with
  | zero => simp [markLI]
  | succ n ih =>
    rw [markLI, ih (k + 1)]
    simp only [markLI, List.cons_append]
    congr 3
    omega
def MarkToI (w : World) (g n : Nat) (m : Int) (k : Nat) (wr : World) : Prop := But g w wr ∧ ∃ R, n - k ≤ R.length ∧ Blk wr g 2 (cellsI (markLI m k) ++ R)
theorem MarkToI.room {w : World} {g n : Nat} {m : Int} {k : Nat} {wr : World} (h : MarkToI w g n m k wr) (hk : k < n) : ∃ x0, wr.cell? ⟨g, k, none⟩ = some x0 ∧ ∀ i, wr.frozen? ⟨g, i, none⟩ = false := by
  obtain ⟨h1, R, hR, hblk⟩ := h
  have hk8 : (cellsI (markLI m k)).length = k := by rw [cellsI_len, markLI_len]
  match R, hR with
  | [], hR => simp at hR; omega
  | x :: T, _ =>
    refine ⟨x, ?_, fun i => hblk.free i⟩
    have := Blk.there (X := [x]) (R := T) (p := k) (by simpa using hblk) hk8 0 (by simp)
    simpa using this
theorem MarkToI.step {w : World} {g n : Nat} {m : Int} {k : Nat} {wr : World} (h : MarkToI w g n m k wr) (hk : k < n) : MarkToI w g n m (k + 1) (wr.setCell ⟨g, k, none⟩ (.int .i64 (m + k))) := by
  obtain ⟨h1, R, hR, hblk⟩ := h
  have hk8 : (cellsI (markLI m k)).length = k := by rw [cellsI_len, markLI_len]
  match R, hR with
  | [], hR => simp at hR; omega
  | x :: T, hR =>
    refine ⟨h1.trans (But.set g k wr _), T, by simp at hR; omega, ?_⟩
    have := Blk.setRow (p := k) (A := cellsI (markLI m k)) (X := [x]) (R := T) [.int .i64 (m + k)] (by simpa using hblk) hk8 rfl
    rw [markLI_snoc, cellsI_snoc]
    simpa [setRow] using this

/-! ### toInt64S -/
theorem infoI64 : (Try.prog.info? 2).map (fun i => (i.zero, i.size, i.bytes)) = some (some (.int .i64 0), 1, 8) := by kernel_rfl
def MadeI (w : World) (l : List Int) (g k : Nat) (wr : World) : Prop := Below w.heap.size w wr ∧ w.heap.size ≤ g ∧ ∃ R, R.length = l.length - k ∧ Blk wr g 2 (cellsI (l.take k) ++ R)
theorem MadeI.room {w : World} {l : List Int} {g k : Nat} {wr : World} (h : MadeI w l g k wr) (hk : k < l.length) : ∃ x0, wr.cell? ⟨g, k, none⟩ = some x0 ∧ ∀ i, wr.frozen? ⟨g, i, none⟩ = false := by
  obtain ⟨h1, h2, R, hR, hblk⟩ := h
  have hk8 : (cellsI (l.take k)).length = k := by rw [cellsI_len, List.length_take]; omega
  match R, hR with
  | [], hR => simp at hR; omega
  | x :: T, _ =>
    refine ⟨x, ?_, fun i => hblk.free i⟩
    have := Blk.there (X := [x]) (R := T) (p := k) (by simpa using hblk) hk8 0 (by simp)
    simpa using this
theorem MadeI.step {w : World} {l : List Int} {g k : Nat} {wr : World} {n : Int} (h : MadeI w l g k wr) (hn : l[k]? = some n) : MadeI w l g (k + 1) (wr.setCell ⟨g, k, none⟩ (.int .i64 n)) := by
  have hk : k < l.length := (List.getElem?_eq_some_iff.1 hn).1
  obtain ⟨h1, h2, R, hR, hblk⟩ := h
  have hk8 : (cellsI (l.take k)).length = k := by rw [cellsI_len, List.length_take]; omega
  match R, hR with
  | [], hR => simp at hR; omega
  | x :: T, hR =>
    refine ⟨h1.setCell h2 _, h2, T, by simp at hR; omega, ?_⟩
    have := Blk.setRow (p := k) (A := cellsI (l.take k)) (X := [x]) (R := T) [.int .i64 n] (by simpa using hblk) hk8 rfl
    have e : cellsI (l.take (k + 1)) = cellsI (l.take k) ++ [.int .i64 n] := by rw [List.take_add_one, hn]; simp [cellsI]
    rw [e]
    simpa [setRow] using this
theorem MadeI.done {w : World} {l : List Int} {g : Nat} {wr : World} (h : MadeI w l g l.length wr) (hm : l.length ≤ maxLen) : Own wr (.slice (some ⟨g, 0, none⟩) l.length l.length) g 2 1 l.length (cellsI l) ∧ w.heap.size ≤ g ∧ Below w.heap.size w wr := by
  obtain ⟨h1, h2, R, hR, hblk⟩ := h
  rw [List.take_length] at hblk
  exact ⟨⟨_, R, rfl, Nat.le_refl _, hm, by rw [cellsI_len]; omega, hblk⟩, h2, h1⟩
theorem MadeI.start {w w1 : World} {n : Nat} (l : List Int) {xs : List Value} (hn : l.length = n) (hown : w1.ownsRow w.heap.size 2 1 (.slice (some ⟨w.heap.size, 0, none⟩) n n) n xs) (hg : w.grownBy w1 none) : MadeI w l w.heap.size 0 w1 := by
  subst hn
  obtain ⟨cap, sp, hv, h1, h2, h3, h4⟩ := own_of_row hown
  simp only [Value.slice.injEq, true_and] at hv
  obtain rfl := hv
  refine ⟨⟨hg.os, hg.tape, hg.output, hg.size, fun k hk => hg.block k hk (by simp)⟩, Nat.le_refl _, xs ++ sp, ?_, by simpa [cellsI] using h4⟩
  have h5 := hown
  obtain ⟨hx, h | ⟨g', cap', cur, hv, hb, hh, q1, q2, q3, q4⟩⟩ := h5
  · simp at h
  · simp only [Value.slice.injEq, Option.some.injEq, Addr.mk.injEq, and_true, true_and] at hv
    obtain ⟨rfl, rfl⟩ := hv
    have e : cur = (xs ++ sp).toArray := by
      have := hh.symm.trans h4
      simpa using this
    have hs : (xs ++ sp).length = cur.size := by rw [e]; simp
    rw [hs, q3]
    omega
/-- A slice of integers in a block of its own that reads as 'l'. -/
def FreshI (w : World) (l : List Int) (e : Ending) (w' : World) : Prop := ∃ g v, e = .returned v ∧ w.heap.size ≤ g ∧ Own w' v g 2 1 l.length (cellsI l) ∧ Below w.heap.size w w'

/-! ### What a call answers -/
/-- Integers in memory of their own. -/
def SaysI (r : List Int) (w : World) (e : Ending) (w' : World) : Prop :=
  ∃ u, e = .returned u ∧ OwnR w' w.heap.size w'.heap.size 2 1 r.length (cellsI r) u ∧ Below w.heap.size w w'
/-- Likewise, and a bool. -/
def SaysIB (r : List Int × Bool) (w : World) (e : Ending) (w' : World) : Prop :=
  ∃ u, e = .returned (.tuple #[u, .bool r.2]) ∧ OwnR w' w.heap.size w'.heap.size 2 1 r.1.length (cellsI r.1) u ∧ Below w.heap.size w w'
end Go.Proofs.Ytnojlncnepfaaaa
