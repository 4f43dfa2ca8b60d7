/- Memory of one's own, further laws. -/
import Derived.Test.YthllpgjggmdmmaaTypes
import Derived.Test.YthllpgjggmdmmaaRowInt
import Derived.Test.YthllpgjggmdmmaaOwnR
namespace Go.Proofs.Ythllpgjggmdmmaa
open Go.ChangeShapes Go.WideShapes Go.ChangeAt Go.RowKit
set_option linter.unusedVariables false
set_option linter.unusedSimpArgs false

/-- Blocks that a call has made, beside those that were there. -/
theorem Mem.join {w0 W W1 : World} {L M : List Bk} (h : Mem w0 W L) (h1 : Mem W W1 M) : Mem w0 W1 (M ++ L) := by
  have hb := h1.below
  have hL := h.call hb
  have lt : ∀ (j g : Nat) (t : TypeId) (cs : List Value), L[j]? = some (g, t, cs) → g < W.heap.size := fun j g t cs hj => h.lt j hj
  refine ⟨hL.below, fun i g t cs hi => ?_, fun i j g t t' cs cs' hi hj => ?_⟩
  · rcases Nat.lt_or_ge i M.length with hl | hl
    · rw [List.getElem?_append_left hl] at hi
      exact ⟨Nat.le_trans h.size (h1.base i hi), h1.blk i hi⟩
    · rw [List.getElem?_append_right hl] at hi
      exact hL.own _ _ _ _ hi
  · rcases Nat.lt_or_ge i M.length with hl | hl <;> rcases Nat.lt_or_ge j M.length with hl' | hl'
    · rw [List.getElem?_append_left hl] at hi
      rw [List.getElem?_append_left hl'] at hj
      exact h1.apart i j g t t' cs cs' hi hj
    · rw [List.getElem?_append_left hl] at hi
      rw [List.getElem?_append_right hl'] at hj
      have := h1.base i hi
      have := lt _ _ _ _ hj
      omega
    · rw [List.getElem?_append_right hl] at hi
      rw [List.getElem?_append_left hl'] at hj
      have := h1.base j hj
      have := lt _ _ _ _ hi
      omega
    · rw [List.getElem?_append_right hl] at hi
      rw [List.getElem?_append_right hl'] at hj
      have := h.apart _ _ g t t' cs cs' hi hj
      omega
theorem ret_row {fn : Func} {p : Tmp} {ty : TypeId} (h : fn.results = #[.cell p ty]) {tmps : Array Value} {w0 w : World} {L : List Bk} {g : Nat} {t : TypeId} {cs : List Value} (hM : Mem w0 w L) (i : Nat) (hi : L[i]? = some (g, t, cs)) (hp : tmps.getD p undef = .pointer (some ⟨g, 0, none⟩)) {fs : Array Field} (hu : Try.prog.underlying ty = some (.struct fs)) (hn : (Try.prog.info? ty).map (·.size) = some cs.length) :
    (results fn tmps).run Try.prog w = .ok (.agg cs.toArray) w :=
  results_cell_row h tmps w g t cs.toArray (0, 0) _ hp (hM.blk i hi) hu rfl (by simpa using hn)
theorem ret_two {fn : Func} {p u : Tmp} {t1 : TypeId} (h : fn.results = #[.cell p t1, .tmp u]) {tmps : Array Value} {w0 w : World} {L : List Bk} (hM : Mem w0 w L) (i : Nat) {g : Nat} {t : TypeId} {cs : List Value} (hi : L[i]? = some (g, t, cs))
    (hp : tmps.getD p undef = .pointer (some ⟨g, 0, none⟩)) {v : Value} (hv : tmps.getD u undef = v) {fs : Array Field} (hu : Try.prog.underlying t1 = some (.struct fs)) (hn : (Try.prog.info? t1).map (·.size) = some cs.length) :
    (results fn tmps).run Try.prog w = .ok (.tuple #[.agg cs.toArray, v]) w := by
  have e1 := run_loadVar_row (P := Try.prog) w g t t1 cs.toArray (0, 0) _ (hM.blk i hi) hu rfl (by simpa using hn)
  have hp' : tmps[p]?.getD undef = .pointer (some ⟨g, 0, none⟩) := by simpa using hp
  have hv' : tmps[u]?.getD undef = v := by simpa using hv
  simp [results, h, hp', hv', asAddr, e1, Sem.run_bind, Result.andThen]
theorem nsl_blk {w : World} {g k : Nat} {t : TypeId} {l : List ND} {p : List Value} (hb : Blk w g t (cellsOf l ++ p)) (h1 : l.length ≤ k) (h2 : k ≤ maxLen) : NSl w (.slice (some ⟨g, 0, none⟩) l.length k) l :=
  (show Own0 w _ g t 8 l.length (cellsOf l) from ⟨k, p, rfl, h1, h2, cellsOf_len l, hb⟩).sl
theorem sli_blk {w : World} {g k : Nat} {t : TypeId} {c : List Int} {p : List Value} (hb : Blk w g t (cellsI c ++ p)) (h1 : c.length ≤ k) (h2 : k ≤ maxLen) : SlI w (.slice (some ⟨g, 0, none⟩) c.length k) c :=
  (show Own0 w _ g t 1 c.length (cellsI c) from ⟨k, p, rfl, h1, h2, by simp [cellsI], hb⟩).sl
theorem own_nblk {w : World} {B g k : Nat} {l : List ND} {p : List Value} (hb : Blk w g 52 (cellsOf l ++ p)) (h1 : l.length ≤ k) (h2 : k ≤ maxLen) (hB : B ≤ g) (h0 : 0 < l.length) (hx : (cellsOf l ++ p).length = k * 8) : OwnR w B w.heap.size 52 8 l.length (cellsOf l) (.slice (some ⟨g, 0, none⟩) l.length k) :=
  OwnR.of_own (show Own w _ g _ 8 l.length (cellsOf l) from ⟨k, p, rfl, h1, h2, ⟨cellsOf_len l, hx⟩, hb⟩) hB h0
theorem own_iblk {w : World} {B g k : Nat} {c : List Int} {p : List Value} (hb : Blk w g 2 (cellsI c ++ p)) (h1 : c.length ≤ k) (h2 : k ≤ maxLen) (hB : B ≤ g) (h0 : 0 < c.length) (hx : (cellsI c ++ p).length = k * 1) : OwnR w B w.heap.size 2 1 c.length (cellsI c) (.slice (some ⟨g, 0, none⟩) c.length k) :=
  OwnR.of_own (show Own w _ g _ 1 c.length (cellsI c) from ⟨k, p, rfl, h1, h2, ⟨by simp [cellsI], hx⟩, hb⟩) hB h0
theorem ret_three {fn : Func} {p q u : Tmp} {t1 t2 : TypeId} (h : fn.results = #[.cell p t1, .cell q t2, .tmp u]) {tmps : Array Value} {w0 w : World} {L : List Bk} (hM : Mem w0 w L) (i j : Nat) {g g' : Nat} {t t' : TypeId} {cs cs' : List Value} (hi : L[i]? = some (g, t, cs)) (hj : L[j]? = some (g', t', cs'))
    (hp : tmps.getD p undef = .pointer (some ⟨g, 0, none⟩)) (hq : tmps.getD q undef = .pointer (some ⟨g', 0, none⟩)) {v : Value} (hv : tmps.getD u undef = v) {fs fs' : Array Field} (hu : Try.prog.underlying t1 = some (.struct fs)) (hu' : Try.prog.underlying t2 = some (.struct fs')) (hn : (Try.prog.info? t1).map (·.size) = some cs.length) (hn' : (Try.prog.info? t2).map (·.size) = some cs'.length) :
    (results fn tmps).run Try.prog w = .ok (.tuple #[.agg cs.toArray, .agg cs'.toArray, v]) w := by
  have e1 := run_loadVar_row (P := Try.prog) w g t t1 cs.toArray (0, 0) _ (hM.blk i hi) hu rfl (by simpa using hn)
  have e2 := run_loadVar_row (P := Try.prog) w g' t' t2 cs'.toArray (0, 0) _ (hM.blk j hj) hu' rfl (by simpa using hn')
  have hp' : tmps[p]?.getD undef = .pointer (some ⟨g, 0, none⟩) := by simpa using hp
  have hq' : tmps[q]?.getD undef = .pointer (some ⟨g', 0, none⟩) := by simpa using hq
  have hv' : tmps[u]?.getD undef = v := by simpa using hv
  simp [results, h, hp', hq', hv', asAddr, e1, e2, Sem.run_bind, Result.andThen]
end Go.Proofs.Ythllpgjggmdmmaa
