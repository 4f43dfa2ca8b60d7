/- A slice of one's own made in a region that draws its order; a loop's next round. -/
import Derived.Test.YthllpgjggmdmmaaReads
import Derived.Test.YthllpgjggmdmmaaOwnR
import Derived.Test.YthllpgjggmdmmaaTypes
import Derived.Deep.AppendLies
import Derived.LoopN
namespace Go.Proofs.Ythllpgjggmdmmaa
open Go.ChangeShapes Go.WideShapes Go.ChangeAt Go.RowKit
set_option linter.unusedVariables false
set_option linter.unusedSimpArgs false

theorem Mem.pull {w0 w : World} {L : List Bk} (h : Mem w0 w L) (i : Nat) {b : Bk} (hi : L[i]? = some b) : Mem w0 w (b :: L.eraseIdx i) :=
  h.sub (fun j => if j = 0 then i else if j - 1 < i then j - 1 else j) (fun j c hj => by
    cases j with
    | zero => simp only [if_true]; simpa using hi.trans (by simpa using hj)
    | succ j =>
      simp only [List.getElem?_cons_succ, List.getElem?_eraseIdx] at hj
      simp only [Nat.succ_ne_zero, if_false, Nat.add_sub_cancel]
      split at hj
      · rw [if_pos (by assumption)]; exact hj
      · rw [if_neg (by assumption)]; exact hj) (fun j k _ _ e => by
    try simp only at e
    split at e <;> split at e <;> (try split at e) <;> (try split at e) <;> omega)
theorem ne_blk {w : World} {g1 g2 : Nat} {t1 t2 : TypeId} {c1 c2 : List Value} (h1 : Blk w g1 t1 c1) (h2 : Blk w g2 t2 c2) (ht : t1 ≠ t2) : g1 ≠ g2 := by
  intro e
  subst e
  unfold Blk at h1 h2
  rw [h1] at h2
  simp only [Option.some.injEq, Obj.cells.injEq] at h2
  exact ht h2.2.1
/-- Two blocks that a call has made, of two types. -/
theorem Mem.two {w W : World} {g1 g2 : Nat} {t1 t2 : TypeId} {c1 c2 : List Value} (hb : Below w.heap.size w W) (h1 : Blk W g1 t1 c1) (h2 : Blk W g2 t2 c2) (k1 : w.heap.size ≤ g1) (k2 : w.heap.size ≤ g2) (ht : t1 ≠ t2) : Mem w W [(g1, t1, c1), (g2, t2, c2)] := by
  have hne := ne_blk h1 h2 ht
  refine ⟨hb, fun i g t cs hi => ?_, fun i j g t t' cs cs' hi hj => ?_⟩
  · match i, hi with
    | 0, hi => simp at hi; obtain ⟨rfl, rfl, rfl⟩ := hi; exact ⟨k1, h1⟩
    | 1, hi => simp at hi; obtain ⟨rfl, rfl, rfl⟩ := hi; exact ⟨k2, h2⟩
    | (i + 2), hi => simp at hi
  · match i, j, hi, hj with
    | 0, 0, _, _ => rfl
    | 1, 1, _, _ => rfl
    | 0, 1, hi, hj => simp at hi hj; omega
    | 1, 0, hi, hj => simp at hi hj; omega
    | (i + 2), _, hi, _ => simp at hi
    | 0, (j + 2), _, hj => simp at hj
    | 1, (j + 2), _, hj => simp at hj
section
variable {P : Program}
theorem wo_storep {ops : Array Oper} {Q : Exit → Act → World → Prop} {S : World → Prop} {fuel : Nat} {listed : Array Bool} {a : Act} {w0 w : World} {L : List Bk} {i : Nat} {o : Oper} (ho : ops[i]? = some o) (hw : Region.wanted o (yielded ops a.tmps) = true)
    (hM : Mem w0 w L) (j : Nat) {g : Nat} {t : TypeId} {cs : List Value} (hi : L[j]? = some (g, t, cs))
    (ty : TypeId) (x y : Operand) (hop : o.op = .store ty x y) (hd : o.dst = none) (off : Nat) (hx : a.eval x = .pointer (some ⟨g, off, none⟩)) (cs' : List Value) (hy : a.eval y = .agg cs'.toArray) (hn : (P.info? ty).map (·.size) = some cs'.length) (hl : off + cs'.length ≤ cs.length) (h1 : cs'.all (·.oneCell') = true)
    (hK : ∀ W, Mem w0 W (L.set j (g, t, splice cs off cs')) → S W ∧ WA P ops Q S fuel (listed.setIfInBounds i true) a W) : WO P ops Q S fuel listed a w i :=
  wo_step ho hw fun K h => m_storep hM j hi ty x y hop hd off hx cs' hy hn hl h1 fun W hm => h _ _ (hK W hm).1 (hK W hm).2
end
/-! ### A list of nodes in a block -/
theorem node_room {l : List ND} {p : List Value} {k : Nat} (hk : k < l.length) : 0 + k * 8 + 8 ≤ (cellsOf l ++ p).length := by rw [List.length_append, cellsOf_len]; omega
theorem node_room1 {l : List ND} {p : List Value} {k j : Nat} (hk : k < l.length) (hj : j < 8) : 0 + k * 8 + j < (cellsOf l ++ p).length := by rw [List.length_append, cellsOf_len]; omega
theorem nd_cut {l : List ND} {k : Nat} {n : ND} (hn : l[k]? = some n) (p : List Value) : cellsOf l ++ p = cellsOf (l.take k) ++ (n.cells ++ (cellsOf (l.drop (k + 1)) ++ p)) ∧ (cellsOf (l.take k)).length = k * 8 := by
  have hk : k < l.length := (List.getElem?_eq_some_iff.1 hn).1
  have hm' : l[k] = n := by rw [List.getElem?_eq_getElem hk] at hn; simpa using hn
  have e1 : l = l.take k ++ (n :: l.drop (k + 1)) := by rw [← hm', ← List.drop_eq_getElem_cons hk, List.take_append_drop]
  refine ⟨?_, by rw [cellsOf_len]; simp; omega⟩
  conv => lhs; rw [e1]
  simp [cellsOf]
theorem node_part {l : List ND} {p : List Value} {k : Nat} {n : ND} (hn : l[k]? = some n) : ((cellsOf l ++ p).drop (0 + k * 8)).take n.cells.length = n.cells := by
  obtain ⟨e, el⟩ := nd_cut hn p
  rw [e, Nat.zero_add, ← el, List.drop_left, List.take_left]
theorem node_cell {l : List ND} {p : List Value} {k j : Nat} {n : ND} {v : Value} (hn : l[k]? = some n) (hv : n.cells[j]? = some v) : (cellsOf l ++ p)[0 + k * 8 + j]? = some v := by
  obtain ⟨e, el⟩ := nd_cut hn p
  have hj : j < n.cells.length := (List.getElem?_eq_some_iff.1 hv).1
  rw [e, Nat.zero_add, ← el, List.getElem?_append_right (by omega), Nat.add_sub_cancel_left, List.getElem?_append_left hj]
  exact hv
theorem node_set {l : List ND} {p : List Value} {k j : Nat} {n n' : ND} {v : Value} (hn : l[k]? = some n) (hj : j < 8) (hv : n.cells.set j v = n'.cells) : (cellsOf l ++ p).set (0 + k * 8 + j) v = cellsOf (l.set k n') ++ p := by
  have hk : k < l.length := (List.getElem?_eq_some_iff.1 hn).1
  have hl8 : n.cells.length = 8 := rfl
  obtain ⟨e, el⟩ := nd_cut hn p
  obtain ⟨e', el'⟩ := nd_cut (l := l.set k n') (List.getElem?_set_self hk) p
  rw [e, e', List.take_set_of_le (Nat.le_refl _), List.drop_set_of_lt (by omega)]
  rw [Nat.zero_add, ← el, List.set_append_right _ _ (by omega), Nat.add_sub_cancel_left, List.set_append_left _ _ (by omega), hv]
theorem node_keep {l : List ND} {p : List Value} {k : Nat} (n' : ND) : (cellsOf (l.set k n') ++ p).length = (cellsOf l ++ p).length := by simp [cellsOf_len]
end Go.Proofs.Ythllpgjggmdmmaa
namespace Go.Proofs.Ythllpgjggmdmmaa
open Go.ChangeShapes Go.WideShapes Go.ChangeAt Go.RowKit
set_option linter.unusedVariables false
set_option linter.unusedSimpArgs false

section
variable {P : Program}
theorem wo_buildSlice {ops : Array Oper} {Q : Exit → Act → World → Prop} {S : World → Prop} {fuel : Nat} {listed : Array Bool} {a : Act} {w0 w : World} {L : List Bk} {ix : Nat} (d : Option Tmp) {o : Oper} (hix : ops[ix]? = some o) (hd : o.dst = d) (hw : Region.wanted o (yielded ops a.tmps) = true)
    (hM : Mem w0 w L) (T : TypeId) (n : Nat) (cs : List Value) (hr : ∀ w : World, (execOp a.eval o).run P w = .ok (.value (.slice (some ⟨w.heap.size, 0, none⟩) n n)) (w.alloc (.cells cs.toArray T)))
    (h : ∀ g W, Mem w0 W ((g, T, cs) :: L) → S W ∧ WA P ops Q S fuel (listed.setIfInBounds ix true) (a.put d (.slice (some ⟨g, 0, none⟩) n n)) W) : WO P ops Q S fuel listed a w ix := by
  subst hd
  exact wo_step hix hw fun K hK => by
    unfold Oper.wp
    rw [hr w]
    exact hK _ _ (h _ _ (hM.alloc cs T)).1 (h _ _ (hM.alloc cs T)).2
end
theorem round_go {P : Program} {c : Code} {Q : Exit → Act → World → Prop} {n : Nat} {a : Act} {w : World} (h : c.wp P (Exit.then (Code.rounds P c Q n) Q) a w) : Code.rounds P c Q (n + 1) a w := h
end Go.Proofs.Ythllpgjggmdmmaa
