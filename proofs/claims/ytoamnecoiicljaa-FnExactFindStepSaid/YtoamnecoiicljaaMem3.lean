/- A struct stored into the middle of a block of one's own. -/
import Derived.Test.YtoamnecoiicljaaMem2
namespace Go.Proofs.Ytoamnecoiicljaa
open Go.ChangeShapes Go.WideShapes Go.ChangeAt Go.RowKit
set_option linter.unusedVariables false
set_option linter.unusedSimpArgs false

/-- Cells written over, from the k-th on. -/
def splice (cs : List Value) : Nat → List Value → List Value
  | _, [] => cs
  | k, v :: r => splice (cs.set k v) (k + 1) r
theorem splice_len : ∀ (vs : List Value) (cs : List Value) (k : Nat), (splice cs k vs).length = cs.length
  | [], _, _ => rfl
  | v :: r, cs, k => by rw [splice, splice_len r]; simp
theorem splice_mid : ∀ (vs : List Value) (A X R : List Value), X.length = vs.length → splice (A ++ (X ++ R)) A.length vs = A ++ (vs ++ R)
  | [], A, X, R, h => by
    have : X = [] := List.length_eq_zero_iff.1 h
    subst this
    rfl
  | v :: r, A, x :: X, R, h => by
    have e : (A ++ (x :: X ++ R)).set A.length v = (A ++ [v]) ++ (X ++ R) := by
      rw [List.set_append_right _ _ (Nat.le_refl _)]
      simp
    have h2 := splice_mid r (A ++ [v]) X R (by simpa using h)
    rw [splice, e]
    simp only [List.length_append, List.length_singleton] at h2
    rw [h2]
    simp
theorem splice_node {l : List ND} {p : List Value} {k : Nat} (hk : k < l.length) (n : ND) : splice (cellsOf l ++ p) (0 + k * 8) n.cells = cellsOf (l.set k n) ++ p := by
  obtain ⟨m, hm⟩ : ∃ m, l[k]? = some m := ⟨_, List.getElem?_eq_getElem hk⟩
  have e1 : l = l.take k ++ (m :: l.drop (k + 1)) := by
    have hm' : l[k] = m := by rw [List.getElem?_eq_getElem hk] at hm; simpa using hm
    rw [← hm', ← List.drop_eq_getElem_cons hk, List.take_append_drop]
  have e2 : l.set k n = l.take k ++ (n :: l.drop (k + 1)) := by
    rw [List.set_eq_take_append_cons_drop, if_pos hk]
  have lt : (l.take k).length = k := by simp; omega
  have c1 : cellsOf l ++ p = cellsOf (l.take k) ++ (m.cells ++ (cellsOf (l.drop (k + 1)) ++ p)) := by
    conv => lhs; rw [e1]
    simp [cellsOf]
  have c2 : cellsOf (l.set k n) ++ p = cellsOf (l.take k) ++ (n.cells ++ (cellsOf (l.drop (k + 1)) ++ p)) := by
    rw [e2]
    simp [cellsOf]
  rw [c1, c2]
  have hlen : 0 + k * 8 = (cellsOf (l.take k)).length := by rw [cellsOf_len, lt]; omega
  rw [hlen]
  exact splice_mid n.cells (cellsOf (l.take k)) m.cells _ rfl
section
variable {P : Program}
theorem run_storeCells_mid (g : Nat) (t : TypeId) (off : Nat) : ∀ (vs : List Value) (i : Nat) (w : World) (cs : List Value), Blk w g t cs → off + i + vs.length ≤ cs.length → vs.all (·.oneCell') = true →
    ∃ w', (storeCells ⟨g, off, none⟩ vs i).run P w = .ok () w' ∧ But g w w' ∧ Blk w' g t (splice cs (off + i) vs)
  | [], i, w, cs, hb, _, _ => ⟨w, by simp [storeCells], But.refl _ _, hb⟩
  | v :: r, i, w, cs, hb, hl, h1 => by
    simp only [List.length_cons] at hl
    simp only [List.all_cons, Bool.and_eq_true] at h1
    have hk : off + i < cs.length := by omega
    have hadd : (⟨g, off, none⟩ : Addr).add i = ⟨g, off + i, none⟩ := by unfold Addr.add; split <;> simp_all
    have hc : w.cell? ⟨g, off + i, none⟩ = some cs[off + i] := by rw [hb.cell, List.getElem?_eq_getElem hk]
    have hf := hb.free (off + i)
    have hst : (store ((⟨g, off, none⟩ : Addr).add i) v).run P w = .ok () (w.setCell ⟨g, off + i, none⟩ v) := by
      rw [hadd, run_store P w _ v _ h1.1, hc]
      simp [hf]
    obtain ⟨w', hr, hb1, hb2⟩ := run_storeCells_mid g t off r (i + 1) (w.setCell ⟨g, off + i, none⟩ v) (cs.set (off + i) v) (hb.set _ _) (by simp; omega) h1.2
    refine ⟨w', ?_, (But.set g (off + i) w v).trans hb1, ?_⟩
    · simp only [storeCells, Sem.run_bind, hst, Result.andThen_ok, hr]
    · rw [splice]
      exact hb2
theorem m_storep {o : Oper} {a : Act} {w0 w : World} {L : List Bk} {K : Act → World → Prop} {Q : Exit → Act → World → Prop} (hM : Mem w0 w L) (i : Nat) {g : Nat} {t : TypeId} {cs : List Value} (hi : L[i]? = some (g, t, cs))
    (ty : TypeId) (x y : Operand) (ho : o.op = .store ty x y) (hd : o.dst = none) (off : Nat) (hx : a.eval x = .pointer (some ⟨g, off, none⟩)) (cs' : List Value) (hy : a.eval y = .agg cs'.toArray) (hn : (P.info? ty).map (·.size) = some cs'.length) (hl : off + cs'.length ≤ cs.length) (h1 : cs'.all (·.oneCell') = true)
    (hK : ∀ W, Mem w0 W (L.set i (g, t, splice cs off cs')) → K a W) : o.wp P a w K Q := by
  obtain ⟨w', hr, hb1, hb2⟩ := run_storeCells_mid (P := P) g t off cs' 0 w cs (hM.blk i hi) (by omega) h1
  cases hq : P.info? ty with
  | none => simp [hq] at hn
  | some ti =>
    have hs : ti.size = cs'.length := by simpa [hq] using hn
    have hsv : (storeVar ty ⟨g, off, none⟩ (.agg cs'.toArray)).run P w = .ok () w' := by
      simp [storeVar, sizeOf, typeInfo, hq, Value.cells, hs, hr]
    have e : a.put o.dst undef = a := by rw [hd]; rfl
    unfold Oper.wp execOp
    simp only [ho, hx, hy, Instr.storeAt, Instr.sureAddr, Sem.run_bind, Sem.run_pure, Result.andThen_ok, hsv]
    show K (a.put o.dst undef) _
    rw [e]
    exact hK _ (hM.but i hi hb1 (by simpa using hb2))
theorem wl_storep {ops : Array Oper} {rest : List Oper} {o : Oper} {a : Act} {w0 w : World} {L : List Bk} {Q : Exit → Act → World → Prop} (hw : Region.wanted o (yielded ops a.tmps) = true) (hM : Mem w0 w L) (i : Nat) {g : Nat} {t : TypeId} {cs : List Value} (hi : L[i]? = some (g, t, cs))
    (ty : TypeId) (x y : Operand) (ho : o.op = .store ty x y) (hd : o.dst = none) (off : Nat) (hx : a.eval x = .pointer (some ⟨g, off, none⟩)) (cs' : List Value) (hy : a.eval y = .agg cs'.toArray) (hn : (P.info? ty).map (·.size) = some cs'.length) (hl : off + cs'.length ≤ cs.length) (h1 : cs'.all (·.oneCell') = true)
    (h : ∀ W, Mem w0 W (L.set i (g, t, splice cs off cs')) → WL P ops Q rest a W) : WL P ops Q (o :: rest) a w :=
  ⟨BigFrame.wpList_want hw fun K hK => m_storep hM i hi ty x y ho hd off hx cs' hy hn hl h1 fun W hM => hK _ _ (h W hM).out⟩
end
end Go.Proofs.Ytoamnecoiicljaa
