import Derived.Test.YtfjafncipjdnfaaGreatTypes
import Derived.Test.YtfjafncipjdnfaaGreatRowInt
namespace Go.Proofs.YtfjafncipjdnfaaGreat
open Go.ChangeShapes Go.WideShapes Go.ChangeAt Go.RowKit
set_option linter.unusedVariables false
set_option linter.unusedSimpArgs false
theorem Mem.join {w0 W W1 : World} {L M : List Bk} (h : Mem w0 W L) (h1 : Mem W W1 M) : Mem w0 W1 (M ++ L) := by
  have hb := h1.below
  have hL := h.call hb
  have lt : ∀ (j g : Nat) (t : TypeId) (cs : List Value), L[j]? = some (g, t, cs) → g < W.heap.size := fun j g t cs hj => h.lt j hj
  refine ⟨hL.below, fun i g t cs hi => ?_, fun i j g t t' cs cs' hi hj => ?_⟩
  · rcases Nat.lt_or_ge i M.length with hl | hl
    · rw [List.getElem?_append_left hl] at hi
      exact ⟨Nat.le_trans h.size (h1.base i hi), h1.blk i hi⟩
    · rw [List.getElem?_append_right hl] at hi
      exact hL.own _ _ _ _ hi
  · rcases Nat.lt_or_ge i M.length with hl | hl <;> rcases Nat.lt_or_ge j M.length with hl' | hl'
    · rw [List.getElem?_append_left hl] at hi
      rw [List.getElem?_append_left hl'] at hj
      exact h1.apart i j g t t' cs cs' hi hj
    · rw [List.getElem?_append_left hl] at hi
      rw [List.getElem?_append_right hl'] at hj
      have := h1.base i hi
      have := lt _ _ _ _ hj
      omega
    · rw [List.getElem?_append_right hl] at hi
      rw [List.getElem?_append_left hl'] at hj
      have := h1.base j hj
      have := lt _ _ _ _ hi
      omega
    · rw [List.getElem?_append_right hl] at hi
      rw [List.getElem?_append_right hl'] at hj
      have := h.apart _ _ g t t' cs cs' hi hj
      omega
theorem dO {P : Program} {o : Oper} {a : Act} {w : World} {K : Act → World → Prop} {Q : Exit → Act → World → Prop} {m n : Int} (hr : (execOp a.eval o).run P w = .ok (.value (.int .i64 m)) w) (he : m = n) (hK : K (a.put o.dst (.int .i64 n)) w) : o.wp P a w K Q := by
  subst he
  exact dF _ hr hK
theorem WM {P : Program} {ops : Array Oper} {rest : List Oper} {o : Oper} {a : Act} {w : World} {Q : Exit → Act → World → Prop} (hw : Region.wanted o (yielded ops a.tmps) = true) {m n : Int} (hr : (execOp a.eval o).run P w = .ok (.value (.int .i64 m)) w) (he : m = n) (h : WL P ops Q rest (a.put o.dst (.int .i64 n)) w) : WL P ops Q (o :: rest) a w :=
  ⟨BigFrame.wpList_want hw fun K hK => dO hr he (hK _ _ h.out)⟩
theorem wB {fn : Func} {p : Tmp} {ty : TypeId} (h : fn.results = #[.cell p ty]) {tmps : Array Value} {w0 w : World} {L : List Bk} {g : Nat} {t : TypeId} {cs : List Value} (hM : Mem w0 w L) (i : Nat) (hi : L[i]? = some (g, t, cs)) (hp : tmps.getD p undef = .pointer (some ⟨g, 0, none⟩)) {fs : Array Field} (hu : Tryz.prog.underlying ty = some (.struct fs)) (hn : (Tryz.prog.info? ty).map (·.size) = some cs.length) :
    (results fn tmps).run Tryz.prog w = .ok (.agg cs.toArray) w :=
  results_cell_row h tmps w g t cs.toArray (0, 0) _ hp (hM.blk i hi) hu rfl (by simpa using hn)
theorem zB {fn : Func} {p u : Tmp} {t1 : TypeId} (h : fn.results = #[.cell p t1, .tmp u]) {tmps : Array Value} {w0 w : World} {L : List Bk} (hM : Mem w0 w L) (i : Nat) {g : Nat} {t : TypeId} {cs : List Value} (hi : L[i]? = some (g, t, cs))
    (hp : tmps.getD p undef = .pointer (some ⟨g, 0, none⟩)) {v : Value} (hv : tmps.getD u undef = v) {fs : Array Field} (hu : Tryz.prog.underlying t1 = some (.struct fs)) (hn : (Tryz.prog.info? t1).map (·.size) = some cs.length) :
    (results fn tmps).run Tryz.prog w = .ok (.tuple #[.agg cs.toArray, v]) w := by
  have e1 := run_loadVar_row (P := Tryz.prog) w g t t1 cs.toArray (0, 0) _ (hM.blk i hi) hu rfl (by simpa using hn)
  have hp' : tmps[p]?.getD undef = .pointer (some ⟨g, 0, none⟩) := by simpa using hp
  have hv' : tmps[u]?.getD undef = v := by simpa using hv
  simp [results, h, hp', hv', asAddr, e1, Sem.run_bind, Result.andThen]
theorem gD {w : World} {g k : Nat} {t : TypeId} {l : List ND} {p : List Value} (hb : Blk w g t (cellsOf l ++ p)) (h1 : l.length ≤ k) (h2 : k ≤ maxLen) : NSl w (.slice (some ⟨g, 0, none⟩) l.length k) l :=
  (show Own0 w _ g t 8 l.length (cellsOf l) from ⟨k, p, rfl, h1, h2, iA l, hb⟩).sl
theorem gB {w : World} {g k : Nat} {t : TypeId} {c : List Int} {p : List Value} (hb : Blk w g t (CA c ++ p)) (h1 : c.length ≤ k) (h2 : k ≤ maxLen) : SlI w (.slice (some ⟨g, 0, none⟩) c.length k) c :=
  (show Own0 w _ g t 1 c.length (CA c) from ⟨k, p, rfl, h1, h2, by simp [CA], hb⟩).sl
theorem uE {w : World} {B g k : Nat} {l : List ND} {p : List Value} (hb : Blk w g 37 (cellsOf l ++ p)) (h1 : l.length ≤ k) (h2 : k ≤ maxLen) (hB : B ≤ g) (h0 : 0 < l.length) (hx : (cellsOf l ++ p).length = k * 8) : OwnR w B w.heap.size 37 8 l.length (cellsOf l) (.slice (some ⟨g, 0, none⟩) l.length k) :=
  OwnR.of_own (show Own w _ g _ 8 l.length (cellsOf l) from ⟨k, p, rfl, h1, h2, ⟨iA l, hx⟩, hb⟩) hB h0
theorem YA {w : World} {B g k : Nat} {c : List Int} {p : List Value} (hb : Blk w g 2 (CA c ++ p)) (h1 : c.length ≤ k) (h2 : k ≤ maxLen) (hB : B ≤ g) (h0 : 0 < c.length) (hx : (CA c ++ p).length = k * 1) : OwnR w B w.heap.size 2 1 c.length (CA c) (.slice (some ⟨g, 0, none⟩) c.length k) :=
  OwnR.of_own (show Own w _ g _ 1 c.length (CA c) from ⟨k, p, rfl, h1, h2, ⟨by simp [CA], hx⟩, hb⟩) hB h0
theorem rM {fn : Func} {p q u : Tmp} {t1 t2 : TypeId} (h : fn.results = #[.cell p t1, .cell q t2, .tmp u]) {tmps : Array Value} {w0 w : World} {L : List Bk} (hM : Mem w0 w L) (i j : Nat) {g g' : Nat} {t t' : TypeId} {cs cs' : List Value} (hi : L[i]? = some (g, t, cs)) (hj : L[j]? = some (g', t', cs'))
    (hp : tmps.getD p undef = .pointer (some ⟨g, 0, none⟩)) (hq : tmps.getD q undef = .pointer (some ⟨g', 0, none⟩)) {v : Value} (hv : tmps.getD u undef = v) {fs fs' : Array Field} (hu : Tryz.prog.underlying t1 = some (.struct fs)) (hu' : Tryz.prog.underlying t2 = some (.struct fs')) (hn : (Tryz.prog.info? t1).map (·.size) = some cs.length) (hn' : (Tryz.prog.info? t2).map (·.size) = some cs'.length) :
    (results fn tmps).run Tryz.prog w = .ok (.tuple #[.agg cs.toArray, .agg cs'.toArray, v]) w := by
  have e1 := run_loadVar_row (P := Tryz.prog) w g t t1 cs.toArray (0, 0) _ (hM.blk i hi) hu rfl (by simpa using hn)
  have e2 := run_loadVar_row (P := Tryz.prog) w g' t' t2 cs'.toArray (0, 0) _ (hM.blk j hj) hu' rfl (by simpa using hn')
  have hp' : tmps[p]?.getD undef = .pointer (some ⟨g, 0, none⟩) := by simpa using hp
  have hq' : tmps[q]?.getD undef = .pointer (some ⟨g', 0, none⟩) := by simpa using hq
  have hv' : tmps[u]?.getD undef = v := by simpa using hv
  simp [results, h, hp', hq', hv', asAddr, e1, e2, Sem.run_bind, Result.andThen]
def LD (cs : List Value) : Nat → List Value → List Value
  | _, [] => cs
  | k, v :: r => LD (cs.set k v) (k + 1) r
theorem AA : ∀ (vs : List Value) (cs : List Value) (k : Nat), (LD cs k vs).length = cs.length
  | [], _, _ => rfl
  | v :: r, cs, k => by rw [LD, AA r]; simp
theorem ZF : ∀ (vs : List Value) (A X R : List Value), X.length = vs.length → LD (A ++ (X ++ R)) A.length vs = A ++ (vs ++ R)
  | [], A, X, R, h => by
    have : X = [] := List.length_eq_zero_iff.1 h
    subst this
    rfl
  | v :: r, A, x :: X, R, h => by
    have e : (A ++ (x :: X ++ R)).set A.length v = (A ++ [v]) ++ (X ++ R) := by
      rw [List.set_append_right _ _ (Nat.le_refl _)]
      simp
    have h2 := ZF r (A ++ [v]) X R (by simpa using h)
    rw [LD, e]
    simp only [List.length_append, List.length_singleton] at h2
    rw [h2]
    simp
theorem jD {l : List ND} {p : List Value} {k : Nat} (hk : k < l.length) (n : ND) : LD (cellsOf l ++ p) (0 + k * 8) n.cells = cellsOf (l.set k n) ++ p := by
  obtain ⟨m, hm⟩ : ∃ m, l[k]? = some m := ⟨_, List.getElem?_eq_getElem hk⟩
  have e1 : l = l.take k ++ (m :: l.drop (k + 1)) := by
    have hm' : l[k] = m := by rw [List.getElem?_eq_getElem hk] at hm; simpa using hm
    rw [← hm', ← List.drop_eq_getElem_cons hk, List.take_append_drop]
  have e2 : l.set k n = l.take k ++ (n :: l.drop (k + 1)) := by
    rw [List.set_eq_take_append_cons_drop, if_pos hk]
  have lt : (l.take k).length = k := by simp; omega
  have c1 : cellsOf l ++ p = cellsOf (l.take k) ++ (m.cells ++ (cellsOf (l.drop (k + 1)) ++ p)) := by
    conv => lhs; rw [e1]
    simp [cellsOf]
  have c2 : cellsOf (l.set k n) ++ p = cellsOf (l.take k) ++ (n.cells ++ (cellsOf (l.drop (k + 1)) ++ p)) := by
    rw [e2]
    simp [cellsOf]
  rw [c1, c2]
  have hlen : 0 + k * 8 = (cellsOf (l.take k)).length := by rw [iA, lt]; omega
  rw [hlen]
  exact ZF n.cells (cellsOf (l.take k)) m.cells _ rfl
section
variable {P : Program}
theorem tE (g : Nat) (t : TypeId) (off : Nat) : ∀ (vs : List Value) (i : Nat) (w : World) (cs : List Value), Blk w g t cs → off + i + vs.length ≤ cs.length → vs.all (·.oneCell') = true →
    ∃ w', (storeCells ⟨g, off, none⟩ vs i).run P w = .ok () w' ∧ But g w w' ∧ Blk w' g t (LD cs (off + i) vs)
  | [], i, w, cs, hb, _, _ => ⟨w, by simp [storeCells], But.refl _ _, hb⟩
  | v :: r, i, w, cs, hb, hl, h1 => by
    simp only [List.length_cons] at hl
    simp only [List.all_cons, Bool.and_eq_true] at h1
    have hk : off + i < cs.length := by omega
    have hadd : (⟨g, off, none⟩ : Addr).add i = ⟨g, off + i, none⟩ := by unfold Addr.add; split <;> simp_all
    have hc : w.cell? ⟨g, off + i, none⟩ = some cs[off + i] := by rw [hb.cell, List.getElem?_eq_getElem hk]
    have hf := hb.free (off + i)
    have hst : (store ((⟨g, off, none⟩ : Addr).add i) v).run P w = .ok () (w.setCell ⟨g, off + i, none⟩ v) := by
      rw [hadd, run_store P w _ v _ h1.1, hc]
      simp [hf]
    obtain ⟨w', hr, hb1, hb2⟩ := tE g t off r (i + 1) (w.setCell ⟨g, off + i, none⟩ v) (cs.set (off + i) v) (hb.set _ _) (by simp; omega) h1.2
    refine ⟨w', ?_, (But.set g (off + i) w v).trans hb1, ?_⟩
    · simp only [storeCells, Sem.run_bind, hst, Result.andThen_ok, hr]
    · rw [LD]
      exact hb2
theorem zK {o : Oper} {a : Act} {w0 w : World} {L : List Bk} {K : Act → World → Prop} {Q : Exit → Act → World → Prop} (hM : Mem w0 w L) (i : Nat) {g : Nat} {t : TypeId} {cs : List Value} (hi : L[i]? = some (g, t, cs))
    (ty : TypeId) (x y : Operand) (ho : o.op = .store ty x y) (hd : o.dst = none) (off : Nat) (hx : a.eval x = .pointer (some ⟨g, off, none⟩)) (cs' : List Value) (hy : a.eval y = .agg cs'.toArray) (hn : (P.info? ty).map (·.size) = some cs'.length) (hl : off + cs'.length ≤ cs.length) (h1 : cs'.all (·.oneCell') = true)
    (hK : ∀ W, Mem w0 W (L.set i (g, t, LD cs off cs')) → K a W) : o.wp P a w K Q := by
  obtain ⟨w', hr, hb1, hb2⟩ := tE (P := P) g t off cs' 0 w cs (hM.blk i hi) (by omega) h1
  cases hq : P.info? ty with
  | none => simp [hq] at hn
  | some ti =>
    have hs : ti.size = cs'.length := by simpa [hq] using hn
    have hsv : (storeVar ty ⟨g, off, none⟩ (.agg cs'.toArray)).run P w = .ok () w' := by
      simp [storeVar, sizeOf, typeInfo, hq, Value.cells, hs, hr]
    have e : a.put o.dst undef = a := by rw [hd]; rfl
    unfold Oper.wp execOp
    simp only [ho, hx, hy, Instr.storeAt, Instr.sureAddr, Sem.run_bind, Sem.run_pure, Result.andThen_ok, hsv]
    show K (a.put o.dst undef) _
    rw [e]
    exact hK _ (hM.but i hi hb1 (by simpa using hb2))
theorem PE {ops : Array Oper} {rest : List Oper} {o : Oper} {a : Act} {w0 w : World} {L : List Bk} {Q : Exit → Act → World → Prop} (hw : Region.wanted o (yielded ops a.tmps) = true) (hM : Mem w0 w L) (i : Nat) {g : Nat} {t : TypeId} {cs : List Value} (hi : L[i]? = some (g, t, cs))
    (ty : TypeId) (x y : Operand) (ho : o.op = .store ty x y) (hd : o.dst = none) (off : Nat) (hx : a.eval x = .pointer (some ⟨g, off, none⟩)) (cs' : List Value) (hy : a.eval y = .agg cs'.toArray) (hn : (P.info? ty).map (·.size) = some cs'.length) (hl : off + cs'.length ≤ cs.length) (h1 : cs'.all (·.oneCell') = true)
    (h : ∀ W, Mem w0 W (L.set i (g, t, LD cs off cs')) → WL P ops Q rest a W) : WL P ops Q (o :: rest) a w :=
  ⟨BigFrame.wpList_want hw fun K hK => zK hM i hi ty x y ho hd off hx cs' hy hn hl h1 fun W hM => hK _ _ (h W hM).out⟩
end
end Go.Proofs.YtfjafncipjdnfaaGreat
