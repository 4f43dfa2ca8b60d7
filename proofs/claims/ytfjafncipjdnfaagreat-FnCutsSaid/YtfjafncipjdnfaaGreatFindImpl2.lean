import Derived.Maps.OwnOps
import Derived.Test.YtfjafncipjdnfaaGreatFindImpl
namespace Go.Proofs.YtfjafncipjdnfaaGreat
open Go.ChangeMaps Go.MapKept Go.ChangeShapes Go.WideShapes Go.ChangeAt Go.RowKit
set_option linter.unusedVariables false
set_option linter.unusedSimpArgs false
def Tbl (w : World) (b : Nat) (es : Array MapEntry) (n : Nat) : Prop := w.heap[b]? = some (.map es n)
theorem Tbl.below {w w' : World} {b D n : Nat} {es : Array MapEntry} (h : Tbl w b es n) (hb : Below D w w') (hD : b < D) : Tbl w' b es n := (hb.block b hD).trans h
theorem Tbl.lt {w : World} {b n : Nat} {es : Array MapEntry} (h : Tbl w b es n) : b < w.heap.size := (Array.getElem?_eq_some_iff.1 h).1
section
variable {P : Program}
theorem nG {w : World} {kt : TypeId} {k : Int} {es : Array MapEntry} {r : Option (Nat × Value)} (hk : P.underlying kt = some (.int .i64)) (hf : Instr.findNow (.int .i64) (iJ k) es.toList 0 = some r) : (Instr.findKey kt (iJ k) es.toList).run P w = .ok r w := by
  unfold Instr.findKey
  simp [Sem.run_bind, run_underlying hk, hf, Result.andThen]
theorem xP {o : Oper} {a : Act} {w0 w : World} {K : Act → World → Prop} {Q : Exit → Act → World → Prop} (hM : Mem w0 w []) (t : TypeId) (ho : o.op = .makeMap t none)
    (hK : ∀ b W, w0.heap.size ≤ b → Mem w0 W [] → Tbl W b #[] 0 → K (a.put o.dst (.map (some b))) W) : o.wp P a w K Q := by
  have hr : (execOp a.eval o).run P w = .ok (.value (.map (some w.heap.size))) (w.alloc (.map #[] 0)) := by
    unfold execOp
    simp only [ho, Instr.makeMap, Option.map_none, Sem.run_bind, run_newObj_alloc, Sem.run_pure, Result.andThen_ok]
  unfold Oper.wp
  rw [hr]
  exact hK _ _ hM.size ⟨hM.below.alloc hM.size _, fun i g t cs h => by simp at h, fun i j g t t' cs cs' h => by simp at h⟩ (heap_alloc_new w _)
theorem kO {o : Oper} {a : Act} {w0 w : World} {K : Act → World → Prop} {Q : Exit → Act → World → Prop} (hM : Mem w0 w []) {b n : Nat} {es : Array MapEntry} (hB : w0.heap.size ≤ b) (hT : Tbl w b es n) (t kt et : TypeId) (m x y : Operand) (ho : o.op = .insert t m x y)
    (hu : P.underlying t = some (.map kt et)) (hk : P.underlying kt = some (.int .i64)) (hm : a.eval m = .map (some b)) (k : Int) (hx : a.eval x = iJ k) (v : Value) (hy : a.eval y = v) (hf : Instr.findNow (.int .i64) (iJ k) es.toList 0 = some none)
    (hK : ∀ W, Mem w0 W [] → Tbl W b (es.push { key := iJ k, val := v, born := n }) (n + 1) → K (a.put o.dst undef) W) : o.wp P a w K Q := by
  have hc : (Instr.checkKey false 10000 kt (iJ k)).run P w = .ok () w := run_checkKey hk (by simp [IsKey]) false 9999
  have hr : (execOp a.eval o).run P w = .ok .skip { w with heap := w.heap.setIfInBounds b (.map (es.push { key := iJ k, val := v, born := n }) (n + 1)) } := by
    unfold execOp
    simp only [ho, hm, hx, hy, Instr.mapUpdate, Sem.run_bind, run_underlying hu, Go.MapKept.run_getObj_map hT, hc, nG hk hf, Go.MapKept.run_setObj_map _ hT, Sem.run_pure, Result.andThen_ok]
  have hlt := hT.lt
  unfold Oper.wp
  rw [hr]
  refine hK _ ⟨hM.below.trans ⟨rfl, rfl, rfl, by simp, fun j hj => ?_⟩, fun i g t cs h => by simp at h, fun i j g t t' cs cs' h => by simp at h⟩ ?_
  · exact Array.getElem?_setIfInBounds_ne (by omega)
  · unfold Tbl
    exact Array.getElem?_setIfInBounds_self_of_lt hlt
theorem yP {o : Oper} {a : Act} {w : World} {K : Act → World → Prop} {Q : Exit → Act → World → Prop} {b n : Nat} {es : Array MapEntry} (hT : Tbl w b es n) (t kt et : TypeId) (m x : Operand) (ho : o.op = .lookup t m x true)
    (hu : P.underlying t = some (.map kt et)) (hk : P.underlying kt = some (.int .i64)) (hm : a.eval m = .map (some b)) (k : Int) (hx : a.eval x = iJ k) (j : Nat) (v : Value) (hf : Instr.findNow (.int .i64) (iJ k) es.toList 0 = some (some (j, v)))
    (hK : K (a.put o.dst (.tuple #[v, .bool true])) w) : o.wp P a w K Q := by
  have hc : (Instr.checkKey es.isEmpty 10000 kt (iJ k)).run P w = .ok () w := run_checkKey hk (by simp [IsKey]) _ 9999
  have hr : (execOp a.eval o).run P w = .ok (.value (.tuple #[v, .bool true])) w := by
    unfold execOp
    simp only [ho, hm, hx, Instr.lookup, Sem.run_bind, run_underlying hu, Go.MapKept.run_getObj_map hT, hc, nG hk hf, Sem.run_pure, Result.andThen_ok, if_true]
  unfold Oper.wp
  rw [hr]
  exact hK
theorem wP {o : Oper} {a : Act} {w : World} {K : Act → World → Prop} {Q : Exit → Act → World → Prop} {b n : Nat} {es : Array MapEntry} (hT : Tbl w b es n) (t kt et : TypeId) (m x : Operand) (ho : o.op = .lookup t m x true)
    (hu : P.underlying t = some (.map kt et)) (hk : P.underlying kt = some (.int .i64)) (hm : a.eval m = .map (some b)) (k : Int) (hx : a.eval x = iJ k) (z : Value) (hz : ∀ w : World, (zeroValue et).run P w = .ok z w) (hf : Instr.findNow (.int .i64) (iJ k) es.toList 0 = some none)
    (hK : K (a.put o.dst (.tuple #[z, .bool false])) w) : o.wp P a w K Q := by
  have hc : (Instr.checkKey es.isEmpty 10000 kt (iJ k)).run P w = .ok () w := run_checkKey hk (by simp [IsKey]) _ 9999
  have hr : (execOp a.eval o).run P w = .ok (.value (.tuple #[z, .bool false])) w := by
    unfold execOp
    simp only [ho, hm, hx, Instr.lookup, Sem.run_bind, run_underlying hu, Go.MapKept.run_getObj_map hT, hc, nG hk hf, hz, Sem.run_pure, Result.andThen_ok, if_true]
  unfold Oper.wp
  rw [hr]
  exact hK
theorem KO {ops : Array Oper} {rest : List Oper} {o : Oper} {a : Act} {w0 w : World} {Q : Exit → Act → World → Prop} (hw : Region.wanted o (yielded ops a.tmps) = true) (hM : Mem w0 w []) (t : TypeId) (ho : o.op = .makeMap t none)
    (h : ∀ b W, w0.heap.size ≤ b → Mem w0 W [] → Tbl W b #[] 0 → WL P ops Q rest (a.put o.dst (.map (some b))) W) : WL P ops Q (o :: rest) a w :=
  ⟨BigFrame.wpList_want hw fun K hK => xP hM t ho fun b W h1 h2 h3 => hK _ _ (h b W h1 h2 h3).out⟩
theorem tF {ops : Array Oper} {rest : List Oper} {o : Oper} {a : Act} {w0 w : World} {Q : Exit → Act → World → Prop} (hw : Region.wanted o (yielded ops a.tmps) = true) (hM : Mem w0 w []) {b n : Nat} {es : Array MapEntry} (hB : w0.heap.size ≤ b) (hT : Tbl w b es n) (t kt et : TypeId) (m x y : Operand) (ho : o.op = .insert t m x y)
    (hu : P.underlying t = some (.map kt et)) (hk : P.underlying kt = some (.int .i64)) (hm : a.eval m = .map (some b)) (k : Int) (hx : a.eval x = iJ k) (v : Value) (hy : a.eval y = v) (hf : Instr.findNow (.int .i64) (iJ k) es.toList 0 = some none)
    (h : ∀ W, Mem w0 W [] → Tbl W b (es.push { key := iJ k, val := v, born := n }) (n + 1) → WL P ops Q rest (a.put o.dst undef) W) : WL P ops Q (o :: rest) a w :=
  ⟨BigFrame.wpList_want hw fun K hK => kO hM hB hT t kt et m x y ho hu hk hm k hx v hy hf fun W h2 h3 => hK _ _ (h W h2 h3).out⟩
theorem RJ {ops : Array Oper} {rest : List Oper} {o : Oper} {a : Act} {w : World} {Q : Exit → Act → World → Prop} (hw : Region.wanted o (yielded ops a.tmps) = true) {b n : Nat} {es : Array MapEntry} (hT : Tbl w b es n) (t kt et : TypeId) (m x : Operand) (ho : o.op = .lookup t m x true)
    (hu : P.underlying t = some (.map kt et)) (hk : P.underlying kt = some (.int .i64)) (hm : a.eval m = .map (some b)) (k : Int) (hx : a.eval x = iJ k) (j : Nat) (v : Value) (hf : Instr.findNow (.int .i64) (iJ k) es.toList 0 = some (some (j, v)))
    (h : WL P ops Q rest (a.put o.dst (.tuple #[v, .bool true])) w) : WL P ops Q (o :: rest) a w :=
  ⟨BigFrame.wpList_want hw fun K hK => yP hT t kt et m x ho hu hk hm k hx j v hf (hK _ _ h.out)⟩
theorem JO {ops : Array Oper} {rest : List Oper} {o : Oper} {a : Act} {w : World} {Q : Exit → Act → World → Prop} (hw : Region.wanted o (yielded ops a.tmps) = true) {b n : Nat} {es : Array MapEntry} (hT : Tbl w b es n) (t kt et : TypeId) (m x : Operand) (ho : o.op = .lookup t m x true)
    (hu : P.underlying t = some (.map kt et)) (hk : P.underlying kt = some (.int .i64)) (hm : a.eval m = .map (some b)) (k : Int) (hx : a.eval x = iJ k) (z : Value) (hz : ∀ w : World, (zeroValue et).run P w = .ok z w) (hf : Instr.findNow (.int .i64) (iJ k) es.toList 0 = some none)
    (h : WL P ops Q rest (a.put o.dst (.tuple #[z, .bool false])) w) : WL P ops Q (o :: rest) a w :=
  ⟨BigFrame.wpList_want hw fun K hK => wP hT t kt et m x ho hu hk hm k hx z hz hf (hK _ _ h.out)⟩
end
set_option maxRecDepth 100000
set_option maxHeartbeats 16000000
theorem lE {fn : Func} {p q : Tmp} {t1 t2 : TypeId} (h : fn.results = #[.cell p t1, .cell q t2]) {tmps : Array Value} {w0 w : World} {L : List Bk} (hM : Mem w0 w L) (i j : Nat) {g g' : Nat} {t t' : TypeId} {cs cs' : List Value} (hi : L[i]? = some (g, t, cs)) (hj : L[j]? = some (g', t', cs'))
    (hp : tmps.getD p undef = .pointer (some ⟨g, 0, none⟩)) (hq : tmps.getD q undef = .pointer (some ⟨g', 0, none⟩)) {fs fs' : Array Field} (hu : Tryz.prog.underlying t1 = some (.struct fs)) (hu' : Tryz.prog.underlying t2 = some (.struct fs')) (hn : (Tryz.prog.info? t1).map (·.size) = some cs.length) (hn' : (Tryz.prog.info? t2).map (·.size) = some cs'.length) :
    (results fn tmps).run Tryz.prog w = .ok (.tuple #[.agg cs.toArray, .agg cs'.toArray]) w := by
  have e1 := run_loadVar_row (P := Tryz.prog) w g t t1 cs.toArray (0, 0) _ (hM.blk i hi) hu rfl (by simpa using hn);have e2 := run_loadVar_row (P := Tryz.prog) w g' t' t2 cs'.toArray (0, 0) _ (hM.blk j hj) hu' rfl (by simpa using hn');have hp' : tmps[p]?.getD undef = .pointer (some ⟨g, 0, none⟩) := by simpa using hp
  have hq' : tmps[q]?.getD undef = .pointer (some ⟨g', 0, none⟩) := by simpa using hq
  simp [results, h, hp', hq', asAddr, e1, e2, Sem.run_bind, Result.andThen]
theorem mx_lt {x y n : Int} : mx x y < n ↔ x < n ∧ y < n := by unfold mx; split <;> omega
theorem yM (l : List ND) (c : List Int) (task : Int) (h : HD) (a b : Int) : QB l c task h a b = (gE l c task h && XA h.at_ a b) := by
  unfold QB gE ZI sN;rw [Bool.eq_iff_iff];simp only [Bool.and_eq_true, decide_eq_true_eq, mx_lt, yG, List.all_cons, List.all_nil, mC, XA, UA]
  constructor
  · rintro ⟨⟨⟨⟨h1, h2⟩, h3⟩, h4⟩, h5⟩
    exact ⟨⟨⟨⟨h1, h2⟩, h3⟩, by first | omega | (simp only [Bool.and_eq_true, decide_eq_true_eq] at h5; omega)⟩, h4⟩
  · rintro ⟨⟨⟨⟨h1, h2⟩, h3⟩, h4⟩, h5⟩
    exact ⟨⟨⟨⟨h1, h2⟩, h3⟩, h5⟩, by first | omega | (simp only [true_and, and_true]; omega)⟩
theorem GE {l : List ND} {c : List Int} {task : Int} {h : HD} (hk : gE l c task h = true) : QB l c task h h.at_ h.at_ = true := by
  rw [yM, hk]
  simp [XA]
end Go.Proofs.YtfjafncipjdnfaaGreat
