import Derived.Test.YtfjafncipjdnfaaGreatList
import Derived.Great.Ranges
import Derived.Great.BuildSlice
import Derived.Laws.CopyOwn
import Derived.Laws.ResultCell
import Derived.Maps.RangeWalk
import Derived.IntWalk
namespace Go.Proofs.YtfjafncipjdnfaaGreat
open Go.ChangeShapes Go.WideShapes Go.ChangeAt Go.RowKit
set_option linter.unusedVariables false
set_option linter.unusedSimpArgs false
abbrev Bk := Nat × TypeId × List Value
structure Mem (w0 W : World) (L : List Bk) : Prop where
  below : Below w0.heap.size w0 W
  own : ∀ (i g : Nat) (t : TypeId) (cs : List Value), L[i]? = some (g, t, cs) → w0.heap.size ≤ g ∧ Blk W g t cs
  apart : ∀ (i j g : Nat) (t t' : TypeId) (cs cs' : List Value), L[i]? = some (g, t, cs) → L[j]? = some (g, t', cs') → i = j
theorem Mem.start (w : World) : Mem w w [] := ⟨Below.refl _ _, fun i g t cs h => by simp at h, fun i j g t t' cs cs' h => by simp at h⟩
theorem Mem.size {w0 W : World} {L : List Bk} (h : Mem w0 W L) : w0.heap.size ≤ W.heap.size := h.below.size
theorem Mem.blk {w0 W : World} {L : List Bk} (h : Mem w0 W L) (i : Nat) {g : Nat} {t : TypeId} {cs : List Value} (hi : L[i]? = some (g, t, cs)) : Blk W g t cs := (h.own i g t cs hi).2
theorem Mem.b1 {w0 W : World} {L : List Bk} (h : Mem w0 W L) (i : Nat) {g : Nat} {t : TypeId} {cs : List Value} (hi : L[i]? = some (g, t, cs)) : Below w0.heap.size w0 W ∧ Blk W g t cs := ⟨h.below, h.blk i hi⟩
theorem Mem.b2 {w0 W : World} {L : List Bk} (h : Mem w0 W L) (i j : Nat) {g g' : Nat} {t t' : TypeId} {cs cs' : List Value} (hi : L[i]? = some (g, t, cs)) (hj : L[j]? = some (g', t', cs')) : Below w0.heap.size w0 W ∧ Blk W g t cs ∧ Blk W g' t' cs' := ⟨h.below, h.blk i hi, h.blk j hj⟩
theorem Mem.base {w0 W : World} {L : List Bk} (h : Mem w0 W L) (i : Nat) {g : Nat} {t : TypeId} {cs : List Value} (hi : L[i]? = some (g, t, cs)) : w0.heap.size ≤ g := (h.own i g t cs hi).1
theorem Mem.lt {w0 W : World} {L : List Bk} (h : Mem w0 W L) (i : Nat) {g : Nat} {t : TypeId} {cs : List Value} (hi : L[i]? = some (g, t, cs)) : g < W.heap.size := (h.blk i hi).lt
theorem Mem.call {w0 W W1 : World} {L : List Bk} (h : Mem w0 W L) (hb : Below W.heap.size W W1) : Mem w0 W1 L :=
  ⟨h.below.trans (hb.mono h.size), fun i g t cs hi => ⟨h.base i hi, (h.blk i hi).below hb (h.lt i hi)⟩, h.apart⟩
theorem Mem.drew {w0 W : World} {L : List Bk} (h : Mem w0 W L) : Mem w0 W.drew L := h.call (Below.refl _ _).drew
theorem Mem.alloc {w0 W : World} {L : List Bk} (h : Mem w0 W L) (cs : List Value) (t : TypeId) : Mem w0 (W.alloc (.cells cs.toArray t)) ((W.heap.size, t, cs) :: L) := by
  have h1 := h.call ((Below.refl _ _).alloc (Nat.le_refl _) (.cells cs.toArray t))
  refine ⟨h1.below, fun i g t' cs' hi => ?_, fun i j g t1 t2 c1 c2 hi hj => ?_⟩
  · cases i with
    | zero =>
      simp only [List.getElem?_cons_zero, Option.some.injEq, Prod.mk.injEq] at hi
      obtain ⟨rfl, rfl, rfl⟩ := hi
      exact ⟨h.size, heap_alloc_new W _⟩
    | succ i => exact h1.own i g t' cs' (by simpa using hi)
  · cases i with
    | zero =>
      cases j with
      | zero => rfl
      | succ j =>
        simp only [List.getElem?_cons_zero, Option.some.injEq, Prod.mk.injEq] at hi
        have := h.lt j (by simpa using hj)
        omega
    | succ i =>
      cases j with
      | zero =>
        simp only [List.getElem?_cons_zero, Option.some.injEq, Prod.mk.injEq] at hj
        have := h.lt i (by simpa using hi)
        omega
      | succ j => rw [h.apart i j g t1 t2 c1 c2 (by simpa using hi) (by simpa using hj)]
theorem Mem.but {w0 W W1 : World} {L : List Bk} (h : Mem w0 W L) (i : Nat) {g : Nat} {t : TypeId} {cs : List Value} (hi : L[i]? = some (g, t, cs)) (hb : But g W W1) {cs1 : List Value} (h1 : Blk W1 g t cs1) : Mem w0 W1 (L.set i (g, t, cs1)) := by
  have hil : i < L.length := (List.getElem?_eq_some_iff.1 hi).1
  refine ⟨h.below.trans (hb.below (h.base i hi) h.size), fun j g' t' cs' hj => ?_, fun j k g' t1 t2 c1 c2 hj hk => ?_⟩
  · by_cases e : i = j
    · subst e
      rw [List.getElem?_set_self hil] at hj
      simp only [Option.some.injEq, Prod.mk.injEq] at hj
      obtain ⟨rfl, rfl, rfl⟩ := hj
      exact ⟨h.base i hi, h1⟩
    · rw [List.getElem?_set_ne e] at hj
      refine ⟨h.base j hj, hb.blk (h.blk j hj) ?_⟩
      intro e2
      subst e2
      exact e (h.apart i j _ _ _ _ _ hi hj)
  · have key : ∀ (j g' : Nat) (t1 : TypeId) (c1 : List Value), (L.set i (g, t, cs1))[j]? = some (g', t1, c1) → ∃ t2 c2, L[j]? = some (g', t2, c2) := fun j g' t1 c1 hj => by
      by_cases e : i = j
      · subst e
        rw [List.getElem?_set_self hil] at hj
        simp only [Option.some.injEq, Prod.mk.injEq] at hj
        obtain ⟨rfl, rfl, rfl⟩ := hj
        exact ⟨_, _, hi⟩
      · rw [List.getElem?_set_ne e] at hj
        exact ⟨_, _, hj⟩
    obtain ⟨_, _, a1⟩ := key _ _ _ _ hj
    obtain ⟨_, _, a2⟩ := key _ _ _ _ hk
    exact h.apart _ _ _ _ _ _ _ a1 a2
theorem Mem.setc {w0 W : World} {L : List Bk} (h : Mem w0 W L) (i : Nat) {g : Nat} {t : TypeId} {cs : List Value} (hi : L[i]? = some (g, t, cs)) (k : Nat) (v : Value) : Mem w0 (W.setCell ⟨g, k, none⟩ v) (L.set i (g, t, cs.set k v)) :=
  h.but i hi (But.set g k W v) ((h.blk i hi).set k v)
theorem Mem.row {w0 W : World} {L : List Bk} (h : Mem w0 W L) (i : Nat) {g : Nat} {t : TypeId} {cs : List Value} (hi : L[i]? = some (g, t, cs)) (cs' : List Value) : Mem w0 (W.setRow g cs'.toArray) (L.set i (g, t, cs')) :=
  h.but i hi (show But g W (W.setRow g cs'.toArray) from ⟨rfl, rfl, rfl, by simp, fun k _ hk => setRow_other W g k _ hk⟩) (setRow_heap W g cs.toArray cs'.toArray t (0, 0) (h.blk i hi))
theorem Mem.cast {w0 W : World} {L L' : List Bk} (h : Mem w0 W L) (e : L = L') : Mem w0 W L' := e ▸ h
theorem Mem.only {w0 W : World} {L : List Bk} (h : Mem w0 W L) : Mem w0 W [] := ⟨h.below, fun i g t cs h => by simp at h, fun i j g t t' cs cs' h => by simp at h⟩
theorem Mem.one {w0 W : World} {L : List Bk} (h : Mem w0 W L) (i : Nat) {b : Bk} (hi : L[i]? = some b) : Mem w0 W [b] := by
  obtain ⟨g, t, cs⟩ := b
  refine ⟨h.below, fun j g' t' cs' hj => ?_, fun j k g' t1 t2 c1 c2 hj hk => ?_⟩
  · cases j with
    | zero =>
      simp only [List.getElem?_cons_zero, Option.some.injEq, Prod.mk.injEq] at hj
      obtain ⟨rfl, rfl, rfl⟩ := hj
      exact h.own i _ _ _ hi
    | succ j => simp at hj
  · cases j <;> cases k <;> simp_all
theorem Mem.adopt {w0 W : World} {L : List Bk} (h : Mem w0 W L) {g D : Nat} {t : TypeId} {cs : List Value} (hg : D ≤ g) (hb : Blk W g t cs) (hD : w0.heap.size ≤ D) (hn : ∀ b ∈ L, b.1 < D) : Mem w0 W ((g, t, cs) :: L) := by
  have key : ∀ (i g' : Nat) (t' : TypeId) (cs' : List Value), L[i]? = some (g', t', cs') → g' < D := fun i g' t' cs' hi => hn _ (List.mem_of_getElem? hi)
  refine ⟨h.below, fun i g' t' cs' hi => ?_, fun i j g' t1 t2 c1 c2 hi hj => ?_⟩
  · cases i with
    | zero =>
      simp only [List.getElem?_cons_zero, Option.some.injEq, Prod.mk.injEq] at hi
      obtain ⟨rfl, rfl, rfl⟩ := hi
      exact ⟨by omega, hb⟩
    | succ i => exact h.own i g' t' cs' (by simpa using hi)
  · cases i with
    | zero =>
      cases j with
      | zero => rfl
      | succ j =>
        simp only [List.getElem?_cons_zero, Option.some.injEq, Prod.mk.injEq] at hi
        have := key j g' t2 c2 (by simpa using hj)
        omega
    | succ i =>
      cases j with
      | zero =>
        simp only [List.getElem?_cons_zero, Option.some.injEq, Prod.mk.injEq] at hj
        have := key i g' t1 c1 (by simpa using hi)
        omega
      | succ j => rw [h.apart i j g' t1 t2 c1 c2 (by simpa using hi) (by simpa using hj)]
theorem Mem.got {w0 W W1 : World} {L : List Bk} (h : Mem w0 W L) (hb : Below W.heap.size W W1) {g : Nat} {t : TypeId} {cs : List Value} (hg : W.heap.size ≤ g) (hB : Blk W1 g t cs) : Mem w0 W1 ((g, t, cs) :: L) :=
  (h.call hb).adopt hg hB h.size (fun b hb' => by
    obtain ⟨i, hi, e⟩ := List.getElem_of_mem hb'
    obtain ⟨g', t', cs'⟩ := b
    exact h.lt i (by rw [List.getElem?_eq_getElem hi, e]))
theorem Mem.mem {w0 W : World} {L : List Bk} (h : Mem w0 W L) {g : Nat} {t : TypeId} {cs : List Value} (hb : (g, t, cs) ∈ L) : w0.heap.size ≤ g ∧ Blk W g t cs := by
  obtain ⟨i, hi, e⟩ := List.getElem_of_mem hb
  exact h.own i g t cs (by rw [List.getElem?_eq_getElem hi, e])
theorem Mem.sub {w0 W : World} {L M : List Bk} (h : Mem w0 W L) (f : Nat → Nat) (hf : ∀ i b, M[i]? = some b → L[f i]? = some b) (hi : ∀ i j, i < M.length → j < M.length → f i = f j → i = j) : Mem w0 W M :=
  ⟨h.below, fun i g t cs hM => h.own (f i) g t cs (hf i _ hM), fun i j g t t' cs cs' h1 h2 => hi i j (List.getElem?_eq_some_iff.1 h1).1 (List.getElem?_eq_some_iff.1 h2).1 (h.apart _ _ _ _ _ _ _ (hf i _ h1) (hf j _ h2))⟩
theorem Mem.tail {w0 W : World} {E L : List Bk} (h : Mem w0 W (E ++ L)) : Mem w0 W L :=
  h.sub (fun i => E.length + i) (fun i b hb => by rw [List.getElem?_append_right (by omega)]; simpa using hb) (fun i j _ _ e => by omega)
theorem Mem.front {w0 W : World} {E L : List Bk} (h : Mem w0 W (E ++ L)) {b : Bk} (hb : b ∈ E) : Mem w0 W (b :: L) := by
  obtain ⟨k, hk, e⟩ := List.getElem_of_mem hb
  refine h.sub (fun i => if i = 0 then k else E.length + (i - 1)) (fun i b' hb' => ?_) (fun i j _ _ e => ?_)
  · by_cases h0 : i = 0
    · subst h0
      simp only [List.getElem?_cons_zero, Option.some.injEq] at hb'
      rw [if_pos rfl, List.getElem?_append_left hk, List.getElem?_eq_getElem hk, e, hb']
    · rw [if_neg h0, List.getElem?_append_right (by omega)]
      obtain ⟨j, rfl⟩ := Nat.exists_eq_succ_of_ne_zero h0
      simpa using hb'
  · by_cases h0 : i = 0 <;> by_cases h1 : j = 0 <;> simp only [h0, h1, if_true, if_false] at e <;> omega
theorem Mem.front2 {w0 W : World} {E L : List Bk} (h : Mem w0 W (E ++ L)) {b c : Bk} (hb : b ∈ E) (hc : c ∈ E) (hne : b ≠ c) : Mem w0 W (b :: c :: L) := by
  obtain ⟨k, hk, e⟩ := List.getElem_of_mem hb
  obtain ⟨m, hm, e2⟩ := List.getElem_of_mem hc
  have hkm : k ≠ m := fun e3 => by subst e3; exact hne (e.symm.trans e2)
  refine h.sub (fun i => if i = 0 then k else if i = 1 then m else E.length + (i - 2)) (fun i b' hb' => ?_) (fun i j _ _ e => ?_)
  · by_cases h0 : i = 0
    · subst h0
      simp only [List.getElem?_cons_zero, Option.some.injEq] at hb'
      rw [if_pos rfl, List.getElem?_append_left hk, List.getElem?_eq_getElem hk, e, hb']
    · by_cases h1 : i = 1
      · subst h1
        simp only [List.getElem?_cons_succ, List.getElem?_cons_zero, Option.some.injEq] at hb'
        rw [if_neg (by decide), if_pos rfl, List.getElem?_append_left hm, List.getElem?_eq_getElem hm, e2, hb']
      · rw [if_neg h0, if_neg h1, List.getElem?_append_right (by omega)]
        obtain ⟨j, rfl⟩ : ∃ j, i = j + 2 := ⟨i - 2, by omega⟩
        simpa using hb'
  · split at e <;> split at e <;> (try split at e) <;> (try split at e) <;> omega
section
variable {P : Program}
theorem m_box {o : Oper} {a : Act} {w0 w : World} {L : List Bk} {K : Act → World → Prop} {Q : Exit → Act → World → Prop} (hM : Mem w0 w L) (t : TypeId) (x : Operand) (ho : o.op = .box t x) (cs : List Value) (hx : (a.eval x).cells = cs.toArray)
    (hK : ∀ g W, Mem w0 W ((g, t, cs) :: L) → K (a.put o.dst (.pointer (some ⟨g, 0, none⟩))) W) : o.wp P a w K Q := by
  unfold Oper.wp execOp
  simp only [ho, Sem.run_bind, Instr.box, newVar, newRow, run_newObj_alloc, Sem.run_pure, Result.andThen_ok, hx]
  exact hK _ _ (hM.alloc cs t)
theorem VL {o : Oper} {a : Act} {w0 w : World} {L : List Bk} {K : Act → World → Prop} {Q : Exit → Act → World → Prop} (hM : Mem w0 w L) (t : TypeId) (ho : o.op = .alloc t) (cs : List Value)
    (hz : ∀ w : World, (Instr.alloc t true (.tuple #[])).run P w = .ok (.pointer (some ⟨w.heap.size, 0, none⟩)) (w.alloc (.cells cs.toArray t)))
    (hK : ∀ g W, Mem w0 W ((g, t, cs) :: L) → K (a.put o.dst (.pointer (some ⟨g, 0, none⟩))) W) : o.wp P a w K Q := by
  unfold Oper.wp execOp
  simp only [ho, Sem.run_bind, hz, Sem.run_pure, Result.andThen_ok]
  exact hK _ _ (hM.alloc cs t)
theorem NO {o : Oper} {a : Act} {w0 w : World} {L : List Bk} {K : Act → World → Prop} {Q : Exit → Act → World → Prop} (hM : Mem w0 w L) (i : Nat) {g : Nat} {t : TypeId} {cs : List Value} (hi : L[i]? = some (g, t, cs))
    (ty : TypeId) (x : Operand) (ho : o.op = .load ty x) (hx : a.eval x = .pointer (some ⟨g, 0, none⟩)) {fs : Array Field} (hu : P.underlying ty = some (.struct fs)) (hn : (P.info? ty).map (·.size) = some cs.length)
    (hK : K (a.put o.dst (.agg cs.toArray)) w) : o.wp P a w K Q :=
  wp_load_row ty x ho g hx t cs.toArray (0, 0) _ (hM.blk i hi) hu rfl (by simpa using hn) hK
theorem KJ {o : Oper} {a : Act} {w0 w : World} {L : List Bk} {K : Act → World → Prop} {Q : Exit → Act → World → Prop} (hM : Mem w0 w L) (i : Nat) {g : Nat} {t : TypeId} {cs : List Value} (hi : L[i]? = some (g, t, cs))
    (ty : TypeId) (x : Operand) (ho : o.op = .load ty x) (k : Nat) (hx : a.eval x = .pointer (some ⟨g, k, none⟩)) {d : TypeDesc} (hu : P.underlying ty = some d) (hd : (match d with | .struct _ | .array _ _ => false | _ => true) = true) {v : Value} (hv : cs[k]? = some v)
    (hK : K (a.put o.dst v) w) : o.wp P a w K Q := by
  have hc : w.cell? ⟨g, k, none⟩ = some v := by rw [(hM.blk i hi).cell, hv]
  have hagg : (isAgg ty).run P w = .ok false w := by
    unfold isAgg
    rw [Sem.run_bind, run_underlying hu w]
    cases d <;> simp_all
  unfold Oper.wp execOp
  simp only [ho, hx, Instr.loadAt, Instr.sureAddr, Sem.run_bind, Sem.run_pure, Result.andThen_ok, loadVar, hagg]
  simp [go_sem, hc]
  exact hK
theorem TL {o : Oper} {a : Act} {w0 w : World} {L : List Bk} {K : Act → World → Prop} {Q : Exit → Act → World → Prop} (hM : Mem w0 w L) (i : Nat) {g : Nat} {t : TypeId} {cs : List Value} (hi : L[i]? = some (g, t, cs))
    (ty : TypeId) (x y : Operand) (ho : o.op = .store ty x y) (hd : o.dst = none) (hx : a.eval x = .pointer (some ⟨g, 0, none⟩)) (cs' : List Value) (hy : a.eval y = .agg cs'.toArray) (hn : (P.info? ty).map (·.size) = some cs'.length) (hl : cs.length = cs'.length) (h1 : cs'.all (·.oneCell') = true)
    (hK : ∀ W, Mem w0 W (L.set i (g, t, cs')) → K a W) : o.wp P a w K Q :=
  wp_store_row ty x y ho g cs'.toArray hx hy t cs.toArray (hM.blk i hi) (by simpa using hn) (by simpa using hl) (by simpa using h1) (by
    have e : a.put o.dst undef = a := by rw [hd]; rfl
    rw [e]
    exact hK _ (hM.row i hi cs'))
theorem AK {o : Oper} {a : Act} {w0 w : World} {L : List Bk} {K : Act → World → Prop} {Q : Exit → Act → World → Prop} (hM : Mem w0 w L) (i : Nat) {g : Nat} {t : TypeId} {cs : List Value} (hi : L[i]? = some (g, t, cs))
    (ty : TypeId) (x y : Operand) (ho : o.op = .store ty x y) (hd : o.dst = none) (k : Nat) (hx : a.eval x = .pointer (some ⟨g, k, none⟩)) (v : Value) (hy : a.eval y = v) (hv : v.cells = #[v]) (h1 : v.oneCell' = true) (hn : (P.info? ty).map (·.size) = some 1) (hk : k < cs.length)
    (hK : ∀ W, Mem w0 W (L.set i (g, t, cs.set k v)) → K a W) : o.wp P a w K Q := by
  have hc : w.cell? ⟨g, k, none⟩ = some cs[k] := by rw [(hM.blk i hi).cell, List.getElem?_eq_getElem hk]
  have hf := (hM.blk i hi).free k
  cases hq : P.info? ty with
  | none => simp [hq] at hn
  | some ti =>
    have hs : ti.size = 1 := by simpa [hq] using hn
    have hadd : (⟨g, k, none⟩ : Addr).add 0 = ⟨g, k, none⟩ := by unfold Addr.add; split <;> simp_all
    have hst : (store (⟨g, k, none⟩ : Addr) v).run P w = .ok () (w.setCell ⟨g, k, none⟩ v) := by
      rw [run_store P w _ v _ h1, hc]
      simp [hf]
    have hsv : (storeVar ty ⟨g, k, none⟩ v).run P w = .ok () (w.setCell ⟨g, k, none⟩ v) := by
      simp [storeVar, sizeOf, typeInfo, hq, hv, hs, storeCells, hadd, Sem.run_bind, hst]
    have e : a.put o.dst undef = a := by rw [hd]; rfl
    unfold Oper.wp execOp
    simp only [ho, hx, hy, Instr.storeAt, Instr.sureAddr, Sem.run_bind, Sem.run_pure, Result.andThen_ok, hsv]
    show K (a.put o.dst undef) _
    rw [e]
    exact hK _ (hM.setc i hi k v)
theorem dF {o : Oper} {a : Act} {w : World} {K : Act → World → Prop} {Q : Exit → Act → World → Prop} (v : Value) (hr : (execOp a.eval o).run P w = .ok (.value v) w) (hK : K (a.put o.dst v) w) : o.wp P a w K Q := by
  unfold Oper.wp
  rw [hr]
  exact hK
theorem LJ {o : Oper} {a : Act} {w : World} {K : Act → World → Prop} {Q : Exit → Act → World → Prop} (f : FuncId) (args : Array Value) (hr : (execOp a.eval o).run P w = .ok (.enter f args) w) {S : Ending → World → Prop} (hc : Calls P f args w S)
    (h : ∀ e w', S e w' → ∃ v, e = .returned v ∧ K (a.put o.dst v) w') : o.wp P a w K Q := by
  unfold Oper.wp
  rw [hr, Oper.upon_enter]
  refine hc.mono fun e w' hs => ?_
  obtain ⟨v, rfl, hk⟩ := h e w' hs
  exact hk
theorem fO {o : Oper} {a : Act} {w : World} {K : Act → World → Prop} {Q : Exit → Act → World → Prop} (t e : TypeId) (x y : Operand) (ho : o.op = .indexAddr t x y) (b off n c sz k : Nat) (hx : a.eval x = .slice (some ⟨b, off, none⟩) n c) {z : Int} (hy : a.eval y = .int .i64 z) (hz : z = (k : Int)) (hk : k < n)
    (hu : P.underlying t = some (.slice e)) (hn : (P.info? e).map (·.size) = some sz)
    (hK : K (a.put o.dst (.pointer (some ⟨b, off + k * sz, none⟩))) w) : o.wp P a w K Q := by
  subst hz
  refine dF _ ?_ hK
  have h1 : (k : Int) < (n : Int) := by omega
  have h0 : (0 : Int) ≤ (k : Int) := by omega
  cases hq : P.info? e with
  | none => simp [hq] at hn
  | some ti =>
    have hs : ti.size = sz := by simpa [hq] using hn
    have hadd : (⟨b, off, none⟩ : Addr).add (k * sz) = ⟨b, off + k * sz, none⟩ := by unfold Addr.add; split <;> simp_all
    have hr : (Instr.indexAt t (.slice (some ⟨b, off, none⟩) n c) (.int .i64 (k : Int))).run P w = .ok (.pointer (some ⟨b, off + k * sz, none⟩)) w := by
      unfold Instr.indexAt
      simp [asIntOf, asInt, Sem.run_bind, run_underlying hu w, sizeOf, typeInfo, hq, hs, hk, hadd]
    unfold execOp
    simp only [ho, hx, hy, Sem.run_bind, hr, Result.andThen_ok, Sem.run_pure]
theorem OO {o : Oper} {a : Act} {w : World} {K : Act → World → Prop} {Q : Exit → Act → World → Prop} (ty : TypeId) (x : Operand) (ho : o.op = .load ty x) (p : Addr) (hx : a.eval x = .pointer (some p)) {d : TypeDesc} (hu : P.underlying ty = some d) (hd : (match d with | .struct _ | .array _ _ => false | _ => true) = true) {v : Value} (hc : w.cell? p = some v)
    (hK : K (a.put o.dst v) w) : o.wp P a w K Q := by
  have hagg : (isAgg ty).run P w = .ok false w := by
    unfold isAgg
    rw [Sem.run_bind, run_underlying hu w]
    cases d <;> simp_all
  unfold Oper.wp execOp
  simp only [ho, hx, Instr.loadAt, Instr.sureAddr, Sem.run_bind, Sem.run_pure, Result.andThen_ok, loadVar, hagg]
  simp [go_sem, hc]
  exact hK
theorem UL {o : Oper} {a : Act} {w : World} {K : Act → World → Prop} {Q : Exit → Act → World → Prop} (ty : TypeId) (x : Operand) (ho : o.op = .load ty x) (b off : Nat) (hx : a.eval x = .pointer (some ⟨b, off, none⟩)) {fs : Array Field} (hu : P.underlying ty = some (.struct fs)) (cs : List Value) (hn : (P.info? ty).map (·.size) = some cs.length)
    (hc : ∀ j v, cs[j]? = some v → w.cell? ⟨b, off + j, none⟩ = some v) (hK : K (a.put o.dst (.agg cs.toArray)) w) : o.wp P a w K Q := by
  have hl : (loadCells ⟨b, off, none⟩ cs.length).run P w = .ok cs.toArray w :=
    run_loadCells_list (P := P) w ⟨b, off, none⟩ cs (fun j v hv => by
      have hadd : (⟨b, off, none⟩ : Addr).add j = ⟨b, off + j, none⟩ := by unfold Addr.add; split <;> simp_all
      rw [hadd]
      exact hc j v hv)
  cases hq : P.info? ty with
  | none => simp [hq] at hn
  | some i =>
    have hs : i.size = cs.length := by simpa [hq] using hn
    have hagg : (isAgg ty).run P w = .ok true w := by
      unfold isAgg
      rw [Sem.run_bind, run_underlying hu w]
      rfl
    have hlv : (loadVar ty ⟨b, off, none⟩).run P w = .ok (.agg cs.toArray) w := by
      simp [loadVar, Sem.run_bind, hagg, sizeOf, typeInfo, hq, hs, hl]
    unfold Oper.wp execOp
    simp only [ho, hx, Instr.loadAt, Instr.sureAddr, Sem.run_bind, Sem.run_pure, Result.andThen_ok, hlv]
    exact hK
theorem eO {o : Oper} {a : Act} {w : World} {K : Act → World → Prop} {Q : Exit → Act → World → Prop} {b c : Bool} (hr : (execOp a.eval o).run P w = .ok (.value (.bool b)) w) (hb : b = c) (hK : K (a.put o.dst (.bool c)) w) : o.wp P a w K Q := by
  subst hb
  exact dF _ hr hK
theorem cO {o : Oper} {a : Act} {w : World} {K : Act → World → Prop} {Q : Exit → Act → World → Prop} {n : Int} (hr : (execOp a.eval o).run P w = .ok (.value (.int .i64 (IntKind.i64.wrap n))) w) (h0 : -9223372036854775808 ≤ n) (h1 : n ≤ 9223372036854775807) (hK : K (a.put o.dst (.int .i64 n)) w) : o.wp P a w K Q := by
  have e : IntKind.i64.wrap n = n := IntWalk.i64_in n ⟨by omega, by omega⟩
  rw [e] at hr
  exact dF _ hr hK
theorem MO {o : Oper} {a : Act} {w0 w : World} {L : List Bk} {K : Act → World → Prop} {Q : Exit → Act → World → Prop} (hM : Mem w0 w L) (i : Nat) {g : Nat} {t : TypeId} {cs : List Value} (hi : L[i]? = some (g, t, cs))
    (ty : TypeId) (x : Operand) (ho : o.op = .load ty x) (k : Nat) (hx : a.eval x = .pointer (some ⟨g, k, none⟩)) {fs : Array Field} (hu : P.underlying ty = some (.struct fs)) (ps : List Value) (hn : (P.info? ty).map (·.size) = some ps.length) (hp : (cs.drop k).take ps.length = ps)
    (hK : K (a.put o.dst (.agg ps.toArray)) w) : o.wp P a w K Q := by
  refine UL ty x ho g k hx hu ps hn (fun j v hv => ?_) hK
  rw [(hM.blk i hi).cell]
  have hj : j < ps.length := (List.getElem?_eq_some_iff.1 hv).1
  rw [← hp, List.getElem?_take_of_lt hj, List.getElem?_drop] at hv
  exact hv
theorem YB {w0 w : World} {L : List Bk} (hM : Mem w0 w L) {b o : Nat} {n : ND} (hb : b < w0.heap.size) (h : At8 w0 b o n) : ∀ j v, n.cells[j]? = some v → w.cell? ⟨b, o + j, none⟩ = some v := by
  intro j v hv
  obtain ⟨h0, h1, h2, h3, h4, h5, h6, h7⟩ := h.below hM.below hb
  match j, hv with
  | 0, hv => cases hv; exact h0
  | 1, hv => cases hv; exact h1
  | 2, hv => cases hv; exact h2
  | 3, hv => cases hv; exact h3
  | 4, hv => cases hv; exact h4
  | 5, hv => cases hv; exact h5
  | 6, hv => cases hv; exact h6
  | 7, hv => cases hv; exact h7
  | n + 8, hv => simp [ND.cells] at hv
theorem dB {fn : Func} (t : Tmp) (h : fn.results = #[.tmp t]) {tmps : Array Value} {w : World} {v : Value} (hv : tmps.getD t undef = v) : (results fn tmps).run P w = .ok v w := by rw [results_tmp h, hv]
theorem rC {a b : Bool} (h : a = b) : Ending.returned (.bool a) = .returned (.bool b) := by rw [h]
theorem qD (x : ND) : x.cells.all (·.oneCell') = true := by simp [ND.cells, Value.oneCell']
structure WL (P : Program) (ops : Array Oper) (Q : Exit → Act → World → Prop) (l : List Oper) (a : Act) (w : World) : Prop where
  out : wpList P ops Q l a w
theorem wA {id : Nat} {l : List Oper} {Q : Exit → Act → World → Prop} {a : Act} {w : World} (h : WL P l.toArray Q l a w) : (Code.region id l.toArray false).wp P Q a w := wp_region_lit h.out
theorem CB {ops : Array Oper} {Q : Exit → Act → World → Prop} {a : Act} {w : World} (h : Q .normal a w) : WL P ops Q [] a w := ⟨wpList_nil h⟩
theorem NL {ops : Array Oper} {rest : List Oper} {o : Oper} {a : Act} {w : World} {Q : Exit → Act → World → Prop} (hw : Region.wanted o (yielded ops a.tmps) = true) (v : Value) (hr : (execOp a.eval o).run P w = .ok (.value v) w) (h : WL P ops Q rest (a.put o.dst v) w) : WL P ops Q (o :: rest) a w :=
  ⟨BigFrame.wpList_want hw fun K hK => dF v hr (hK _ _ h.out)⟩
theorem oF {ops : Array Oper} {rest : List Oper} {o : Oper} {a : Act} {w : World} {Q : Exit → Act → World → Prop} (hw : Region.wanted o (yielded ops a.tmps) = true) {b c : Bool} (hr : (execOp a.eval o).run P w = .ok (.value (.bool b)) w) (hb : b = c) (h : WL P ops Q rest (a.put o.dst (.bool c)) w) : WL P ops Q (o :: rest) a w :=
  ⟨BigFrame.wpList_want hw fun K hK => eO hr hb (hK _ _ h.out)⟩
theorem VM {ops : Array Oper} {rest : List Oper} {o : Oper} {a : Act} {w : World} {Q : Exit → Act → World → Prop} (hw : Region.wanted o (yielded ops a.tmps) = true) {n : Int} (hr : (execOp a.eval o).run P w = .ok (.value (.int .i64 (IntKind.i64.wrap n))) w) (h0 : -9223372036854775808 ≤ n) (h1 : n ≤ 9223372036854775807) (h : WL P ops Q rest (a.put o.dst (.int .i64 n)) w) : WL P ops Q (o :: rest) a w :=
  ⟨BigFrame.wpList_want hw fun K hK => cO hr h0 h1 (hK _ _ h.out)⟩
theorem RN {ops : Array Oper} {rest : List Oper} {o : Oper} {a : Act} {w0 w : World} {L : List Bk} {Q : Exit → Act → World → Prop} (hw : Region.wanted o (yielded ops a.tmps) = true) (hM : Mem w0 w L) (i : Nat) {g : Nat} {t : TypeId} {cs : List Value} (hi : L[i]? = some (g, t, cs)) (ty : TypeId) (x : Operand) (ho : o.op = .load ty x) (hx : a.eval x = .pointer (some ⟨g, 0, none⟩)) {fs : Array Field} (hu : P.underlying ty = some (.struct fs)) (hn : (P.info? ty).map (·.size) = some cs.length) (h : WL P ops Q rest (a.put o.dst (.agg cs.toArray)) w) : WL P ops Q (o :: rest) a w :=
  ⟨BigFrame.wpList_want hw fun K hK => NO hM i hi ty x ho hx hu hn (hK _ _ h.out)⟩
theorem XM {ops : Array Oper} {rest : List Oper} {o : Oper} {a : Act} {w0 w : World} {L : List Bk} {Q : Exit → Act → World → Prop} (hw : Region.wanted o (yielded ops a.tmps) = true) (hM : Mem w0 w L) (i : Nat) {g : Nat} {t : TypeId} {cs : List Value} (hi : L[i]? = some (g, t, cs)) (ty : TypeId) (x : Operand) (ho : o.op = .load ty x) (k : Nat) (hx : a.eval x = .pointer (some ⟨g, k, none⟩)) {d : TypeDesc} (hu : P.underlying ty = some d) (hd : (match d with | .struct _ | .array _ _ => false | _ => true) = true) {v : Value} (hv : cs[k]? = some v) (h : WL P ops Q rest (a.put o.dst v) w) : WL P ops Q (o :: rest) a w :=
  ⟨BigFrame.wpList_want hw fun K hK => KJ hM i hi ty x ho k hx hu hd hv (hK _ _ h.out)⟩
theorem SC {ops : Array Oper} {rest : List Oper} {o : Oper} {a : Act} {w0 w : World} {L : List Bk} {Q : Exit → Act → World → Prop} (hw : Region.wanted o (yielded ops a.tmps) = true) (hM : Mem w0 w L) (i : Nat) {g : Nat} {t : TypeId} {cs : List Value} (hi : L[i]? = some (g, t, cs)) (ty : TypeId) (x : Operand) (ho : o.op = .load ty x) (k : Nat) (hx : a.eval x = .pointer (some ⟨g, k, none⟩)) {fs : Array Field} (hu : P.underlying ty = some (.struct fs)) (ps : List Value) (hn : (P.info? ty).map (·.size) = some ps.length) (hp : (cs.drop k).take ps.length = ps) (h : WL P ops Q rest (a.put o.dst (.agg ps.toArray)) w) : WL P ops Q (o :: rest) a w :=
  ⟨BigFrame.wpList_want hw fun K hK => MO hM i hi ty x ho k hx hu ps hn hp (hK _ _ h.out)⟩
theorem AE {ops : Array Oper} {rest : List Oper} {o : Oper} {a : Act} {w : World} {Q : Exit → Act → World → Prop} (hw : Region.wanted o (yielded ops a.tmps) = true) (ty : TypeId) (x : Operand) (ho : o.op = .load ty x) (p : Addr) (hx : a.eval x = .pointer (some p)) {d : TypeDesc} (hu : P.underlying ty = some d) (hd : (match d with | .struct _ | .array _ _ => false | _ => true) = true) {v : Value} (hc : w.cell? p = some v) (h : WL P ops Q rest (a.put o.dst v) w) : WL P ops Q (o :: rest) a w :=
  ⟨BigFrame.wpList_want hw fun K hK => OO ty x ho p hx hu hd hc (hK _ _ h.out)⟩
theorem QE {ops : Array Oper} {rest : List Oper} {o : Oper} {a : Act} {w : World} {Q : Exit → Act → World → Prop} (hw : Region.wanted o (yielded ops a.tmps) = true) (ty : TypeId) (x : Operand) (ho : o.op = .load ty x) (b off : Nat) (hx : a.eval x = .pointer (some ⟨b, off, none⟩)) {fs : Array Field} (hu : P.underlying ty = some (.struct fs)) (cs : List Value) (hn : (P.info? ty).map (·.size) = some cs.length) (hc : ∀ j v, cs[j]? = some v → w.cell? ⟨b, off + j, none⟩ = some v) (h : WL P ops Q rest (a.put o.dst (.agg cs.toArray)) w) : WL P ops Q (o :: rest) a w :=
  ⟨BigFrame.wpList_want hw fun K hK => UL ty x ho b off hx hu cs hn hc (hK _ _ h.out)⟩
theorem MA {ops : Array Oper} {rest : List Oper} {o : Oper} {a : Act} {w : World} {Q : Exit → Act → World → Prop} (hw : Region.wanted o (yielded ops a.tmps) = true) (t e : TypeId) (x y : Operand) (ho : o.op = .indexAddr t x y) (b off n c sz k : Nat) (hx : a.eval x = .slice (some ⟨b, off, none⟩) n c) {z : Int} (hy : a.eval y = .int .i64 z) (hz : z = (k : Int)) (hk : k < n) (hu : P.underlying t = some (.slice e)) (hn : (P.info? e).map (·.size) = some sz) (h : WL P ops Q rest (a.put o.dst (.pointer (some ⟨b, off + k * sz, none⟩))) w) : WL P ops Q (o :: rest) a w :=
  ⟨BigFrame.wpList_want hw fun K hK => fO t e x y ho b off n c sz k hx hy hz hk hu hn (hK _ _ h.out)⟩
theorem CO {ops : Array Oper} {rest : List Oper} {o : Oper} {a : Act} {w0 w : World} {L : List Bk} {Q : Exit → Act → World → Prop} (hw : Region.wanted o (yielded ops a.tmps) = true) (hM : Mem w0 w L) (t : TypeId) (x : Operand) (ho : o.op = .box t x) (cs : List Value) (hx : (a.eval x).cells = cs.toArray) (h : ∀ g W, Mem w0 W ((g, t, cs) :: L) → WL P ops Q rest (a.put o.dst (.pointer (some ⟨g, 0, none⟩))) W) : WL P ops Q (o :: rest) a w :=
  ⟨BigFrame.wpList_want hw fun K hK => m_box hM t x ho cs hx fun g W hM => hK _ _ (h g W hM).out⟩
theorem YM {ops : Array Oper} {rest : List Oper} {o : Oper} {a : Act} {w0 w : World} {L : List Bk} {Q : Exit → Act → World → Prop} (hw : Region.wanted o (yielded ops a.tmps) = true) (hM : Mem w0 w L) (t : TypeId) (ho : o.op = .alloc t) (cs : List Value) (hz : ∀ w : World, (Instr.alloc t true (.tuple #[])).run P w = .ok (.pointer (some ⟨w.heap.size, 0, none⟩)) (w.alloc (.cells cs.toArray t))) (h : ∀ g W, Mem w0 W ((g, t, cs) :: L) → WL P ops Q rest (a.put o.dst (.pointer (some ⟨g, 0, none⟩))) W) : WL P ops Q (o :: rest) a w :=
  ⟨BigFrame.wpList_want hw fun K hK => VL hM t ho cs hz fun g W hM => hK _ _ (h g W hM).out⟩
theorem UM {ops : Array Oper} {rest : List Oper} {o : Oper} {a : Act} {w0 w : World} {L : List Bk} {Q : Exit → Act → World → Prop} (hw : Region.wanted o (yielded ops a.tmps) = true) (hM : Mem w0 w L) (i : Nat) {g : Nat} {t : TypeId} {cs : List Value} (hi : L[i]? = some (g, t, cs)) (ty : TypeId) (x y : Operand) (ho : o.op = .store ty x y) (hd : o.dst = none) (hx : a.eval x = .pointer (some ⟨g, 0, none⟩)) (cs' : List Value) (hy : a.eval y = .agg cs'.toArray) (hn : (P.info? ty).map (·.size) = some cs'.length) (hl : cs.length = cs'.length) (h1 : cs'.all (·.oneCell') = true) (h : ∀ W, Mem w0 W (L.set i (g, t, cs')) → WL P ops Q rest a W) : WL P ops Q (o :: rest) a w :=
  ⟨BigFrame.wpList_want hw fun K hK => TL hM i hi ty x y ho hd hx cs' hy hn hl h1 fun W hM => hK _ _ (h W hM).out⟩
theorem kM {ops : Array Oper} {rest : List Oper} {o : Oper} {a : Act} {w0 w : World} {L : List Bk} {Q : Exit → Act → World → Prop} (hw : Region.wanted o (yielded ops a.tmps) = true) (hM : Mem w0 w L) (i : Nat) {g : Nat} {t : TypeId} {cs : List Value} (hi : L[i]? = some (g, t, cs)) (ty : TypeId) (x y : Operand) (ho : o.op = .store ty x y) (hd : o.dst = none) (k : Nat) (hx : a.eval x = .pointer (some ⟨g, k, none⟩)) (v : Value) (hy : a.eval y = v) (hv : v.cells = #[v]) (h1 : v.oneCell' = true) (hn : (P.info? ty).map (·.size) = some 1) (hk : k < cs.length) (h : ∀ W, Mem w0 W (L.set i (g, t, cs.set k v)) → WL P ops Q rest a W) : WL P ops Q (o :: rest) a w :=
  ⟨BigFrame.wpList_want hw fun K hK => AK hM i hi ty x y ho hd k hx v hy hv h1 hn hk fun W hM => hK _ _ (h W hM).out⟩
theorem OL {ops : Array Oper} {rest : List Oper} {o : Oper} {a : Act} {w : World} {Q : Exit → Act → World → Prop} (hw : Region.wanted o (yielded ops a.tmps) = true) (f : FuncId) (args : Array Value) (hr : (execOp a.eval o).run P w = .ok (.enter f args) w) {S : Ending → World → Prop} (hc : Calls P f args w S) (h : ∀ e w', S e w' → ∃ v, e = .returned v ∧ WL P ops Q rest (a.put o.dst v) w') : WL P ops Q (o :: rest) a w :=
  ⟨BigFrame.wpList_want hw fun K hK => LJ f args hr hc fun e w' hs => by
    obtain ⟨v, hv, hk⟩ := h e w' hs
    exact ⟨v, hv, hK _ _ hk.out⟩⟩
theorem QN {ops : Array Oper} {rest : List Oper} {o : Oper} {a : Act} {w : World} {Q : Exit → Act → World → Prop} (hw : Region.wanted o (yielded ops a.tmps) = false) (h : WL P ops Q rest (a.put o.dst undef) w) : WL P ops Q (o :: rest) a w := ⟨wpList_skip hw h.out⟩
end
theorem cA : (Tryz.prog.info? 41).map (fun i => i.size) = some 2 := by kernel_rfl
theorem mA (w : World) : (Instr.alloc 41 true (.tuple #[])).run Tryz.prog w = .ok (.pointer (some ⟨w.heap.size, 0, none⟩)) (w.alloc (.cells ([.slice none 0 0, .slice none 0 0] : List Value).toArray 41)) := by kernel_rfl
theorem aA : (Tryz.prog.info? 45).map (fun i => i.size) = some 17 := by kernel_rfl
theorem vA (w : World) : (Instr.alloc 45 true (.tuple #[])).run Tryz.prog w = .ok (.pointer (some ⟨w.heap.size, 0, none⟩)) (w.alloc (.cells ([.int .i64 0, .int .i64 0, .int .i64 0, .int .i64 0, .int .i64 0, .int .i64 0, .int .i64 0, .int .i64 0, .int .i64 0, .int .i64 0, .int .i64 0, .int .i64 0, .int .i64 0, .bool false, .int .i64 0, .int .i64 0, .int .i64 0] : List Value).toArray 45)) := by kernel_rfl
theorem cC : (Tryz.prog.info? 43).map (fun i => i.size) = some 3 := by kernel_rfl
theorem kA : (Tryz.prog.info? 37).map (fun i => i.size) = some 8 := by kernel_rfl
theorem eE (w : World) : (Instr.alloc 37 true (.tuple #[])).run Tryz.prog w = .ok (.pointer (some ⟨w.heap.size, 0, none⟩)) (w.alloc (.cells ([.int .i64 0, .int .i64 0, .int .i64 0, .int .i64 0, .int .i64 0, .bool false, .int .i64 0, .int .i64 0] : List Value).toArray 37)) := by kernel_rfl
theorem KF : (Tryz.prog.info? 156).map (fun i => i.size) = some 8 := by kernel_rfl
theorem YK (w : World) : (Instr.alloc 156 true (.tuple #[])).run Tryz.prog w = .ok (.pointer (some ⟨w.heap.size, 0, none⟩)) (w.alloc (.cells ([.int .i64 0, .int .i64 0, .int .i64 0, .int .i64 0, .int .i64 0, .int .i64 0, .int .i64 0, .int .i64 0] : List Value).toArray 156)) := by kernel_rfl
theorem gA : (Tryz.prog.info? 86).map (fun i => i.size) = some 5 := by kernel_rfl
theorem xB (w : World) : (Instr.alloc 86 true (.tuple #[])).run Tryz.prog w = .ok (.pointer (some ⟨w.heap.size, 0, none⟩)) (w.alloc (.cells ([.slice none 0 0, .slice none 0 0, .slice none 0 0, .slice none 0 0, .int .i64 0] : List Value).toArray 86)) := by kernel_rfl
theorem BC : (Tryz.prog.info? 35).map (fun i => i.size) = some 2 := by kernel_rfl
theorem DA : (Tryz.prog.info? 2).map (fun i => i.size) = some 1 := by kernel_rfl
theorem jG : (Tryz.prog.info? 4).map (fun i => i.size) = some 1 := by kernel_rfl
theorem VF : (Tryz.prog.info? 24).map (fun i => i.size) = some 1 := by kernel_rfl
theorem dD : (Tryz.prog.info? 83).map (fun i => i.size) = some 1 := by kernel_rfl
theorem KI : (Tryz.prog.info? 84).map (fun i => i.size) = some 1 := by kernel_rfl
end Go.Proofs.YtfjafncipjdnfaaGreat
