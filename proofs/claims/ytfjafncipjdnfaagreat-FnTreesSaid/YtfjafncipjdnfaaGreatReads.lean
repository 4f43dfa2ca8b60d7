import Derived.Test.YtfjafncipjdnfaaGreatMem3
import Derived.Test.YtfjafncipjdnfaaGreatInv
import Derived.OrdersHeld
import Derived.Deep.RegionHeld
namespace Go.Proofs.YtfjafncipjdnfaaGreat
open Go.ChangeShapes Go.WideShapes Go.ChangeAt Go.RowKit
set_option linter.unusedVariables false
set_option linter.unusedSimpArgs false
section
variable {P : Program} {ops : Array Oper} {Q : Exit → Act → World → Prop}
structure WA (P : Program) (ops : Array Oper) (Q : Exit → Act → World → Prop) (S : World → Prop) (fuel : Nat) (listed : Array Bool) (a : Act) (w : World) : Prop where
  out : wpAnyH P .any ops Q S fuel listed a w
theorem wa_start {id : Nat} {a : Act} {w : World} (S : World → Prop) (n : Nat) (hn : ops.size = n) (hm : P.follows .mixedOrders = true) (h : WA P ops Q S n (Array.replicate n false) a w.drew) : (Code.region id ops true).wp P Q a w := by
  subst hn
  exact wp_region_held hm h.out
theorem UN {S : World → Prop} {fuel : Nat} {listed : Array Bool} {a : Act} {w : World} (i : Nat) {o : Oper} (v : Value) (ho : ops[i]? = some o) (hs : Region.noSelect ops = true) (hf : Region.free .any ops listed i = true) (hr : (Region.ready .any ops listed).contains i = true)
    (hQ : ∀ c a w, Q (.panic c) (a.put o.dst v) w → Q (.panic c) a w) (hw : Region.wanted o (yielded ops a.tmps) = true) (hy : ∀ w, S w → (execOp a.eval o).run P w = .ok (.value v) w) (hS : S w)
    (h : WA P ops Q S fuel (listed.setIfInBounds i true) (a.put o.dst v) w) : WA P ops Q S (fuel + 1) listed a w :=
  ⟨wpAnyH_take ho hs hf hr hQ (.inl ⟨hw, hy⟩) hS h.out⟩
theorem wa_done {S : World → Prop} {fuel : Nat} {listed : Array Bool} {a : Act} {w : World} (hr : Region.ready .any ops listed = []) (h : Q .normal a w) : WA P ops Q S fuel listed a w := ⟨wpAnyH_done hr h fuel⟩
theorem jN {o : Oper} {a : Act} {w : World} {g : Nat} {t : TypeId} {cs : List Value} (hg : Blk w g t cs) (ty : TypeId) (x : Operand) (ho : o.op = .load ty x) (hx : a.eval x = .pointer (some ⟨g, 0, none⟩)) {fs : Array Field} (hu : P.underlying ty = some (.struct fs)) (hn : (P.info? ty).map (·.size) = some cs.length) :
    (execOp a.eval o).run P w = .ok (.value (.agg cs.toArray)) w := by
  unfold execOp
  simp only [ho, hx, Instr.loadAt, Instr.sureAddr, Sem.run_bind, Sem.run_pure, Result.andThen_ok, run_loadVar_row w g t ty cs.toArray (0, 0) _ hg hu rfl (by simpa using hn)]
theorem QL {o : Oper} {a : Act} {w : World} {g : Nat} {t : TypeId} {cs : List Value} (hg : Blk w g t cs) (ty : TypeId) (x : Operand) (ho : o.op = .load ty x) (k : Nat) (hx : a.eval x = .pointer (some ⟨g, k, none⟩)) {d : TypeDesc} (hu : P.underlying ty = some d) (hd : (match d with | .struct _ | .array _ _ => false | _ => true) = true) {v : Value} (hv : cs[k]? = some v) :
    (execOp a.eval o).run P w = .ok (.value v) w := by
  have hc : w.cell? ⟨g, k, none⟩ = some v := by rw [hg.cell, hv]
  have hagg : (isAgg ty).run P w = .ok false w := by
    unfold isAgg
    rw [Sem.run_bind, run_underlying hu w]
    cases d <;> simp_all
  unfold execOp
  simp only [ho, hx, Instr.loadAt, Instr.sureAddr, Sem.run_bind, Sem.run_pure, Result.andThen_ok, loadVar, hagg]
  simp [go_sem, hc]
theorem pH {S : World → Prop} {fuel : Nat} {listed : Array Bool} {a : Act} {w : World} (i : Nat) (d : Option Tmp) {o : Oper} (v : Value) (ho : ops[i]? = some o) (hd : o.dst = d) (hs : Region.noSelect ops = true) (hf : Region.free .any ops listed i = true) (hr : (Region.ready .any ops listed).contains i = true)
    (hQ : ∀ c a w, Q (.panic c) (a.put d v) w → Q (.panic c) a w) (hw : Region.wanted o (yielded ops a.tmps) = true) (hy : ∀ w, S w → (execOp a.eval o).run P w = .ok (.value v) w) (hS : S w)
    (h : WA P ops Q S fuel (listed.setIfInBounds i true) (a.put d v) w) : WA P ops Q S (fuel + 1) listed a w := by
  subst hd
  exact UN i v ho hs hf hr hQ hw hy hS h
theorem TN {S : World → Prop} {fuel : Nat} {listed : Array Bool} {a : Act} {w : World} (i : Nat) (d : Option Tmp) {o : Oper} (ho : ops[i]? = some o) (hd : o.dst = d) (hs : Region.noSelect ops = true) (hf : Region.free .any ops listed i = true) (hr : (Region.ready .any ops listed).contains i = true)
    (hQ : ∀ c a w, Q (.panic c) (a.put d undef) w → Q (.panic c) a w) (hw : Region.wanted o (yielded ops a.tmps) = false) (hS : S w)
    (h : WA P ops Q S fuel (listed.setIfInBounds i true) (a.put d undef) w) : WA P ops Q S (fuel + 1) listed a w :=
  ⟨wpAnyH_take ho hs hf hr (hd ▸ hQ) (.inr ⟨hw, rfl⟩) hS (hd ▸ h.out)⟩
structure WO (P : Program) (ops : Array Oper) (Q : Exit → Act → World → Prop) (S : World → Prop) (fuel : Nat) (listed : Array Bool) (a : Act) (w : World) (i : Nat) : Prop where
  out : wpOp P ops Q i (fun a' w' => S w' ∧ wpAnyH P .any ops Q S fuel (listed.setIfInBounds i true) a' w') a w
theorem DO {S : World → Prop} {fuel : Nat} {listed : Array Bool} {a : Act} {w : World} (i : Nat) (hr : Region.ready .any ops listed = [i]) (h : WO P ops Q S fuel listed a w i) : WA P ops Q S (fuel + 1) listed a w :=
  ⟨wpAnyH_all hr (by simp) fun j hj => by
    simp only [List.mem_singleton] at hj
    subst hj
    exact h.out⟩
theorem wa_two {S : World → Prop} {fuel : Nat} {listed : Array Bool} {a : Act} {w : World} (i j : Nat) (hr : Region.ready .any ops listed = [i, j]) (h : WO P ops Q S fuel listed a w i) (h2 : WO P ops Q S fuel listed a w j) : WA P ops Q S (fuel + 1) listed a w :=
  ⟨wpAnyH_all hr (by simp) fun k hk => by
    simp only [List.mem_cons, List.not_mem_nil, or_false] at hk
    rcases hk with rfl | rfl
    · exact h.out
    · exact h2.out⟩
theorem pF {S : World → Prop} {fuel : Nat} {listed : Array Bool} {a : Act} {w : World} (i j k : Nat) (hr : Region.ready .any ops listed = [i, j, k]) (h : WO P ops Q S fuel listed a w i) (h2 : WO P ops Q S fuel listed a w j) (h3 : WO P ops Q S fuel listed a w k) : WA P ops Q S (fuel + 1) listed a w :=
  ⟨wpAnyH_all hr (by simp) fun l hl => by
    simp only [List.mem_cons, List.not_mem_nil, or_false] at hl
    rcases hl with rfl | rfl | rfl
    · exact h.out
    · exact h2.out
    · exact h3.out⟩
theorem TD {S : World → Prop} {fuel : Nat} {listed : Array Bool} {a : Act} {w : World} {i : Nat} {o : Oper} (ho : ops[i]? = some o) (hw : Region.wanted o (yielded ops a.tmps) = true)
    (h : ∀ K : Act → World → Prop, (∀ a w, S w → WA P ops Q S fuel (listed.setIfInBounds i true) a w → K a w) → o.wp P a w K Q) : WO P ops Q S fuel listed a w i :=
  ⟨by
    unfold wpOp
    rw [ho]
    simp only [hw, if_true]
    exact .inl (h _ fun a w hS hW => ⟨hS, hW.out⟩)⟩
theorem dJ {S : World → Prop} {fuel : Nat} {listed : Array Bool} {a : Act} {w : World} {i : Nat} (d : Option Tmp) {o : Oper} (ho : ops[i]? = some o) (hd : o.dst = d) (hw : Region.wanted o (yielded ops a.tmps) = true) (v : Value) (hr : (execOp a.eval o).run P w = .ok (.value v) w) (hS : S w)
    (h : WA P ops Q S fuel (listed.setIfInBounds i true) (a.put d v) w) : WO P ops Q S fuel listed a w i := by
  subst hd
  exact TD ho hw fun K hK => dF v hr (hK _ _ hS h)
theorem ML {S : World → Prop} {fuel : Nat} {listed : Array Bool} {a : Act} {w : World} {i : Nat} (d : Option Tmp) {o : Oper} (ho : ops[i]? = some o) (hd : o.dst = d) (hw : Region.wanted o (yielded ops a.tmps) = true) (f : FuncId) (args : Array Value) (hr : (execOp a.eval o).run P w = .ok (.enter f args) w) {R : Ending → World → Prop} (hc : Calls P f args w R)
    (h : ∀ e w', R e w' → ∃ v, e = .returned v ∧ S w' ∧ WA P ops Q S fuel (listed.setIfInBounds i true) (a.put d v) w') : WO P ops Q S fuel listed a w i := by
  subst hd
  exact TD ho hw fun K hK => LJ f args hr hc fun e w' he => by
    obtain ⟨v, h1, h2, h3⟩ := h e w' he
    exact ⟨v, h1, hK _ _ h2 h3⟩
theorem TM {S : World → Prop} {fuel : Nat} {listed : Array Bool} {a : Act} {w0 w : World} {L : List Bk} {i : Nat} (d : Option Tmp) {o : Oper} (ho : ops[i]? = some o) (hd : o.dst = d) (hw : Region.wanted o (yielded ops a.tmps) = true)
    (hM : Mem w0 w L) (t : TypeId) (hop : o.op = .alloc t) (cs : List Value) (hz : ∀ w : World, (Instr.alloc t true (.tuple #[])).run P w = .ok (.pointer (some ⟨w.heap.size, 0, none⟩)) (w.alloc (.cells cs.toArray t)))
    (hK : ∀ g W, Mem w0 W ((g, t, cs) :: L) → S W ∧ WA P ops Q S fuel (listed.setIfInBounds i true) (a.put d (.pointer (some ⟨g, 0, none⟩))) W) : WO P ops Q S fuel listed a w i := by
  subst hd
  exact TD ho hw fun K h => VL hM t hop cs hz fun g W hm => h _ _ (hK g W hm).1 (hK g W hm).2
theorem SM {S : World → Prop} {fuel : Nat} {listed : Array Bool} {a : Act} {w0 w : World} {L : List Bk} {i : Nat} {o : Oper} (ho : ops[i]? = some o) (hw : Region.wanted o (yielded ops a.tmps) = true)
    (hM : Mem w0 w L) (j : Nat) {g : Nat} {t : TypeId} {cs : List Value} (hi : L[j]? = some (g, t, cs))
    (ty : TypeId) (x y : Operand) (hop : o.op = .store ty x y) (hd : o.dst = none) (hx : a.eval x = .pointer (some ⟨g, 0, none⟩)) (cs' : List Value) (hy : a.eval y = .agg cs'.toArray) (hn : (P.info? ty).map (·.size) = some cs'.length) (hl : cs.length = cs'.length) (h1 : cs'.all (·.oneCell') = true)
    (hK : ∀ W, Mem w0 W (L.set j (g, t, cs')) → S W ∧ WA P ops Q S fuel (listed.setIfInBounds i true) a W) : WO P ops Q S fuel listed a w i :=
  TD ho hw fun K h => TL hM j hi ty x y hop hd hx cs' hy hn hl h1 fun W hm => h _ _ (hK W hm).1 (hK W hm).2
theorem Mem.ofBelow {w0 w : World} (h : Below w0.heap.size w0 w) : Mem w0 w [] := ⟨h, fun i g t cs h => by simp at h, fun i j g t t' cs cs' h => by simp at h⟩
theorem r_eq {f : Operand → Value} {o : Oper} {w : World} {v v' : Value} (hr : (execOp f o).run P w = .ok (.value v) w) (h : v = v') : (execOp f o).run P w = .ok (.value v') w := by rw [hr, h]
theorem r_int {f : Operand → Value} {o : Oper} {w : World} {n : Int} (hr : (execOp f o).run P w = .ok (.value (.int .i64 (IntKind.i64.wrap n))) w) (h0 : -9223372036854775808 ≤ n) (h1 : n ≤ 9223372036854775807) : (execOp f o).run P w = .ok (.value (.int .i64 n)) w := by
  have e : IntKind.i64.wrap n = n := IntWalk.i64_in n ⟨by omega, by omega⟩
  rw [hr, e]
theorem r_index {o : Oper} {a : Act} {w : World} (t e : TypeId) (x y : Operand) (ho : o.op = .indexAddr t x y) (b off n c sz k : Nat) (hx : a.eval x = .slice (some ⟨b, off, none⟩) n c) {z : Int} (hy : a.eval y = .int .i64 z) (hz : z = (k : Int)) (hk : k < n)
    (hu : P.underlying t = some (.slice e)) (hn : (P.info? e).map (·.size) = some sz) : (execOp a.eval o).run P w = .ok (.value (.pointer (some ⟨b, off + k * sz, none⟩))) w := by
  subst hz
  have h1 : (k : Int) < (n : Int) := by omega
  have h0 : (0 : Int) ≤ (k : Int) := by omega
  cases hq : P.info? e with
  | none => simp [hq] at hn
  | some ti =>
    have hs : ti.size = sz := by simpa [hq] using hn
    have hadd : (⟨b, off, none⟩ : Addr).add (k * sz) = ⟨b, off + k * sz, none⟩ := by unfold Addr.add; split <;> simp_all
    have hr : (Instr.indexAt t (.slice (some ⟨b, off, none⟩) n c) (.int .i64 (k : Int))).run P w = .ok (.pointer (some ⟨b, off + k * sz, none⟩)) w := by
      unfold Instr.indexAt
      simp [asIntOf, asInt, Sem.run_bind, run_underlying hu w, sizeOf, typeInfo, hq, hs, hk, hadd]
    unfold execOp
    simp only [ho, hx, hy, Sem.run_bind, hr, Result.andThen_ok, Sem.run_pure]
theorem r_cell {o : Oper} {a : Act} {w : World} (ty : TypeId) (x : Operand) (ho : o.op = .load ty x) (p : Addr) (hx : a.eval x = .pointer (some p)) {d : TypeDesc} (hu : P.underlying ty = some d) (hd : (match d with | .struct _ | .array _ _ => false | _ => true) = true) {v : Value} (hc : w.cell? p = some v) : (execOp a.eval o).run P w = .ok (.value v) w := by
  have hagg : (isAgg ty).run P w = .ok false w := by
    unfold isAgg
    rw [Sem.run_bind, run_underlying hu w]
    cases d <;> simp_all
  unfold execOp
  simp only [ho, hx, Instr.loadAt, Instr.sureAddr, Sem.run_bind, Sem.run_pure, Result.andThen_ok, loadVar, hagg]
  simp [go_sem, hc]
theorem r_cells {o : Oper} {a : Act} {w : World} (ty : TypeId) (x : Operand) (ho : o.op = .load ty x) (b off : Nat) (hx : a.eval x = .pointer (some ⟨b, off, none⟩)) {fs : Array Field} (hu : P.underlying ty = some (.struct fs)) (cs : List Value) (hn : (P.info? ty).map (·.size) = some cs.length)
    (hc : ∀ j v, cs[j]? = some v → w.cell? ⟨b, off + j, none⟩ = some v) : (execOp a.eval o).run P w = .ok (.value (.agg cs.toArray)) w := by
  have hl : (loadCells ⟨b, off, none⟩ cs.length).run P w = .ok cs.toArray w :=
    run_loadCells_list (P := P) w ⟨b, off, none⟩ cs (fun j v hv => by
      have hadd : (⟨b, off, none⟩ : Addr).add j = ⟨b, off + j, none⟩ := by unfold Addr.add; split <;> simp_all
      rw [hadd]
      exact hc j v hv)
  cases hq : P.info? ty with
  | none => simp [hq] at hn
  | some i =>
    have hs : i.size = cs.length := by simpa [hq] using hn
    have hagg : (isAgg ty).run P w = .ok true w := by
      unfold isAgg
      rw [Sem.run_bind, run_underlying hu w]
      rfl
    unfold execOp
    simp [ho, hx, Instr.loadAt, Instr.sureAddr, Sem.run_bind, Sem.run_pure, Result.andThen_ok, loadVar, hagg, sizeOf, typeInfo, hq, hs, hl]
theorem LE {o : Oper} {a : Act} {w : World} {g : Nat} {t : TypeId} {cs : List Value} (hg : Blk w g t cs) (ty : TypeId) (x : Operand) (ho : o.op = .load ty x) (k : Nat) (hx : a.eval x = .pointer (some ⟨g, k, none⟩)) {fs : Array Field} (hu : P.underlying ty = some (.struct fs)) (ps : List Value) (hn : (P.info? ty).map (·.size) = some ps.length) (hp : (cs.drop k).take ps.length = ps) : (execOp a.eval o).run P w = .ok (.value (.agg ps.toArray)) w := by
  refine r_cells ty x ho g k hx hu ps hn (fun j v hv => ?_)
  rw [hg.cell]
  have hj : j < ps.length := (List.getElem?_eq_some_iff.1 hv).1
  rw [← hp, List.getElem?_take_of_lt hj, List.getElem?_drop] at hv
  exact hv
def JQ (J : Act → World → Prop) : Exit → Act → World → Prop := fun e a w => match e with
  | .normal => J a w
  | _ => False
theorem wa_join {c : Code} {a : Act} {w : World} {Q : Exit → Act → World → Prop} (J : Act → World → Prop) (hJ : ∀ a w, J a w → Q .normal a w) (h : c.wp P (JQ J) a w) : c.wp P Q a w :=
  wp_mono h fun e a w hh => by
    cases e with
    | normal => exact hJ a w hh
    | _ => exact hh.elim
theorem wa_doneJ {S : World → Prop} {J : Act → World → Prop} {fuel : Nat} {listed : Array Bool} {a : Act} {w : World} (hr : Region.ready .any ops listed = []) (h : J a w) : WA P ops (JQ J) S fuel listed a w := ⟨wpAnyH_done hr h fuel⟩
end
end Go.Proofs.YtfjafncipjdnfaaGreat
