import Derived.Test.YtfjafncipjdnfaaGreatMem4
namespace Go.Proofs.YtfjafncipjdnfaaGreat
open Go.ChangeShapes Go.WideShapes Go.ChangeAt Go.RowKit
set_option linter.unusedVariables false
def CK (o : Oper) (a : Act) : TypeId × Value := match o.op with | .load ty x => (ty, a.eval x) | _ => (0, .bool false)
def nM (o : Oper) (a : Act) : TypeId × Value × Value × Option Tmp := match o.op with | .store ty x y => (ty, a.eval x, a.eval y, o.dst) | _ => (0, undef, undef, some 0)
def RO (o : Oper) (a : Act) : TypeId × Array Value := match o.op with | .box ty x => (ty, (a.eval x).cells) | _ => (0, #[])
def uO (o : Oper) : Option TypeId := match o.op with | .alloc ty => some ty | _ => none
theorem UE {o : Oper} {a : Act} {ty : TypeId} {b off : Nat} (h : CK o a = (ty, .pointer (some ⟨b, off, none⟩))) : ∃ x, o.op = .load ty x ∧ a.eval x = .pointer (some ⟨b, off, none⟩) := by
  unfold CK at h
  split at h
  · next x ho =>
    simp only [Prod.mk.injEq] at h
    obtain ⟨rfl, h1⟩ := h
    exact ⟨_, ho, h1⟩
  · simp at h
theorem mG {o : Oper} {a : Act} {ty : TypeId} {b off : Nat} {v : Value} (h : nM o a = (ty, .pointer (some ⟨b, off, none⟩), v, none)) : ∃ x y, o.op = .store ty x y ∧ a.eval x = .pointer (some ⟨b, off, none⟩) ∧ a.eval y = v ∧ o.dst = none := by
  unfold nM at h
  split at h
  · next x y ho =>
    simp only [Prod.mk.injEq] at h
    obtain ⟨rfl, h1, h2, h3⟩ := h
    exact ⟨_, _, ho, h1, h2, h3⟩
  · simp at h
theorem EN {o : Oper} {a : Act} {ty : TypeId} {cs : List Value} (h : RO o a = (ty, cs.toArray)) (h0 : cs ≠ []) : ∃ x, o.op = .box ty x ∧ (a.eval x).cells = cs.toArray := by
  unfold RO at h
  split at h
  · next x ho =>
    simp only [Prod.mk.injEq] at h
    obtain ⟨rfl, h1⟩ := h
    exact ⟨_, ho, h1⟩
  · simp only [Prod.mk.injEq] at h
    exact absurd (by simpa using congrArg Array.toList h.2.symm) h0
theorem XK {o : Oper} {ty : TypeId} (h : uO o = some ty) : o.op = .alloc ty := by
  unfold uO at h
  split at h
  · next ho => cases h; exact ho
  · cases h
abbrev pt (g o : Nat) : Value := .pointer (some ⟨g, o, none⟩)
abbrev sa (g n c : Nat) : Value := .slice (some ⟨g, 0, none⟩) n c
theorem exU {act : Act} {F : (Nat → Value) → Act} {R : Prop} (ws : List Nat) (r : R) (h : act = F (fun i => act.tmps.getD (ws.getD i 0) undef) := by kernel_rfl) : ∃ U : Nat → Value, act = F U ∧ R := ⟨_, h, r⟩
theorem bt {P : Program} {fn : Func} {R : Ending → World → Prop} {a : Act} {w : World} {u : Tmp} {v : Value} (r : R (.returned v) w) (h : fn.results = #[.tmp u] := by rfl) (hv : a.tmps.getD u undef = v := by rfl) (hd : a.defers = [] := by rfl) : bodyPost P fn R .ret a w := bodyPost_ret (dB u h hv) hd r
def XL (d : Option TypeDesc) : Bool := match d with | some (.struct _) => true | _ => false
def NJ (d : Option TypeDesc) : Bool := match d with | some (.struct _) => false | some (.array _ _) => false | none => false | _ => true
def lI (o : Oper) : TypeId := match o.op with | .load ty _ => ty | _ => 0
theorem WI {d : Option TypeDesc} (h : XL d = true) : ∃ fs, d = some (.struct fs) := by
  unfold XL at h
  split at h
  · exact ⟨_, rfl⟩
  · simp at h
theorem SH {d : Option TypeDesc} (h : NJ d = true) : ∃ t, d = some t ∧ (match t with | .struct _ | .array _ _ => false | _ => true) = true := by
  unfold NJ at h
  split at h
  · simp at h
  · simp at h
  · simp at h
  · rename_i h1 h2 h3
    cases d with
    | none => exact absurd rfl h3
    | some t =>
      refine ⟨t, rfl, ?_⟩
      cases t <;> first | rfl | exact absurd rfl (h1 _) | exact absurd rfl (h2 _ _)
theorem sr {P : Program} {id : Nat} {l : List Oper} {y : Code} {Q : Exit → Act → World → Prop} {a : Act} {w : World} (h : ∀ K : Act → World → Prop, (∀ a w, y.wp P Q a w → K a w) → WL P l.toArray (Exit.then K Q) l a w) : (Code.seq (.region id l.toArray false) y).wp P Q a w := wp_seq_k fun K hK => wA (h K hK)
theorem wz {P : Program} {ops : Array Oper} {y : Code} {Q : Exit → Act → World → Prop} {Q' : Exit → Act → World → Prop} {a : Act} {w : World} {K : Act → World → Prop} (c : ∀ a w, y.wp P Q a w → K a w) (h : y.wp P Q a w) (e : K a w → Q' .normal a w := by exact id) : WL P ops Q' [] a w := CB (e (c _ _ h))
theorem tf (b : Bool) : b = true ∨ b = false := Bool.eq_false_or_eq_true b
theorem rb {b c : Bool} (h : b = c) : Ending.returned (.bool b) = Ending.returned (.bool c) := h ▸ rfl
theorem own0 {w : World} {B E sz : Nat} {t : TypeId} : OwnR w B E t sz 0 [] (.slice none 0 0) := OwnR.nil _ _ _ _ _ _ _ (by simp [maxLen])
theorem ret3 {fn : Func} {p q u : Tmp} (h : fn.results = #[.cell p 41, .cell q 45, .tmp u]) {tmps : Array Value} {w0 w : World} {L : List Bk} (hM : Mem w0 w L) (i j : Nat) {g g' : Nat} {t t' : TypeId} {cs cs' : List Value} (hi : L[i]? = some (g, t, cs)) (hj : L[j]? = some (g', t', cs'))
    (hp : tmps.getD p undef = .pointer (some ⟨g, 0, none⟩)) (hq : tmps.getD q undef = .pointer (some ⟨g', 0, none⟩)) {v : Value} (hv : tmps.getD u undef = v) (hn : 2 = cs.length := by rfl) (hn' : 17 = cs'.length := by rfl) : (results fn tmps).run Tryz.prog w = .ok (.tuple #[.agg cs.toArray, .agg cs'.toArray, v]) w :=
  rM h hM i j hi hj hp hq hv eA dA (by rw [← hn]; exact cA) (by rw [← hn']; exact aA)
theorem b3 {fn : Func} {R : Ending → World → Prop} {a : Act} {p q u : Tmp} {w0 w : World} {L : List Bk} (hM : Mem w0 w L) (i j : Nat) {g g' : Nat} {t t' : TypeId} {cs cs' : List Value} {v : Value} (hi : L[i]? = some (g, t, cs)) (hj : L[j]? = some (g', t', cs')) (r : R (.returned (.tuple #[.agg cs.toArray, .agg cs'.toArray, v])) w)
    (h : fn.results = #[.cell p 41, .cell q 45, .tmp u] := by rfl) (hp : a.tmps.getD p undef = .pointer (some ⟨g, 0, none⟩) := by rfl) (hq : a.tmps.getD q undef = .pointer (some ⟨g', 0, none⟩) := by rfl) (hv : a.tmps.getD u undef = v := by rfl) (hd : a.defers = [] := by rfl) (hn : 2 = cs.length := by rfl) (hn' : 17 = cs'.length := by rfl) : bodyPost Tryz.prog fn R .ret a w :=
  bodyPost_ret (ret3 h hM i j hi hj hp hq hv hn hn') hd r
theorem wk {A B : Prop} (h : A) (f : A → B) : A ∧ B := ⟨h, f h⟩
section
variable {P : Program} {ops : Array Oper} {Q : Exit → Act → World → Prop} {rest : List Oper} {o : Oper} {a : Act} {w w0 : World} {L : List Bk}
theorem np (v : Value) (h : WL P ops Q rest (a.put o.dst v) w) (hw : Region.wanted o (yielded ops a.tmps) = true := by kernel_rfl) (hr : (execOp a.eval o).run P w = .ok (.value v) w := by kernel_rfl) : WL P ops Q (o :: rest) a w := NL hw v hr h
theorem nB {b c : Bool} (hb : b = c) (h : WL P ops Q rest (a.put o.dst (.bool c)) w) (hw : Region.wanted o (yielded ops a.tmps) = true := by kernel_rfl) (hr : (execOp a.eval o).run P w = .ok (.value (.bool b)) w := by kernel_rfl) : WL P ops Q (o :: rest) a w := oF hw hr hb h
theorem nI (n : Int) (h : WL P ops Q rest (a.put o.dst (.int .i64 n)) w) (hw : Region.wanted o (yielded ops a.tmps) = true := by kernel_rfl) (hr : (execOp a.eval o).run P w = .ok (.value (.int .i64 (IntKind.i64.wrap n))) w := by kernel_rfl) (h0 : -9223372036854775808 ≤ n := by omega) (h1 : n ≤ 9223372036854775807 := by omega) : WL P ops Q (o :: rest) a w := VM hw hr h0 h1 h
theorem ns (h : WL P ops Q rest (a.put o.dst undef) w) (hw : Region.wanted o (yielded ops a.tmps) = false := by kernel_rfl) : WL P ops Q (o :: rest) a w := QN hw h
theorem nc {f : FuncId} {args : Array Value} {S : Ending → World → Prop} (hc : Calls P f args w S) (h : ∀ e w', S e w' → ∃ v, e = .returned v ∧ WL P ops Q rest (a.put o.dst v) w') (hw : Region.wanted o (yielded ops a.tmps) = true := by kernel_rfl) (hr : (execOp a.eval o).run P w = .ok (.enter f args) w := by kernel_rfl) : WL P ops Q (o :: rest) a w := OL hw f args hr hc h
theorem nC {f : FuncId} (args : Array Value) {S : Ending → World → Prop} (hc : Calls P f args w S) (h : ∀ e w', S e w' → ∃ v, e = .returned v ∧ WL P ops Q rest (a.put o.dst v) w') (hw : Region.wanted o (yielded ops a.tmps) = true := by kernel_rfl) (hr : (execOp a.eval o).run P w = .ok (.enter f args) w := by kernel_rfl) : WL P ops Q (o :: rest) a w := OL hw f args hr hc h
theorem nl (hM : Mem w0 w L) (i : Nat) {g : Nat} {t : TypeId} {cs : List Value} (hi : L[i]? = some (g, t, cs)) {ty : TypeId} {fs : Array Field} (hu : P.underlying ty = some (.struct fs)) (hn : (P.info? ty).map (·.size) = some cs.length) (h : WL P ops Q rest (a.put o.dst (.agg cs.toArray)) w) (hw : Region.wanted o (yielded ops a.tmps) = true := by kernel_rfl) (hx : CK o a = (ty, .pointer (some ⟨g, 0, none⟩)) := by kernel_rfl) : WL P ops Q (o :: rest) a w := by
  obtain ⟨x, h1, h2⟩ := UE hx
  exact RN hw hM i hi ty x h1 h2 hu hn h
theorem ng (hM : Mem w0 w L) (i : Nat) {g : Nat} {t : TypeId} {cs : List Value} (hi : L[i]? = some (g, t, cs)) (k : Nat) {ty : TypeId} {d : TypeDesc} (hu : P.underlying ty = some d) {v : Value} (hv : cs[k]? = some v) (h : WL P ops Q rest (a.put o.dst v) w) (hw : Region.wanted o (yielded ops a.tmps) = true := by kernel_rfl) (hx : CK o a = (ty, .pointer (some ⟨g, k, none⟩)) := by kernel_rfl) (hd : (match d with | .struct _ | .array _ _ => false | _ => true) = true := by rfl) : WL P ops Q (o :: rest) a w := by
  obtain ⟨x, h1, h2⟩ := UE hx
  exact XM hw hM i hi ty x h1 k h2 hu hd hv h
theorem nS (hM : Mem w0 w L) (i : Nat) {g : Nat} {t : TypeId} {cs : List Value} (hi : L[i]? = some (g, t, cs)) {ty : TypeId} (cs' : List Value) (hn : (P.info? ty).map (·.size) = some cs'.length) (h1 : cs'.all (·.oneCell') = true) (h : ∀ W, Mem w0 W (L.set i (g, t, cs')) → WL P ops Q rest a W) (hw : Region.wanted o (yielded ops a.tmps) = true := by kernel_rfl) (hx : nM o a = (ty, .pointer (some ⟨g, 0, none⟩), .agg cs'.toArray, none) := by kernel_rfl) (hl : cs.length = cs'.length := by rfl) : WL P ops Q (o :: rest) a w := by
  obtain ⟨x, y, e1, e2, e3, e4⟩ := mG hx
  exact UM hw hM i hi ty x y e1 e4 e2 cs' e3 hn hl h1 h
theorem nk (hM : Mem w0 w L) (i : Nat) {g : Nat} {t : TypeId} {cs : List Value} (hi : L[i]? = some (g, t, cs)) {ty : TypeId} (k : Nat) (v : Value) (hn : (P.info? ty).map (·.size) = some 1) (hk : k < cs.length) (h : ∀ W, Mem w0 W (L.set i (g, t, cs.set k v)) → WL P ops Q rest a W) (hw : Region.wanted o (yielded ops a.tmps) = true := by kernel_rfl) (hx : nM o a = (ty, .pointer (some ⟨g, k, none⟩), v, none) := by kernel_rfl) (hv : v.cells = #[v] := by rfl) (h1 : v.oneCell' = true := by rfl) : WL P ops Q (o :: rest) a w := by
  obtain ⟨x, y, e1, e2, e3, e4⟩ := mG hx
  exact kM hw hM i hi ty x y e1 e4 k e2 v e3 hv h1 hn hk h
theorem nx (hM : Mem w0 w L) (t : TypeId) (cs : List Value) (h : ∀ g W, Mem w0 W ((g, t, cs) :: L) → WL P ops Q rest (a.put o.dst (.pointer (some ⟨g, 0, none⟩))) W) (hw : Region.wanted o (yielded ops a.tmps) = true := by kernel_rfl) (hx : RO o a = (t, cs.toArray) := by kernel_rfl) (h0 : cs ≠ [] := by exact List.cons_ne_nil _ _) : WL P ops Q (o :: rest) a w := by
  obtain ⟨x, h1, h2⟩ := EN hx h0
  exact CO hw hM t x h1 cs h2 h
theorem na (hM : Mem w0 w L) {t : TypeId} (cs : List Value) (hz : ∀ w : World, (Instr.alloc t true (.tuple #[])).run P w = .ok (.pointer (some ⟨w.heap.size, 0, none⟩)) (w.alloc (.cells cs.toArray t))) (h : ∀ g W, Mem w0 W ((g, t, cs) :: L) → WL P ops Q rest (a.put o.dst (.pointer (some ⟨g, 0, none⟩))) W) (hw : Region.wanted o (yielded ops a.tmps) = true := by kernel_rfl) (hx : uO o = some t := by kernel_rfl) : WL P ops Q (o :: rest) a w := YM hw hM t (XK hx) cs hz h
end
section
variable {P : Program} {ops : Array Oper} {Q : Exit → Act → World → Prop} {S : World → Prop} {fuel : Nat} {listed : Array Bool} {a : Act} {w w0 : World} {L : List Bk} {o : Oper}
theorem wt (i : Nat) (d : Option Tmp) (v : Value) (hS : S w) (h : WA P ops Q S fuel (listed.setIfInBounds i true) (a.put d v) w) (ho : ops[i]? = some o := by rfl) (hd : o.dst = d := by rfl) (hs : Region.noSelect ops = true := by kernel_rfl) (hf : Region.free .any ops listed i = true := by kernel_rfl) (hr : (Region.ready .any ops listed).contains i = true := by kernel_rfl)
    (hQ : ∀ c a w, Q (.panic c) (a.put d v) w → Q (.panic c) a w := by exact fun _ _ _ h => h) (hw : Region.wanted o (yielded ops a.tmps) = true := by kernel_rfl) (hy : ∀ w, S w → (execOp a.eval o).run P w = .ok (.value v) w := by intro w hS; kernel_rfl) : WA P ops Q S (fuel + 1) listed a w := pH i d v ho hd hs hf hr hQ hw hy hS h
theorem wq (i : Nat) (d : Option Tmp) (v : Value) (hS : S w) (ho : ops[i]? = some o) (hy : ∀ w, S w → (execOp a.eval o).run P w = .ok (.value v) w) (h : WA P ops Q S fuel (listed.setIfInBounds i true) (a.put d v) w) (hd : o.dst = d := by rfl) (hs : Region.noSelect ops = true := by kernel_rfl) (hf : Region.free .any ops listed i = true := by kernel_rfl) (hr : (Region.ready .any ops listed).contains i = true := by kernel_rfl)
    (hQ : ∀ c a w, Q (.panic c) (a.put d v) w → Q (.panic c) a w := by exact fun _ _ _ h => h) (hw : Region.wanted o (yielded ops a.tmps) = true := by kernel_rfl) : WA P ops Q S (fuel + 1) listed a w := pH i d v ho hd hs hf hr hQ hw hy hS h
theorem ws (i : Nat) (d : Option Tmp) (hS : S w) (h : WA P ops Q S fuel (listed.setIfInBounds i true) (a.put d undef) w) (ho : ops[i]? = some o := by rfl) (hd : o.dst = d := by rfl) (hs : Region.noSelect ops = true := by kernel_rfl) (hf : Region.free .any ops listed i = true := by kernel_rfl) (hr : (Region.ready .any ops listed).contains i = true := by kernel_rfl)
    (hQ : ∀ c a w, Q (.panic c) (a.put d undef) w → Q (.panic c) a w := by exact fun _ _ _ h => h) (hw : Region.wanted o (yielded ops a.tmps) = false := by kernel_rfl) : WA P ops Q S (fuel + 1) listed a w := TN i d ho hd hs hf hr hQ hw hS h
theorem wn (i : Nat) (h : WO P ops Q S fuel listed a w i) (hr : Region.ready .any ops listed = [i] := by kernel_rfl) : WA P ops Q S (fuel + 1) listed a w := DO i hr h
variable {i : Nat}
theorem oc (d : Option Tmp) {f : FuncId} {args : Array Value} {R : Ending → World → Prop} (hc : Calls P f args w R) (h : ∀ e w', R e w' → ∃ v, e = .returned v ∧ S w' ∧ WA P ops Q S fuel (listed.setIfInBounds i true) (a.put d v) w') (ho : ops[i]? = some o := by rfl) (hd : o.dst = d := by rfl) (hw : Region.wanted o (yielded ops a.tmps) = true := by kernel_rfl) (hr : (execOp a.eval o).run P w = .ok (.enter f args) w := by kernel_rfl) : WO P ops Q S fuel listed a w i := ML d ho hd hw f args hr hc h
theorem oC (d : Option Tmp) {f : FuncId} (args : Array Value) {R : Ending → World → Prop} (hc : Calls P f args w R) (h : ∀ e w', R e w' → ∃ v, e = .returned v ∧ S w' ∧ WA P ops Q S fuel (listed.setIfInBounds i true) (a.put d v) w') (ho : ops[i]? = some o := by rfl) (hd : o.dst = d := by rfl) (hw : Region.wanted o (yielded ops a.tmps) = true := by kernel_rfl) (hr : (execOp a.eval o).run P w = .ok (.enter f args) w := by kernel_rfl) : WO P ops Q S fuel listed a w i := ML d ho hd hw f args hr hc h
theorem oa (d : Option Tmp) (hM : Mem w0 w L) {t : TypeId} (cs : List Value) (hz : ∀ w : World, (Instr.alloc t true (.tuple #[])).run P w = .ok (.pointer (some ⟨w.heap.size, 0, none⟩)) (w.alloc (.cells cs.toArray t))) (h : ∀ g W, Mem w0 W ((g, t, cs) :: L) → S W ∧ WA P ops Q S fuel (listed.setIfInBounds i true) (a.put d (.pointer (some ⟨g, 0, none⟩))) W) (ho : ops[i]? = some o := by rfl) (hd : o.dst = d := by rfl) (hw : Region.wanted o (yielded ops a.tmps) = true := by kernel_rfl) (hx : uO o = some t := by kernel_rfl) : WO P ops Q S fuel listed a w i := TM d ho hd hw hM t (XK hx) cs hz h
theorem oS (hM : Mem w0 w L) (j : Nat) {g : Nat} {t : TypeId} {cs : List Value} (hi : L[j]? = some (g, t, cs)) {ty : TypeId} (cs' : List Value) (hn : (P.info? ty).map (·.size) = some cs'.length) (h1 : cs'.all (·.oneCell') = true) (h : ∀ W, Mem w0 W (L.set j (g, t, cs')) → S W ∧ WA P ops Q S fuel (listed.setIfInBounds i true) a W) (ho : ops[i]? = some o := by rfl) (hw : Region.wanted o (yielded ops a.tmps) = true := by kernel_rfl) (hx : nM o a = (ty, .pointer (some ⟨g, 0, none⟩), .agg cs'.toArray, none) := by kernel_rfl) (hl : cs.length = cs'.length := by rfl) : WO P ops Q S fuel listed a w i := by
  obtain ⟨x, y, e1, e2, e3, e4⟩ := mG hx
  exact SM ho hw hM j hi ty x y e1 e4 e2 cs' e3 hn hl h1 h
theorem ok' (hM : Mem w0 w L) (j : Nat) {g : Nat} {t : TypeId} {cs : List Value} (hi : L[j]? = some (g, t, cs)) {ty : TypeId} (k : Nat) (v : Value) (hn : (P.info? ty).map (·.size) = some 1) (hk : k < cs.length) (h : ∀ W, Mem w0 W (L.set j (g, t, cs.set k v)) → S W ∧ WA P ops Q S fuel (listed.setIfInBounds i true) a W) (ho : ops[i]? = some o := by rfl) (hw : Region.wanted o (yielded ops a.tmps) = true := by kernel_rfl) (hx : nM o a = (ty, .pointer (some ⟨g, k, none⟩), v, none) := by kernel_rfl) (hv : v.cells = #[v] := by rfl) (h1 : v.oneCell' = true := by rfl) : WO P ops Q S fuel listed a w i := by
  obtain ⟨x, y, e1, e2, e3, e4⟩ := mG hx
  exact jM ho hw hM j hi ty x y e1 e4 k e2 v e3 hv h1 hn hk h
theorem oq (d : Option Tmp) (v : Value) (hS : S w) (ho : ops[i]? = some o) (hr : (execOp a.eval o).run P w = .ok (.value v) w) (h : WA P ops Q S fuel (listed.setIfInBounds i true) (a.put d v) w) (hd : o.dst = d := by rfl) (hw : Region.wanted o (yielded ops a.tmps) = true := by kernel_rfl) : WO P ops Q S fuel listed a w i := dJ d ho hd hw v hr hS h
theorem wL (i : Nat) (d : Option Tmp) {g : Nat} {t : TypeId} {cs : List Value} (f : ∀ w, S w → Blk w g t cs) (hS : S w) (h : WA P ops Q S fuel (listed.setIfInBounds i true) (a.put d (.agg cs.toArray)) w) (ho : ops[i]? = some o := by rfl) (hd : o.dst = d := by rfl) (hs : Region.noSelect ops = true := by kernel_rfl) (hf : Region.free .any ops listed i = true := by kernel_rfl) (hr : (Region.ready .any ops listed).contains i = true := by kernel_rfl)
    (hQ : ∀ c a w, Q (.panic c) (a.put d (.agg cs.toArray)) w → Q (.panic c) a w := by exact fun _ _ _ h => h) (hw : Region.wanted o (yielded ops a.tmps) = true := by kernel_rfl) (hx : CK o a = (lI o, .pointer (some ⟨g, 0, none⟩)) := by kernel_rfl) (hu : XL (P.underlying (lI o)) = true := by kernel_rfl) (hn : (P.info? (lI o)).map (·.size) = some cs.length := by kernel_rfl) : WA P ops Q S (fuel + 1) listed a w := by
  obtain ⟨x, h1, h2⟩ := UE hx
  obtain ⟨fs, h3⟩ := WI hu
  exact pH i d (.agg cs.toArray) ho hd hs hf hr hQ hw (fun w hS => jN (f w hS) _ x h1 h2 h3 hn) hS h
theorem wC (i : Nat) (d : Option Tmp) (k : Nat) {g : Nat} {t : TypeId} {cs : List Value} {v : Value} (f : ∀ w, S w → Blk w g t cs) (hv : cs[k]? = some v) (hS : S w) (h : WA P ops Q S fuel (listed.setIfInBounds i true) (a.put d v) w) (ho : ops[i]? = some o := by rfl) (hd : o.dst = d := by rfl) (hs : Region.noSelect ops = true := by kernel_rfl) (hf : Region.free .any ops listed i = true := by kernel_rfl) (hr : (Region.ready .any ops listed).contains i = true := by kernel_rfl)
    (hQ : ∀ c a w, Q (.panic c) (a.put d v) w → Q (.panic c) a w := by exact fun _ _ _ h => h) (hw : Region.wanted o (yielded ops a.tmps) = true := by kernel_rfl) (hx : CK o a = (lI o, .pointer (some ⟨g, k, none⟩)) := by kernel_rfl) (hu : NJ (P.underlying (lI o)) = true := by kernel_rfl) : WA P ops Q S (fuel + 1) listed a w := by
  obtain ⟨x, h1, h2⟩ := UE hx
  obtain ⟨d', h3, h4⟩ := SH hu
  exact pH i d v ho hd hs hf hr hQ hw (fun w hS => QL (f w hS) _ x h1 k h2 h3 (by cases d' <;> first | rfl | (simp at h4)) hv) hS h
theorem oL (d : Option Tmp) {g : Nat} {t : TypeId} {cs : List Value} (f : Blk w g t cs) (hS : S w) (h : WA P ops Q S fuel (listed.setIfInBounds i true) (a.put d (.agg cs.toArray)) w) (ho : ops[i]? = some o := by rfl) (hd : o.dst = d := by rfl) (hw : Region.wanted o (yielded ops a.tmps) = true := by kernel_rfl) (hx : CK o a = (lI o, .pointer (some ⟨g, 0, none⟩)) := by kernel_rfl) (hu : XL (P.underlying (lI o)) = true := by kernel_rfl) (hn : (P.info? (lI o)).map (·.size) = some cs.length := by kernel_rfl) : WO P ops Q S fuel listed a w i := by
  obtain ⟨x, h1, h2⟩ := UE hx
  obtain ⟨fs, h3⟩ := WI hu
  exact dJ d ho hd hw (.agg cs.toArray) (jN f _ x h1 h2 h3 hn) hS h
theorem oC' (d : Option Tmp) (k : Nat) {g : Nat} {t : TypeId} {cs : List Value} {v : Value} (f : Blk w g t cs) (hv : cs[k]? = some v) (hS : S w) (h : WA P ops Q S fuel (listed.setIfInBounds i true) (a.put d v) w) (ho : ops[i]? = some o := by rfl) (hd : o.dst = d := by rfl) (hw : Region.wanted o (yielded ops a.tmps) = true := by kernel_rfl) (hx : CK o a = (lI o, .pointer (some ⟨g, k, none⟩)) := by kernel_rfl) (hu : NJ (P.underlying (lI o)) = true := by kernel_rfl) : WO P ops Q S fuel listed a w i := by
  obtain ⟨x, h1, h2⟩ := UE hx
  obtain ⟨d', h3, h4⟩ := SH hu
  exact dJ d ho hd hw v (QL f _ x h1 k h2 h3 (by cases d' <;> first | rfl | (simp at h4)) hv) hS h
end
end Go.Proofs.YtfjafncipjdnfaaGreat
