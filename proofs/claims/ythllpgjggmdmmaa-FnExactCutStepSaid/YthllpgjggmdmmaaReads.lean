/- A region that draws its order: what reads is taken first, the rest comes one after the other. -/
import Derived.Test.YthllpgjggmdmmaaBase
import Derived.Orders
import Derived.Tactics
import Derived.Test.YthllpgjggmdmmaaMem2
import Derived.OrdersHeld
import Derived.Deep.RegionHeld
namespace Go.Proofs.Ythllpgjggmdmmaa
open Go.ChangeShapes Go.WideShapes Go.ChangeAt Go.RowKit
set_option linter.unusedVariables false
set_option linter.unusedSimpArgs false

section
variable {P : Program} {ops : Array Oper} {Q : Exit → Act → World → Prop} {md : Region.Mode}
/-- Each operation comes behind those that it waits for. -/
def forwardB (ops : Array Oper) : Bool := (List.range ops.size).all fun i => ((ops[i]?).map fun o => o.after.all fun e => !Region.binds .any e || decide (e.on < i)).getD true
theorem forwardB_spec (h : forwardB ops = true) {i : Nat} {o : Oper} (ho : ops[i]? = some o) {e : _} (he : e ∈ o.after) (hb : Region.binds .any e = true) : e.on < i := by
  have hi : i < ops.size := (Array.getElem?_eq_some_iff.1 ho).1
  have h1 := List.all_eq_true.1 h i (List.mem_range.2 hi)
  rw [ho] at h1
  simp only [Option.map_some, Option.getD_some, Array.all_eq_true_iff_forall_mem] at h1
  have h2 := h1 e he
  rw [hb] at h2
  simpa using h2
theorem all_listed (hf : forwardB ops = true) {L : Array Bool} (hL : L.size = ops.size) (hr : Region.ready .any ops L = []) : ∀ i, i < ops.size → L.getD i false = true := by
  intro i
  induction i using Nat.strongRecOn with
  | ind i ih =>
    intro hi
    cases hb : L.getD i false with
    | true => rfl
    | false =>
      exfalso
      have hget : L.getD i true = false := by
        have hlt : i < L.size := by omega
        simp [Array.getElem?_eq_getElem hlt] at hb ⊢
        exact hb
      have : i ∈ Region.ready .any ops L := mem_ready.2 ⟨hget, ops[i], Array.getElem?_eq_getElem hi, fun e he hb => by
        have hlt := forwardB_spec hf (Array.getElem?_eq_getElem hi) he hb
        exact ih e.on hlt (by omega)⟩
      rw [hr] at this
      cases this
theorem count_zero {L : Array Bool} (h : L.toList.count false = 0) (i : Nat) : L.getD i true = true := by
  by_cases hi : i < L.size
  · have hm : L[i] ∈ L.toList := by simp
    have hn : false ∉ L.toList := List.count_eq_zero.1 h
    simp [Array.getElem?_eq_getElem hi]
    cases hb : L[i] with
    | true => rfl
    | false => exact absurd (hb ▸ hm) hn
  · simp [Array.getElem?_eq_none (by omega : L.size ≤ i)]
theorem count_set_true {L : Array Bool} {i : Nat} (h : L.getD i true = false) : (L.setIfInBounds i true).toList.count false + 1 = L.toList.count false := by
  have hi : i < L.size := by
    rcases Nat.lt_or_ge i L.size with h' | h'
    · exact h'
    · simp [Array.getElem?_eq_none h'] at h
  have hb : L[i] = false := by simpa [Array.getElem?_eq_getElem hi] using h
  have hm : false ∈ L.toList := by rw [← hb]; simp
  have hpos : 0 < L.toList.count false := List.count_pos_iff.2 hm
  rw [Array.toList_setIfInBounds, List.count_set (by simpa using hi)]
  have hb' : L.toList[i]'(by simpa using hi) = false := by simpa using hb
  rw [hb']
  have e1 : (false == false) = true := rfl
  have e2 : (true == false) = false := rfl
  rw [e1, e2, if_pos rfl, if_neg (by simp)]
  omega
/-- What an operation owes where it comes up. -/
def StepAt (P : Program) (md : Region.Mode) (ops : Array Oper) (Q : Exit → Act → World → Prop) (I : Array Bool → Act → World → Prop) (i : Nat) (o : Oper) : Prop :=
  ∀ (L : Array Bool) (a : Act) (w : World), L.size = ops.size → L.getD i true = false → (∀ e ∈ o.after, Region.binds md e = true → L.getD e.on false = true) → I L a w →
    if Region.wanted o (yielded ops a.tmps) then o.wp P a w (I (L.setIfInBounds i true)) Q ∨ (o.asks P a w ∧ LetsOut Q) else I (L.setIfInBounds i true) (a.put o.dst undef) w
theorem wpAny_inv (I : Array Bool → Act → World → Prop) (hf : forwardB ops = true) (hs : ∀ i o, ops[i]? = some o → StepAt P .any ops Q I i o)
    (he : ∀ L a w, L.size = ops.size → (∀ i, i < ops.size → L.getD i false = true) → I L a w → Q .normal a w) :
    ∀ (fuel : Nat) (L : Array Bool) (a : Act) (w : World), L.size = ops.size → L.toList.count false ≤ fuel → I L a w → wpAny P .any ops Q fuel L a w := by
  intro fuel
  induction fuel with
  | zero =>
    intro L a w hL hc hI
    have hz : L.toList.count false = 0 := by omega
    have hr : Region.ready .any ops L = [] := by
      apply List.eq_nil_iff_forall_not_mem.2
      intro i hi
      obtain ⟨h0, -⟩ := mem_ready.1 hi
      rw [count_zero hz i] at h0
      cases h0
    exact ⟨hr, he L a w hL (all_listed hf hL hr) hI⟩
  | succ fuel ih =>
    intro L a w hL hc hI
    refine ⟨fun hr => he L a w hL (all_listed hf hL hr) hI, fun i hi => ?_⟩
    obtain ⟨h0, o, ho, hpre⟩ := mem_ready.1 hi
    have hst := hs i o ho L a w hL h0 hpre hI
    have hcs := count_set_true h0
    have next : ∀ a w, I (L.setIfInBounds i true) a w → wpAny P .any ops Q fuel (L.setIfInBounds i true) a w := fun a w h => ih _ a w (by simpa using hL) (by omega) h
    unfold wpOp
    rw [ho]
    simp only
    split
    · rename_i hw
      rw [if_pos hw] at hst
      exact hst.imp (Oper.wp_mono next) (fun h => h)
    · rename_i hw
      rw [if_neg hw] at hst
      exact next _ _ hst
/-- A region that draws its order, by an invariant. -/
theorem wp_region_inv {id : Nat} {a : Act} {w : World} (I : Array Bool → Act → World → Prop) (hm : P.follows .mixedOrders = true) (hf : forwardB ops = true)
    (h0 : I (Array.replicate ops.size false) a w.drew)
    (hs : ∀ i o, ops[i]? = some o → StepAt P .any ops Q I i o)
    (he : ∀ L a w, L.size = ops.size → (∀ i, i < ops.size → L.getD i false = true) → I L a w → Q .normal a w) : (Code.region id ops true).wp P Q a w :=
  wp_region_any hm (wpAny_inv I hf hs he ops.size _ a _ (by simp) (by
    simp) h0)
/-- What an operation owes where it comes up, when those in D have been done. -/
def Step (P : Program) (ops : Array Oper) (Q : Exit → Act → World → Prop) (I : (Nat → Prop) → Act → World → Prop) (i : Nat) (o : Oper) : Prop :=
  ∀ (D : Nat → Prop) (a : Act) (w : World) (K : Act → World → Prop), (∀ e ∈ o.after, Region.binds .any e = true → D e.on) → I D a w → Hid (∀ a w, I (fun j => D j ∨ j = i) a w → K a w) →
    if Region.wanted o (yielded ops a.tmps) then o.wp P a w K Q else K (a.put o.dst undef) w
/-- From the n-th on each operation waits for all ahead of it. -/
def tailB (n : Nat) (ops : Array Oper) : Bool := (List.range ops.size).all fun j => decide (j < n) || (List.range j).all fun i => ((ops[j]?).map fun o => o.after.any fun e => decide (e.on = i) && Region.binds .any e).getD false
theorem tailB_spec {n : Nat} (h : tailB n ops = true) {i j : Nat} {o : Oper} (ho : ops[j]? = some o) (hn : n ≤ j) (hi : i < j) : ∃ e ∈ o.after, e.on = i ∧ Region.binds .any e = true := by
  have hj : j < ops.size := (Array.getElem?_eq_some_iff.1 ho).1
  have h1 := List.all_eq_true.1 h j (List.mem_range.2 hj)
  rw [Bool.or_eq_true] at h1
  rcases h1 with h1 | h1
  · simp at h1; omega
  · have h2 := List.all_eq_true.1 h1 i (List.mem_range.2 hi)
    rw [ho] at h2
    simp only [Option.map_some, Option.getD_some, Array.any_eq_true', Bool.and_eq_true, decide_eq_true_eq] at h2
    obtain ⟨e, hm, he, hb⟩ := h2
    exact ⟨e, hm, he, hb⟩
/-- A region that draws its order among its first n operations, by an invariant; the others come one after the other. -/
theorem wp_region_inv_tail {id : Nat} {a : Act} {w : World} (n : Nat) (I : (Nat → Prop) → Act → World → Prop) (hm : P.follows .mixedOrders = true) (hf : forwardB ops = true) (ht : tailB n ops = true) (hn : n ≤ ops.size)
    (h0 : I (fun _ => False) a w.drew)
    (hs : ∀ i o, ops[i]? = some o → i < n → Step P ops Q I i o)
    (he : ∀ D a w, (∀ j, j < n → D j) → I D a w → wpList P ops Q (ops.toList.drop n) a w) : (Code.region id ops true).wp P Q a w := by
  refine wp_region_inv (fun L a w => ((∀ j, n ≤ j → j < ops.size → L.getD j true = false) ∧ I (fun j => L.getD j false = true) a w) ∨ ∃ m, n < m ∧ m ≤ ops.size ∧ (∀ j, j < m → L.getD j false = true) ∧ (∀ j, m ≤ j → j < ops.size → L.getD j true = false) ∧ wpList P ops Q (ops.toList.drop m) a w) hm hf ?_ ?_ ?_
  · left
    refine ⟨fun j _ hj => by simp [hj], ?_⟩
    have e : (fun j => (Array.replicate ops.size false).getD j false = true) = fun _ => False := by
      funext j
      by_cases hj : j < ops.size <;> simp [hj]
    rw [e]
    exact h0
  · intro i o ho L a w hL hi hpre hI
    have hil : i < ops.size := (Array.getElem?_eq_some_iff.1 ho).1
    have hil' : i < L.size := by omega
    have upto : ∀ m, (∀ j, m ≤ j → j < ops.size → L.getD j true = false) → n ≤ i → i ≤ m → True := fun _ _ _ _ => trivial
    have notyet : ∀ j, j < ops.size → L.getD j true = false → ¬ L.getD j false = true := fun j hj h1 h2 => by
      have hlt : j < L.size := by omega
      simp [Array.getElem?_eq_getElem hlt] at h1 h2
      rw [h1] at h2
      cases h2
    have ahead : n ≤ i → ∀ j, j < i → L.getD j false = true := fun hni j hj => by
      obtain ⟨e, hm, rfl, hb⟩ := tailB_spec ht ho hni hj
      exact hpre e hm hb
    have tail : ∀ a w, (∀ j, j < i → L.getD j false = true) → (∀ j, i ≤ j → j < ops.size → L.getD j true = false) → n ≤ i → wpList P ops Q (ops.toList.drop i) a w →
        if Region.wanted o (yielded ops a.tmps) then o.wp P a w (fun a w => ∃ m, n < m ∧ m ≤ ops.size ∧ (∀ j, j < m → (L.setIfInBounds i true).getD j false = true) ∧ (∀ j, m ≤ j → j < ops.size → (L.setIfInBounds i true).getD j true = false) ∧ wpList P ops Q (ops.toList.drop m) a w) Q ∨ (o.asks P a w ∧ LetsOut Q) else ∃ m, n < m ∧ m ≤ ops.size ∧ (∀ j, j < m → (L.setIfInBounds i true).getD j false = true) ∧ (∀ j, m ≤ j → j < ops.size → (L.setIfInBounds i true).getD j true = false) ∧ wpList P ops Q (ops.toList.drop m) (a.put o.dst undef) w := fun a w h1 h2 hni hw => by
      have e : ops.toList.drop i = o :: ops.toList.drop (i + 1) := by
        have hlt : i < ops.toList.length := by simpa using hil
        rw [List.drop_eq_getElem_cons hlt]
        congr 1
        have := Array.getElem?_eq_some_iff.1 ho
        obtain ⟨_, h⟩ := this
        simpa using h
      rw [e] at hw
      have next : ∀ a w, wpList P ops Q (ops.toList.drop (i + 1)) a w → ∃ m, n < m ∧ m ≤ ops.size ∧ (∀ j, j < m → (L.setIfInBounds i true).getD j false = true) ∧ (∀ j, m ≤ j → j < ops.size → (L.setIfInBounds i true).getD j true = false) ∧ wpList P ops Q (ops.toList.drop m) a w := fun a w h => by
        refine ⟨i + 1, by omega, by omega, fun j hj => ?_, fun j hj hj2 => ?_, h⟩
        · by_cases e : i = j
          · subst e; simp [hil']
          · rw [getD_set_ne false e]
            exact h1 j (by omega)
        · rw [getD_set_ne true (by omega : i ≠ j)]
          exact h2 j (by omega) hj2
      unfold wpList at hw
      split
      · rename_i hq
        rw [if_pos hq] at hw
        exact hw.imp (Oper.wp_mono next) (fun h => h)
      · rename_i hq
        rw [if_neg hq] at hw
        exact next _ _ hw
    rcases hI with ⟨h1, hI⟩ | ⟨m, hm1, hm2, h1, h2, hw⟩
    · rcases Nat.lt_or_ge i n with hin | hin
      · have key : ∀ a w, I (fun j => L.getD j false = true ∨ j = i) a w → ((∀ j, n ≤ j → j < ops.size → (L.setIfInBounds i true).getD j true = false) ∧ I (fun j => (L.setIfInBounds i true).getD j false = true) a w) ∨ ∃ m, n < m ∧ m ≤ ops.size ∧ (∀ j, j < m → (L.setIfInBounds i true).getD j false = true) ∧ (∀ j, m ≤ j → j < ops.size → (L.setIfInBounds i true).getD j true = false) ∧ wpList P ops Q (ops.toList.drop m) a w := fun a w hq => by
          left
          refine ⟨fun j hj hj2 => by rw [getD_set_ne true (by omega : i ≠ j)]; exact h1 j hj hj2, ?_⟩
          have e : (fun j => (L.setIfInBounds i true).getD j false = true) = fun j => L.getD j false = true ∨ j = i := by
            funext j
            by_cases e : i = j
            · subst e; simp [hil']
            · rw [getD_set_ne false e]
              have : ¬ j = i := fun h => e h.symm
              simp [this]
          rw [e]
          exact hq
        have := hs i o ho hin _ a w _ hpre hI (Lib.hid key)
        split
        · rename_i hq
          rw [if_pos hq] at this
          exact .inl this
        · rename_i hq
          rw [if_neg hq] at this
          exact this
      · have hin2 : i = n := by
          rcases Nat.lt_or_ge n i with h | h
          · exact absurd (ahead hin n h) (notyet n (by omega) (h1 n (Nat.le_refl _) (by omega)))
          · omega
        subst hin2
        have := tail a w (ahead hin) h1 (Nat.le_refl _) (he _ a w (ahead hin) hI)
        split
        · rename_i hq
          rw [if_pos hq] at this
          exact this.imp (Oper.wp_mono fun a w h => .inr h) (fun h => h)
        · rename_i hq
          rw [if_neg hq] at this
          exact .inr this
    · have him : i = m := by
        have h3 : m ≤ i := by
          rcases Nat.lt_or_ge i m with h | h
          · exact absurd (h1 i h) (notyet i hil hi)
          · exact h
        rcases Nat.lt_or_ge m i with h | h
        · exact absurd (ahead (by omega) m h) (notyet m (by omega) (h2 m (Nat.le_refl _) (by omega)))
        · omega
      subst him
      have := tail a w h1 h2 (by omega) hw
      split
      · rename_i hq
        rw [if_pos hq] at this
        exact this.imp (Oper.wp_mono fun a w h => .inr h) (fun h => h)
      · rename_i hq
        rw [if_neg hq] at this
        exact .inr this
  · intro L a w hL hall hI
    rcases hI with ⟨h1, hI⟩ | ⟨m, hm1, hm2, h1, h2, hw⟩
    · have hz : n = ops.size := by
        rcases Nat.lt_or_ge n ops.size with h | h
        · have h3 := hall n h
          have h4 := h1 n (Nat.le_refl _) h
          have hlt : n < L.size := by omega
          simp [Array.getElem?_eq_getElem hlt] at h3 h4
          rw [h3] at h4
          cases h4
        · omega
      have := he _ a w (fun j hj => hall j (by omega)) hI
      rw [hz, List.drop_eq_nil_of_le (by simp)] at this
      exact this
    · have hz : m = ops.size := by
        rcases Nat.lt_or_ge m ops.size with h | h
        · have h3 := hall m h
          have h4 := h2 m (Nat.le_refl _) h
          have hlt : m < L.size := by omega
          simp [Array.getElem?_eq_getElem hlt] at h3 h4
          rw [h3] at h4
          cases h4
        · omega
      rw [hz, List.drop_eq_nil_of_le (by simp)] at hw
      exact hw
theorem step_want {o : Oper} {a : Act} {w : World} {K : Act → World → Prop} (hw : Region.wanted o (yielded ops a.tmps) = true) (h : o.wp P a w K Q) : if Region.wanted o (yielded ops a.tmps) then o.wp P a w K Q else K (a.put o.dst undef) w := by
  rw [if_pos hw]; exact h
/-- The steps of the operations of a list, from the i-th on. -/
def AllSteps (P : Program) (ops : Array Oper) (Q : Exit → Act → World → Prop) (I : (Nat → Prop) → Act → World → Prop) : Nat → List Oper → Prop
  | _, [] => True
  | i, o :: r => Step P ops Q I i o ∧ AllSteps P ops Q I (i + 1) r
theorem AllSteps.get {I : (Nat → Prop) → Act → World → Prop} : ∀ {l : List Oper} {i : Nat}, AllSteps P ops Q I i l → ∀ j o, l[j]? = some o → Step P ops Q I (i + j) o
  | [], _, _, j, o, h => by simp at h
  | x :: r, i, ⟨h1, h2⟩, 0, o, h => by
    simp only [List.getElem?_cons_zero, Option.some.injEq] at h
    subst h
    exact h1
  | x :: r, i, ⟨h1, h2⟩, j + 1, o, h => by
    have := h2.get j o (by simpa using h)
    rwa [show i + (j + 1) = i + 1 + j by omega]
theorem wp_region_inv_list {id : Nat} {a : Act} {w : World} {l : List Oper} (n : Nat) (I : (Nat → Prop) → Act → World → Prop) (hm : P.follows .mixedOrders = true) (hf : forwardB l.toArray = true) (ht : tailB n l.toArray = true) (hn : decide (n ≤ l.length) = true)
    (h0 : I (fun _ => False) a w.drew) (hs : AllSteps P l.toArray Q I 0 (l.take n))
    (he : ∀ D a w, (∀ j, j < n → D j) → I D a w → wpList P l.toArray Q (l.drop n) a w) : (Code.region id l.toArray true).wp P Q a w :=
  wp_region_inv_tail n I hm hf ht (by simpa using hn) h0 (fun i o ho hi => by
    have := hs.get i o (by rw [List.getElem?_take_of_lt hi]; simpa using ho)
    rwa [Nat.zero_add] at this) (by simpa using he)
/-! ### What each slot will hold is known ahead: a region whose operations read, and call what leaves the world as far as it counts -/
def pickV (ds : List Nat) (vals : List Value) (f : Nat → Value) : Nat → Value := fun j => if ds.contains j then vals.getD j undef else f j
def updV (f : Nat → Value) (i : Nat) (v : Value) : Nat → Value := fun j => if j == i then v else f j
def RI (fr : (Nat → Value) → Act) (vals : List Value) (base : (Nat → Value) → World → Prop) (D : Nat → Prop) (act : Act) (w : World) : Prop :=
  ∃ f, act = fr f ∧ base f w ∧ ∀ j, D j → f j = vals.getD j undef
def waitsB (o : Oper) (ds : List Nat) : Bool := ds.all fun j => o.after.any fun e => decide (e.on = j) && Region.binds .any e
theorem waitsB_spec {o : Oper} {ds : List Nat} (h : waitsB o ds = true) {D : Nat → Prop} (hpre : ∀ e ∈ o.after, Region.binds .any e = true → D e.on) {j : Nat} (hj : j ∈ ds) : D j := by
  have h1 := List.all_eq_true.1 h j hj
  simp only [Array.any_eq_true', Bool.and_eq_true, decide_eq_true_eq] at h1
  obtain ⟨e, hm, rfl, hb⟩ := h1
  exact hpre e hm hb
theorem pickV_eq {ds : List Nat} {vals : List Value} {f : Nat → Value} (h : ∀ j ∈ ds, f j = vals.getD j undef) : f = pickV ds vals f := by
  funext j
  unfold pickV
  by_cases hc : ds.contains j = true
  · rw [if_pos hc]; exact h j (by simpa using hc)
  · rw [if_neg hc]
theorem RI.next {fr : (Nat → Value) → Act} {vals : List Value} {base : (Nat → Value) → World → Prop} {D : Nat → Prop} {f : Nat → Value} {i : Nat} {v : Value} {act : Act} {w : World} (hf : ∀ j, D j → f j = vals.getD j undef) (hv : vals[i]? = some v) (hp : act = fr (updV f i v)) (hb : base (updV f i v) w) : RI fr vals base (fun j => D j ∨ j = i) act w := by
  refine ⟨_, hp, hb, fun j hj => ?_⟩
  unfold updV
  by_cases e : j = i
  · subst e
    simp [hv]
  · rw [if_neg (by simpa using e)]
    exact hf j (hj.resolve_right e)
theorem step_same {fr : (Nat → Value) → Act} {vals : List Value} {base : (Nat → Value) → World → Prop} {i : Nat} {o : Oper} (ds : List Nat) (v : Value) (hds : waitsB o ds = true) (hv : vals[i]? = some v)
    (hw : ∀ f, Region.wanted o (yielded ops (fr (pickV ds vals f)).tmps) = true)
    (H : ∀ f w K, base (pickV ds vals f) w → K ((fr (pickV ds vals f)).put o.dst v) w → o.wp P (fr (pickV ds vals f)) w K Q)
    (hp : ∀ f, (fr (pickV ds vals f)).put o.dst v = fr (updV (pickV ds vals f) i v))
    (hbase : ∀ f w, base (pickV ds vals f) w → base (updV (pickV ds vals f) i v) w) : Step P ops Q (RI fr vals base) i o := by
  intro D act w K hpre ⟨f, ha, hb, hf⟩ hK
  have e := pickV_eq (ds := ds) (vals := vals) (f := f) fun j hj => hf j (waitsB_spec hds hpre hj)
  rw [e] at ha
  rw [e] at hb
  subst ha
  have hf' : ∀ j, D j → pickV ds vals f j = vals.getD j undef := by rw [← e]; exact hf
  rw [if_pos (hw f)]
  refine H f w K hb (hK.out _ _ (RI.next hf' hv (hp f) (hbase f w hb)))
theorem step_call {fr : (Nat → Value) → Act} {vals : List Value} {base : (Nat → Value) → World → Prop} {i : Nat} {o : Oper} (ds : List Nat) (v : Value) (hds : waitsB o ds = true) (hv : vals[i]? = some v)
    (hw : ∀ f, Region.wanted o (yielded ops (fr (pickV ds vals f)).tmps) = true)
    (H : ∀ f w K, base (pickV ds vals f) w → (∀ w', base (pickV ds vals f) w' → K ((fr (pickV ds vals f)).put o.dst v) w') → o.wp P (fr (pickV ds vals f)) w K Q)
    (hp : ∀ f, (fr (pickV ds vals f)).put o.dst v = fr (updV (pickV ds vals f) i v))
    (hbase : ∀ f w, base (pickV ds vals f) w → base (updV (pickV ds vals f) i v) w) : Step P ops Q (RI fr vals base) i o := by
  intro D act w K hpre ⟨f, ha, hb, hf⟩ hK
  have e := pickV_eq (ds := ds) (vals := vals) (f := f) fun j hj => hf j (waitsB_spec hds hpre hj)
  rw [e] at ha
  rw [e] at hb
  subst ha
  have hf' : ∀ j, D j → pickV ds vals f j = vals.getD j undef := by rw [← e]; exact hf
  rw [if_pos (hw f)]
  refine H f w K hb fun w' hb' => hK.out _ _ (RI.next hf' hv (hp f) (hbase f w' hb'))
theorem step_none {fr : (Nat → Value) → Act} {vals : List Value} {base : (Nat → Value) → World → Prop} {i : Nat} {o : Oper} (ds : List Nat) (v : Value) (hds : waitsB o ds = true) (hv : vals[i]? = some v)
    (hw : ∀ f, Region.wanted o (yielded ops (fr (pickV ds vals f)).tmps) = false)
    (hp : ∀ f, (fr (pickV ds vals f)).put o.dst undef = fr (updV (pickV ds vals f) i v))
    (hbase : ∀ f w, base (pickV ds vals f) w → base (updV (pickV ds vals f) i v) w) : Step P ops Q (RI fr vals base) i o := by
  intro D act w K hpre ⟨f, ha, hb, hf⟩ hK
  have e := pickV_eq (ds := ds) (vals := vals) (f := f) fun j hj => hf j (waitsB_spec hds hpre hj)
  rw [e] at ha
  rw [e] at hb
  subst ha
  have hf' : ∀ j, D j → pickV ds vals f j = vals.getD j undef := by rw [← e]; exact hf
  rw [if_neg (Bool.eq_false_iff.1 (hw f))]
  exact hK.out _ _ (RI.next hf' hv (hp f) (hbase f w hb))
theorem wp_region_vals {id : Nat} {a : Act} {w : World} {l : List Oper} (n : Nat) (fr : (Nat → Value) → Act) (vals : List Value) (base : (Nat → Value) → World → Prop) (F : Act) (f0 : Nat → Value)
    (hm : P.follows .mixedOrders = true) (hf : forwardB l.toArray = true) (ht : tailB n l.toArray = true) (hn : decide (n ≤ l.length) = true)
    (ha : a = fr f0) (hF : ∀ f, fr (pickV (List.range n) vals f) = F) (h0 : base f0 w.drew) (hs : AllSteps P l.toArray Q (RI fr vals base) 0 (l.take n))
    (he : ∀ f w, base (pickV (List.range n) vals f) w → wpList P l.toArray Q (l.drop n) F w) : (Code.region id l.toArray true).wp P Q a w :=
  wp_region_inv_list n (RI fr vals base) hm hf ht hn ⟨f0, ha, h0, fun j h => h.elim⟩ hs fun D act w hD hI => by
    obtain ⟨f, hact, hb, hv⟩ := hI
    have e := pickV_eq (ds := List.range n) (vals := vals) (f := f) fun j hj => hv j (hD j (List.mem_range.1 hj))
    rw [e] at hact
    rw [e] at hb
    rw [hF] at hact
    subst hact
    exact he f w hb
end
end Go.Proofs.Ythllpgjggmdmmaa
namespace Go.Proofs.Ythllpgjggmdmmaa
open Go.ChangeShapes Go.WideShapes Go.ChangeAt Go.RowKit
set_option linter.unusedVariables false
set_option linter.unusedSimpArgs false

/-- Cells written over, from the k-th on. -/
def splice (cs : List Value) : Nat → List Value → List Value
  | _, [] => cs
  | k, v :: r => splice (cs.set k v) (k + 1) r
theorem splice_mid : ∀ (vs : List Value) (A X R : List Value), X.length = vs.length → splice (A ++ (X ++ R)) A.length vs = A ++ (vs ++ R)
  | [], A, X, R, h => by
    have : X = [] := List.length_eq_zero_iff.1 h
    subst this
    rfl
  | v :: r, A, x :: X, R, h => by
    have e : (A ++ (x :: X ++ R)).set A.length v = (A ++ [v]) ++ (X ++ R) := by
      rw [List.set_append_right _ _ (Nat.le_refl _)]
      simp
    have h2 := splice_mid r (A ++ [v]) X R (by simpa using h)
    rw [splice, e]
    simp only [List.length_append, List.length_singleton] at h2
    rw [h2]
    simp
theorem splice_node {l : List ND} {p : List Value} {k : Nat} (hk : k < l.length) (n : ND) : splice (cellsOf l ++ p) (0 + k * 8) n.cells = cellsOf (l.set k n) ++ p := by
  obtain ⟨m, hm⟩ : ∃ m, l[k]? = some m := ⟨_, List.getElem?_eq_getElem hk⟩
  have e1 : l = l.take k ++ (m :: l.drop (k + 1)) := by
    have hm' : l[k] = m := by rw [List.getElem?_eq_getElem hk] at hm; simpa using hm
    rw [← hm', ← List.drop_eq_getElem_cons hk, List.take_append_drop]
  have e2 : l.set k n = l.take k ++ (n :: l.drop (k + 1)) := by
    rw [List.set_eq_take_append_cons_drop, if_pos hk]
  have lt : (l.take k).length = k := by simp; omega
  have c1 : cellsOf l ++ p = cellsOf (l.take k) ++ (m.cells ++ (cellsOf (l.drop (k + 1)) ++ p)) := by
    conv => lhs; rw [e1]
    simp [cellsOf]
  have c2 : cellsOf (l.set k n) ++ p = cellsOf (l.take k) ++ (n.cells ++ (cellsOf (l.drop (k + 1)) ++ p)) := by
    rw [e2]
    simp [cellsOf]
  rw [c1, c2]
  have hlen : 0 + k * 8 = (cellsOf (l.take k)).length := by rw [cellsOf_len, lt]; omega
  rw [hlen]
  exact splice_mid n.cells (cellsOf (l.take k)) m.cells _ rfl
section
variable {P : Program}
theorem run_storeCells_mid (g : Nat) (t : TypeId) (off : Nat) : ∀ (vs : List Value) (i : Nat) (w : World) (cs : List Value), Blk w g t cs → off + i + vs.length ≤ cs.length → vs.all (·.oneCell') = true →
    ∃ w', (storeCells ⟨g, off, none⟩ vs i).run P w = .ok () w' ∧ But g w w' ∧ Blk w' g t (splice cs (off + i) vs)
  | [], i, w, cs, hb, _, _ => ⟨w, by simp [storeCells], But.refl _ _, hb⟩
  | v :: r, i, w, cs, hb, hl, h1 => by
    simp only [List.length_cons] at hl
    simp only [List.all_cons, Bool.and_eq_true] at h1
    have hk : off + i < cs.length := by omega
    have hadd : (⟨g, off, none⟩ : Addr).add i = ⟨g, off + i, none⟩ := by unfold Addr.add; split <;> simp_all
    have hc : w.cell? ⟨g, off + i, none⟩ = some cs[off + i] := by rw [hb.cell, List.getElem?_eq_getElem hk]
    have hf := hb.free (off + i)
    have hst : (store ((⟨g, off, none⟩ : Addr).add i) v).run P w = .ok () (w.setCell ⟨g, off + i, none⟩ v) := by
      rw [hadd, run_store P w _ v _ h1.1, hc]
      simp [hf]
    obtain ⟨w', hr, hb1, hb2⟩ := run_storeCells_mid g t off r (i + 1) (w.setCell ⟨g, off + i, none⟩ v) (cs.set (off + i) v) (hb.set _ _) (by simp; omega) h1.2
    refine ⟨w', ?_, (But.set g (off + i) w v).trans hb1, ?_⟩
    · simp only [storeCells, Sem.run_bind, hst, Result.andThen_ok, hr]
    · rw [splice]
      exact hb2
theorem m_storep {o : Oper} {a : Act} {w0 w : World} {L : List Bk} {K : Act → World → Prop} {Q : Exit → Act → World → Prop} (hM : Mem w0 w L) (i : Nat) {g : Nat} {t : TypeId} {cs : List Value} (hi : L[i]? = some (g, t, cs))
    (ty : TypeId) (x y : Operand) (ho : o.op = .store ty x y) (hd : o.dst = none) (off : Nat) (hx : a.eval x = .pointer (some ⟨g, off, none⟩)) (cs' : List Value) (hy : a.eval y = .agg cs'.toArray) (hn : (P.info? ty).map (·.size) = some cs'.length) (hl : off + cs'.length ≤ cs.length) (h1 : cs'.all (·.oneCell') = true)
    (hK : ∀ W, Mem w0 W (L.set i (g, t, splice cs off cs')) → K a W) : o.wp P a w K Q := by
  obtain ⟨w', hr, hb1, hb2⟩ := run_storeCells_mid (P := P) g t off cs' 0 w cs (hM.blk i hi) (by omega) h1
  cases hq : P.info? ty with
  | none => simp [hq] at hn
  | some ti =>
    have hs : ti.size = cs'.length := by simpa [hq] using hn
    have hsv : (storeVar ty ⟨g, off, none⟩ (.agg cs'.toArray)).run P w = .ok () w' := by
      simp [storeVar, sizeOf, typeInfo, hq, Value.cells, hs, hr]
    have e : a.put o.dst undef = a := by rw [hd]; rfl
    unfold Oper.wp execOp
    simp only [ho, hx, hy, Instr.storeAt, Instr.sureAddr, Sem.run_bind, Sem.run_pure, Result.andThen_ok, hsv]
    show K (a.put o.dst undef) _
    rw [e]
    exact hK _ (hM.but i hi hb1 (by simpa using hb2))
theorem wl_storep {ops : Array Oper} {rest : List Oper} {o : Oper} {a : Act} {w0 w : World} {L : List Bk} {Q : Exit → Act → World → Prop} (hw : Region.wanted o (yielded ops a.tmps) = true) (hM : Mem w0 w L) (i : Nat) {g : Nat} {t : TypeId} {cs : List Value} (hi : L[i]? = some (g, t, cs))
    (ty : TypeId) (x y : Operand) (ho : o.op = .store ty x y) (hd : o.dst = none) (off : Nat) (hx : a.eval x = .pointer (some ⟨g, off, none⟩)) (cs' : List Value) (hy : a.eval y = .agg cs'.toArray) (hn : (P.info? ty).map (·.size) = some cs'.length) (hl : off + cs'.length ≤ cs.length) (h1 : cs'.all (·.oneCell') = true)
    (h : ∀ W, Mem w0 W (L.set i (g, t, splice cs off cs')) → WL P ops Q rest a W) : WL P ops Q (o :: rest) a w :=
  ⟨BigFrame.wpList_want hw fun K hK => m_storep hM i hi ty x y ho hd off hx cs' hy hn hl h1 fun W hM => hK _ _ (h W hM).out⟩
end
end Go.Proofs.Ythllpgjggmdmmaa
namespace Go.Proofs.Ythllpgjggmdmmaa
open Go.ChangeShapes Go.WideShapes Go.ChangeAt Go.RowKit
set_option linter.unusedVariables false
set_option linter.unusedSimpArgs false

section
variable {P : Program} {ops : Array Oper} {Q : Exit → Act → World → Prop}
/-- 'wpAnyH', closed. -/
structure WA (P : Program) (ops : Array Oper) (Q : Exit → Act → World → Prop) (S : World → Prop) (fuel : Nat) (listed : Array Bool) (a : Act) (w : World) : Prop where
  out : wpAnyH P .any ops Q S fuel listed a w
theorem wa_start {id : Nat} {a : Act} {w : World} (S : World → Prop) (n : Nat) (hn : ops.size = n) (hm : P.follows .mixedOrders = true) (h : WA P ops Q S n (Array.replicate n false) a w.drew) : (Code.region id ops true).wp P Q a w := by
  subst hn
  exact wp_region_held hm h.out
theorem wa_read {S : World → Prop} {fuel : Nat} {listed : Array Bool} {a : Act} {w : World} (i : Nat) {o : Oper} (v : Value) (ho : ops[i]? = some o) (hs : Region.noSelect ops = true) (hf : Region.free .any ops listed i = true) (hr : (Region.ready .any ops listed).contains i = true)
    (hQ : ∀ c a w, Q (.panic c) (a.put o.dst v) w → Q (.panic c) a w) (hw : Region.wanted o (yielded ops a.tmps) = true) (hy : ∀ w, S w → (execOp a.eval o).run P w = .ok (.value v) w) (hS : S w)
    (h : WA P ops Q S fuel (listed.setIfInBounds i true) (a.put o.dst v) w) : WA P ops Q S (fuel + 1) listed a w :=
  ⟨wpAnyH_take ho hs hf hr hQ (.inl ⟨hw, hy⟩) hS h.out⟩
theorem wa_done {S : World → Prop} {fuel : Nat} {listed : Array Bool} {a : Act} {w : World} (hr : Region.ready .any ops listed = []) (h : Q .normal a w) : WA P ops Q S fuel listed a w := ⟨wpAnyH_done hr h fuel⟩
theorem r_load {o : Oper} {a : Act} {w : World} {g : Nat} {t : TypeId} {cs : List Value} (hg : Blk w g t cs) (ty : TypeId) (x : Operand) (ho : o.op = .load ty x) (hx : a.eval x = .pointer (some ⟨g, 0, none⟩)) {fs : Array Field} (hu : P.underlying ty = some (.struct fs)) (hn : (P.info? ty).map (·.size) = some cs.length) :
    (execOp a.eval o).run P w = .ok (.value (.agg cs.toArray)) w := by
  unfold execOp
  simp only [ho, hx, Instr.loadAt, Instr.sureAddr, Sem.run_bind, Sem.run_pure, Result.andThen_ok, run_loadVar_row w g t ty cs.toArray (0, 0) _ hg hu rfl (by simpa using hn)]
theorem r_loadc {o : Oper} {a : Act} {w : World} {g : Nat} {t : TypeId} {cs : List Value} (hg : Blk w g t cs) (ty : TypeId) (x : Operand) (ho : o.op = .load ty x) (k : Nat) (hx : a.eval x = .pointer (some ⟨g, k, none⟩)) {d : TypeDesc} (hu : P.underlying ty = some d) (hd : (match d with | .struct _ | .array _ _ => false | _ => true) = true) {v : Value} (hv : cs[k]? = some v) :
    (execOp a.eval o).run P w = .ok (.value v) w := by
  have hc : w.cell? ⟨g, k, none⟩ = some v := by rw [hg.cell, hv]
  have hagg : (isAgg ty).run P w = .ok false w := by
    unfold isAgg
    rw [Sem.run_bind, run_underlying hu w]
    cases d <;> simp_all
  unfold execOp
  simp only [ho, hx, Instr.loadAt, Instr.sureAddr, Sem.run_bind, Sem.run_pure, Result.andThen_ok, loadVar, hagg]
  simp [go_sem, hc]
theorem wa_take {S : World → Prop} {fuel : Nat} {listed : Array Bool} {a : Act} {w : World} (i : Nat) (d : Option Tmp) {o : Oper} (v : Value) (ho : ops[i]? = some o) (hd : o.dst = d) (hs : Region.noSelect ops = true) (hf : Region.free .any ops listed i = true) (hr : (Region.ready .any ops listed).contains i = true)
    (hQ : ∀ c a w, Q (.panic c) (a.put d v) w → Q (.panic c) a w) (hw : Region.wanted o (yielded ops a.tmps) = true) (hy : ∀ w, S w → (execOp a.eval o).run P w = .ok (.value v) w) (hS : S w)
    (h : WA P ops Q S fuel (listed.setIfInBounds i true) (a.put d v) w) : WA P ops Q S (fuel + 1) listed a w := by
  subst hd
  exact wa_read i v ho hs hf hr hQ hw hy hS h
/-- An operation that may be taken at once, or is left out. -/
theorem wa_skip {S : World → Prop} {fuel : Nat} {listed : Array Bool} {a : Act} {w : World} (i : Nat) (d : Option Tmp) {o : Oper} (ho : ops[i]? = some o) (hd : o.dst = d) (hs : Region.noSelect ops = true) (hf : Region.free .any ops listed i = true) (hr : (Region.ready .any ops listed).contains i = true)
    (hQ : ∀ c a w, Q (.panic c) (a.put d undef) w → Q (.panic c) a w) (hw : Region.wanted o (yielded ops a.tmps) = false) (hS : S w)
    (h : WA P ops Q S fuel (listed.setIfInBounds i true) (a.put d undef) w) : WA P ops Q S (fuel + 1) listed a w :=
  ⟨wpAnyH_take ho hs hf hr (hd ▸ hQ) (.inr ⟨hw, rfl⟩) hS (hd ▸ h.out)⟩
/-- What one operation owes where it may come up. -/
structure WO (P : Program) (ops : Array Oper) (Q : Exit → Act → World → Prop) (S : World → Prop) (fuel : Nat) (listed : Array Bool) (a : Act) (w : World) (i : Nat) : Prop where
  out : wpOp P ops Q i (fun a' w' => S w' ∧ wpAnyH P .any ops Q S fuel (listed.setIfInBounds i true) a' w') a w
theorem wa_one {S : World → Prop} {fuel : Nat} {listed : Array Bool} {a : Act} {w : World} (i : Nat) (hr : Region.ready .any ops listed = [i]) (h : WO P ops Q S fuel listed a w i) : WA P ops Q S (fuel + 1) listed a w :=
  ⟨wpAnyH_all hr (by simp) fun j hj => by
    simp only [List.mem_singleton] at hj
    subst hj
    exact h.out⟩
theorem wa_two {S : World → Prop} {fuel : Nat} {listed : Array Bool} {a : Act} {w : World} (i j : Nat) (hr : Region.ready .any ops listed = [i, j]) (h : WO P ops Q S fuel listed a w i) (h2 : WO P ops Q S fuel listed a w j) : WA P ops Q S (fuel + 1) listed a w :=
  ⟨wpAnyH_all hr (by simp) fun k hk => by
    simp only [List.mem_cons, List.not_mem_nil, or_false] at hk
    rcases hk with rfl | rfl
    · exact h.out
    · exact h2.out⟩
theorem wa_three {S : World → Prop} {fuel : Nat} {listed : Array Bool} {a : Act} {w : World} (i j k : Nat) (hr : Region.ready .any ops listed = [i, j, k]) (h : WO P ops Q S fuel listed a w i) (h2 : WO P ops Q S fuel listed a w j) (h3 : WO P ops Q S fuel listed a w k) : WA P ops Q S (fuel + 1) listed a w :=
  ⟨wpAnyH_all hr (by simp) fun l hl => by
    simp only [List.mem_cons, List.not_mem_nil, or_false] at hl
    rcases hl with rfl | rfl | rfl
    · exact h.out
    · exact h2.out
    · exact h3.out⟩
theorem wo_step {S : World → Prop} {fuel : Nat} {listed : Array Bool} {a : Act} {w : World} {i : Nat} {o : Oper} (ho : ops[i]? = some o) (hw : Region.wanted o (yielded ops a.tmps) = true)
    (h : ∀ K : Act → World → Prop, (∀ a w, S w → WA P ops Q S fuel (listed.setIfInBounds i true) a w → K a w) → o.wp P a w K Q) : WO P ops Q S fuel listed a w i :=
  ⟨by
    unfold wpOp
    rw [ho]
    simp only [hw, if_true]
    exact .inl (h _ fun a w hS hW => ⟨hS, hW.out⟩)⟩
theorem wo_pure {S : World → Prop} {fuel : Nat} {listed : Array Bool} {a : Act} {w : World} {i : Nat} (d : Option Tmp) {o : Oper} (ho : ops[i]? = some o) (hd : o.dst = d) (hw : Region.wanted o (yielded ops a.tmps) = true) (v : Value) (hr : (execOp a.eval o).run P w = .ok (.value v) w) (hS : S w)
    (h : WA P ops Q S fuel (listed.setIfInBounds i true) (a.put d v) w) : WO P ops Q S fuel listed a w i := by
  subst hd
  exact wo_step ho hw fun K hK => m_pure v hr (hK _ _ hS h)
theorem wo_call {S : World → Prop} {fuel : Nat} {listed : Array Bool} {a : Act} {w : World} {i : Nat} (d : Option Tmp) {o : Oper} (ho : ops[i]? = some o) (hd : o.dst = d) (hw : Region.wanted o (yielded ops a.tmps) = true) (f : FuncId) (args : Array Value) (hr : (execOp a.eval o).run P w = .ok (.enter f args) w) {R : Ending → World → Prop} (hc : Calls P f args w R)
    (h : ∀ e w', R e w' → ∃ v, e = .returned v ∧ S w' ∧ WA P ops Q S fuel (listed.setIfInBounds i true) (a.put d v) w') : WO P ops Q S fuel listed a w i := by
  subst hd
  exact wo_step ho hw fun K hK => m_call f args hr hc fun e w' he => by
    obtain ⟨v, h1, h2, h3⟩ := h e w' he
    exact ⟨v, h1, hK _ _ h2 h3⟩
theorem wo_alloc {S : World → Prop} {fuel : Nat} {listed : Array Bool} {a : Act} {w0 w : World} {L : List Bk} {i : Nat} (d : Option Tmp) {o : Oper} (ho : ops[i]? = some o) (hd : o.dst = d) (hw : Region.wanted o (yielded ops a.tmps) = true)
    (hM : Mem w0 w L) (t : TypeId) (hop : o.op = .alloc t) (cs : List Value) (hz : ∀ w : World, (Instr.alloc t true (.tuple #[])).run P w = .ok (.pointer (some ⟨w.heap.size, 0, none⟩)) (w.alloc (.cells cs.toArray t)))
    (hK : ∀ g W, Mem w0 W ((g, t, cs) :: L) → S W ∧ WA P ops Q S fuel (listed.setIfInBounds i true) (a.put d (.pointer (some ⟨g, 0, none⟩))) W) : WO P ops Q S fuel listed a w i := by
  subst hd
  exact wo_step ho hw fun K h => m_alloc hM t hop cs hz fun g W hm => h _ _ (hK g W hm).1 (hK g W hm).2
theorem wo_store {S : World → Prop} {fuel : Nat} {listed : Array Bool} {a : Act} {w0 w : World} {L : List Bk} {i : Nat} {o : Oper} (ho : ops[i]? = some o) (hw : Region.wanted o (yielded ops a.tmps) = true)
    (hM : Mem w0 w L) (j : Nat) {g : Nat} {t : TypeId} {cs : List Value} (hi : L[j]? = some (g, t, cs))
    (ty : TypeId) (x y : Operand) (hop : o.op = .store ty x y) (hd : o.dst = none) (hx : a.eval x = .pointer (some ⟨g, 0, none⟩)) (cs' : List Value) (hy : a.eval y = .agg cs'.toArray) (hn : (P.info? ty).map (·.size) = some cs'.length) (hl : cs.length = cs'.length) (h1 : cs'.all (·.oneCell') = true)
    (hK : ∀ W, Mem w0 W (L.set j (g, t, cs')) → S W ∧ WA P ops Q S fuel (listed.setIfInBounds i true) a W) : WO P ops Q S fuel listed a w i :=
  wo_step ho hw fun K h => m_store hM j hi ty x y hop hd hx cs' hy hn hl h1 fun W hm => h _ _ (hK W hm).1 (hK W hm).2
theorem r_index {o : Oper} {a : Act} {w : World} (t e : TypeId) (x y : Operand) (ho : o.op = .indexAddr t x y) (b off n c sz k : Nat) (hx : a.eval x = .slice (some ⟨b, off, none⟩) n c) {z : Int} (hy : a.eval y = .int .i64 z) (hz : z = (k : Int)) (hk : k < n)
    (hu : P.underlying t = some (.slice e)) (hn : (P.info? e).map (·.size) = some sz) : (execOp a.eval o).run P w = .ok (.value (.pointer (some ⟨b, off + k * sz, none⟩))) w := by
  subst hz
  have h1 : (k : Int) < (n : Int) := by omega
  have h0 : (0 : Int) ≤ (k : Int) := by omega
  cases hq : P.info? e with
  | none => simp [hq] at hn
  | some ti =>
    have hs : ti.size = sz := by simpa [hq] using hn
    have hadd : (⟨b, off, none⟩ : Addr).add (k * sz) = ⟨b, off + k * sz, none⟩ := by unfold Addr.add; split <;> simp_all
    have hr : (Instr.indexAt t (.slice (some ⟨b, off, none⟩) n c) (.int .i64 (k : Int))).run P w = .ok (.pointer (some ⟨b, off + k * sz, none⟩)) w := by
      unfold Instr.indexAt
      simp [asIntOf, asInt, Sem.run_bind, run_underlying hu w, sizeOf, typeInfo, hq, hs, hk, hadd]
    unfold execOp
    simp only [ho, hx, hy, Sem.run_bind, hr, Result.andThen_ok, Sem.run_pure]
theorem r_cells {o : Oper} {a : Act} {w : World} (ty : TypeId) (x : Operand) (ho : o.op = .load ty x) (b off : Nat) (hx : a.eval x = .pointer (some ⟨b, off, none⟩)) {fs : Array Field} (hu : P.underlying ty = some (.struct fs)) (cs : List Value) (hn : (P.info? ty).map (·.size) = some cs.length)
    (hc : ∀ j v, cs[j]? = some v → w.cell? ⟨b, off + j, none⟩ = some v) : (execOp a.eval o).run P w = .ok (.value (.agg cs.toArray)) w := by
  have hl : (loadCells ⟨b, off, none⟩ cs.length).run P w = .ok cs.toArray w :=
    run_loadCells_list (P := P) w ⟨b, off, none⟩ cs (fun j v hv => by
      have hadd : (⟨b, off, none⟩ : Addr).add j = ⟨b, off + j, none⟩ := by unfold Addr.add; split <;> simp_all
      rw [hadd]
      exact hc j v hv)
  cases hq : P.info? ty with
  | none => simp [hq] at hn
  | some i =>
    have hs : i.size = cs.length := by simpa [hq] using hn
    have hagg : (isAgg ty).run P w = .ok true w := by
      unfold isAgg
      rw [Sem.run_bind, run_underlying hu w]
      rfl
    unfold execOp
    simp [ho, hx, Instr.loadAt, Instr.sureAddr, Sem.run_bind, Sem.run_pure, Result.andThen_ok, loadVar, hagg, sizeOf, typeInfo, hq, hs, hl]
theorem r_part {o : Oper} {a : Act} {w : World} {g : Nat} {t : TypeId} {cs : List Value} (hg : Blk w g t cs) (ty : TypeId) (x : Operand) (ho : o.op = .load ty x) (k : Nat) (hx : a.eval x = .pointer (some ⟨g, k, none⟩)) {fs : Array Field} (hu : P.underlying ty = some (.struct fs)) (ps : List Value) (hn : (P.info? ty).map (·.size) = some ps.length) (hp : (cs.drop k).take ps.length = ps) : (execOp a.eval o).run P w = .ok (.value (.agg ps.toArray)) w := by
  refine r_cells ty x ho g k hx hu ps hn (fun j v hv => ?_)
  rw [hg.cell]
  have hj : j < ps.length := (List.getElem?_eq_some_iff.1 hv).1
  rw [← hp, List.getElem?_take_of_lt hj, List.getElem?_drop] at hv
  exact hv
/-- What follows a region, told once, whatever the order was. -/
def JQ (J : Act → World → Prop) : Exit → Act → World → Prop := fun e a w => match e with
  | .normal => J a w
  | _ => False
theorem wa_join {c : Code} {a : Act} {w : World} {Q : Exit → Act → World → Prop} (J : Act → World → Prop) (hJ : ∀ a w, J a w → Q .normal a w) (h : c.wp P (JQ J) a w) : c.wp P Q a w :=
  wp_mono h fun e a w hh => by
    cases e with
    | normal => exact hJ a w hh
    | _ => exact hh.elim
theorem wa_doneJ {S : World → Prop} {J : Act → World → Prop} {fuel : Nat} {listed : Array Bool} {a : Act} {w : World} (hr : Region.ready .any ops listed = []) (h : J a w) : WA P ops (JQ J) S fuel listed a w := ⟨wpAnyH_done hr h fuel⟩
end
end Go.Proofs.Ythllpgjggmdmmaa
