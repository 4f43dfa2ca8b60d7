import Derived.Test.YtfjafncipjdnfaaGreatList
import Derived.Orders
import Derived.Tactics
namespace Go.Proofs.YtfjafncipjdnfaaGreat
open Go.ChangeShapes Go.WideShapes Go.ChangeAt Go.RowKit
set_option linter.unusedVariables false
set_option linter.unusedSimpArgs false
section
variable {P : Program} {ops : Array Oper} {Q : Exit → Act → World → Prop} {md : Region.Mode}
def VE (ops : Array Oper) : Bool := (List.range ops.size).all fun i => ((ops[i]?).map fun o => o.after.all fun e => !Region.binds .any e || decide (e.on < i)).getD true
theorem JI (h : VE ops = true) {i : Nat} {o : Oper} (ho : ops[i]? = some o) {e : _} (he : e ∈ o.after) (hb : Region.binds .any e = true) : e.on < i := by
  have hi : i < ops.size := (Array.getElem?_eq_some_iff.1 ho).1
  have h1 := List.all_eq_true.1 h i (List.mem_range.2 hi)
  rw [ho] at h1
  simp only [Option.map_some, Option.getD_some, Array.all_eq_true_iff_forall_mem] at h1
  have h2 := h1 e he
  rw [hb] at h2
  simpa using h2
theorem jI (hf : VE ops = true) {L : Array Bool} (hL : L.size = ops.size) (hr : Region.ready .any ops L = []) : ∀ i, i < ops.size → L.getD i false = true := by
  intro i
  induction i using Nat.strongRecOn with
  | ind i ih =>
    intro hi
    cases hb : L.getD i false with
    | true => rfl
    | false =>
      exfalso
      have hget : L.getD i true = false := by
        have hlt : i < L.size := by omega
        simp [Array.getElem?_eq_getElem hlt] at hb ⊢
        exact hb
      have : i ∈ Region.ready .any ops L := mem_ready.2 ⟨hget, ops[i], Array.getElem?_eq_getElem hi, fun e he hb => by
        have hlt := JI hf (Array.getElem?_eq_getElem hi) he hb
        exact ih e.on hlt (by omega)⟩
      rw [hr] at this
      cases this
theorem AL {L : Array Bool} (h : L.toList.count false = 0) (i : Nat) : L.getD i true = true := by
  by_cases hi : i < L.size
  · have hm : L[i] ∈ L.toList := by simp
    have hn : false ∉ L.toList := List.count_eq_zero.1 h
    simp [Array.getElem?_eq_getElem hi]
    cases hb : L[i] with
    | true => rfl
    | false => exact absurd (hb ▸ hm) hn
  · simp [Array.getElem?_eq_none (by omega : L.size ≤ i)]
theorem iI {L : Array Bool} {i : Nat} (h : L.getD i true = false) : (L.setIfInBounds i true).toList.count false + 1 = L.toList.count false := by
  have hi : i < L.size := by
    rcases Nat.lt_or_ge i L.size with h' | h'
    · exact h'
    · simp [Array.getElem?_eq_none h'] at h
  have hb : L[i] = false := by simpa [Array.getElem?_eq_getElem hi] using h
  have hm : false ∈ L.toList := by rw [← hb]; simp
  have hpos : 0 < L.toList.count false := List.count_pos_iff.2 hm
  rw [Array.toList_setIfInBounds, List.count_set (by simpa using hi)]
  have hb' : L.toList[i]'(by simpa using hi) = false := by simpa using hb
  rw [hb']
  have e1 : (false == false) = true := rfl
  have e2 : (true == false) = false := rfl
  rw [e1, e2, if_pos rfl, if_neg (by simp)]
  omega
def KN (P : Program) (md : Region.Mode) (ops : Array Oper) (Q : Exit → Act → World → Prop) (I : Array Bool → Act → World → Prop) (i : Nat) (o : Oper) : Prop :=
  ∀ (L : Array Bool) (a : Act) (w : World), L.size = ops.size → L.getD i true = false → (∀ e ∈ o.after, Region.binds md e = true → L.getD e.on false = true) → I L a w →
    if Region.wanted o (yielded ops a.tmps) then o.wp P a w (I (L.setIfInBounds i true)) Q ∨ (o.asks P a w ∧ LetsOut Q) else I (L.setIfInBounds i true) (a.put o.dst undef) w
theorem iM (I : Array Bool → Act → World → Prop) (hf : VE ops = true) (hs : ∀ i o, ops[i]? = some o → KN P .any ops Q I i o)
    (he : ∀ L a w, L.size = ops.size → (∀ i, i < ops.size → L.getD i false = true) → I L a w → Q .normal a w) :
    ∀ (fuel : Nat) (L : Array Bool) (a : Act) (w : World), L.size = ops.size → L.toList.count false ≤ fuel → I L a w → wpAny P .any ops Q fuel L a w := by
  intro fuel
  induction fuel with
  | zero =>
    intro L a w hL hc hI
    have hz : L.toList.count false = 0 := by omega
    have hr : Region.ready .any ops L = [] := by
      apply List.eq_nil_iff_forall_not_mem.2
      intro i hi
      obtain ⟨h0, -⟩ := mem_ready.1 hi
      rw [AL hz i] at h0
      cases h0
    exact ⟨hr, he L a w hL (jI hf hL hr) hI⟩
  | succ fuel ih =>
    intro L a w hL hc hI
    refine ⟨fun hr => he L a w hL (jI hf hL hr) hI, fun i hi => ?_⟩
    obtain ⟨h0, o, ho, hpre⟩ := mem_ready.1 hi
    have hst := hs i o ho L a w hL h0 hpre hI
    have hcs := iI h0
    have next : ∀ a w, I (L.setIfInBounds i true) a w → wpAny P .any ops Q fuel (L.setIfInBounds i true) a w := fun a w h => ih _ a w (by simpa using hL) (by omega) h
    unfold wpOp
    rw [ho]
    simp only
    split
    · rename_i hw
      rw [if_pos hw] at hst
      exact hst.imp (Oper.wp_mono next) (fun h => h)
    · rename_i hw
      rw [if_neg hw] at hst
      exact next _ _ hst
theorem TF {id : Nat} {a : Act} {w : World} (I : Array Bool → Act → World → Prop) (hm : P.follows .mixedOrders = true) (hf : VE ops = true)
    (h0 : I (Array.replicate ops.size false) a w.drew)
    (hs : ∀ i o, ops[i]? = some o → KN P .any ops Q I i o)
    (he : ∀ L a w, L.size = ops.size → (∀ i, i < ops.size → L.getD i false = true) → I L a w → Q .normal a w) : (Code.region id ops true).wp P Q a w :=
  wp_region_any hm (iM I hf hs he ops.size _ a _ (by simp) (by
    simp) h0)
def lastB (ops : Array Oper) : Bool := (List.range (ops.size - 1)).all fun j => ((ops[ops.size - 1]?).map fun o => o.after.any fun e => decide (e.on = j) && Region.binds .any e).getD false
def Step (P : Program) (ops : Array Oper) (Q : Exit → Act → World → Prop) (I : (Nat → Prop) → Act → World → Prop) (i : Nat) (o : Oper) : Prop :=
  ∀ (D : Nat → Prop) (a : Act) (w : World) (K : Act → World → Prop), (∀ e ∈ o.after, Region.binds .any e = true → D e.on) → I D a w → Hid (∀ a w, I (fun j => D j ∨ j = i) a w → K a w) →
    if Region.wanted o (yielded ops a.tmps) then o.wp P a w K Q else K (a.put o.dst undef) w
theorem XF {id : Nat} {a : Act} {w : World} (I : (Nat → Prop) → Act → World → Prop) (hm : P.follows .mixedOrders = true) (hf : VE ops = true) (hl : lastB ops = true) (hn : 0 < ops.size)
    (h0 : I (fun _ => False) a w.drew)
    (hs : ∀ i o, ops[i]? = some o → i + 1 < ops.size → Step P ops Q I i o)
    (he : ∀ o D a w, ops[ops.size - 1]? = some o → (∀ j, j + 1 < ops.size → D j) → I D a w → if Region.wanted o (yielded ops a.tmps) then o.wp P a w (fun a w => Q .normal a w) Q else Q .normal (a.put o.dst undef) w) : (Code.region id ops true).wp P Q a w := by
  refine TF (fun L a w => (L.getD (ops.size - 1) true = false ∧ I (fun j => L.getD j false = true) a w) ∨ ((∀ j, j < ops.size → L.getD j false = true) ∧ Q .normal a w)) hm hf ?_ ?_ ?_
  · left
    refine ⟨by simp [Array.getElem?_replicate, show ops.size - 1 < ops.size by omega], ?_⟩
    have e : (fun j => (Array.replicate ops.size false).getD j false = true) = fun _ => False := by
      funext j
      by_cases hj : j < ops.size <;> simp [hj]
    rw [e]
    exact h0
  · intro i o ho L a w hL hi hpre hI
    have hil : i < ops.size := (Array.getElem?_eq_some_iff.1 ho).1
    have hil' : i < L.size := by omega
    rcases hI with ⟨h1, hI⟩ | ⟨h1, -⟩
    · by_cases hlast : i = ops.size - 1
      · subst hlast
        have hall : ∀ j, j + 1 < ops.size → L.getD j false = true := fun j hj => by
          have h2 := List.all_eq_true.1 hl j (List.mem_range.2 (by omega))
          rw [ho] at h2
          simp only [Option.map_some, Option.getD_some, Array.any_eq_true', Bool.and_eq_true, decide_eq_true_eq] at h2
          obtain ⟨e, hm, rfl, hb⟩ := h2
          exact hpre e hm hb
        have h3 := he o _ a w ho hall hI
        have key : ∀ a w, Q .normal a w → ((L.setIfInBounds (ops.size - 1) true).getD (ops.size - 1) true = false ∧ I (fun j => (L.setIfInBounds (ops.size - 1) true).getD j false = true) a w) ∨ ((∀ j, j < ops.size → (L.setIfInBounds (ops.size - 1) true).getD j false = true) ∧ Q .normal a w) := fun a w hq => by
          right
          refine ⟨fun j hj => ?_, hq⟩
          by_cases e : ops.size - 1 = j
          · subst e; simp [hil']
          · rw [getD_set_ne false e]
            exact hall j (by omega)
        split
        · rename_i hw
          rw [if_pos hw] at h3
          exact .inl (Oper.wp_mono key h3)
        · rename_i hw
          rw [if_neg hw] at h3
          exact key _ _ h3
      · have key : ∀ a w, I (fun j => L.getD j false = true ∨ j = i) a w → ((L.setIfInBounds i true).getD (ops.size - 1) true = false ∧ I (fun j => (L.setIfInBounds i true).getD j false = true) a w) ∨ ((∀ j, j < ops.size → (L.setIfInBounds i true).getD j false = true) ∧ Q .normal a w) := fun a w hq => by
          left
          refine ⟨by rw [getD_set_ne true hlast]; exact h1, ?_⟩
          have e : (fun j => (L.setIfInBounds i true).getD j false = true) = fun j => L.getD j false = true ∨ j = i := by
            funext j
            by_cases e : i = j
            · subst e; simp [hil']
            · rw [getD_set_ne false e]
              have : ¬ j = i := fun h => e h.symm
              simp [this]
          rw [e]
          exact hq
        have := hs i o ho (by omega) _ a w _ hpre hI (Lib.hid key)
        split
        · rename_i hq
          rw [if_pos hq] at this
          exact .inl this
        · rename_i hq
          rw [if_neg hq] at this
          exact this
    · have := h1 i hil
      simp [Array.getElem?_eq_getElem hil'] at hi this
      rw [hi] at this
      cases this
  · intro L a w hL hall hI
    rcases hI with ⟨h1, -⟩ | ⟨-, h⟩
    · have := hall (ops.size - 1) (by omega)
      have hlt : ops.size - 1 < L.size := by omega
      simp [Array.getElem?_eq_getElem hlt] at h1 this
      rw [h1] at this
      cases this
    · exact h
def xO (n : Nat) (ops : Array Oper) : Bool := (List.range ops.size).all fun j => decide (j < n) || (List.range j).all fun i => ((ops[j]?).map fun o => o.after.any fun e => decide (e.on = i) && Region.binds .any e).getD false
theorem aL {n : Nat} (h : xO n ops = true) {i j : Nat} {o : Oper} (ho : ops[j]? = some o) (hn : n ≤ j) (hi : i < j) : ∃ e ∈ o.after, e.on = i ∧ Region.binds .any e = true := by
  have hj : j < ops.size := (Array.getElem?_eq_some_iff.1 ho).1
  have h1 := List.all_eq_true.1 h j (List.mem_range.2 hj)
  rw [Bool.or_eq_true] at h1
  rcases h1 with h1 | h1
  · simp at h1; omega
  · have h2 := List.all_eq_true.1 h1 i (List.mem_range.2 hi)
    rw [ho] at h2
    simp only [Option.map_some, Option.getD_some, Array.any_eq_true', Bool.and_eq_true, decide_eq_true_eq] at h2
    obtain ⟨e, hm, he, hb⟩ := h2
    exact ⟨e, hm, he, hb⟩
theorem WF {id : Nat} {a : Act} {w : World} (n : Nat) (I : (Nat → Prop) → Act → World → Prop) (hm : P.follows .mixedOrders = true) (hf : VE ops = true) (ht : xO n ops = true) (hn : n ≤ ops.size)
    (h0 : I (fun _ => False) a w.drew)
    (hs : ∀ i o, ops[i]? = some o → i < n → Step P ops Q I i o)
    (he : ∀ D a w, (∀ j, j < n → D j) → I D a w → wpList P ops Q (ops.toList.drop n) a w) : (Code.region id ops true).wp P Q a w := by
  refine TF (fun L a w => ((∀ j, n ≤ j → j < ops.size → L.getD j true = false) ∧ I (fun j => L.getD j false = true) a w) ∨ ∃ m, n < m ∧ m ≤ ops.size ∧ (∀ j, j < m → L.getD j false = true) ∧ (∀ j, m ≤ j → j < ops.size → L.getD j true = false) ∧ wpList P ops Q (ops.toList.drop m) a w) hm hf ?_ ?_ ?_
  · left
    refine ⟨fun j _ hj => by simp [hj], ?_⟩
    have e : (fun j => (Array.replicate ops.size false).getD j false = true) = fun _ => False := by
      funext j
      by_cases hj : j < ops.size <;> simp [hj]
    rw [e]
    exact h0
  · intro i o ho L a w hL hi hpre hI
    have hil : i < ops.size := (Array.getElem?_eq_some_iff.1 ho).1
    have hil' : i < L.size := by omega
    have upto : ∀ m, (∀ j, m ≤ j → j < ops.size → L.getD j true = false) → n ≤ i → i ≤ m → True := fun _ _ _ _ => trivial
    have notyet : ∀ j, j < ops.size → L.getD j true = false → ¬ L.getD j false = true := fun j hj h1 h2 => by
      have hlt : j < L.size := by omega
      simp [Array.getElem?_eq_getElem hlt] at h1 h2
      rw [h1] at h2
      cases h2
    have ahead : n ≤ i → ∀ j, j < i → L.getD j false = true := fun hni j hj => by
      obtain ⟨e, hm, rfl, hb⟩ := aL ht ho hni hj
      exact hpre e hm hb
    have tail : ∀ a w, (∀ j, j < i → L.getD j false = true) → (∀ j, i ≤ j → j < ops.size → L.getD j true = false) → n ≤ i → wpList P ops Q (ops.toList.drop i) a w →
        if Region.wanted o (yielded ops a.tmps) then o.wp P a w (fun a w => ∃ m, n < m ∧ m ≤ ops.size ∧ (∀ j, j < m → (L.setIfInBounds i true).getD j false = true) ∧ (∀ j, m ≤ j → j < ops.size → (L.setIfInBounds i true).getD j true = false) ∧ wpList P ops Q (ops.toList.drop m) a w) Q ∨ (o.asks P a w ∧ LetsOut Q) else ∃ m, n < m ∧ m ≤ ops.size ∧ (∀ j, j < m → (L.setIfInBounds i true).getD j false = true) ∧ (∀ j, m ≤ j → j < ops.size → (L.setIfInBounds i true).getD j true = false) ∧ wpList P ops Q (ops.toList.drop m) (a.put o.dst undef) w := fun a w h1 h2 hni hw => by
      have e : ops.toList.drop i = o :: ops.toList.drop (i + 1) := by
        have hlt : i < ops.toList.length := by simpa using hil
        rw [List.drop_eq_getElem_cons hlt]
        congr 1
        have := Array.getElem?_eq_some_iff.1 ho
        obtain ⟨_, h⟩ := this
        simpa using h
      rw [e] at hw
      have next : ∀ a w, wpList P ops Q (ops.toList.drop (i + 1)) a w → ∃ m, n < m ∧ m ≤ ops.size ∧ (∀ j, j < m → (L.setIfInBounds i true).getD j false = true) ∧ (∀ j, m ≤ j → j < ops.size → (L.setIfInBounds i true).getD j true = false) ∧ wpList P ops Q (ops.toList.drop m) a w := fun a w h => by
        refine ⟨i + 1, by omega, by omega, fun j hj => ?_, fun j hj hj2 => ?_, h⟩
        · by_cases e : i = j
          · subst e; simp [hil']
          · rw [getD_set_ne false e]
            exact h1 j (by omega)
        · rw [getD_set_ne true (by omega : i ≠ j)]
          exact h2 j (by omega) hj2
      unfold wpList at hw
      split
      · rename_i hq
        rw [if_pos hq] at hw
        exact hw.imp (Oper.wp_mono next) (fun h => h)
      · rename_i hq
        rw [if_neg hq] at hw
        exact next _ _ hw
    rcases hI with ⟨h1, hI⟩ | ⟨m, hm1, hm2, h1, h2, hw⟩
    · rcases Nat.lt_or_ge i n with hin | hin
      · have key : ∀ a w, I (fun j => L.getD j false = true ∨ j = i) a w → ((∀ j, n ≤ j → j < ops.size → (L.setIfInBounds i true).getD j true = false) ∧ I (fun j => (L.setIfInBounds i true).getD j false = true) a w) ∨ ∃ m, n < m ∧ m ≤ ops.size ∧ (∀ j, j < m → (L.setIfInBounds i true).getD j false = true) ∧ (∀ j, m ≤ j → j < ops.size → (L.setIfInBounds i true).getD j true = false) ∧ wpList P ops Q (ops.toList.drop m) a w := fun a w hq => by
          left
          refine ⟨fun j hj hj2 => by rw [getD_set_ne true (by omega : i ≠ j)]; exact h1 j hj hj2, ?_⟩
          have e : (fun j => (L.setIfInBounds i true).getD j false = true) = fun j => L.getD j false = true ∨ j = i := by
            funext j
            by_cases e : i = j
            · subst e; simp [hil']
            · rw [getD_set_ne false e]
              have : ¬ j = i := fun h => e h.symm
              simp [this]
          rw [e]
          exact hq
        have := hs i o ho hin _ a w _ hpre hI (Lib.hid key)
        split
        · rename_i hq
          rw [if_pos hq] at this
          exact .inl this
        · rename_i hq
          rw [if_neg hq] at this
          exact this
      · have hin2 : i = n := by
          rcases Nat.lt_or_ge n i with h | h
          · exact absurd (ahead hin n h) (notyet n (by omega) (h1 n (Nat.le_refl _) (by omega)))
          · omega
        subst hin2
        have := tail a w (ahead hin) h1 (Nat.le_refl _) (he _ a w (ahead hin) hI)
        split
        · rename_i hq
          rw [if_pos hq] at this
          exact this.imp (Oper.wp_mono fun a w h => .inr h) (fun h => h)
        · rename_i hq
          rw [if_neg hq] at this
          exact .inr this
    · have him : i = m := by
        have h3 : m ≤ i := by
          rcases Nat.lt_or_ge i m with h | h
          · exact absurd (h1 i h) (notyet i hil hi)
          · exact h
        rcases Nat.lt_or_ge m i with h | h
        · exact absurd (ahead (by omega) m h) (notyet m (by omega) (h2 m (Nat.le_refl _) (by omega)))
        · omega
      subst him
      have := tail a w h1 h2 (by omega) hw
      split
      · rename_i hq
        rw [if_pos hq] at this
        exact this.imp (Oper.wp_mono fun a w h => .inr h) (fun h => h)
      · rename_i hq
        rw [if_neg hq] at this
        exact .inr this
  · intro L a w hL hall hI
    rcases hI with ⟨h1, hI⟩ | ⟨m, hm1, hm2, h1, h2, hw⟩
    · have hz : n = ops.size := by
        rcases Nat.lt_or_ge n ops.size with h | h
        · have h3 := hall n h
          have h4 := h1 n (Nat.le_refl _) h
          have hlt : n < L.size := by omega
          simp [Array.getElem?_eq_getElem hlt] at h3 h4
          rw [h3] at h4
          cases h4
        · omega
      have := he _ a w (fun j hj => hall j (by omega)) hI
      rw [hz, List.drop_eq_nil_of_le (by simp)] at this
      exact this
    · have hz : m = ops.size := by
        rcases Nat.lt_or_ge m ops.size with h | h
        · have h3 := hall m h
          have h4 := h2 m (Nat.le_refl _) h
          have hlt : m < L.size := by omega
          simp [Array.getElem?_eq_getElem hlt] at h3 h4
          rw [h3] at h4
          cases h4
        · omega
      rw [hz, List.drop_eq_nil_of_le (by simp)] at hw
      exact hw
theorem KD {o : Oper} {a : Act} {w : World} {K : Act → World → Prop} (hw : Region.wanted o (yielded ops a.tmps) = true) (h : o.wp P a w K Q) : if Region.wanted o (yielded ops a.tmps) then o.wp P a w K Q else K (a.put o.dst undef) w := by
  rw [if_pos hw]; exact h
def EO (f : Nat → Value) (i : Nat) (v : Value) : Nat → Value := fun j => if j == i then v else f j
def RI (fr : (Nat → Value) → Act) (vals : List Value) (base : (Nat → Value) → World → Prop) (D : Nat → Prop) (act : Act) (w : World) : Prop :=
  ∃ f, act = fr f ∧ base f w ∧ ∀ j, D j → f j = vals.getD j undef
theorem RI.next {fr : (Nat → Value) → Act} {vals : List Value} {base : (Nat → Value) → World → Prop} {D : Nat → Prop} {f : Nat → Value} {i : Nat} {v : Value} {act : Act} {w : World} (hf : ∀ j, D j → f j = vals.getD j undef) (hv : vals[i]? = some v) (hp : act = fr (EO f i v)) (hb : base (EO f i v) w) : RI fr vals base (fun j => D j ∨ j = i) act w := by
  refine ⟨_, hp, hb, fun j hj => ?_⟩
  unfold EO
  by_cases e : j = i
  · subst e
    simp [hv]
  · rw [if_neg (by simpa using e)]
    exact hf j (hj.resolve_right e)
end
end Go.Proofs.YtfjafncipjdnfaaGreat
