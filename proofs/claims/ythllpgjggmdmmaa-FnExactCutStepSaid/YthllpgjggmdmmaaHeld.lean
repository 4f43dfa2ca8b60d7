/- Who has hold of what: a map from int64 to int64 as a function, the laws at its operations, and what HeldBy, Locked and Unlocked answer. -/
import Derived.Test.YthllpgjggmdmmaaLock
import Derived.Test.YthllpgjggmdmmaaNodesImpl
import Derived.Maps.RangeWalk
import Derived.Maps.OwnSet
import Derived.Maps.OwnOps
namespace Go.Proofs.Ythllpgjggmdmmaa
open Go.ChangeShapes Go.WideShapes Go.ChangeAt Go.RowKit Go.Maps
set_option linter.unusedVariables false
set_option linter.unusedSimpArgs false

/-! ### A map[int64]int64 -/
theorem lawI : Keyed Try.prog 2 := int_keyed Try.underlying2
theorem zeroI (w : World) : (zeroValue 2).run Try.prog w = .ok (.int .i64 0) w := by kernel_rfl
theorem wf_in64 {n : Int} (h : In64 n) : (Lit.int .i64 n).wf = true := WalkArith.wf_i64 h
abbrev ownsI (w : World) (b n : Nat) (D : DataW Unit) : Prop := w.ownsMap Try.prog 2 (plainElem Try.prog 2) b n D
/-- D has at each int64 what f says. -/
def Reads (D : DataW Unit) (f : Int → Option Int) : Prop := ∀ x, (Lit.int .i64 x).wf = true → Maps.has D (.int .i64 x) = (f x).isSome ∧ ∀ c z, f x = some c → D.atKey (.int .i64 x) z = .lit (.int .i64 c)
/-- Block b is a map of at most n entries that is f. -/
def MapF (w : World) (b n : Nat) (f : Int → Option Int) : Prop := ∃ D, ownsI w b n D ∧ Reads D f
theorem MapF.lt {w : World} {b n : Nat} {f : Int → Option Int} (h : MapF w b n f) : b < w.heap.size := by
  obtain ⟨D, h, -⟩ := h
  exact World.ownsMap.lt h
theorem MapF.same {w w' : World} {b n : Nat} {f : Int → Option Int} (h : MapF w b n f) (hs : w'.heap[b]? = w.heap[b]?) : MapF w' b n f := by
  obtain ⟨D, ⟨es, clock, hb, r⟩, hD⟩ := h
  exact ⟨D, ⟨es, clock, hs.trans hb, r⟩, hD⟩
theorem MapF.below {w w' : World} {b n D : Nat} {f : Int → Option Int} (h : MapF w b n f) (hb : Below D w w') (hD : b < D) : MapF w' b n f := h.same (hb.block b hD)
theorem MapF.kept {w w' : World} {b n : Nat} {row : Option Nat} {f : Int → Option Int} (h : MapF w b n f) (hg : w.grownBy w' row) (hr : row ≠ some b) : MapF w' b n f := h.same (hg.block b h.lt (fun e => hr e.symm))
theorem MapF.alloc {w : World} {b n : Nat} {f : Int → Option Int} (h : MapF w b n f) (o : Obj) : MapF (w.alloc o) b n f := h.kept (World.grownBy_alloc w o none) (by simp)
theorem MapF.made (w : World) : MapF (w.alloc (.map #[] 0)) w.heap.size 0 (fun _ => none) := ⟨.map [], World.ownsMap_made _ _ _ _, fun x _ => ⟨rfl, fun c z h => by cases h⟩⟩
theorem MapF.mono {w : World} {b n n' : Nat} {f : Int → Option Int} (h : MapF w b n f) (hn : n ≤ n') : MapF w b n' f := by
  obtain ⟨D, h, hD⟩ := h
  exact ⟨D, h.mono hn, hD⟩
theorem MapF.congr {w : World} {b n : Nat} {f g : Int → Option Int} (h : MapF w b n f) (e : ∀ x, f x = g x) : MapF w b n g := by
  obtain rfl : f = g := funext e
  exact h

theorem Reads.put {D : DataW Unit} {f : Int → Option Int} (h : Reads D f) (hD : IsMap D) (k c : Int) : Reads (D.put (.int .i64 k) (.lit (.int .i64 c))) (fun x => if x = k then some c else f x) := by
  intro x hx
  by_cases e : x = k
  · subst e
    refine ⟨by rw [has_put_same (k := .int .i64 x) hD trivial]; simp, fun c' z hc => ?_⟩
    simp at hc
    subst hc
    exact atKey_put_same (k := .int .i64 x) hD trivial _ _
  · have hne : (Lit.int .i64 x) ≠ .int .i64 k := fun h => e (by cases h; rfl)
    simp only [if_neg e]
    exact ⟨by rw [has_put_other hne]; exact (h x hx).1, fun c' z hc => by rw [atKey_put_other hne]; exact (h x hx).2 c' z hc⟩
theorem keyI {k : Int} (h : In64 k) : keyOf Try.prog 2 (.int .i64 k) = some (.int .i64 k) := keyOf_int_mk Try.underlying2 (wf_in64 h)

section
variable (w : World) {ops : Array Oper} {rest : List Oper} {o : Oper} {a : Act} {Q : Exit → Act → World → Prop}
theorem at_look (hg : o.guard = none) (m x : Operand) (hop : o.op = Op.lookup 105 m x true) (b n : Nat) (f : Int → Option Int) (hm : a.eval m = .map (some b)) (h : MapF w b n f) (k : Int) (hx : a.eval x = .int .i64 k) (hk : In64 k) (c : Int) (t : Bool) (hc : (f k).getD 0 = c) (ht : (f k).isSome = t)
    (hK : wpList Try.prog ops Q rest (a.put o.dst (.tuple #[.int .i64 c, .bool t])) w) : wpList Try.prog ops Q (o :: rest) a w := by
  obtain ⟨D, hown, hD⟩ := h
  refine wpList_lookup_own_ok_int w hg m x 105 hop 2 2 .i64 lawI Try.underlying105 Try.underlying2 (zeroI w) b n D hm hown (.int .i64 k) (.int .i64 k) hx (keyI hk) ?_
  intro c1 hat hwc
  obtain ⟨h1, h2⟩ := hD k (wf_in64 hk)
  have hc1 : c1 = (f k).getD 0 := by
    cases hf : f k with
    | none =>
      rw [hf] at h1
      have := (atKey_of_not_has (k := .int .i64 k) (by simpa using h1) (.lit (.int .i64 0))).symm.trans hat
      simp at this
      simp [this]
    | some c' =>
      have := (h2 c' (.lit (.int .i64 0)) hf).symm.trans hat
      simp at this
      simp [this]
  rw [h1, hc1, hc, ht]
  exact hK
theorem at_store (hg : o.guard = none) (m x v : Operand) (hop : o.op = Op.mapUpdate 105 m x v) (b n : Nat) (f : Int → Option Int) (hm : a.eval m = .map (some b)) (h : MapF w b n f) (hn : n < maxLen) (k c : Int) (hx : a.eval x = .int .i64 k) (hv : a.eval v = .int .i64 c) (hk : In64 k) (hc : In64 c)
    (hK : ∀ w', MapF w' b (n + 1) (fun x => if x = k then some c else f x) → w.grownBy w' (some b) → wpList Try.prog ops Q rest (a.put o.dst undef) w') : wpList Try.prog ops Q (o :: rest) a w := by
  obtain ⟨D, hown, hD⟩ := h
  refine wpList_mapUpdate_own w hg m x v 105 hop 2 2 lawI Try.underlying105 (plainElem Try.prog 2) b n D hm hown hn (.int .i64 k) (.int .i64 c) (.int .i64 k) hx hv (keyI hk) (.lit (.int .i64 c)) [] (plainElem_int Try.underlying2 (wf_in64 hc)) ?_
  intro w' h1 h2
  exact hK w' ⟨_, h1, hD.put hown.isMap k c⟩ h2
end

/-! ### The answers -/
theorem holdF_zero (l : List ND) (x : Int) : holdF l 0 x = none := by
  unfold holdF
  split
  · omega
  · rfl
theorem holdF_succ {l : List ND} {k : Nat} {n : ND} (h : l[k]? = some n) (x : Int) : holdF l (k + 1) x = if x = (k : Int) then (if n.o = 0 then none else some (n.o - 1)) else holdF l k x := by
  unfold holdF
  by_cases e : x = (k : Int)
  · subst e
    simp [h]
    omega
  · rw [if_neg e]
    by_cases e2 : 0 ≤ x ∧ x < (k : Int)
    · rw [if_pos e2, if_pos (by omega)]
    · rw [if_neg e2, if_neg (by omega)]
theorem holdF_free {l : List ND} {k : Nat} {n : ND} (h : l[k]? = some n) (h0 : n.o = 0) (x : Int) : holdF l (k + 1) x = holdF l k x := by
  rw [holdF_succ h]
  by_cases e : x = (k : Int)
  · subst e
    rw [if_pos rfl, if_pos h0]
    unfold holdF
    rw [if_neg (by omega)]
  · rw [if_neg e]
theorem holdF_at {l : List ND} {k : Nat} {n : ND} (h : l[k]? = some n) : holdF l l.length k = if n.o = 0 then none else some (n.o - 1) := by
  have hk := (List.getElem?_eq_some_iff.1 h).1
  unfold holdF
  rw [if_pos (by omega)]
  simp [h]
/-- The nodes with the Owners that f tells. -/
def newO (f : Int → Option Int) (k : Nat) : Int := match f (k : Int) with | some c => c + 1 | none => 0
def withF (f : Int → Option Int) (l : List ND) : List ND := l.mapIdx fun i n => setO n (newO f i)
theorem withF_len (f : Int → Option Int) (l : List ND) : (withF f l).length = l.length := by simp [withF]
theorem withF_get {f : Int → Option Int} {l : List ND} {k : Nat} {n : ND} (h : l[k]? = some n) : (withF f l)[k]? = some (setO n (newO f k)) := by simp [withF, h]
theorem setO_same (n : ND) : setO n n.o = n := rfl

theorem nodes_owner {l : List ND} (h : nodesB l = true) {k : Nat} {n : ND} (hn : l[k]? = some n) : 0 ≤ n.o ∧ n.o ≤ 6 := by
  match l, h with
  | m :: r, h =>
    simp only [nodesB, Bool.and_eq_true, decide_eq_true_eq, List.all_eq_true] at h
    obtain ⟨-, ⟨-, h1⟩, h2⟩ := h
    have hl : linkB n (m :: r).length = true := by
      match k, hn with
      | 0, hn => simp at hn; subst hn; exact h1
      | k + 1, hn =>
        simp only [List.getElem?_cons_succ] at hn
        exact (h2 n (List.mem_of_getElem? hn)).2
    simp only [linkB, Bool.and_eq_true] at hl
    exact inB_t hl.1.1.2
end Go.Proofs.Ythllpgjggmdmmaa
