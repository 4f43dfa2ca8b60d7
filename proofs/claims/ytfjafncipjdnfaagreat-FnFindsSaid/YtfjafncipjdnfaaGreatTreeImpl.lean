import Derived.Test.YtfjafncipjdnfaaGreatTree
import Derived.Test.YtfjafncipjdnfaaGreatNodesImpl
import Derived.RangeFuncNested
import Derived.RangeFuncBound
import Derived.RangeFuncLeaves
import Derived.Shelf.Abstract
import Derived.OwnWalkIn
import Derived.TacticsInMore
import Derived.LoopNIn
import Derived.LoopIn
import Derived.Deep.WholeRow
import Derived.OrdersIn
import Derived.OrdersHeld
import Derived.RangeFuncCalls
import Derived.RangeFuncBox
namespace Go.Proofs.YtfjafncipjdnfaaGreat
open Go.ChangeShapes Go.WideShapes Go.ChangeAt Go.RowKit Go.Shelf
attribute [local go_sem] Oper.semAt_some
set_option linter.unusedVariables false
set_option linter.unusedSimpArgs false
structure Sep (n₀ : Nat) (S : Nat → Prop) (W W' : World) : Prop where
  below : Below n₀ W W'
  same : ∀ k, k < W.heap.size → S k → W'.heap[k]? = W.heap[k]?
structure Mine (n₀ : Nat) (S S' : Nat → Prop) (W W' : World) : Prop where
  below : Below n₀ W W'
  same : ∀ k, k < W.heap.size → ¬ S k → W'.heap[k]? = W.heap[k]?
  new : ∀ k, k < W.heap.size → S' k → S k
theorem Mine.trans {n₀ : Nat} {S S' S'' : Nat → Prop} {A B C : World} (h : Mine n₀ S S' A B) (k : Mine n₀ S' S'' B C) : Mine n₀ S S'' A C :=
  ⟨h.below.trans k.below, fun i hi hs => (k.same i (Nat.lt_of_lt_of_le hi h.below.size) (fun e => hs (h.new i hi e))).trans (h.same i hi hs), fun i hi hs => h.new i hi (k.new i (Nat.lt_of_lt_of_le hi h.below.size) hs)⟩
theorem Mine.refl (n₀ : Nat) (S : Nat → Prop) (W : World) : Mine n₀ S S W W := ⟨Below.refl _ _, fun _ _ _ => rfl, fun _ _ h => h⟩
theorem Sep.setCell {n₀ : Nat} {S : Nat → Prop} {W : World} {g i : Nat} (h0 : n₀ ≤ g) (hg : ¬ S g) (v : Value) : Sep n₀ S W (W.setCell ⟨g, i, none⟩ v) :=
  ⟨(Below.refl _ _).setCell (p := ⟨g, i, none⟩) h0 v, fun k hk hs => Below.heap_setCell W ⟨g, i, none⟩ v k (fun e => hg (by have : k = g := e; rwa [← this]))⟩
theorem Sep.alloc {n₀ : Nat} {S : Nat → Prop} {W : World} (h0 : n₀ ≤ W.heap.size) (o : Obj) : Sep n₀ S W (W.alloc o) :=
  ⟨(Below.refl _ _).alloc h0 o, fun k hk _ => Below.heap_alloc W o k hk⟩
theorem Sep.trans {n₀ : Nat} {S : Nat → Prop} {A B C : World} (h : Sep n₀ S A B) (k : Sep n₀ S B C) : Sep n₀ S A C :=
  ⟨h.below.trans k.below, fun i hi hs => (k.same i (Nat.lt_of_lt_of_le hi h.below.size) hs).trans (h.same i hi hs)⟩
def NAt (n₀ : Nat) (W : World) (b off : Nat) (ns : List ND) : Prop := b < n₀ ∧ ∀ k n, ns[k]? = some n → At8 W b (off + k * 8) n
theorem NAt.below {n₀ : Nat} {W W' : World} {b off : Nat} {ns : List ND} (h : NAt n₀ W b off ns) (hb : Below n₀ W W') : NAt n₀ W' b off ns := ⟨h.1, fun k n hk => (h.2 k n hk).below hb h.1⟩
theorem Sep.put {n₀ : Nat} {S : Nat → Prop} {W : World} {k : Nat} (o : Obj) (h0 : n₀ ≤ k) (hk : ¬ S k) (hs : n₀ ≤ W.heap.size) : Sep n₀ S W (W.putObj k o) :=
  ⟨(Below.refl _ _).grown (grownBy_putObj' W k o) hs (fun j e => by cases e; exact h0), fun j hj hs => World.putObj_heap_other (fun e => hk (e ▸ hs))⟩
attribute [local go_sem] Oper.semAt_some
theorem qK {l : List ND} {n : ND} (h0 : l[0]? = some n) (h : YA l = true) : BG l ∧ n.r = ((UD l : Nat) : Int) ∧ UD l < l.length ∧ ∃ c gs, Wk l [] (UD l) 1 c gs ∧ JP l (-1) (gs.map Prod.fst) = (fH l).2 := by
  cases l with
  | nil => simp at h0
  | cons m r =>
    simp at h0
    subst h0
    exact UM h
def SaysT (l : List ND) (w : World) (e : Ending) (w' : World) : Prop := e = .returned (.bool (WC l)) ∧ Below w.heap.size w w'
end Go.Proofs.YtfjafncipjdnfaaGreat
