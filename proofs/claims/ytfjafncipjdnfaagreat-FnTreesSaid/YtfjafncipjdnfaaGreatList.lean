import Derived.Test.YtfjafncipjdnfaaGreatRows
import Derived.WalkKit
import Derived.ProofKit
import Derived.OpenShut
import Derived.ChangeOld
import Derived.Carry
import Derived.Below
import Derived.Lib.Hide
import Derived.Lib.SmallJoins
import Derived.Deep.Slices
import Derived.Deep.RegionHeld3
import Derived.Deep.DeepCutAuto
import Derived.Deep.LoopGhost
namespace Go.Proofs.YtfjafncipjdnfaaGreat
open Go.ChangeShapes Go.WideShapes Go.ChangeAt Go.RowKit
theorem bA : type_of% Tryz.underlying2 := Tryz.underlying2
theorem dA : type_of% Tryz.underlying45 := Tryz.underlying45
theorem eA : type_of% Tryz.underlying41 := Tryz.underlying41
theorem fA : type_of% Tryz.underlying24 := Tryz.underlying24
theorem nA : type_of% Tryz.underlying86 := Tryz.underlying86
theorem tA : type_of% Tryz.underlying83 := Tryz.underlying83
theorem IA : type_of% Tryz.underlying84 := Tryz.underlying84
theorem KA : type_of% Tryz.underlying37 := Tryz.underlying37
theorem pB : type_of% Tryz.underlying39 := Tryz.underlying39
theorem mC : type_of% Tryz.underlying43 := Tryz.underlying43
theorem JC : type_of% Tryz.underlying26 := Tryz.underlying26
theorem AD : type_of% Tryz.underlying4 := Tryz.underlying4
theorem rR {P Q R : Prop} (f : P → R) (h : ¬ Q := by decide) : P ∨ Q → R := fun o => f (o.resolve_right h)
abbrev iJ (n : Int) : Value := .int .i64 n
abbrev sZ : Value := .slice none 0 0
abbrev uD : Value := undef
theorem bB {B : Nat} {w w' : World} (h : Below B w w' := by repeat (first | exact Below.refl _ _ | assumption | refine Below.drew ?_ | refine Below.alloc ?_ (by first | omega | (simp; try omega)) _ | refine Below.setCell ?_ (by first | omega | (simp; try omega)) _ | (refine Below.trans ?_ (Below.mono (by assumption) (by first | omega | (simp; try omega)))))) : Below B w w' := h
theorem bC {B : Nat} {w w' : World} (h : Below B w w' := by repeat (first | exact Below.refl _ _ | assumption | refine Below.drew ?_ | refine Below.alloc ?_ (by simp; try omega) _ | refine Below.setCell ?_ (by simp; try omega) _ | (refine Below.trans ?_ (Below.mono (by assumption) (by simp; try omega))))) : Below B w w' := h
theorem own : ownKnob Tryz.prog.godebug = none := by kernel_rfl
theorem gO : laidOutB Tryz.prog = true := by kernel_rfl
theorem IE {B : Nat} {W w1 : World} (hb : Below B W w1) : (∀ b o, b < B → w1.cell? ⟨b, o, none⟩ = W.cell? ⟨b, o, none⟩) ∧ (∀ b o, b < B → w1.frozen? ⟨b, o, none⟩ = W.frozen? ⟨b, o, none⟩) :=
  ⟨fun b o h => hb.cell (p := ⟨b, o, none⟩) h, fun b o h => hb.frozen (p := ⟨b, o, none⟩) h⟩
def nE (n : Int) : Prop := -9223372036854775808 ≤ n ∧ n ≤ 9223372036854775807
set_option linter.unusedVariables false
set_option linter.unusedSimpArgs false
def XA (s l r : Int) : Int := if s = 0 then l else if s = 1 then r else 0
def DB (s kid l : Int) : Int := if s = 0 then kid else l
def cB (s kid r : Int) : Int := if s = 1 then kid else r
def VA (key k : Int) : Int := if key < k then 0 else 1
theorem ret_i {a b : Int} (h : a = b) : Ending.returned (.int .i64 a) = .returned (.int .i64 b) := by rw [h]
set_option maxHeartbeats 1000000 in
theorem DC (k v l r o : Int) (g : Bool) (lt rt : Int) (s : Int) (w : World) :
    Calls Tryz.prog 65 #[.agg #[.int .i64 k, .int .i64 v, .int .i64 l, .int .i64 r, .int .i64 o, .bool g, .int .i64 lt, .int .i64 rt], .int .i64 s] w fun e w' => e = .returned (.int .i64 (XA s l r)) ∧ Below w.heap.size w w' := by
  by_cases h0 : s = 0
  · subst h0
    go_enter Tryz.func65, Tryz.ntmps65
    go_wp2
    go_ret
    exact ⟨rfl, bC⟩
  · by_cases h1 : s = 1
    · subst h1
      go_enter Tryz.func65, Tryz.ntmps65
      go_wp2
      go_ret
      exact ⟨rfl, bC⟩
    · have hv : XA s l r = 0 := by simp [XA, h0, h1]
      have g0 : (s == 0) = false := by simpa using h0
      have g1 : (s == 1) = false := by simpa using h1
      rw [hv]
      clear hv h0 h1
      go_enter Tryz.func65, Tryz.ntmps65
      go_wp2
      go_ret
      exact ⟨rfl, bC⟩
set_option maxHeartbeats 1000000 in
theorem aG (k v l r o : Int) (g : Bool) (lt rt : Int) (s : Int) (w : World) :
    Calls Tryz.prog 53 #[.agg #[.int .i64 k, .int .i64 v, .int .i64 l, .int .i64 r, .int .i64 o, .bool g, .int .i64 lt, .int .i64 rt], .int .i64 s] w fun e w' => e = .returned (.int .i64 (XA s lt rt)) ∧ Below w.heap.size w w' := by
  by_cases h0 : s = 0
  · subst h0
    go_enter Tryz.func53, Tryz.ntmps53
    go_wp2
    go_ret
    exact ⟨rfl, bC⟩
  · by_cases h1 : s = 1
    · subst h1
      go_enter Tryz.func53, Tryz.ntmps53
      go_wp2
      go_ret
      exact ⟨rfl, bC⟩
    · have hv : XA s lt rt = 0 := by simp [XA, h0, h1]
      have g0 : (s == 0) = false := by simpa using h0
      have g1 : (s == 1) = false := by simpa using h1
      rw [hv]
      clear hv h0 h1
      go_enter Tryz.func53, Tryz.ntmps53
      go_wp2
      go_ret
      exact ⟨rfl, bC⟩
set_option maxHeartbeats 1000000 in
theorem uF (k v l r o : Int) (g : Bool) (lt rt : Int) (s : Int) (w : World) :
    Calls Tryz.prog 64 #[.agg #[.int .i64 k, .int .i64 v, .int .i64 l, .int .i64 r, .int .i64 o, .bool g, .int .i64 lt, .int .i64 rt], .int .i64 s] w fun e w' => e = .returned (.int .i64 (VA s k)) ∧ Below w.heap.size w w' := by
  by_cases h0 : s < k
  · have hv : VA s k = 0 := by simp [VA, h0]
    rw [hv]
    clear hv
    go_enter Tryz.func64, Tryz.ntmps64
    go_wp2
    go_ret
    exact ⟨rfl, bC⟩
  · have hv : VA s k = 1 := by simp [VA, h0]
    rw [hv]
    clear hv
    go_enter Tryz.func64, Tryz.ntmps64
    go_wp2
    go_ret
    exact ⟨rfl, bC⟩
set_option maxHeartbeats 1000000 in
theorem uL (k v l r o : Int) (g : Bool) (lt rt : Int) (s : Int) (w : World) :
    Calls Tryz.prog 44 #[.agg #[.int .i64 k, .int .i64 v, .int .i64 l, .int .i64 r, .int .i64 o, .bool g, .int .i64 lt, .int .i64 rt], .int .i64 s] w fun e w' => e = .returned (.int .i64 (XA s l r)) ∧ Below w.heap.size w w' := by
  by_cases h0 : s = 0
  · subst h0
    go_enter Tryz.func44, Tryz.ntmps44
    go_wp2
    go_ret
    exact ⟨rfl, bC⟩
  · by_cases h1 : s = 1
    · subst h1
      go_enter Tryz.func44, Tryz.ntmps44
      go_wp2
      go_ret
      exact ⟨rfl, bC⟩
    · have hv : XA s l r = 0 := by simp [XA, h0, h1]
      have g0 : (s == 0) = false := by simpa using h0
      have g1 : (s == 1) = false := by simpa using h1
      rw [hv]
      clear hv h0 h1
      go_enter Tryz.func44, Tryz.ntmps44
      go_wp2
      go_ret
      exact ⟨rfl, bC⟩
set_option maxHeartbeats 1000000 in
theorem EK (k v l r o : Int) (g : Bool) (lt rt : Int) (s : Int) (w : World) :
    Calls Tryz.prog 45 #[.agg #[.int .i64 k, .int .i64 v, .int .i64 l, .int .i64 r, .int .i64 o, .bool g, .int .i64 lt, .int .i64 rt], .int .i64 s] w fun e w' => e = .returned (.int .i64 (VA s k)) ∧ Below w.heap.size w w' := by
  by_cases h0 : s < k
  · have hv : VA s k = 0 := by simp [VA, h0]
    rw [hv]
    clear hv
    go_enter Tryz.func45, Tryz.ntmps45
    go_wp2
    go_ret
    exact ⟨rfl, bC⟩
  · have hv : VA s k = 1 := by simp [VA, h0]
    rw [hv]
    clear hv
    go_enter Tryz.func45, Tryz.ntmps45
    go_wp2
    go_ret
    exact ⟨rfl, bC⟩
set_option maxHeartbeats 1000000 in
theorem lE (k v l r o : Int) (g : Bool) (lt rt : Int) (s : Int) (kid : Int) (w : World) :
    Calls Tryz.prog 66 #[.agg #[.int .i64 k, .int .i64 v, .int .i64 l, .int .i64 r, .int .i64 o, .bool g, .int .i64 lt, .int .i64 rt], .int .i64 s, .int .i64 kid] w fun e w' => e = .returned (.agg #[.int .i64 k, .int .i64 v, .int .i64 (DB s kid l), .int .i64 (cB s kid r), .int .i64 o, .bool g, .int .i64 lt, .int .i64 rt]) ∧ Below w.heap.size w w' := by
  by_cases h0 : s = 0
  · subst h0
    go_enter Tryz.func66, Tryz.ntmps66
    go_wp2
    exact bodyPost_ret (v := .agg #[.int .i64 k, .int .i64 v, .int .i64 (DB 0 kid l), .int .i64 (cB 0 kid r), .int .i64 o, .bool g, .int .i64 lt, .int .i64 rt]) (by simp [results, Tryz.results66, go_sem, DB, cB]) rfl ⟨rfl, bC⟩
  · by_cases h1 : s = 1
    · subst h1
      go_enter Tryz.func66, Tryz.ntmps66
      go_wp2
      exact bodyPost_ret (v := .agg #[.int .i64 k, .int .i64 v, .int .i64 (DB 1 kid l), .int .i64 (cB 1 kid r), .int .i64 o, .bool g, .int .i64 lt, .int .i64 rt]) (by simp [results, Tryz.results66, go_sem, DB, cB]) rfl ⟨rfl, bC⟩
    · have hl : DB s kid l = l := by simp [DB, h0]
      have hr : cB s kid r = r := by simp [cB, h1]
      have g0 : (s == 0) = false := by simpa using h0
      have g1 : (s == 1) = false := by simpa using h1
      rw [hl, hr]
      clear hl hr h0 h1
      go_enter Tryz.func66, Tryz.ntmps66
      go_wp2
      exact bodyPost_ret (v := .agg #[.int .i64 k, .int .i64 v, .int .i64 l, .int .i64 r, .int .i64 o, .bool g, .int .i64 lt, .int .i64 rt]) (by simp [results, Tryz.results66, go_sem]) rfl ⟨rfl, bC⟩
set_option maxHeartbeats 1000000 in
theorem ZE (k v l r o : Int) (g : Bool) (lt rt : Int) (s : Int) (w : World) :
    Calls Tryz.prog 76 #[.agg #[.int .i64 k, .int .i64 v, .int .i64 l, .int .i64 r, .int .i64 o, .bool g, .int .i64 lt, .int .i64 rt], .int .i64 s] w fun e w' => e = .returned (.agg #[.int .i64 k, .int .i64 v, .int .i64 l, .int .i64 r, .int .i64 o, .bool g, .int .i64 (DB s (wrap64 (lt + 1)) lt), .int .i64 (cB s (wrap64 (rt + 1)) rt)]) ∧ Below w.heap.size w w' := by
  by_cases h0 : s = 0
  · subst h0
    go_enter Tryz.func76, Tryz.ntmps76
    go_wp2
    exact bodyPost_ret (v := .agg #[.int .i64 k, .int .i64 v, .int .i64 l, .int .i64 r, .int .i64 o, .bool g, .int .i64 (DB 0 (wrap64 (lt + 1)) lt), .int .i64 (cB 0 (wrap64 (rt + 1)) rt)]) (by simp [results, Tryz.results76, go_sem, DB, cB]) rfl ⟨rfl, bC⟩
  · by_cases h1 : s = 1
    · subst h1
      go_enter Tryz.func76, Tryz.ntmps76
      go_wp2
      exact bodyPost_ret (v := .agg #[.int .i64 k, .int .i64 v, .int .i64 l, .int .i64 r, .int .i64 o, .bool g, .int .i64 (DB 1 (wrap64 (lt + 1)) lt), .int .i64 (cB 1 (wrap64 (rt + 1)) rt)]) (by simp [results, Tryz.results76, go_sem, DB, cB]) rfl ⟨rfl, bC⟩
    · have hl : DB s (wrap64 (lt + 1)) lt = lt := by simp [DB, h0]
      have hr : cB s (wrap64 (rt + 1)) rt = rt := by simp [cB, h1]
      have g0 : (s == 0) = false := by simpa using h0
      have g1 : (s == 1) = false := by simpa using h1
      rw [hl, hr]
      clear hl hr h0 h1
      go_enter Tryz.func76, Tryz.ntmps76
      go_wp2
      exact bodyPost_ret (v := .agg #[.int .i64 k, .int .i64 v, .int .i64 l, .int .i64 r, .int .i64 o, .bool g, .int .i64 lt, .int .i64 rt]) (by simp [results, Tryz.results76, go_sem]) rfl ⟨rfl, bC⟩
theorem yG {α β : Type} (f : α → List β) (sz : Nat) (hf : ∀ a, (f a).length = sz) : ∀ (l : List α) (k j : Nat) (a : α), l[k]? = some a → j < sz → (l.flatMap f)[k * sz + j]? = (f a)[j]?
  | [], k, j, a, h, _ => by simp at h
  | x :: r, 0, j, a, h, hj => by
    simp at h
    subst h
    simp only [List.flatMap_cons, Nat.zero_mul, Nat.zero_add]
    rw [List.getElem?_append_left (by rw [hf]; exact hj)]
  | x :: r, k + 1, j, a, h, hj => by
    simp only [List.getElem?_cons_succ] at h
    have e : (k + 1) * sz + j = (f x).length + (k * sz + j) := by rw [hf, Nat.succ_mul]; omega
    rw [List.flatMap_cons, e, List.getElem?_append_right (by omega), Nat.add_sub_cancel_left]
    exact yG f sz hf r k j a h hj
theorem FF {α β : Type} (f : α → List β) (sz : Nat) (hf : ∀ a, (f a).length = sz) (l : List α) : (l.flatMap f).length = l.length * sz := by
  induction l with
  | nil => simp
  | cons x r ih => simp only [List.flatMap_cons, List.length_append, ih, hf, List.length_cons, Nat.succ_mul]; omega
def Sl (w : World) (v : Value) (sz n : Nat) (cs : List Value) : Prop :=
  ∃ (a : Option Addr) (cap : Nat), v = .slice a n cap ∧ n ≤ cap ∧ cap ≤ maxLen ∧ cs.length = n * sz ∧ (n = 0 ∨ ∃ b off, a = some ⟨b, off, none⟩ ∧ ∀ i, i < cs.length → w.cell? ⟨b, off + i, none⟩ = cs[i]?)
theorem Sl.below {w w' : World} {v : Value} {sz n : Nat} {cs : List Value} (hsz : 0 < sz) (h : Sl w v sz n cs) (hb : Below w.heap.size w w') : Sl w' v sz n cs := by
  obtain ⟨a, cap, rfl, h1, h2, h3, h4⟩ := h
  refine ⟨a, cap, rfl, h1, h2, h3, ?_⟩
  rcases h4 with h4 | ⟨b, off, rfl, hc⟩
  · exact .inl h4
  · refine .inr ⟨b, off, rfl, fun i hi => ?_⟩
    have h5 := hc i hi
    rw [List.getElem?_eq_getElem hi] at h5
    have hlt : b < w.heap.size := World.block_lt_of_cell? w ⟨b, off + i, none⟩ h5
    rw [hb.cell (p := ⟨b, off + i, none⟩) hlt]
    exact hc i hi
def Blk (w : World) (g : Nat) (e : TypeId) (cs : List Value) : Prop := w.heap[g]? = some (.cells cs.toArray e (0, 0))
theorem Blk.cell {w : World} {g : Nat} {e : TypeId} {cs : List Value} (h : Blk w g e cs) (i : Nat) : w.cell? ⟨g, i, none⟩ = cs[i]? := by
  rw [Joins.cell_of_block h]; simp
theorem Blk.free {w : World} {g : Nat} {e : TypeId} {cs : List Value} (h : Blk w g e cs) (i : Nat) : w.frozen? ⟨g, i, none⟩ = false := Joins.unfrozen_of_block h i
theorem Blk.lt {w : World} {g : Nat} {e : TypeId} {cs : List Value} (h : Blk w g e cs) : g < w.heap.size := (Array.getElem?_eq_some_iff.1 h).1
theorem Blk.below {w w' : World} {g B : Nat} {e : TypeId} {cs : List Value} (h : Blk w g e cs) (hb : Below B w w') (hg : g < B) : Blk w' g e cs := (hb.block g hg).trans h
theorem Blk.set {w : World} {g : Nat} {e : TypeId} {cs : List Value} (h : Blk w g e cs) (i : Nat) (v : Value) : Blk (w.setCell ⟨g, i, none⟩ v) g e (cs.set i v) := by
  unfold Blk
  rw [Joins.block_setCell h]
  simp
structure But (g : Nat) (w w' : World) : Prop where
  os : w'.os = w.os
  tape : w'.tape = w.tape
  output : w'.output = w.output
  size : w.heap.size ≤ w'.heap.size
  block : ∀ k, k < w.heap.size → k ≠ g → w'.heap[k]? = w.heap[k]?
theorem But.refl (g : Nat) (w : World) : But g w w := ⟨rfl, rfl, rfl, Nat.le_refl _, fun _ _ _ => rfl⟩
theorem But.trans {g : Nat} {a b c : World} (h : But g a b) (k : But g b c) : But g a c :=
  ⟨k.os.trans h.os, k.tape.trans h.tape, k.output.trans h.output, Nat.le_trans h.size k.size, fun i hi hg => (k.block i (Nat.lt_of_lt_of_le hi h.size) hg).trans (h.block i hi hg)⟩
theorem But.set (g i : Nat) (w : World) (v : Value) : But g w (w.setCell ⟨g, i, none⟩ v) :=
  have h := (Below.refl g w).setCell (p := ⟨g, i, none⟩) (Nat.le_refl _) v
  ⟨h.os, h.tape, h.output, h.size, fun k _ hk => Below.heap_setCell w ⟨g, i, none⟩ v k hk⟩
theorem But.of_below {g : Nat} {w w' : World} (h : Below w.heap.size w w') : But g w w' := ⟨h.os, h.tape, h.output, h.size, fun k hk _ => h.block k hk⟩
theorem But.below {g B : Nat} {w w' : World} (h : But g w w') (hB : B ≤ g) (hs : B ≤ w.heap.size) : Below B w w' := ⟨h.os, h.tape, h.output, h.size, fun k hk => h.block k (by omega) (by omega)⟩
theorem But.blk {g k : Nat} {w w' : World} {e : TypeId} {cs : List Value} (h : But g w w') (hb : Blk w k e cs) (hk : k ≠ g) : Blk w' k e cs := (h.block k hb.lt hk).trans hb
theorem But.sl {g : Nat} {w w' : World} {v : Value} {sz n : Nat} {cs : List Value} (h : But g w w') (hs : Sl w v sz n cs) (hv : v.ownBlock ≠ some g) : Sl w' v sz n cs := by
  obtain ⟨a, cap, rfl, h1, h2, h3, h4⟩ := hs
  refine ⟨a, cap, rfl, h1, h2, h3, ?_⟩
  rcases h4 with h4 | ⟨b, off, rfl, hc⟩
  · exact .inl h4
  · refine .inr ⟨b, off, rfl, fun i hi => ?_⟩
    have h5 := hc i hi
    rw [List.getElem?_eq_getElem hi] at h5
    have hlt : b < w.heap.size := World.block_lt_of_cell? w ⟨b, off + i, none⟩ h5
    have hne : b ≠ g := fun e => hv (by rw [e]; rfl)
    rw [World.cell?_of_block (h.block b hlt hne)]
    exact hc i hi
def Own (w : World) (v : Value) (g : Nat) (e : TypeId) (sz n : Nat) (cs : List Value) : Prop :=
  ∃ (cap : Nat) (sp : List Value), v = .slice (some ⟨g, 0, none⟩) n cap ∧ n ≤ cap ∧ cap ≤ maxLen ∧ (cs.length = n * sz ∧ (cs ++ sp).length = cap * sz) ∧ Blk w g e (cs ++ sp)
def Own0 (w : World) (v : Value) (g : Nat) (e : TypeId) (sz n : Nat) (cs : List Value) : Prop :=
  ∃ (cap : Nat) (sp : List Value), v = .slice (some ⟨g, 0, none⟩) n cap ∧ n ≤ cap ∧ cap ≤ maxLen ∧ cs.length = n * sz ∧ Blk w g e (cs ++ sp)
theorem Own0.sl {w : World} {v : Value} {g : Nat} {e : TypeId} {sz n : Nat} {cs : List Value} (h : Own0 w v g e sz n cs) : Sl w v sz n cs := by
  obtain ⟨cap, sp, rfl, h1, h2, h3, h4⟩ := h
  refine ⟨_, cap, rfl, h1, h2, h3, .inr ⟨g, 0, rfl, fun i hi => ?_⟩⟩
  rw [Nat.zero_add, h4.cell, List.getElem?_append_left hi]
theorem Own.sl {w : World} {v : Value} {g : Nat} {e : TypeId} {sz n : Nat} {cs : List Value} (h : Own w v g e sz n cs) : Sl w v sz n cs := by
  obtain ⟨cap, sp, rfl, h1, h2, h3, h4⟩ := h
  refine ⟨_, cap, rfl, h1, h2, h3.1, .inr ⟨g, 0, rfl, fun i hi => ?_⟩⟩
  rw [Nat.zero_add, h4.cell, List.getElem?_append_left hi]
theorem Own.own0 {w : World} {v : Value} {g : Nat} {e : TypeId} {sz n : Nat} {cs : List Value} (h : Own w v g e sz n cs) : Own0 w v g e sz n cs := by
  obtain ⟨cap, sp, hv, h1, h2, h3, h4⟩ := h
  exact ⟨cap, sp, hv, h1, h2, h3.1, h4⟩
theorem Own.below {w w' : World} {v : Value} {g B : Nat} {e : TypeId} {sz n : Nat} {cs : List Value} (h : Own w v g e sz n cs) (hb : Below B w w') (hg : g < B) : Own w' v g e sz n cs := by
  obtain ⟨cap, sp, rfl, h1, h2, h3, h4⟩ := h
  exact ⟨cap, sp, rfl, h1, h2, h3, h4.below hb hg⟩
theorem Own.but {w w' : World} {v : Value} {g k : Nat} {e : TypeId} {sz n : Nat} {cs : List Value} (h : Own w v g e sz n cs) (hb : But k w w') (hg : g ≠ k) : Own w' v g e sz n cs := by
  obtain ⟨cap, sp, rfl, h1, h2, h3, h4⟩ := h
  exact ⟨cap, sp, rfl, h1, h2, h3, hb.blk h4 hg⟩
theorem Own.lt {w : World} {v : Value} {g : Nat} {e : TypeId} {sz n : Nat} {cs : List Value} (h : Own w v g e sz n cs) : g < w.heap.size := by
  obtain ⟨cap, sp, rfl, h1, h2, h3, h4⟩ := h
  exact h4.lt
structure ND where
  k : Int
  v : Int
  l : Int
  r : Int
  o : Int
  g : Bool
  lt : Int
  rt : Int
def ND.cells (n : ND) : List Value := [.int .i64 n.k, .int .i64 n.v, .int .i64 n.l, .int .i64 n.r, .int .i64 n.o, .bool n.g, .int .i64 n.lt, .int .i64 n.rt]
def cellsOf (l : List ND) : List Value := l.flatMap ND.cells
theorem ND.cells_len (n : ND) : n.cells.length = 8 := rfl
theorem iA (l : List ND) : (cellsOf l).length = l.length * 8 := FF _ 8 ND.cells_len l
theorem kH {l : List ND} {k : Nat} {n : ND} (h : l[k]? = some n) (j : Nat) (hj : j < 8) : (cellsOf l)[k * 8 + j]? = n.cells[j]? := yG _ 8 ND.cells_len l k j n h hj
def NSl (w : World) (v : Value) (l : List ND) : Prop := Sl w v 8 l.length (cellsOf l)
theorem NSl.below {w w' : World} {v : Value} {l : List ND} (h : NSl w v l) (hb : Below w.heap.size w w') : NSl w' v l := Sl.below (by omega) h hb
def At8 (w : World) (b o : Nat) (n : ND) : Prop :=
  w.cell? ⟨b, o, none⟩ = some (.int .i64 n.k) ∧ w.cell? ⟨b, o + 1, none⟩ = some (.int .i64 n.v) ∧ w.cell? ⟨b, o + 2, none⟩ = some (.int .i64 n.l) ∧ w.cell? ⟨b, o + 3, none⟩ = some (.int .i64 n.r) ∧
  w.cell? ⟨b, o + 4, none⟩ = some (.int .i64 n.o) ∧ w.cell? ⟨b, o + 5, none⟩ = some (.bool n.g) ∧ w.cell? ⟨b, o + 6, none⟩ = some (.int .i64 n.lt) ∧ w.cell? ⟨b, o + 7, none⟩ = some (.int .i64 n.rt)
theorem At8.below {w w' : World} {b o B : Nat} {n : ND} (h : At8 w b o n) (hb : Below B w w') (hB : b < B) : At8 w' b o n := by
  have e : ∀ p, w'.cell? ⟨b, p, none⟩ = w.cell? ⟨b, p, none⟩ := fun p => hb.cell (p := ⟨b, p, none⟩) hB
  simpa only [At8, e] using h
theorem NSl.at {w : World} {v : Value} {l : List ND} (h : NSl w v l) (hn : l ≠ []) : ∃ b off cap, v = .slice (some ⟨b, off, none⟩) l.length cap ∧ l.length ≤ cap ∧ cap ≤ maxLen ∧ b < w.heap.size ∧ ∀ k n, l[k]? = some n → At8 w b (off + k * 8) n := by
  obtain ⟨a, cap, rfl, h1, h2, h3, h4⟩ := h
  have hlen : 0 < l.length := List.length_pos_iff.2 hn
  rcases h4 with h4 | ⟨b, off, rfl, hc⟩
  · omega
  · have key : ∀ k n, l[k]? = some n → ∀ j, j < 8 → w.cell? ⟨b, off + k * 8 + j, none⟩ = n.cells[j]? := fun k n hk j hj => by
      have hkl : k < l.length := (List.getElem?_eq_some_iff.1 hk).1
      have := hc (k * 8 + j) (by rw [iA]; omega)
      rw [← Nat.add_assoc] at this
      rw [this, kH hk j hj]
    refine ⟨b, off, cap, rfl, h1, h2, ?_, fun k n hk => ?_⟩
    · have h0 := key 0 _ (List.getElem?_eq_getElem hlen) 0 (by omega)
      exact World.block_lt_of_cell? w ⟨b, _, none⟩ h0
    · have q := key k n hk
      exact ⟨q 0 (by omega), q 1 (by omega), q 2 (by omega), q 3 (by omega), q 4 (by omega), q 5 (by omega), q 6 (by omega), q 7 (by omega)⟩
theorem NSl.nil {w : World} {v : Value} (h : NSl w v []) : ∃ a cap, v = .slice a 0 cap := by
  obtain ⟨a, cap, rfl, _⟩ := h
  exact ⟨a, cap, rfl⟩
end Go.Proofs.YtfjafncipjdnfaaGreat
