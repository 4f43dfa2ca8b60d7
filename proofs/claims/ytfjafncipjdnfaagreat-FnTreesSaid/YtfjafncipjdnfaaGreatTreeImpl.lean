import Derived.Test.YtfjafncipjdnfaaGreatTree
import Derived.Test.YtfjafncipjdnfaaGreatNodesImpl
import Derived.RangeFuncNested
import Derived.RangeFuncBound
import Derived.RangeFuncLeaves
import Derived.Shelf.Abstract
import Derived.OwnWalkIn
import Derived.TacticsInMore
import Derived.LoopNIn
import Derived.LoopIn
import Derived.Deep.WholeRow
import Derived.OrdersIn
import Derived.OrdersHeld
import Derived.RangeFuncCalls
import Derived.RangeFuncBox
namespace Go.Proofs.YtfjafncipjdnfaaGreat
open Go.ChangeShapes Go.WideShapes Go.ChangeAt Go.RowKit Go.Shelf
attribute [local go_sem] Oper.semAt_some
set_option linter.unusedVariables false
set_option linter.unusedSimpArgs false
structure Sep (n₀ : Nat) (S : Nat → Prop) (W W' : World) : Prop where
  below : Below n₀ W W'
  same : ∀ k, k < W.heap.size → S k → W'.heap[k]? = W.heap[k]?
structure Mine (n₀ : Nat) (S S' : Nat → Prop) (W W' : World) : Prop where
  below : Below n₀ W W'
  same : ∀ k, k < W.heap.size → ¬ S k → W'.heap[k]? = W.heap[k]?
  new : ∀ k, k < W.heap.size → S' k → S k
theorem Mine.trans {n₀ : Nat} {S S' S'' : Nat → Prop} {A B C : World} (h : Mine n₀ S S' A B) (k : Mine n₀ S' S'' B C) : Mine n₀ S S'' A C :=
  ⟨h.below.trans k.below, fun i hi hs => (k.same i (Nat.lt_of_lt_of_le hi h.below.size) (fun e => hs (h.new i hi e))).trans (h.same i hi hs), fun i hi hs => h.new i hi (k.new i (Nat.lt_of_lt_of_le hi h.below.size) hs)⟩
theorem Mine.refl (n₀ : Nat) (S : Nat → Prop) (W : World) : Mine n₀ S S W W := ⟨Below.refl _ _, fun _ _ _ => rfl, fun _ _ h => h⟩
theorem Sep.setCell {n₀ : Nat} {S : Nat → Prop} {W : World} {g i : Nat} (h0 : n₀ ≤ g) (hg : ¬ S g) (v : Value) : Sep n₀ S W (W.setCell ⟨g, i, none⟩ v) :=
  ⟨(Below.refl _ _).setCell (p := ⟨g, i, none⟩) h0 v, fun k hk hs => Below.heap_setCell W ⟨g, i, none⟩ v k (fun e => hg (by have : k = g := e; rwa [← this]))⟩
theorem Sep.alloc {n₀ : Nat} {S : Nat → Prop} {W : World} (h0 : n₀ ≤ W.heap.size) (o : Obj) : Sep n₀ S W (W.alloc o) :=
  ⟨(Below.refl _ _).alloc h0 o, fun k hk _ => Below.heap_alloc W o k hk⟩
theorem Sep.trans {n₀ : Nat} {S : Nat → Prop} {A B C : World} (h : Sep n₀ S A B) (k : Sep n₀ S B C) : Sep n₀ S A C :=
  ⟨h.below.trans k.below, fun i hi hs => (k.same i (Nat.lt_of_lt_of_le hi h.below.size) hs).trans (h.same i hi hs)⟩
def NAt (n₀ : Nat) (W : World) (b off : Nat) (ns : List ND) : Prop := b < n₀ ∧ ∀ k n, ns[k]? = some n → At8 W b (off + k * 8) n
theorem NAt.below {n₀ : Nat} {W W' : World} {b off : Nat} {ns : List ND} (h : NAt n₀ W b off ns) (hb : Below n₀ W W') : NAt n₀ W' b off ns := ⟨h.1, fun k n hk => (h.2 k n hk).below hb h.1⟩
def IF (c : List Nat) : List Value := (List.range 30).map fun i => .bool (decide (i ∈ c))
def iE (v : Value) (c : List Nat) (l : Nat) : List Value := v :: (IF c ++ [.func (.yield l) #[] #[]])
theorem RF (c : List Nat) : (IF c).length = 30 := by simp [IF]
theorem xH {v : Value} {c : List Nat} {l p : Nat} (hp : p < 30) : (iE v c l)[1 + p]? = some (.bool (decide (p ∈ c))) := by
  rw [Nat.add_comm]
  simp only [iE, List.getElem?_cons_succ]
  rw [List.getElem?_append_left (by rw [RF]; exact hp)]
  simp [IF, hp]
theorem wH {v : Value} {c : List Nat} {l : Nat} : (iE v c l)[31]? = some (.func (.yield l) #[] #[]) := by
  simp only [iE, List.getElem?_cons_succ]
  rw [List.getElem?_append_right (by rw [RF]; omega), RF]
  rfl
theorem NM {c : List Nat} {p : Nat} : (IF c).set p (.bool true) = IF (p :: c) := by
  apply List.ext_getElem?
  intro i
  rw [List.getElem?_set]
  by_cases h : p = i
  · subst h
    by_cases hp : p < 30
    · simp [IF, hp]
    · simp [IF, hp]
  · simp only [h, if_false]
    by_cases hi : i < 30
    · simp [IF, hi, Ne.symm h]
    · simp [IF, hi]
theorem mM {v : Value} {c : List Nat} {l p : Nat} (hp : p < 30) : (iE v c l).set (1 + p) (.bool true) = iE v (p :: c) l := by
  rw [Nat.add_comm]
  simp only [iE, List.set_cons_succ]
  rw [List.set_append_left _ _ (by rw [RF]; exact hp), NM]
theorem fI {m m' : Nat} {P : Program} {l : Nat} {args : Array Value} {W : World} {R : Ending → World → Prop} (h : YieldAt Fence.wide m P l args W R) : YieldAt Fence.wide m' P l args W R := by
  obtain ⟨fn, tmps, assign, body, hy, hR⟩ := h
  exact ⟨fn, tmps, assign, body, hy, hR.1, fun c cs _ => hR.2 c cs (room_wide _)⟩
abbrev LK (x : Nat × Nat) : Array Value := #[iJ x.1, iJ x.2]
def KL (l n₀ many N : Nat) (J : List (Nat × Nat) → (Nat → Prop) → World → Prop) (Jx : List (Nat × Nat) → World → Prop) : Prop :=
  ∀ pre S x W, J pre S W → x.1 < many → x.2 ≤ 100 → pre.length < N → YieldAt Fence.wide 0 Tryz.prog l (LK x) W fun e W' =>
    (e = .returned (.bool true) ∧ ∃ S', J (pre ++ [x]) S' W' ∧ Mine n₀ S S' W W') ∨ (e = .returned (.bool false) ∧ Jx (pre ++ [x]) W')
def ON (n₀ : Nat) (J : List (Nat × Nat) → (Nat → Prop) → World → Prop) : Prop := (∀ pre S W W', J pre S W → Sep n₀ S W W' → J pre S W') ∧ (∀ pre S W, J pre S W → n₀ ≤ W.heap.size ∧ ∀ k, S k → k < W.heap.size)
def JN (g n₀ l : Nat) (v : Value) (J : List (Nat × Nat) → (Nat → Prop) → World → Prop) (Jx : List (Nat × Nat) → World → Prop) (pre gs : List (Nat × Nat)) (c' : List Nat) (S : Nat → Prop) (W : World) (e : Ending) (W' : World) : Prop :=
  (e = .returned (.bool true) ∧ ∃ S', J (pre ++ gs) S' W' ∧ Blk W' g 110 (iE v c' l) ∧ Below n₀ W W' ∧ (∀ k, k < W.heap.size → k ≠ g → ¬ S k → W'.heap[k]? = W.heap[k]?) ∧ (∀ k, k < W.heap.size → S' k → S k)) ∨
  (e = .returned (.bool false) ∧ ∃ q, q <+: gs ∧ Jx (pre ++ q) W')
set_option maxRecDepth 100000 in
set_option maxHeartbeats 4000000 in
theorem qO (l g n₀ b off cap N : Nat) (ns : List ND) (hL : KE ns) (J : List (Nat × Nat) → (Nat → Prop) → World → Prop) (Jx : List (Nat × Nat) → World → Prop)
    (hJ : ON n₀ J) (hY : KL l n₀ ns.length N J Jx) (hg0 : n₀ ≤ g) {c : List Nat} {p d : Nat} {c' : List Nat} {gs : List (Nat × Nat)} (w : Wk ns c p d c' gs) :
    ∀ (n : Nat) (pre : List (Nat × Nat)) (S : Nat → Prop) (W : World), p < ns.length → pre.length + gs.length ≤ N → d + left ns c ≤ 100 → NAt n₀ W b off ns → ¬ S g → Blk W g 110 (iE (.slice (some ⟨b, off, none⟩) ns.length cap) c l) → J pre S W →
      CallsIn Fence.wide n Tryz.prog 82 #[.pointer (some ⟨g, 0, none⟩), iJ (p : Int), iJ (d : Int)] W (JN g n₀ l (.slice (some ⟨b, off, none⟩) ns.length cap) J Jx pre gs c' S W) := by
  have hdd : ∀ k : Nat, (Fence.wide.depth.isSome = true → 1 ≤ k) := fun k h => by cases h
  induction w with
  | zero c d =>
    intro n pre S W hp hNN hd hN hS hB hj
    refine callsIn_of_wp Tryz.func82 rfl trivial ?_ rfl
    simp only [Tryz.ntmps82, List.size_toArray, List.length_cons, List.length_nil, Nat.reduceAdd, Nat.reduceSub, Array.replicate_succ, Array.replicate_zero, List.push_toArray, List.append_toArray, List.nil_append, List.cons_append]
    gi_wp2
    go_ret
    exact .inl ⟨rfl, S, by simpa using hj, hB, Below.refl _ _, fun _ _ _ _ => rfl, fun _ _ h => h⟩
  | seen c p d h0 hc =>
    intro n pre S W hp hNN hd hN hS hB hj
    have hl30 := hL.1
    have a1 : W.cell? ⟨g, 1 + p, none⟩ = some (.bool true) := by rw [hB.cell, xH (by omega)]; simp [hc]
    have a2 : W.cell? ⟨g, 31, none⟩ = some (.func (.yield l) #[] #[]) := by rw [hB.cell, wH]
    have t0 : ((p : Int) == 0) = false := by simpa using h0
    have i0 : (0 : Int) ≤ (p : Int) := by omega
    have i1 : (p : Int) < 30 := by omega
    obtain ⟨fn, tmps, assign, body, hy, hR⟩ := fI (m' := n - 1) (hY pre S (p, d) W hj hp (by omega) (by simp at hNN; omega))
    dsimp only [LK] at hy
    have HB := Lib.hid hB
    have HN := Lib.hid hN
    clear hB hN hY
    refine callsIn_of_wp Tryz.func82 rfl trivial ?_ rfl
    simp only [Tryz.ntmps82, List.size_toArray, List.length_cons, List.length_nil, Nat.reduceAdd, Nat.reduceSub, Array.replicate_succ, Array.replicate_zero, List.push_toArray, List.append_toArray, List.nil_append, List.cons_append]
    gi_wp2
    refine ⟨hdd _, ?_⟩
    refine hR.mono ?_
    rintro e W' (⟨rfl, S', hJ', hM⟩ | ⟨rfl, hx⟩)
    · gi_wp2
      go_ret
      exact .inl ⟨rfl, S', hJ', (hM.same g HB.out.lt hS).trans HB.out, hM.below, fun k h1 _ h2 => hM.same k h1 h2, hM.new⟩
    · gi_wp2
      go_ret
      exact .inr ⟨rfl, [(p, d)], List.prefix_refl _, hx⟩
  | node c p d m a b' c1 c2 g1 g2 h0 hc hn ha hb w1 w2 ih1 ih2 =>
    intro n pre S W hp hNN hd hN hS hB hj
    have hl30 := hL.1
    simp only [List.length_append, List.length_cons] at hNN
    have a1 : W.cell? ⟨g, 1 + p, none⟩ = some (.bool false) := by rw [hB.cell, xH (by omega)]; simp [hc]
    have a2 : W.frozen? ⟨g, 1 + p, none⟩ = false := hB.free _
    have a3 : W.cell? ⟨g, 0, none⟩ = some (.slice (some ⟨b, off, none⟩) ns.length cap) := by rw [hB.cell]; rfl
    have t0 : ((p : Int) == 0) = false := by simpa using h0
    have i0 : (0 : Int) ≤ (p : Int) := by omega
    have i1 : (p : Int) < 30 := by omega
    have i2 : (p : Int) < (ns.length : Int) := by omega
    have A1 := hN.2 p m hn
    have hbg : b ≠ g := by have := hN.1; omega
    have HB := Lib.hid hB
    have HN := Lib.hid hN
    have hglt := hB.lt
    simp only [At8] at A1
    clear hB hN
    refine callsIn_of_wp Tryz.func82 rfl trivial ?_ rfl
    simp only [Tryz.ntmps82, List.size_toArray, List.length_cons, List.length_nil, Nat.reduceAdd, Nat.reduceSub, Array.replicate_succ, Array.replicate_zero, List.push_toArray, List.append_toArray, List.nil_append, List.cons_append]
    obtain ⟨W3, hW3⟩ : ∃ x, x = (W.setCell ⟨g, 1 + p, none⟩ (.bool true)).alloc (.cells #[iJ m.k, iJ m.v, iJ a, iJ b', iJ m.o, .bool m.g, iJ m.lt, iJ m.rt] 37) := ⟨_, rfl⟩
    have hsz : (W.setCell ⟨g, 1 + p, none⟩ (.bool true)).heap.size = W.heap.size := by simp
    have hbd := hJ.2 _ _ _ hj
    have hsep : Sep n₀ S W W3 := by rw [hW3]; exact (Sep.setCell hg0 hS _).trans (Sep.alloc (by rw [hsz]; exact hbd.1) _)
    have hz3 : W3.heap.size = W.heap.size + 1 := by rw [hW3]; simp
    have hB3 : Blk W3 g 110 (iE (.slice (some ⟨b, off, none⟩) ns.length cap) (p :: c) l) := by
      have h1 := HB.out.set (1 + p) (.bool true)
      rw [mM (by omega)] at h1
      rw [hW3]
      exact h1.below ((Below.refl _ _).alloc (Nat.le_refl _) _) h1.lt
    have hL3 : Blk W3 W.heap.size 37 [iJ m.k, iJ m.v, iJ a, iJ b', iJ m.o, .bool m.g, iJ m.lt, iJ m.rt] := by
      have h1 := World.alloc_heap_new (W.setCell ⟨g, 1 + p, none⟩ (.bool true)) (.cells #[iJ m.k, iJ m.v, iJ a, iJ b', iJ m.o, .bool m.g, iJ m.lt, iJ m.rt] 37)
      rw [← hW3, hsz] at h1
      exact h1
    have hq3 : ¬ S W.heap.size := fun h => by have := hbd.2 _ h; omega
    obtain ⟨a', b'', ha', hb', la, lb⟩ := hL.2.2.1 p m hn
    obtain rfl : a = a' := by omega
    obtain rfl : b' = b'' := by omega
    have hlt := PG hp hc
    have hle := PH (l := ns) w1.sub
    have hj3 := hJ.1 _ _ _ _ hj hsep
    have e1 : ((d + 1 : Nat) : Int) = (d : Int) + 1 := by omega
    have ih1' := ih1 (n - 1) pre S W3 la (by omega) (by omega) (HN.out.below hsep.below) hS hB3 hj3
    rw [e1] at ih1'
    have K := Lib.hid (And.intro hsep (And.intro hB3 (And.intro hL3 (And.intro hW3 hj3))))
    clear hsep hB3 hL3 hbd hsz hj3 ha' hb'
    have D1 : (Lit.int .i64 ((d : Int) + 1)).wf = true := by simp [Lit.wf, IntKind.min, IntKind.max, IntKind.signed, IntKind.bits]; omega
    clear ih1
    gi_wp2_with fail
    rw [← hW3]
    refine ⟨trivial, hdd _, ?_⟩
    refine ih1'.mono ?_
    clear ih1' a1 a2 a3 A1
    rintro e W4 (⟨rfl, S4, hJ4, hB4, hb4, hs4, hn4⟩ | ⟨rfl, q, hq, hx⟩)
    · obtain ⟨hsep, hB3, hL3, hW3', hj3⟩ := K.out
      have hS4 : ¬ S4 g := fun h => hS (hn4 g (by omega) h)
      have hq4 : ¬ S4 W.heap.size := fun h => hq3 (hn4 _ (by omega) h)
      have hL4 : Blk W4 W.heap.size 37 [iJ m.k, iJ m.v, iJ a, iJ b', iJ m.o, .bool m.g, iJ m.lt, iJ m.rt] := (hs4 _ (by omega) (by omega) hq3).trans hL3
      have b1 : W4.cell? ⟨g, 31, none⟩ = some (.func (.yield l) #[] #[]) := by rw [hB4.cell, wH]
      obtain ⟨fn, tmps, assign, body, hy, hR⟩ := fI (m' := n - 1) (hY (pre ++ g1) S4 (p, d) W4 hJ4 hp (by omega) (by rw [List.length_append]; omega))
      dsimp only [LK] at hy
      have K4 := Lib.hid (And.intro hL4 (And.intro hB4 (And.intro hJ4 (And.intro hb4 (And.intro hs4 hn4)))))
      clear hL4 hB4 hJ4 hb4 hs4 hn4 hsep hB3 hL3 hW3' hj3
      gi_wp2_with fail
      refine ⟨hdd _, ?_⟩
      refine hR.mono ?_
      clear hR hy b1
      rintro e W5 (⟨rfl, S5, hJ5, hM5⟩ | ⟨rfl, hx⟩)
      · obtain ⟨hL4, hB4, hJ4, hb4, hs4, hn4⟩ := K4.out
        obtain ⟨hsep, hB3, hL3, hW3', hj3⟩ := K.out
        have hz5 := hb4.size
        have hS5 : ¬ S5 g := fun h => hS4 (hM5.new g hB4.lt h)
        have hq5 : ¬ S5 W.heap.size := fun h => hq4 (hM5.new _ hL4.lt h)
        have hL5 : Blk W5 W.heap.size 37 [iJ m.k, iJ m.v, iJ a, iJ b', iJ m.o, .bool m.g, iJ m.lt, iJ m.rt] := (hM5.same _ hL4.lt hq4).trans hL4
        have hB5 : Blk W5 g 110 (iE (.slice (some ⟨b, off, none⟩) ns.length cap) c1 l) := (hM5.same _ hB4.lt hS4).trans hB4
        have hb5 := (hsep.below.trans hb4).trans hM5.below
        have c3 : W5.cell? ⟨W.heap.size, 3, none⟩ = some (iJ b') := by rw [hL5.cell]; rfl
        have ih2' := ih2 (n - 1) (pre ++ g1 ++ [(p, d)]) S5 W5 lb (by simp only [List.length_append, List.length_singleton]; omega) (by omega) (HN.out.below hb5) hS5 hB5 hJ5
        rw [e1] at ih2'
        have K5 := Lib.hid (And.intro hL5 (And.intro hB5 (And.intro hJ5 (And.intro hb5 hM5))))
        clear hL4 hB4 hJ4 hb4 hs4 hn4 hsep hB3 hL3 hW3' hj3 hL5 hB5 hJ5 hb5 hM5
        clear ih2
        gi_wp2_with fail
        refine ⟨trivial, hdd _, ?_⟩
        refine ih2'.mono ?_
        clear ih2' c3
        rintro e W6 (⟨rfl, S6, hJ6, hB6, hb6, hs6, hn6⟩ | ⟨rfl, q, hq, hx⟩)
        · obtain ⟨hL4, hB4, hJ4, hb4, hs4, hn4⟩ := K4.out
          obtain ⟨hsep, hB3, hL3, hW3', hj3⟩ := K.out
          obtain ⟨hL5, hB5, hJ5, hb5, hM5⟩ := K5.out
          have hz4 := hb4.size
          have hz6 := hM5.below.size
          have R : JN g n₀ l (.slice (some ⟨b, off, none⟩) ns.length cap) J Jx pre (g1 ++ (p, d) :: g2) c2 S W (.returned (.bool true)) W6 := by
            refine .inl ⟨rfl, S6, by simpa [List.append_assoc] using hJ6, hB6, hb5.trans hb6, fun k h1 h2 h3 => ?_, fun k h1 h2 => hn4 k (by omega) (hM5.new k (by omega) (hn6 k (by omega) h2))⟩
            have k4 : ¬ S4 k := fun h => h3 (hn4 k (by omega) h)
            have k5 : ¬ S5 k := fun h => k4 (hM5.new k (by omega) h)
            have k3 : W3.heap[k]? = W.heap[k]? := by
              rw [hW3, Below.heap_alloc _ _ k (by simpa using h1)]
              exact Below.heap_setCell W ⟨g, 1 + p, none⟩ _ k h2
            exact (hs6 k (by omega) h2 k5).trans ((hM5.same k (by omega) k4).trans ((hs4 k (by omega) h2 h3).trans k3))
          clear hL4 hB4 hJ4 hb4 hs4 hn4 hsep hB3 hL3 hW3' hj3 hL5 hB5 hJ5 hb5 hM5 hJ6 hB6 hb6 hs6 hn6
          gi_wp2_with fail
          go_ret
          exact R
        · have R : JN g n₀ l (.slice (some ⟨b, off, none⟩) ns.length cap) J Jx pre (g1 ++ (p, d) :: g2) c2 S W (.returned (.bool false)) W6 := by
            obtain ⟨r, hr⟩ := hq
            exact .inr ⟨rfl, g1 ++ (p, d) :: q, ⟨r, by simp [← hr]⟩, by simpa [List.append_assoc] using hx⟩
          clear hx
          gi_wp2_with fail
          go_ret
          exact R
      · have R : JN g n₀ l (.slice (some ⟨b, off, none⟩) ns.length cap) J Jx pre (g1 ++ (p, d) :: g2) c2 S W (.returned (.bool false)) W5 :=
          .inr ⟨rfl, g1 ++ [(p, d)], ⟨g2, by simp⟩, by simpa [List.append_assoc] using hx⟩
        clear hx
        gi_wp2_with fail
        refine ⟨trivial, ?_⟩
        gi_wp2_with fail
        go_ret
        exact R
    · have R : JN g n₀ l (.slice (some ⟨b, off, none⟩) ns.length cap) J Jx pre (g1 ++ (p, d) :: g2) c2 S W (.returned (.bool false)) W4 :=
        .inr ⟨rfl, q, hq.trans ⟨_, rfl⟩, hx⟩
      clear hx hq K HB HN hW3
      simp only []
      repeat (first | gi_guarded | gi_step)
      refine ⟨fun _ _ => trivial, ?_⟩
      gi_wp2_with fail
      refine ⟨trivial, ?_⟩
      gi_wp2_with fail
      go_ret
      exact R
theorem zE (a : Option Addr) (n c l : Nat) : Tryz.prog.built 110 [(0, .slice a n c), (2, .func (.yield l) #[] #[])] = some (iE (.slice a n c) [] l).toArray := by kernel_rfl
theorem PJ (a : Option Addr) (n c l : Nat) : (Tryz.prog.built 110 [(0, .slice a n c), (2, .func (.yield l) #[] #[])]).isSome = true := by rw [zE]; rfl
theorem GL (a : Option Addr) (n c l : Nat) : (Tryz.prog.info? 110).map (·.size) = some ((Tryz.prog.built 110 [(0, .slice a n c), (2, .func (.yield l) #[] #[])]).getD #[]).size := by rw [zE]; kernel_rfl
theorem QM (a : Option Addr) (n c l : Nat) : (#[sZ, .bool false, .bool false, .bool false, .bool false, .bool false, .bool false, .bool false, .bool false, .bool false, .bool false, .bool false, .bool false, .bool false, .bool false, .bool false, .bool false, .bool false, .bool false, .bool false, .bool false, .bool false, .bool false, .bool false, .bool false, .bool false, .bool false, .bool false, .bool false, .bool false, .bool false, .nilFunc] : Array Value).size = ((Tryz.prog.built 110 [(0, .slice a n c), (2, .func (.yield l) #[] #[])]).getD #[]).size := by rw [zE]; rfl
theorem PM (a : Option Addr) (n c l : Nat) : ((Tryz.prog.built 110 [(0, .slice a n c), (2, .func (.yield l) #[] #[])]).getD #[]).all (·.oneCell') = true := by rw [zE]; simp [iE, IF, List.range_succ, Value.oneCell']
theorem mK (a : Option Addr) (n c l : Nat) (W : World) (z : Array Value) : (W.alloc (.cells z 110)).setRow W.heap.size ((Tryz.prog.built 110 [(0, .slice a n c), (2, .func (.yield l) #[] #[])]).getD #[]) = W.alloc (.cells (iE (.slice a n c) [] l).toArray 110) := by
  rw [World.setRow_alloc_new, zE]; rfl
set_option maxRecDepth 100000 in
set_option maxHeartbeats 4000000 in
theorem jO (l n₀ b off cap bx : Nat) (ns : List ND) (hL : KE ns) (J : List (Nat × Nat) → (Nat → Prop) → World → Prop) (Jx : List (Nat × Nat) → World → Prop)
    (hJ : ON n₀ J)  {rt : Nat} {c' : List Nat} {gs : List (Nat × Nat)} (root : ND) (h0 : ns[0]? = some root) (hr : root.r = (rt : Int)) (w : Wk ns [] rt 1 c' gs) (hY : KL l n₀ ns.length gs.length J Jx)
    (n : Nat) (S : Nat → Prop) (W : World) (hN : NAt n₀ W b off ns) (hx : W.cell? ⟨bx, 0, none⟩ = some (.slice (some ⟨b, off, none⟩) ns.length cap)) (hj : J [] S W) :
      CallsIn Fence.wide n Tryz.prog 81 #[.func (.yield l) #[] #[], .pointer (some ⟨bx, 0, none⟩)] W fun e W' => (∃ v, e = .returned v) ∧ ((∃ S', J gs S' W') ∨ (∃ q, q <+: gs ∧ Jx q W')) := by
  have A1 := hN.2 0 root h0
  rw [Nat.zero_mul, Nat.add_zero] at A1
  have HN := Lib.hid hN
  have i2 : (0 : Int) < (ns.length : Int) := by have := hL.2.1; omega
  obtain ⟨_, rt', _, hr', _, hrt⟩ := hL.2.2.1 0 root h0
  obtain rfl : rt = rt' := by omega
  have hbd := hJ.2 _ _ _ hj
  obtain ⟨W1, hW1⟩ : ∃ x, x = W.alloc (.cells (iE (.slice (some ⟨b, off, none⟩) ns.length cap) [] l).toArray 110) := ⟨_, rfl⟩
  have hsep : Sep n₀ S W W1 := by rw [hW1]; exact Sep.alloc hbd.1 _
  have hB1 : Blk W1 W.heap.size 110 (iE (.slice (some ⟨b, off, none⟩) ns.length cap) [] l) := by rw [hW1]; exact World.alloc_heap_new W _
  have hx1 : W1.cell? ⟨bx, 0, none⟩ = some (.slice (some ⟨b, off, none⟩) ns.length cap) := by
    rw [hW1, ← hx]
    exact ((Below.refl W.heap.size W).alloc (Nat.le_refl _) _).cell (p := ⟨bx, 0, none⟩) (World.block_lt_of_cell? W ⟨bx, 0, none⟩ hx)
  have A2 := A1.below hsep.below HN.out.1
  have dn := callsIn_wide.1 (qO l W.heap.size n₀ b off cap gs.length ns hL J Jx hJ hY hbd.1 w 0 [] S W1 hrt (by simp) (by
    have : left ns [] ≤ ns.length := by unfold left; exact Nat.le_trans (List.length_filter_le _ _) (by simp)
    have := hL.1
    omega) (HN.out.below hsep.below) (fun h => by have := hbd.2 _ h; omega) hB1 (hJ.1 _ _ _ _ hj hsep))
  rw [show ((1 : Nat) : Int) = 1 from rfl] at dn
  simp only [At8, hr] at A1 A2
  have hbi := Lib.hid (PJ (some ⟨b, off, none⟩) ns.length cap l)
  have hsz := Lib.hid (GL (some ⟨b, off, none⟩) ns.length cap l)
  have hol := Lib.hid (QM (some ⟨b, off, none⟩) ns.length cap l)
  have hon := Lib.hid (PM (some ⟨b, off, none⟩) ns.length cap l)
  have hsr := Lib.hid (fun z => (mK (some ⟨b, off, none⟩) ns.length cap l W z).trans hW1.symm)
  clear hN hsep hB1 hW1 hbd hr' hr hj hY hJ HN
  refine callsIn_wide.2 ?_
  go_enter Tryz.func81, Tryz.ntmps81
  go_wp2_with (first | (refine wpList_build rfl 110 _ rfl ?_ ?_; · go_simp; exact hbi.out) | (refine wpList_store_row rfl 110 _ _ rfl W.heap.size _ rfl rfl 110 _ (heap_alloc_last _ _) hsz.out hol.out hon.out ?_; rw [hsr.out]) | (go_at_call 82; refine dn.mono ?_; clear dn; rintro e W2 (⟨rfl, S2, hJ2, hB2, hb2, hs2, hn2⟩ | ⟨rfl, q, hq, hx2⟩)))
  case inl =>
    go_end0
    exact ⟨⟨_, rfl⟩, .inl ⟨S2, by simpa using hJ2⟩⟩
  case inr =>
    go_end0
    exact ⟨⟨_, rfl⟩, .inr ⟨q, hq, by simpa using hx2⟩⟩
set_option maxHeartbeats 1000000 in
theorem GG (a : Option Addr) (n c : Nat) (w : World) : Calls Tryz.prog 40 #[.slice a n c] w fun e w' => e = .returned (.func (.func 81) #[] #[.pointer (some ⟨w.heap.size, 0, none⟩)]) ∧ w' = w.alloc (.cells #[.slice a n c] 24) := by
  go_enter Tryz.func40, Tryz.ntmps40
  go_wp2
  go_ret
  exact ⟨rfl, rfl⟩
theorem Sep.put {n₀ : Nat} {S : Nat → Prop} {W : World} {k : Nat} (o : Obj) (h0 : n₀ ≤ k) (hk : ¬ S k) (hs : n₀ ≤ W.heap.size) : Sep n₀ S W (W.putObj k o) :=
  ⟨(Below.refl _ _).grown (grownBy_putObj' W k o) hs (fun j e => by cases e; exact h0), fun j hj hs => World.putObj_heap_other (fun e => hk (e ▸ hs))⟩
def NN (n₀ : Nat) (I : List (Nat × Nat) → (Nat → Prop) → World → Prop) (Ix : List (Nat × Nat) → World → Prop) (xs : List (Nat × Nat)) (S : Nat → Prop) (W : World) : Exit → Act → World → Prop
  | .normal, _, W' => ∃ S', I xs S' W' ∧ Mine n₀ S S' W W'
  | .ret, _, W' => Ix xs W' ∧ W.heap.size ≤ W'.heap.size ∧ ∀ k, k < W.heap.size → ¬ S k → W'.heap[k]? = W.heap[k]?
  | _, _, _ => False
theorem bG {g : Operand} {ps : Array Tmp} {assign body : Code} {Q : Exit → Act → World → Prop} {a : Act} {w : World} {n bx : Nat}
    (hg : a.eval g = .func (.func 81) #[] #[.pointer (some ⟨bx, 0, none⟩)]) (hps : ps.size = 2)
    (n₀ b off cap : Nat) (ns : List ND) (hL : KE ns) (hN : NAt n₀ w b off ns) (hx : w.cell? ⟨bx, 0, none⟩ = some (.slice (some ⟨b, off, none⟩) ns.length cap))
    (root : ND) (rt : Nat) (c' : List Nat) (gs : List (Nat × Nat)) (hr0 : ns[0]? = some root) (hr : root.r = (rt : Int)) (wk : Wk ns [] rt 1 c' gs)
    (I : List (Nat × Nat) → (Nat → Prop) → World → Prop) (Ix : List (Nat × Nat) → World → Prop)
    (hI : ∀ pre S W W', I pre S W → Sep n₀ S W W' → I pre S W') (hIs : ∀ pre S W, I pre S W → n₀ ≤ W.heap.size ∧ ∀ k, S k → k < W.heap.size)
    (hIx : ∀ q W o, Ix q W → Ix q (W.putObj (w.heap.size + 1) o)) (S₀ : Nat → Prop) (h0 : I [] S₀ w) (a₁ : Nat × Nat → Act)
    (hassign : ∀ (l : Nat) (x : Nat × Nat) (W : World) (K : Act → World → Prop), K (a₁ x) W →
      assign.wpIn (Fence.wide.inRound l) 0 Tryz.prog (Exit.then K (fun _ _ _ => False)) { tmps := (ps.zip (LK x)).foldl (fun t (p, v) => t.setIfInBounds p v) a.tmps, defers := [] } W)
    (hbody : ∀ (l : Nat) (pre : List (Nat × Nat)) (S : Nat → Prop) (x : Nat × Nat) (W : World), I pre S W → x.1 < ns.length → x.2 ≤ 100 → pre.length < gs.length → body.wpIn (Fence.wide.inRound l) 0 Tryz.prog (NN n₀ I Ix (pre ++ [x]) S W) (a₁ x) W)
    (hdone : ∀ (D : Nat) (S : Nat → Prop) (W : World), w.heap.size ≤ D → I gs S W → ¬ S D → W.heap[D]? = some (.deferred (some [])) → Q .normal { a with defers := { target := .collected D, args := #[] } :: a.defers } W)
    (hstop : ∀ (D : Nat) (q : List (Nat × Nat)) (W : World), w.heap.size ≤ D → q <+: gs → Ix q W → W.heap[D]? = some (.deferred (some [])) → Code.ret.wpIn Fence.wide n Tryz.prog Q { a with defers := { target := .collected D, args := #[] } :: a.defers } W) :
    (Code.rangeFunc g ps assign body).wpIn Fence.wide n Tryz.prog Q a w := by
  refine wpIn_rangeFunc ?_
  intro fn hfn
  obtain ⟨rec, hrec⟩ : ∃ rec : LoopState → Option Code → Loop, rec = fun st pe => { state := st, pending := pe, fn, tmps := a.tmps, params := ps, assign, body, defers := w.heap.size } := ⟨_, rfl⟩
  obtain ⟨W1, hW1⟩ : ∃ W1, (w.alloc (.deferred (some []))).alloc (.loop (rec .ready none)) = W1 := ⟨_, rfl⟩
  have hz1 : W1.heap.size = w.heap.size + 2 := by rw [← hW1]; simp
  have hL1 : W1.heap[w.heap.size + 1]? = some (.loop (rec .ready none)) := by
    have := World.alloc_heap_new (w.alloc (.deferred (some []))) (.loop (rec .ready none))
    rw [World.size_alloc, hW1] at this
    exact this
  have hK1 : W1.heap[w.heap.size]? = some (.deferred (some [])) := by
    rw [← hW1]; exact (Below.heap_alloc _ _ _ (by simp)).trans (World.alloc_heap_new w _)
  have hb0 := hIs _ _ _ h0
  have hb1 : Below w.heap.size w W1 := by rw [← hW1]; exact ((Below.refl _ w).alloc (Nat.le_refl _) _).alloc (by simp) _
  have hS1 : Sep n₀ S₀ w W1 := ⟨hb1.mono hb0.1, fun k hk _ => hb1.block k hk⟩
  have hx1 : W1.cell? ⟨bx, 0, none⟩ = some (.slice (some ⟨b, off, none⟩) ns.length cap) := (hb1.cell (p := ⟨bx, 0, none⟩) (World.block_lt_of_cell? w ⟨bx, 0, none⟩ hx)).trans hx
  refine ⟨w.heap.size + 1, [{ target := .collected w.heap.size, args := #[] }], W1, { target := .fn (.func 81) #[.pointer (some ⟨bx, 0, none⟩)], args := #[.func (.yield (w.heap.size + 1)) #[] #[]] }, W1, 81,
    #[.func (.yield (w.heap.size + 1)) #[] #[], .pointer (some ⟨bx, 0, none⟩)], W1, ?_, ?_, fun _ _ => trivial, ?_, fun h => (by cases h), ?_⟩
  · rw [← hW1, hrec]; exact run_enterLoop_outer _ _ _ _ _
  · simp only [resolve, hg]
    simp [go_sem]
  · have := enters_of Tryz.func81 (by kernel_rfl) rfl #[.func (.yield (w.heap.size + 1)) #[] #[], .pointer (some ⟨bx, 0, none⟩)] W1
    simp [invoke, go_sem, this]
  obtain ⟨J, hJd⟩ : ∃ J : List (Nat × Nat) → (Nat → Prop) → World → Prop, J = fun pre T W => ∃ S, (∀ k, T k ↔ S k ∨ k = w.heap.size ∨ k = w.heap.size + 1) ∧ I pre S W ∧ W.heap[w.heap.size + 1]? = some (.loop (rec .ready none)) ∧ W.heap[w.heap.size]? = some (.deferred (some [])) ∧ ¬ S w.heap.size ∧ ¬ S (w.heap.size + 1) := ⟨_, rfl⟩
  obtain ⟨Jx, hJxd⟩ : ∃ Jx : List (Nat × Nat) → World → Prop, Jx = fun q W => Ix q W ∧ W.heap[w.heap.size + 1]? = some (.loop (rec .done (some .ret))) ∧ W.heap[w.heap.size]? = some (.deferred (some [])) := ⟨_, rfl⟩
  have hJ : ON n₀ J := by
    subst hJd
    refine ⟨?_, ?_⟩
    · rintro pre T W W' ⟨S, hT, hi, hl, hk, hs⟩ hsep
      have hl' := (Array.getElem?_eq_some_iff.1 hl).1
      exact ⟨S, hT, hI _ _ _ _ hi ⟨hsep.below, fun k h1 h2 => hsep.same k h1 ((hT k).2 (.inl h2))⟩, (hsep.same _ hl' ((hT _).2 (by simp))).trans hl, (hsep.same _ (by omega) ((hT _).2 (by simp))).trans hk, hs⟩
    · rintro pre T W ⟨S, hT, hi, hl, hk, hs⟩
      have hl' := (Array.getElem?_eq_some_iff.1 hl).1
      refine ⟨(hIs _ _ _ hi).1, fun k h => ?_⟩
      rcases (hT k).1 h with h | h | h
      · exact (hIs _ _ _ hi).2 k h
      · omega
      · omega
  have hY : KL (w.heap.size + 1) n₀ ns.length gs.length J Jx := by
    intro pre T x W hj hx1 hx2 hx3
    rw [hJd] at hj
    obtain ⟨S, hT, hi, hl, hk, hsB, hsL⟩ := hj
    have hlt : w.heap.size + 1 < W.heap.size := (Array.getElem?_eq_some_iff.1 hl).1
    have hn0 := (hIs _ _ _ hi).1
    have hy := run_yield (P := Tryz.prog) (args := LK x) hl (by rw [hrec]; exact hps.symm)
    rw [hrec] at hy
    refine ⟨fn, _, assign, body, hy, roundIn_of_wpIn hfn (hassign _ x W _ ⟨_, run_beginRound hl (by rw [hrec]), ?_⟩)⟩
    obtain ⟨Wb, hWb⟩ : ∃ Wb, W.putObj (w.heap.size + 1) (.loop { rec .ready none with state := .busy }) = Wb := ⟨_, rfl⟩
    have hsb : Sep n₀ S W Wb := by rw [← hWb]; exact Sep.put _ (by omega) hsL hn0
    have hzb : Wb.heap.size = W.heap.size := by rw [← hWb]; simp
    have hlb : Wb.heap[w.heap.size + 1]? = some (.loop { rec .ready none with state := .busy }) := by rw [← hWb]; exact World.putObj_heap_same hlt
    have hkb : Wb.heap[w.heap.size]? = some (.deferred (some [])) := by rw [← hWb]; exact (World.putObj_heap_other (by omega)).trans hk
    have hob : ∀ k, k ≠ w.heap.size + 1 → Wb.heap[k]? = W.heap[k]? := fun k h => by rw [← hWb]; exact World.putObj_heap_other h
    rw [hWb]
    refine wpIn_mono (hbody _ pre S x Wb (hI _ _ _ _ hi hsb) hx1 hx2 hx3) ?_
    rintro e a3 W3 hp
    cases e with
    | normal =>
      obtain ⟨S', hi3, hm⟩ := hp
      have hl3 : W3.heap[w.heap.size + 1]? = some (.loop { rec .ready none with state := .busy }) := (hm.same _ (by omega) hsL).trans hlb
      have hr := run_endRound (P := Tryz.prog) none hl3
      rw [hrec] at hr
      have hsB' : ¬ S' w.heap.size := fun h => hsB (hm.new _ (by omega) h)
      have hsL' : ¬ S' (w.heap.size + 1) := fun h => hsL (hm.new _ (by omega) h)
      have hz3 := hm.below.size
      refine ⟨_, _, hr, .inl ⟨rfl, fun k => S' k ∨ k = w.heap.size ∨ k = w.heap.size + 1, ?_, ?_⟩⟩
      · rw [hJd]
        refine ⟨S', fun k => Iff.rfl, hI _ _ _ _ hi3 (Sep.put _ (by omega) hsL' (hIs _ _ _ hi3).1), ?_, (World.putObj_heap_other (by omega)).trans ((hm.same _ (by omega) hsB).trans hkb), hsB', hsL'⟩
        rw [hrec]
        exact World.putObj_heap_same (by omega)
      · refine ⟨(hsb.below.trans hm.below).trans (Sep.put (S := S') _ (by omega) hsL' (hIs _ _ _ hi3).1).below, fun k h1 h2 => ?_, fun k h1 h2 => ?_⟩
        · have h3 : ¬ S k := fun h => h2 ((hT k).2 (.inl h))
          have h4 : k ≠ w.heap.size + 1 := fun h => h2 ((hT k).2 (.inr (.inr h)))
          exact (World.putObj_heap_other h4).trans ((hm.same k (by omega) h3).trans (hob k h4))
        · rcases h2 with h2 | h2
          · exact (hT k).2 (.inl (hm.new k (by omega) h2))
          · exact (hT k).2 (.inr h2)
    | ret =>
      obtain ⟨hi3, hz3, hs3⟩ := hp
      have hl3 : W3.heap[w.heap.size + 1]? = some (.loop { rec .ready none with state := .busy }) := (hs3 _ (by omega) hsL).trans hlb
      have hr := run_endRound (P := Tryz.prog) (some .ret) hl3
      rw [hrec] at hr
      refine ⟨_, _, hr, .inr ⟨rfl, ?_⟩⟩
      rw [hJxd]
      refine ⟨hIx _ _ _ hi3, ?_, (World.putObj_heap_other (by omega)).trans ((hs3 _ (by omega) hsB).trans hkb)⟩
      rw [hrec]
      exact World.putObj_heap_same (by omega)
    | exit id => exact hp.elim
    | goto t => exact hp.elim
    | panic ch => exact hp.elim
    | outgrown => exact hp.elim
  have hj1 : J [] (fun k => S₀ k ∨ k = w.heap.size ∨ k = w.heap.size + 1) W1 := by
    rw [hJd]
    exact ⟨S₀, fun k => Iff.rfl, hI _ _ _ _ h0 hS1, hL1, hK1, fun h => by have := hb0.2 _ h; omega, fun h => by have := hb0.2 _ h; omega⟩
  refine (jO (w.heap.size + 1) n₀ b off cap bx ns hL J Jx hJ root hr0 hr wk hY (n - 1) _ W1 (hN.below hS1.below) hx1 hj1).mono ?_
  rintro e W2 ⟨⟨v, rfl⟩, (⟨T, hj⟩ | ⟨q, hq, hj⟩)⟩
  · rw [hJd] at hj
    obtain ⟨S, hT, hi, hl, hk, hsB, hsL⟩ := hj
    have hend := run_endLoop (P := Tryz.prog) hl (by rw [hrec]; simp)
    rw [hrec] at hend
    exact ⟨none, _, hend, hdone _ S _ (Nat.le_refl _) (hI _ _ _ _ hi (Sep.put _ (by omega) hsL (hIs _ _ _ hi).1)) hsB ((World.putObj_heap_other (by omega)).trans hk)⟩
  · rw [hJxd] at hj
    obtain ⟨hi, hl, hk⟩ := hj
    have hend := run_endLoop (P := Tryz.prog) hl (by rw [hrec]; simp)
    rw [hrec] at hend
    exact ⟨some .ret, _, hend, hstop _ q _ (Nat.le_refl _) hq (hIx _ _ _ hi) ((World.putObj_heap_other (by omega)).trans hk)⟩
theorem VN {P : Program} {l n : Nat} {o : Oper} {a : Act} {K : Act → World → Prop} {Q : Exit → Act → World → Prop} {r : Result Next} (h : o.upon P a K Q r) : o.uponIn (Fence.wide.inRound l) n P a K Q r := by
  cases r with
  | ok x w' =>
    cases x with
    | value v => exact h
    | skip => exact h
    | defer d => exact h
    | enter f args => exact ⟨fun h => (by cases h), CallsIn.inRound l (callsIn_wide.2 h)⟩
    | row row args => exact ⟨fun h => (by cases h), fun c cs _ => let ⟨v, w', r, s⟩ := h c cs; ⟨v, w', r, stepsIn_wide.2 s⟩⟩
    | _ => exact h.elim
  | halt x w' => cases x <;> exact h
theorem PN {P : Program} {ops : Array Oper} {l n i : Nat} {Q : Exit → Act → World → Prop} (hnd : ∀ (j : Nat) (o : Oper), ops[j]? = some o → ∀ c, o.op ≠ .defer c) (hq : ¬ LetsOut Q) {K K' : Act → World → Prop} (hK : ∀ a w, K a w → K' a w) {a : Act} {w : World}
    (h : wpOp P ops Q i K a w) : wpOpIn (Fence.wide.inRound l) n P ops Q i K' a w := by
  refine wpOpIn_mono hK ?_
  unfold wpOp at h
  unfold wpOpIn
  cases ho : ops[i]? with
  | none => simpa [ho] using h
  | some o =>
    simp only [ho] at h ⊢
    by_cases hw : Region.wanted o (yielded ops a.tmps) = true
    · simp only [hw, if_true] at h ⊢
      rcases h with h | h
      · refine ⟨fun _ _ => trivial, ?_⟩
        rw [Oper.semAt_eq _ _ _ (hnd i o ho)]
        exact VN h
      · exact absurd h.2 hq
    · simp only [hw] at h ⊢
      exact ⟨fun _ _ => trivial, h⟩
theorem WJ {P : Program} {ops : Array Oper} {l n : Nat} {md : Region.Mode} {Q : Exit → Act → World → Prop} (hnd : ∀ (j : Nat) (o : Oper), ops[j]? = some o → ∀ c, o.op ≠ .defer c) (hq : ¬ LetsOut Q) :
    ∀ (fuel : Nat) (listed : Array Bool) (a : Act) (w : World), wpAny P md ops Q fuel listed a w → wpAnyIn (Fence.wide.inRound l) n P md ops Q fuel listed a w
  | 0, _, _, _, h => h
  | fuel + 1, _, _, _, h => ⟨h.1, fun i hi => PN hnd hq (fun a w h => WJ hnd hq fuel _ a w h) (h.2 i hi)⟩
def SL (ops : Array Oper) : Bool := ops.all fun o => match o.op with | .defer _ => false | _ => true
theorem IJ {ops : Array Oper} (h : SL ops = true) (j : Nat) (o : Oper) (ho : ops[j]? = some o) (c : Call) : o.op ≠ .defer c := by
  intro e
  have h1 := (Array.all_eq_true_iff_forall_mem.1 h) o (Array.mem_of_getElem? ho)
  simp [e] at h1
theorem sM {P : Program} {ops : Array Oper} {l n id : Nat} {Q : Exit → Act → World → Prop} {S : World → Prop} {a : Act} {w : World} (hm : P.follows .mixedOrders = true) (hnd : SL ops = true) (hq : ¬ LetsOut Q) (hS : S w.drew)
    (h : S w.drew → wpAnyH P .any ops Q S ops.size (Array.replicate ops.size false) a w.drew) : (Code.region id ops true).wpIn (Fence.wide.inRound l) n P Q a w :=
  wpIn_region_any hm (WJ (IJ hnd) hq _ _ _ _ (wpAny_of_held _ _ _ _ (h hS)))
attribute [local go_sem] Oper.semAt_some
theorem BE {l : List ND} {n : ND} (h0 : l[0]? = some n) (h : PA l = true) : KE l ∧ n.r = ((fD l : Nat) : Int) ∧ fD l < l.length ∧ ∃ c gs, Wk l [] (fD l) 1 c gs ∧ kI l (-1) (gs.map Prod.fst) = (lG l).2 := by
  cases l with
  | nil => simp at h0
  | cons m r =>
    simp at h0
    subst h0
    exact SN h
def cM (l : List ND) (w : World) (e : Ending) (w' : World) : Prop := e = .returned (.bool (yB l)) ∧ Below w.heap.size w w'
set_option maxRecDepth 100000 in
set_option maxHeartbeats 4000000 in
theorem nH (v : Value) (l : List ND) (w : World) (h : NSl w v l) (hl : l.length ≤ 1048576) (hn : PA l = false) : Calls Tryz.prog 11 #[v] w (cM l w) := by
  have ht : yB l = false := by simp [yB, hn]
  have hN : ∀ W, Below w.heap.size w W → Calls Tryz.prog 42 #[v] W (fun e W' => e = .returned (.bool false) ∧ Below W.heap.size W W') := fun W hb =>
    (wG v l W (Sl.below (by omega) h hb) hl).mono fun e W' ⟨he, hb'⟩ => ⟨by rw [he, hn], hb'⟩
  obtain ⟨a, cap, rfl, _⟩ := h
  refine (callsIn_wide (n := 0)).1 ?_
  refine callsIn_of_wp_marks Tryz.func11 rfl trivial ?_ rfl
  simp only [Tryz.ntmps11, List.size_toArray, List.length_cons, List.length_nil, Nat.reduceAdd, Nat.reduceSub, Array.replicate_succ, Array.replicate_zero, List.push_toArray, List.append_toArray, List.nil_append, List.cons_append]
  gi_wp2_with fail
  obtain ⟨W0, hW0⟩ : ∃ x, x = (w.alloc (.cells #[.slice a l.length cap] 24)).alloc (.cells #[.bool false] 4) := ⟨_, rfl⟩
  rw [← hW0]
  have hb0 : Below w.heap.size w W0 := by rw [hW0]; exact ((Below.refl _ w).alloc (Nat.le_refl _) _).alloc (by simp) _
  have hr0 : Blk W0 (w.heap.size + 1) 4 [.bool false] := by
    have := World.alloc_heap_new (w.alloc (.cells #[.slice a l.length cap] 24)) (.cells #[.bool false] 4)
    rw [World.size_alloc, ← hW0] at this
    exact this
  refine ⟨trivial, rfl, ?_⟩
  refine (callsIn_wide.2 (hN W0 hb0)).mono ?_
  rintro e W1 ⟨rfl, hB1⟩
  have hr1 := hr0.below hB1 hr0.lt
  have c1 : W1.cell? ⟨w.heap.size + 1, 0, none⟩ = some (.bool false) := by rw [hr1.cell]; rfl
  have c2 : W1.frozen? ⟨w.heap.size + 1, 0, none⟩ = false := hr1.free _
  have hE := Lib.hid (show Below w.heap.size w (W1.setCell ⟨w.heap.size + 1, 0, none⟩ (.bool false)) ∧ (W1.setCell ⟨w.heap.size + 1, 0, none⟩ (.bool false)).cell? ⟨w.heap.size + 1, 0, none⟩ = some (.bool false) from
    ⟨(hb0.trans (hB1.mono hb0.size)).setCell (p := ⟨w.heap.size + 1, 0, none⟩) (by simp) _, by rw [(hr1.set 0 (.bool false)).cell]; rfl⟩)
  clear hW0 hb0 hr0 hB1 hr1 hN
  gi_wp2_with fail
  exact ⟨.bool false, by simp [results, Tryz.f11, go_sem, hE.out.2], by rw [ht], hE.out.1⟩
set_option maxRecDepth 100000 in
set_option maxHeartbeats 4000000 in
theorem VH (v : Value) (l : List ND) (n : ND) (w : World) (h : NSl w v l) (hr0 : l[0]? = some n) (hn : PA l = true) : Calls Tryz.prog 11 #[v] w (cM l w) := by
  have hl : l.length ≤ 1048576 := by have := (nD hn).1; omega
  have hN : ∀ W, Below w.heap.size w W → Calls Tryz.prog 42 #[v] W (fun e W' => e = .returned (.bool true) ∧ Below W.heap.size W W') := fun W hb =>
    (wG v l W (Sl.below (by omega) h hb) hl).mono fun e W' ⟨he, hb'⟩ => ⟨by rw [he, hn], hb'⟩
  obtain ⟨hL, hr, hrt, c', gs, wk, hup⟩ := BE hr0 hn
  obtain ⟨b, off, cap, rfl, k1, m1, s1, H1⟩ := h.at (by intro e; rw [e] at hr0; simp at hr0)
  refine (callsIn_wide (n := 0)).1 ?_
  refine callsIn_of_wp_marks Tryz.func11 rfl trivial ?_ rfl
  simp only [Tryz.ntmps11, List.size_toArray, List.length_cons, List.length_nil, Nat.reduceAdd, Nat.reduceSub, Array.replicate_succ, Array.replicate_zero, List.push_toArray, List.append_toArray, List.nil_append, List.cons_append]
  gi_wp2_with fail
  obtain ⟨s, hs⟩ : ∃ s, s = w.heap.size := ⟨_, rfl⟩
  obtain ⟨W0, hW0⟩ : ∃ x, x = (w.alloc (.cells #[.slice (some ⟨b, off, none⟩) l.length cap] 24)).alloc (.cells #[.bool false] 4) := ⟨_, rfl⟩
  rw [← hW0]
  have hb0 : Below w.heap.size w W0 := by rw [hW0]; exact ((Below.refl _ w).alloc (Nat.le_refl _) _).alloc (by simp) _
  have hq0 : Blk W0 (w.heap.size + 1) 4 [.bool false] := by
    have := World.alloc_heap_new (w.alloc (.cells #[.slice (some ⟨b, off, none⟩) l.length cap] 24)) (.cells #[.bool false] 4)
    rw [World.size_alloc, ← hW0] at this
    exact this
  have hx0 : Blk W0 w.heap.size 24 [.slice (some ⟨b, off, none⟩) l.length cap] := by
    have := World.alloc_heap_new w (.cells #[.slice (some ⟨b, off, none⟩) l.length cap] 24)
    rw [hW0]
    exact (Below.heap_alloc _ _ _ (by simp)).trans this
  refine ⟨trivial, rfl, ?_⟩
  refine (callsIn_wide.2 (hN W0 hb0)).mono ?_
  rintro e W1 ⟨rfl, hB1⟩
  have hq1 := hq0.below hB1 hq0.lt
  have hx1 := hx0.below hB1 hx0.lt
  have hb1 := hb0.trans (hB1.mono hb0.size)
  have hz1 := hq1.lt
  have c1 : ∀ o, (W1.alloc o).cell? ⟨w.heap.size, 0, none⟩ = some (.slice (some ⟨b, off, none⟩) l.length cap) := fun o => by
    rw [((Below.refl W1.heap.size W1).alloc (Nat.le_refl _) o).cell (p := ⟨w.heap.size, 0, none⟩) hx1.lt, hx1.cell]; rfl
  have H0 := Lib.hid (And.intro H1 (And.intro hup (And.intro hr (And.intro hb1 (And.intro hq1 (And.intro hx1 (And.intro hN hb0)))))))
  clear hN hb0 hq0 hx0 hB1 hW0 hq1 hx1 hb1 hup H1 hr
  gi_wp2_with fail
  refine ⟨trivial, rfl, ?_⟩
  refine (callsIn_wide.2 (GG _ _ _ _)).mono ?_
  rintro e W2 ⟨rfl, hW2⟩
  have HW2 := Lib.hid hW2
  clear hW2 c1
  gi_wp2_with fail
  obtain ⟨H1, hup, hr, hb1, hq1, hx1, -, -⟩ := H0.out
  have hW2 := HW2.out
  obtain ⟨z, hz⟩ : ∃ z, z = W1.heap.size := ⟨_, rfl⟩
  have hzw : w.heap.size + 1 < z := by rw [hz]; exact hz1
  have hs2 : W2.heap.size = z + 2 := by rw [hW2, hz]; simp
  have hb12 : Below W1.heap.size W1 W2 := by rw [hW2]; exact ((Below.refl _ _).alloc (Nat.le_refl _) _).alloc (by simp) _
  have hla : Blk W2 z 2 [iJ (-1)] := by
    rw [hW2, hz]
    exact (Below.heap_alloc _ _ _ (by simp)).trans (World.alloc_heap_new W1 _)
  have hbx : Blk W2 (z + 1) 24 [.slice (some ⟨b, off, none⟩) l.length cap] := by
    have := World.alloc_heap_new (W1.alloc (.cells #[iJ (-1)] 2)) (.cells #[.slice (some ⟨b, off, none⟩) l.length cap] 24)
    rw [World.size_alloc, ← hW2, ← hz] at this
    exact this
  have hb2 := hb1.trans (hb12.mono hb1.size)
  have hx2 := hx1.below hb12 hx1.lt
  have hq2 := hq1.below hb12 hq1.lt
  have hN0 : NAt w.heap.size w b off l := ⟨s1, H1⟩
  rw [← hz]
  clear H0 HW2 H1 hz hW2 hb12
  refine bG (S₀ := fun k => k = w.heap.size ∨ k = w.heap.size + 1 ∨ k = z) rfl rfl w.heap.size b off cap l hL (hN0.below hb2) (by rw [hbx.cell]; rfl) n (fD l) c' gs hr0 hr wk
    (fun pre S W => (∀ k, S k ↔ k = w.heap.size ∨ k = w.heap.size + 1 ∨ k = z) ∧ Blk W w.heap.size 24 [.slice (some ⟨b, off, none⟩) l.length cap] ∧ Blk W (w.heap.size + 1) 4 [.bool false] ∧
      Blk W z 2 [iJ (kF l (-1) (pre.map Prod.fst))] ∧ Below w.heap.size w W ∧ kI l (-1) (pre.map Prod.fst) = true)
    (fun q W => Blk W (w.heap.size + 1) 4 [.bool false] ∧ Below w.heap.size w W ∧ kI l (-1) (q.map Prod.fst) = false)
    ?hI ?hIs ?hIx
    ⟨fun k => Iff.rfl, hx2, hq2, hla, hb2, rfl⟩
    (fun x => { tmps := #[.slice (some ⟨b, off, none⟩) l.length cap, .pointer (some ⟨w.heap.size, 0, none⟩), .pointer (some ⟨w.heap.size + 1, 0, none⟩), .pointer (some ⟨z, 0, none⟩), iJ x.1, uD,
      .slice (some ⟨b, off, none⟩) l.length cap, .bool true, .bool false, .slice (some ⟨b, off, none⟩) l.length cap, .func (.func 81) #[] #[.pointer (some ⟨z + 1, 0, none⟩)], iJ x.1, iJ x.2,
      uD, uD, uD, uD, uD, uD, uD, uD, uD, uD, uD, uD, uD, uD], defers := [] }) ?assign ?body ?done ?stop
  case hI =>
    rintro pre S W W' ⟨hS, h1, h2, h3, h4, h5⟩ hsep
    exact ⟨hS, (hsep.same _ h1.lt ((hS _).2 (.inl rfl))).trans h1, (hsep.same _ h2.lt ((hS _).2 (.inr (.inl rfl)))).trans h2, (hsep.same _ h3.lt ((hS _).2 (.inr (.inr rfl)))).trans h3, h4.trans hsep.below, h5⟩
  case hIs =>
    rintro pre S W ⟨hS, h1, h2, h3, h4, h5⟩
    refine ⟨h4.size, fun k hk => ?_⟩
    rcases (hS k).1 hk with rfl | rfl | rfl
    · exact h1.lt
    · exact h2.lt
    · exact h3.lt
  case hIx =>
    rintro q W o ⟨h1, h2, h3⟩
    exact ⟨(World.putObj_heap_other (by omega)).trans h1, h2.grown (grownBy_putObj' W _ o) h2.size (fun j e => by cases e; omega), h3⟩
  case assign =>
    intro l' x W K hK
    dsimp only [LK]
    gi_wp2
    exact hK
  case body =>
    rintro l' pre S x W ⟨hS, h1, h2, h3, h4, h5⟩ hx1 hx2 _
    obtain ⟨m, hm⟩ : ∃ m, l[x.1]? = some m := ⟨_, List.getElem?_eq_getElem hx1⟩
    have A1 := (hN0.below h4).2 x.1 m hm
    simp only [At8] at A1
    have i0 : (0 : Int) ≤ (x.1 : Int) := by omega
    have i1 : (x.1 : Int) < (l.length : Int) := by omega
    have c1 : W.cell? ⟨w.heap.size, 0, none⟩ = some (.slice (some ⟨b, off, none⟩) l.length cap) := by rw [h1.cell]; rfl
    obtain ⟨lv, hlv⟩ : ∃ lv, lv = kF l (-1) (pre.map Prod.fst) := ⟨_, rfl⟩
    rw [← hlv] at h3
    have c2 : W.cell? ⟨z, 0, none⟩ = some (iJ lv) := by rw [h3.cell]; rfl
    have c3 : W.frozen? ⟨z, 0, none⟩ = false := h3.free _
    have c4 : W.cell? ⟨w.heap.size + 1, 0, none⟩ = some (.bool false) := by rw [h2.cell]; rfl
    have c5 : W.frozen? ⟨w.heap.size + 1, 0, none⟩ = false := h2.free _
    have hup' := YJ hm (pre.map Prod.fst) (-1)
    rw [h5, Bool.true_and, ← hlv] at hup'
    have hlast := eG hm (pre.map Prod.fst) (-1)
    have n1 : w.heap.size ≠ W.heap.size := by have := h1.lt; omega
    have n2 : w.heap.size + 1 ≠ W.heap.size := by have := h2.lt; omega
    have n3 : z ≠ W.heap.size := by have := h3.lt; omega
    have ha : ∀ o, Below W.heap.size W (W.alloc o) := fun o => (Below.refl _ _).alloc (Nat.le_refl _) o
    have d2 : ∀ o, (W.alloc o).cell? ⟨z, 0, none⟩ = some (iJ lv) := fun o => by rw [(ha o).cell (p := ⟨z, 0, none⟩) h3.lt, c2]
    have d3 : ∀ o, (W.alloc o).frozen? ⟨z, 0, none⟩ = false := fun o => by rw [(ha o).frozen (p := ⟨z, 0, none⟩) h3.lt, c3]
    have d4 : ∀ o, (W.alloc o).cell? ⟨w.heap.size + 1, 0, none⟩ = some (.bool false) := fun o => by rw [(ha o).cell (p := ⟨w.heap.size + 1, 0, none⟩) h2.lt, c4]
    have d5 : ∀ o, (W.alloc o).frozen? ⟨w.heap.size + 1, 0, none⟩ = false := fun o => by rw [(ha o).frozen (p := ⟨w.heap.size + 1, 0, none⟩) h2.lt, c5]
    have Ret := Lib.hid (show ∀ o, (!m.g && decide (lv < m.k)) = false → (Blk ((W.alloc o).setCell ⟨w.heap.size + 1, 0, none⟩ (.bool false)) (w.heap.size + 1) 4 [.bool false] ∧ Below w.heap.size w ((W.alloc o).setCell ⟨w.heap.size + 1, 0, none⟩ (.bool false)) ∧ kI l (-1) ((pre ++ [x]).map Prod.fst) = false) ∧
        W.heap.size ≤ ((W.alloc o).setCell ⟨w.heap.size + 1, 0, none⟩ (.bool false)).heap.size ∧ ∀ k, k < W.heap.size → ¬ S k → ((W.alloc o).setCell ⟨w.heap.size + 1, 0, none⟩ (.bool false)).heap[k]? = W.heap[k]? from fun o ht =>
      ⟨⟨(h2.below (ha o) h2.lt).set 0 (.bool false), (h4.trans ((ha o).mono h4.size)).setCell (p := ⟨w.heap.size + 1, 0, none⟩) (by simp) _, by rw [List.map_append, List.map_singleton, hup', ht]⟩, by simp, fun k hk hs => by
        have hne : k ≠ w.heap.size + 1 := fun e => hs ((hS k).2 (.inr (.inl e)))
        exact (Below.heap_setCell _ ⟨w.heap.size + 1, 0, none⟩ _ k hne).trans ((ha o).block k hk)⟩)
    have Nor := Lib.hid (show ∀ o, (!m.g && decide (lv < m.k)) = true → ∃ S', ((∀ k, S' k ↔ k = w.heap.size ∨ k = w.heap.size + 1 ∨ k = z) ∧ Blk ((W.alloc o).setCell ⟨z, 0, none⟩ (iJ m.k)) w.heap.size 24 [.slice (some ⟨b, off, none⟩) l.length cap] ∧ Blk ((W.alloc o).setCell ⟨z, 0, none⟩ (iJ m.k)) (w.heap.size + 1) 4 [.bool false] ∧
        Blk ((W.alloc o).setCell ⟨z, 0, none⟩ (iJ m.k)) z 2 [iJ (kF l (-1) ((pre ++ [x]).map Prod.fst))] ∧ Below w.heap.size w ((W.alloc o).setCell ⟨z, 0, none⟩ (iJ m.k)) ∧ kI l (-1) ((pre ++ [x]).map Prod.fst) = true) ∧ Mine w.heap.size S S' W ((W.alloc o).setCell ⟨z, 0, none⟩ (iJ m.k)) from fun o ht =>
      ⟨S, ⟨hS, (Below.heap_setCell _ ⟨z, 0, none⟩ _ _ (by simp; omega)).trans (h1.below (ha o) h1.lt), (Below.heap_setCell _ ⟨z, 0, none⟩ _ _ (by simp; omega)).trans (h2.below (ha o) h2.lt),
        by rw [List.map_append, List.map_singleton, hlast]; exact (h3.below (ha o) h3.lt).set 0 (iJ m.k),
        (h4.trans ((ha o).mono h4.size)).setCell (p := ⟨z, 0, none⟩) (by simp; omega) _, by rw [List.map_append, List.map_singleton, hup', ht]⟩,
        ((ha o).mono h4.size).setCell (p := ⟨z, 0, none⟩) (by simp; omega) _, fun k hk hs => by
          have hne : k ≠ z := fun e => hs ((hS k).2 (.inr (.inr e)))
          exact (Below.heap_setCell _ ⟨z, 0, none⟩ _ k hne).trans ((ha o).block k hk), fun k _ h => h⟩)
    clear ha c2 c3 c4 c5 hS h1 h2 h3 h4 hup' hlast h5 hlv hup hL hrt wk hr hr0 hm hx2 hq2 hla hbx hb2 hN0 hx1 hq1
    rcases Bool.eq_false_or_eq_true m.g with g0 | g0
    · have G := Lib.hid g0
      gi_wp2_with fail
      all_goals
        have q := Ret.out (.cells #[iJ m.k, iJ m.v, iJ m.l, iJ m.r, iJ m.o, .bool m.g, iJ m.lt, iJ m.rt] 37) (by rw [G.out]; rfl)
        rw [G.out] at q
        exact q
    · rcases Bool.eq_false_or_eq_true (decide (m.k ≤ lv)) with g1 | g1
      · have G := Lib.hid (And.intro g0 g1)
        gi_wp2_with fail
        all_goals
          have q := Ret.out (.cells #[iJ m.k, iJ m.v, iJ m.l, iJ m.r, iJ m.o, .bool m.g, iJ m.lt, iJ m.rt] 37) (by have := of_decide_eq_true G.out.2; rw [G.out.1, decide_eq_false (by omega)]; rfl)
          rw [G.out.1] at q
          exact q
      · have G := Lib.hid (And.intro g0 g1)
        gi_wp2_with fail
        all_goals
          have q := Nor.out (.cells #[iJ m.k, iJ m.v, iJ m.l, iJ m.r, iJ m.o, .bool m.g, iJ m.lt, iJ m.rt] 37) (by have := of_decide_eq_false G.out.2; rw [G.out.1, decide_eq_true (by omega)]; rfl)
          rw [G.out.1] at q
          exact q
  case done =>
    rintro D S W hD ⟨hS, h1, h2, h3, h4, h5⟩ hSD hK
    have hD' : D ≠ w.heap.size + 1 := by omega
    have ht : yB l = true := by rw [yB, hn, ← hup, h5]; rfl
    have c4 : W.cell? ⟨w.heap.size + 1, 0, none⟩ = some (.bool false) := by rw [h2.cell]; rfl
    have c5 : W.frozen? ⟨w.heap.size + 1, 0, none⟩ = false := h2.free _
    have hK' : (W.setCell ⟨w.heap.size + 1, 0, none⟩ (.bool true)).heap[D]? = some (.deferred (some [])) := (Below.heap_setCell W ⟨w.heap.size + 1, 0, none⟩ _ D hD').trans hK
    have hr' : Blk ((W.setCell ⟨w.heap.size + 1, 0, none⟩ (.bool true)).putObj D (.deferred none)) (w.heap.size + 1) 4 [.bool true] := (World.putObj_heap_other (Ne.symm hD')).trans (h2.set 0 (.bool true))
    have c6 : ((W.setCell ⟨w.heap.size + 1, 0, none⟩ (.bool true)).putObj D (.deferred none)).cell? ⟨w.heap.size + 1, 0, none⟩ = some (.bool true) := by rw [hr'.cell]; rfl
    have hB := h4.setCell (p := ⟨w.heap.size + 1, 0, none⟩) (by simp) (.bool true)
    have hE := Lib.hid (hB.grown (grownBy_putObj' _ D (.deferred none)) hB.size (fun j e => by cases e; omega))
    have HT := Lib.hid ht
    clear hr' h1 h2 h3 h4 h5 ht hB hS hSD hup
    gi_wp2
    refine ⟨by simp, .inl ⟨_, _, rfl, run_takeDeferred hK', ?_⟩⟩
    exact ⟨.bool true, by simp [results, Tryz.f11, go_sem, c6], by rw [HT.out], hE.out⟩
  case stop =>
    rintro D q W hD hq ⟨h1, h2, h3⟩ hK
    have hD' : w.heap.size + 1 ≠ D := by omega
    have ht : yB l = false := by simp [yB, hn, ← hup, yH (List.IsPrefix.map Prod.fst hq) h3]
    have hr' : Blk (W.putObj D (.deferred none)) (w.heap.size + 1) 4 [.bool false] := (World.putObj_heap_other hD').trans h1
    have c5 : (W.putObj D (.deferred none)).cell? ⟨w.heap.size + 1, 0, none⟩ = some (.bool false) := by rw [hr'.cell]; rfl
    have hE := Lib.hid (h2.grown (grownBy_putObj' W D (.deferred none)) h2.size (fun j e => by cases e; omega))
    have HT := Lib.hid ht
    clear hr' h1 h2 h3 ht hD'
    gi_wp2
    refine ⟨by simp, .inl ⟨_, _, rfl, run_takeDeferred hK, ?_⟩⟩
    exact ⟨.bool false, by simp [results, Tryz.f11, go_sem, c5], by rw [HT.out], hE.out⟩
theorem kD (v : Value) (l : List ND) (w : World) (h : NSl w v l) (hl : l.length ≤ 1048576) : Calls Tryz.prog 11 #[v] w (cM l w) := by
  rcases Bool.eq_false_or_eq_true (PA l) with hn | hn
  · cases l with
    | nil => simp [PA] at hn
    | cons n r => exact VH v _ n w h rfl hn
  · exact nH v l w h hl hn
end Go.Proofs.YtfjafncipjdnfaaGreat
