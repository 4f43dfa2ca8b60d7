/- The program's iterator over a tree: what it gives, by its contract: the rounds' owner may write what is his, and nothing else. -/
import Derived.Test.YtbbpnmdnnjbakaaTree
import Derived.Test.YtbbpnmdnnjbakaaNodesImpl
import Derived.RangeFuncNested
import Derived.RangeFuncBound
import Derived.RangeFuncLeaves
import Derived.Shelf.Abstract
import Derived.OwnWalkIn
import Derived.TacticsInMore
import Derived.LoopNIn
import Derived.LoopIn
namespace Go.Proofs.Ytbbpnmdnnjbakaa
open Go.ChangeShapes Go.WideShapes Go.ChangeAt Go.RowKit Go.Shelf
attribute [local go_sem] Oper.semAt_some
set_option linter.unusedVariables false
set_option linter.unusedSimpArgs false

/-- A step of the iterator's: the blocks of 'S' (the owner's) lie as they lay, and so do those below 'n₀'. -/
structure Sep (n₀ : Nat) (S : Nat → Prop) (W W' : World) : Prop where
  below : Below n₀ W W'
  same : ∀ k, k < W.heap.size → S k → W'.heap[k]? = W.heap[k]?
/-- A step of the owner's: but for his blocks all lies as it lay; what becomes his is new. -/
structure Mine (n₀ : Nat) (S S' : Nat → Prop) (W W' : World) : Prop where
  below : Below n₀ W W'
  same : ∀ k, k < W.heap.size → ¬ S k → W'.heap[k]? = W.heap[k]?
  new : ∀ k, k < W.heap.size → S' k → S k
theorem Mine.trans {n₀ : Nat} {S S' S'' : Nat → Prop} {A B C : World} (h : Mine n₀ S S' A B) (k : Mine n₀ S' S'' B C) : Mine n₀ S S'' A C :=
  ⟨h.below.trans k.below, fun i hi hs => (k.same i (Nat.lt_of_lt_of_le hi h.below.size) (fun e => hs (h.new i hi e))).trans (h.same i hi hs), fun i hi hs => h.new i hi (k.new i (Nat.lt_of_lt_of_le hi h.below.size) hs)⟩
theorem Mine.refl (n₀ : Nat) (S : Nat → Prop) (W : World) : Mine n₀ S S W W := ⟨Below.refl _ _, fun _ _ _ => rfl, fun _ _ h => h⟩
theorem Sep.setCell {n₀ : Nat} {S : Nat → Prop} {W : World} {g i : Nat} (h0 : n₀ ≤ g) (hg : ¬ S g) (v : Value) : Sep n₀ S W (W.setCell ⟨g, i, none⟩ v) :=
  ⟨(Below.refl _ _).setCell (p := ⟨g, i, none⟩) h0 v, fun k hk hs => Below.heap_setCell W ⟨g, i, none⟩ v k (fun e => hg (by have : k = g := e; rwa [← this]))⟩
theorem Sep.alloc {n₀ : Nat} {S : Nat → Prop} {W : World} (h0 : n₀ ≤ W.heap.size) (o : Obj) : Sep n₀ S W (W.alloc o) :=
  ⟨(Below.refl _ _).alloc h0 o, fun k hk _ => Below.heap_alloc W o k hk⟩
theorem Sep.trans {n₀ : Nat} {S : Nat → Prop} {A B C : World} (h : Sep n₀ S A B) (k : Sep n₀ S B C) : Sep n₀ S A C :=
  ⟨h.below.trans k.below, fun i hi hs => (k.same i (Nat.lt_of_lt_of_le hi h.below.size) hs).trans (h.same i hi hs)⟩

/-- The nodes 'ns' lie from 'off' on in block 'b', below 'n₀'. -/
def NAt (n₀ : Nat) (W : World) (b off : Nat) (ns : List ND) : Prop := b < n₀ ∧ ∀ k n, ns[k]? = some n → At8 W b (off + k * 8) n
theorem NAt.below {n₀ : Nat} {W W' : World} {b off : Nat} {ns : List ND} (h : NAt n₀ W b off ns) (hb : Below n₀ W W') : NAt n₀ W' b off ns := ⟨h.1, fun k n hk => (h.2 k n hk).below hb h.1⟩

/-- The cells of a walk: the nodes, what has been come to, whom to give. -/
def comeC (c : List Nat) : List Value := (List.range 30).map fun i => .bool (decide (i ∈ c))
def walkC (v : Value) (c : List Nat) (l : Nat) : List Value := v :: (comeC c ++ [.func (.yield l) #[] #[]])
theorem comeC_len (c : List Nat) : (comeC c).length = 30 := by simp [comeC]
theorem walkC_come {v : Value} {c : List Nat} {l p : Nat} (hp : p < 30) : (walkC v c l)[1 + p]? = some (.bool (decide (p ∈ c))) := by
  rw [Nat.add_comm]
  simp only [walkC, List.getElem?_cons_succ]
  rw [List.getElem?_append_left (by rw [comeC_len]; exact hp)]
  simp [comeC, hp]
theorem walkC_give {v : Value} {c : List Nat} {l : Nat} : (walkC v c l)[31]? = some (.func (.yield l) #[] #[]) := by
  simp only [walkC, List.getElem?_cons_succ]
  rw [List.getElem?_append_right (by rw [comeC_len]; omega), comeC_len]
  rfl
theorem comeC_set {c : List Nat} {p : Nat} : (comeC c).set p (.bool true) = comeC (p :: c) := by
  apply List.ext_getElem?
  intro i
  rw [List.getElem?_set]
  by_cases h : p = i
  · subst h
    by_cases hp : p < 30
    · simp [comeC, hp]
    · simp [comeC, hp]
  · simp only [h, if_false]
    by_cases hi : i < 30
    · simp [comeC, hi, Ne.symm h]
    · simp [comeC, hi]
theorem walkC_set {v : Value} {c : List Nat} {l p : Nat} (hp : p < 30) : (walkC v c l).set (1 + p) (.bool true) = walkC v (p :: c) l := by
  rw [Nat.add_comm]
  simp only [walkC, List.set_cons_succ]
  rw [List.set_append_left _ _ (by rw [comeC_len]; exact hp), comeC_set]

theorem depth_free {m m' : Nat} {P : Program} {l : Nat} {args : Array Value} {W : World} {R : Ending → World → Prop} (h : YieldAt Fence.wide m P l args W R) : YieldAt Fence.wide m' P l args W R := by
  obtain ⟨fn, tmps, assign, body, hy, hR⟩ := h
  exact ⟨fn, tmps, assign, body, hy, hR.1, fun c cs _ => hR.2 c cs (room_wide _)⟩

abbrev enc2 (x : Nat × Nat) : Array Value := #[.int .i64 x.1, .int .i64 x.2]
/-- What a round must do: it goes on, having written what is its own, or it says 'no more'. -/
def Rounds (l n₀ many N : Nat) (J : List (Nat × Nat) → (Nat → Prop) → World → Prop) (Jx : List (Nat × Nat) → World → Prop) : Prop :=
  ∀ pre S x W, J pre S W → x.1 < many → x.2 ≤ 100 → pre.length < N → YieldAt Fence.wide 0 Try.prog l (enc2 x) W fun e W' =>
    (e = .returned (.bool true) ∧ ∃ S', J (pre ++ [x]) S' W' ∧ Mine n₀ S S' W W') ∨ (e = .returned (.bool false) ∧ Jx (pre ++ [x]) W')
def Bides (n₀ : Nat) (J : List (Nat × Nat) → (Nat → Prop) → World → Prop) : Prop := (∀ pre S W W', J pre S W → Sep n₀ S W W' → J pre S W') ∧ (∀ pre S W, J pre S W → n₀ ≤ W.heap.size ∧ ∀ k, S k → k < W.heap.size)
/-- What the walk from a node on comes to. -/
def Went (g n₀ l : Nat) (v : Value) (J : List (Nat × Nat) → (Nat → Prop) → World → Prop) (Jx : List (Nat × Nat) → World → Prop) (pre gs : List (Nat × Nat)) (c' : List Nat) (S : Nat → Prop) (W : World) (e : Ending) (W' : World) : Prop :=
  (e = .returned (.bool true) ∧ ∃ S', J (pre ++ gs) S' W' ∧ Blk W' g 59 (walkC v c' l) ∧ Below n₀ W W' ∧ (∀ k, k < W.heap.size → k ≠ g → ¬ S k → W'.heap[k]? = W.heap[k]?) ∧ (∀ k, k < W.heap.size → S' k → S k)) ∨
  (e = .returned (.bool false) ∧ ∃ q, q <+: gs ∧ Jx (pre ++ q) W')

set_option maxRecDepth 100000 in
set_option maxHeartbeats 4000000 in
theorem down_in (l g n₀ b off cap N : Nat) (ns : List ND) (hL : Links ns) (J : List (Nat × Nat) → (Nat → Prop) → World → Prop) (Jx : List (Nat × Nat) → World → Prop)
    (hJ : Bides n₀ J) (hY : Rounds l n₀ ns.length N J Jx) (hg0 : n₀ ≤ g) {c : List Nat} {p d : Nat} {c' : List Nat} {gs : List (Nat × Nat)} (w : Wk ns c p d c' gs) :
    ∀ (n : Nat) (pre : List (Nat × Nat)) (S : Nat → Prop) (W : World), p < ns.length → pre.length + gs.length ≤ N → d + left ns c ≤ 100 → NAt n₀ W b off ns → ¬ S g → Blk W g 59 (walkC (.slice (some ⟨b, off, none⟩) ns.length cap) c l) → J pre S W →
      CallsIn Fence.wide n Try.prog 38 #[.pointer (some ⟨g, 0, none⟩), .int .i64 (p : Int), .int .i64 (d : Int)] W (Went g n₀ l (.slice (some ⟨b, off, none⟩) ns.length cap) J Jx pre gs c' S W) := by
  have hdd : ∀ k : Nat, (Fence.wide.depth.isSome = true → 1 ≤ k) := fun k h => by cases h
  induction w with
  | zero c d =>
    intro n pre S W hp hNN hd hN hS hB hj
    refine callsIn_of_wp Try.func38 rfl trivial ?_ rfl
    simp only [Try.ntmps38, List.size_toArray, List.length_cons, List.length_nil, Nat.reduceAdd, Nat.reduceSub, Array.replicate_succ, Array.replicate_zero, List.push_toArray, List.append_toArray, List.nil_append, List.cons_append]
    gi_wp2
    go_ret
    exact .inl ⟨rfl, S, by simpa using hj, hB, Below.refl _ _, fun _ _ _ _ => rfl, fun _ _ h => h⟩
  | seen c p d h0 hc =>
    intro n pre S W hp hNN hd hN hS hB hj
    have hl30 := hL.1
    have a1 : W.cell? ⟨g, 1 + p, none⟩ = some (.bool true) := by rw [hB.cell, walkC_come (by omega)]; simp [hc]
    have a2 : W.cell? ⟨g, 31, none⟩ = some (.func (.yield l) #[] #[]) := by rw [hB.cell, walkC_give]
    have t0 : ((p : Int) == 0) = false := by simpa using h0
    have i0 : (0 : Int) ≤ (p : Int) := by omega
    have i1 : (p : Int) < 30 := by omega
    obtain ⟨fn, tmps, assign, body, hy, hR⟩ := depth_free (m' := n - 1) (hY pre S (p, d) W hj hp (by omega) (by simp at hNN; omega))
    dsimp only [enc2] at hy
    have HB := Lib.hid hB
    have HN := Lib.hid hN
    clear hB hN hY
    refine callsIn_of_wp Try.func38 rfl trivial ?_ rfl
    simp only [Try.ntmps38, List.size_toArray, List.length_cons, List.length_nil, Nat.reduceAdd, Nat.reduceSub, Array.replicate_succ, Array.replicate_zero, List.push_toArray, List.append_toArray, List.nil_append, List.cons_append]
    gi_wp2
    refine ⟨hdd _, ?_⟩
    refine hR.mono ?_
    rintro e W' (⟨rfl, S', hJ', hM⟩ | ⟨rfl, hx⟩)
    · gi_wp2
      go_ret
      exact .inl ⟨rfl, S', hJ', (hM.same g HB.out.lt hS).trans HB.out, hM.below, fun k h1 _ h2 => hM.same k h1 h2, hM.new⟩
    · gi_wp2
      go_ret
      exact .inr ⟨rfl, [(p, d)], List.prefix_refl _, hx⟩
  | node c p d m a b' c1 c2 g1 g2 h0 hc hn ha hb w1 w2 ih1 ih2 =>
    intro n pre S W hp hNN hd hN hS hB hj
    have hl30 := hL.1
    simp only [List.length_append, List.length_cons] at hNN
    have a1 : W.cell? ⟨g, 1 + p, none⟩ = some (.bool false) := by rw [hB.cell, walkC_come (by omega)]; simp [hc]
    have a2 : W.frozen? ⟨g, 1 + p, none⟩ = false := hB.free _
    have a3 : W.cell? ⟨g, 0, none⟩ = some (.slice (some ⟨b, off, none⟩) ns.length cap) := by rw [hB.cell]; rfl
    have t0 : ((p : Int) == 0) = false := by simpa using h0
    have i0 : (0 : Int) ≤ (p : Int) := by omega
    have i1 : (p : Int) < 30 := by omega
    have i2 : (p : Int) < (ns.length : Int) := by omega
    have A1 := hN.2 p m hn
    have hbg : b ≠ g := by have := hN.1; omega
    have HB := Lib.hid hB
    have HN := Lib.hid hN
    have hglt := hB.lt
    simp only [At8] at A1
    clear hB hN
    refine callsIn_of_wp Try.func38 rfl trivial ?_ rfl
    simp only [Try.ntmps38, List.size_toArray, List.length_cons, List.length_nil, Nat.reduceAdd, Nat.reduceSub, Array.replicate_succ, Array.replicate_zero, List.push_toArray, List.append_toArray, List.nil_append, List.cons_append]
    -- the world where the first call stands
    obtain ⟨W3, hW3⟩ : ∃ x, x = (W.setCell ⟨g, 1 + p, none⟩ (.bool true)).alloc (.cells #[.int .i64 m.k, .int .i64 m.v, .int .i64 a, .int .i64 b', .int .i64 m.o, .bool m.g, .int .i64 m.lt, .int .i64 m.rt] 41) := ⟨_, rfl⟩
    have hsz : (W.setCell ⟨g, 1 + p, none⟩ (.bool true)).heap.size = W.heap.size := by simp
    have hbd := hJ.2 _ _ _ hj
    have hsep : Sep n₀ S W W3 := by rw [hW3]; exact (Sep.setCell hg0 hS _).trans (Sep.alloc (by rw [hsz]; exact hbd.1) _)
    have hz3 : W3.heap.size = W.heap.size + 1 := by rw [hW3]; simp
    have hB3 : Blk W3 g 59 (walkC (.slice (some ⟨b, off, none⟩) ns.length cap) (p :: c) l) := by
      have h1 := HB.out.set (1 + p) (.bool true)
      rw [walkC_set (by omega)] at h1
      rw [hW3]
      exact h1.below ((Below.refl _ _).alloc (Nat.le_refl _) _) h1.lt
    have hL3 : Blk W3 W.heap.size 41 [.int .i64 m.k, .int .i64 m.v, .int .i64 a, .int .i64 b', .int .i64 m.o, .bool m.g, .int .i64 m.lt, .int .i64 m.rt] := by
      have h1 := World.alloc_heap_new (W.setCell ⟨g, 1 + p, none⟩ (.bool true)) (.cells #[.int .i64 m.k, .int .i64 m.v, .int .i64 a, .int .i64 b', .int .i64 m.o, .bool m.g, .int .i64 m.lt, .int .i64 m.rt] 41)
      rw [← hW3, hsz] at h1
      exact h1
    have hq3 : ¬ S W.heap.size := fun h => by have := hbd.2 _ h; omega
    obtain ⟨a', b'', ha', hb', la, lb⟩ := hL.2.2.1 p m hn
    obtain rfl : a = a' := by omega
    obtain rfl : b' = b'' := by omega
    have hlt := left_cons hp hc
    have hle := left_sub (l := ns) w1.sub
    have hj3 := hJ.1 _ _ _ _ hj hsep
    have e1 : ((d + 1 : Nat) : Int) = (d : Int) + 1 := by omega
    have ih1' := ih1 (n - 1) pre S W3 la (by omega) (by omega) (HN.out.below hsep.below) hS hB3 hj3
    rw [e1] at ih1'
    have K := Lib.hid (And.intro hsep (And.intro hB3 (And.intro hL3 (And.intro hW3 hj3))))
    clear hsep hB3 hL3 hbd hsz hj3 ha' hb'
    have D1 : (Lit.int .i64 ((d : Int) + 1)).wf = true := by simp [Lit.wf, IntKind.min, IntKind.max, IntKind.signed, IntKind.bits]; omega
    clear ih1
    gi_wp2_with fail
    rw [← hW3]
    refine ⟨trivial, hdd _, ?_⟩
    refine ih1'.mono ?_
    clear ih1' a1 a2 a3 A1
    rintro e W4 (⟨rfl, S4, hJ4, hB4, hb4, hs4, hn4⟩ | ⟨rfl, q, hq, hx⟩)
    · obtain ⟨hsep, hB3, hL3, hW3', hj3⟩ := K.out
      have hS4 : ¬ S4 g := fun h => hS (hn4 g (by omega) h)
      have hq4 : ¬ S4 W.heap.size := fun h => hq3 (hn4 _ (by omega) h)
      have hL4 : Blk W4 W.heap.size 41 [.int .i64 m.k, .int .i64 m.v, .int .i64 a, .int .i64 b', .int .i64 m.o, .bool m.g, .int .i64 m.lt, .int .i64 m.rt] := (hs4 _ (by omega) (by omega) hq3).trans hL3
      have b1 : W4.cell? ⟨g, 31, none⟩ = some (.func (.yield l) #[] #[]) := by rw [hB4.cell, walkC_give]
      obtain ⟨fn, tmps, assign, body, hy, hR⟩ := depth_free (m' := n - 1) (hY (pre ++ g1) S4 (p, d) W4 hJ4 hp (by omega) (by rw [List.length_append]; omega))
      dsimp only [enc2] at hy
      have K4 := Lib.hid (And.intro hL4 (And.intro hB4 (And.intro hJ4 (And.intro hb4 (And.intro hs4 hn4)))))
      clear hL4 hB4 hJ4 hb4 hs4 hn4 hsep hB3 hL3 hW3' hj3
      gi_wp2_with fail
      refine ⟨hdd _, ?_⟩
      refine hR.mono ?_
      clear hR hy b1
      rintro e W5 (⟨rfl, S5, hJ5, hM5⟩ | ⟨rfl, hx⟩)
      · obtain ⟨hL4, hB4, hJ4, hb4, hs4, hn4⟩ := K4.out
        obtain ⟨hsep, hB3, hL3, hW3', hj3⟩ := K.out
        have hz5 := hb4.size
        have hS5 : ¬ S5 g := fun h => hS4 (hM5.new g hB4.lt h)
        have hq5 : ¬ S5 W.heap.size := fun h => hq4 (hM5.new _ hL4.lt h)
        have hL5 : Blk W5 W.heap.size 41 [.int .i64 m.k, .int .i64 m.v, .int .i64 a, .int .i64 b', .int .i64 m.o, .bool m.g, .int .i64 m.lt, .int .i64 m.rt] := (hM5.same _ hL4.lt hq4).trans hL4
        have hB5 : Blk W5 g 59 (walkC (.slice (some ⟨b, off, none⟩) ns.length cap) c1 l) := (hM5.same _ hB4.lt hS4).trans hB4
        have hb5 := (hsep.below.trans hb4).trans hM5.below
        have c3 : W5.cell? ⟨W.heap.size, 3, none⟩ = some (.int .i64 b') := by rw [hL5.cell]; rfl
        have ih2' := ih2 (n - 1) (pre ++ g1 ++ [(p, d)]) S5 W5 lb (by simp only [List.length_append, List.length_singleton]; omega) (by omega) (HN.out.below hb5) hS5 hB5 hJ5
        rw [e1] at ih2'
        have K5 := Lib.hid (And.intro hL5 (And.intro hB5 (And.intro hJ5 (And.intro hb5 hM5))))
        clear hL4 hB4 hJ4 hb4 hs4 hn4 hsep hB3 hL3 hW3' hj3 hL5 hB5 hJ5 hb5 hM5
        clear ih2
        gi_wp2_with fail
        refine ⟨trivial, hdd _, ?_⟩
        refine ih2'.mono ?_
        clear ih2' c3
        rintro e W6 (⟨rfl, S6, hJ6, hB6, hb6, hs6, hn6⟩ | ⟨rfl, q, hq, hx⟩)
        · obtain ⟨hL4, hB4, hJ4, hb4, hs4, hn4⟩ := K4.out
          obtain ⟨hsep, hB3, hL3, hW3', hj3⟩ := K.out
          obtain ⟨hL5, hB5, hJ5, hb5, hM5⟩ := K5.out
          have hz4 := hb4.size
          have hz6 := hM5.below.size
          have R : Went g n₀ l (.slice (some ⟨b, off, none⟩) ns.length cap) J Jx pre (g1 ++ (p, d) :: g2) c2 S W (.returned (.bool true)) W6 := by
            refine .inl ⟨rfl, S6, by simpa [List.append_assoc] using hJ6, hB6, hb5.trans hb6, fun k h1 h2 h3 => ?_, fun k h1 h2 => hn4 k (by omega) (hM5.new k (by omega) (hn6 k (by omega) h2))⟩
            have k4 : ¬ S4 k := fun h => h3 (hn4 k (by omega) h)
            have k5 : ¬ S5 k := fun h => k4 (hM5.new k (by omega) h)
            have k3 : W3.heap[k]? = W.heap[k]? := by
              rw [hW3, Below.heap_alloc _ _ k (by simpa using h1)]
              exact Below.heap_setCell W ⟨g, 1 + p, none⟩ _ k h2
            exact (hs6 k (by omega) h2 k5).trans ((hM5.same k (by omega) k4).trans ((hs4 k (by omega) h2 h3).trans k3))
          clear hL4 hB4 hJ4 hb4 hs4 hn4 hsep hB3 hL3 hW3' hj3 hL5 hB5 hJ5 hb5 hM5 hJ6 hB6 hb6 hs6 hn6
          gi_wp2_with fail
          go_ret
          exact R
        · have R : Went g n₀ l (.slice (some ⟨b, off, none⟩) ns.length cap) J Jx pre (g1 ++ (p, d) :: g2) c2 S W (.returned (.bool false)) W6 := by
            obtain ⟨r, hr⟩ := hq
            exact .inr ⟨rfl, g1 ++ (p, d) :: q, ⟨r, by simp [← hr]⟩, by simpa [List.append_assoc] using hx⟩
          clear hx
          gi_wp2_with fail
          go_ret
          exact R
      · have R : Went g n₀ l (.slice (some ⟨b, off, none⟩) ns.length cap) J Jx pre (g1 ++ (p, d) :: g2) c2 S W (.returned (.bool false)) W5 :=
          .inr ⟨rfl, g1 ++ [(p, d)], ⟨g2, by simp⟩, by simpa [List.append_assoc] using hx⟩
        clear hx
        gi_wp2_with fail
        refine ⟨trivial, ?_⟩
        gi_wp2_with fail
        go_ret
        exact R
    · have R : Went g n₀ l (.slice (some ⟨b, off, none⟩) ns.length cap) J Jx pre (g1 ++ (p, d) :: g2) c2 S W (.returned (.bool false)) W4 :=
        .inr ⟨rfl, q, hq.trans ⟨_, rfl⟩, hx⟩
      clear hx hq K HB HN hW3
      simp only []
      repeat (first | gi_guarded | gi_step)
      refine ⟨fun _ _ => trivial, ?_⟩
      gi_wp2_with fail
      refine ⟨trivial, ?_⟩
      gi_wp2_with fail
      go_ret
      exact R
end Go.Proofs.Ytbbpnmdnnjbakaa
