import Derived.Test.YtfjafncipjdnfaaGreatNodesSpec
import Derived.Test.YtfjafncipjdnfaaGreatRowInt
import Derived.Laws.Bits128
namespace Go.Proofs.YtfjafncipjdnfaaGreat
open Go.ChangeShapes Go.WideShapes Go.ChangeAt Go.RowKit
set_option linter.unusedVariables false
set_option linter.unusedSimpArgs false
def Bts (B : Nat) (w : World) (v : Value) (l : List Int) : Prop :=
  Sl w v 1 l.length (l.map (Value.int .u8)) ∧ (∀ x ∈ l, 0 ≤ x ∧ x ≤ 255) ∧ (l ≠ [] → ∀ g, v.ownBlock = some g → g < B)
theorem Bts.of_sl {w : World} {v : Value} {l : List Int} (h : Sl w v 1 l.length (l.map (Value.int .u8))) (h1 : ∀ x ∈ l, 0 ≤ x ∧ x ≤ 255) : Bts w.heap.size w v l := by
  refine ⟨h, h1, fun hn g hg => ?_⟩
  obtain ⟨a, c, rfl, -, -, h3, h4⟩ := h
  have hl : 0 < l.length := List.length_pos_iff.2 hn
  rcases h4 with h4 | ⟨b, off, rfl, hc⟩
  · omega
  · simp [Value.ownBlock] at hg
    subst hg
    have := hc 0 (by simpa using hl)
    rw [List.getElem?_eq_getElem (by simpa using hl)] at this
    exact World.block_lt_of_cell? w _ this
theorem Bts.but {B g : Nat} {w w' : World} {v : Value} {l : List Int} (h : Bts B w v l) (hb : But g w w') (hg : B ≤ g) : Bts B w' v l := by
  by_cases hn : l = []
  · subst hn
    obtain ⟨⟨a, c, rfl, k1, k2, k3, -⟩, h2⟩ := h
    exact ⟨⟨a, c, rfl, k1, k2, k3, .inl rfl⟩, h2⟩
  · exact ⟨hb.sl h.1 (fun e => by have := h.2.2 hn g e; omega), h.2⟩
theorem Bts.below {B : Nat} {w w' : World} {v : Value} {l : List Int} (h : Bts B w v l) (hb : Below w.heap.size w w') : Bts B w' v l := ⟨h.1.below (by omega) hb, h.2⟩
def CurAt (B g : Nat) (v : Value) (l : List Int) (w : World) : Prop :=
  B ≤ g ∧ l.length ≤ 4096 ∧ Bts B w v l ∧ ∃ (i : Nat) (h : Int), i ≤ l.length ∧ nE h ∧ Blk w g 105 [v, .int .i64 i, .int .i64 h]
theorem CurAt.lt {B g : Nat} {v : Value} {l : List Int} {w : World} (h : CurAt B g v l w) : g < w.heap.size := by
  obtain ⟨-, -, -, i, x, -, -, hb⟩ := h
  exact hb.lt
theorem CurAt.below {B g : Nat} {v : Value} {l : List Int} {w w' : World} (h : CurAt B g v l w) (hb : Below w.heap.size w w') : CurAt B g v l w' := by
  have hl := h.lt
  obtain ⟨h1, h2, h3, i, x, h4, h5, h6⟩ := h
  exact ⟨h1, h2, h3.below hb, i, x, h4, h5, h6.below hb hl⟩
theorem CurAt.but {B g k : Nat} {v : Value} {l : List Int} {w w' : World} (h : CurAt B g v l w) (hb : But k w w') (hk : k ≠ g) (hB : B ≤ k) : CurAt B g v l w' := by
  obtain ⟨h1, h2, h3, i, x, h4, h5, h6⟩ := h
  exact ⟨h1, h2, h3.but hb hB, i, x, h4, h5, hb.blk h6 (Ne.symm hk)⟩
theorem TG {w : World} {g : Nat} {t : TypeId} {a b c : Value} (h : Blk w g t [a, b, c]) : w.cell? ⟨g, 0, none⟩ = some a ∧ w.cell? ⟨g, 1, none⟩ = some b ∧ w.cell? ⟨g, 2, none⟩ = some c ∧ ∀ i, w.frozen? ⟨g, i, none⟩ = false :=
  ⟨h.cell 0, h.cell 1, h.cell 2, fun i => h.free i⟩
theorem RJ (n : Int) : bits .and .i64 n 255 = n % 256 := by
  have h127 : (BitVec.ofInt 64 255).toNat = 2 ^ 8 - 1 := by decide
  have key : (BitVec.ofInt 64 n &&& BitVec.ofInt 64 255).toNat = (n % ((2 ^ 64 : Nat) : Int)).toNat % 2 ^ 8 := by
    rw [BitVec.toNat_and, BitVec.toNat_ofInt, h127, Nat.and_two_pow_sub_one_eq_mod]
  show IntKind.i64.wrap ((BitVec.ofInt 64 n &&& BitVec.ofInt 64 255).toNat : Nat) = n % 256
  rw [key, IntKind.wrap_i64]
  omega
theorem AO (n : Int) : bits .and .i64 n 1073741823 = n % 1073741824 := by
  have h127 : (BitVec.ofInt 64 1073741823).toNat = 2 ^ 30 - 1 := by decide
  have key : (BitVec.ofInt 64 n &&& BitVec.ofInt 64 1073741823).toNat = (n % ((2 ^ 64 : Nat) : Int)).toNat % 2 ^ 30 := by
    rw [BitVec.toNat_and, BitVec.toNat_ofInt, h127, Nat.and_two_pow_sub_one_eq_mod]
  show IntKind.i64.wrap ((BitVec.ofInt 64 n &&& BitVec.ofInt 64 1073741823).toNat : Nat) = n % 1073741824
  rw [key, IntKind.wrap_i64]
  omega
theorem But.drew {g : Nat} {w w' : World} (h : But g w w') : But g w w'.drew := ⟨h.os, h.tape, h.output, h.size, h.block⟩
theorem Bts.drew {B : Nat} {w : World} {v : Value} {l : List Int} (h : Bts B w v l) : Bts B w.drew v l := h.below ((Below.refl _ _).drew)
theorem LI (n : Int) : nE (wrap64 n) := by unfold nE wrap64; omega
theorem Bts.at {B : Nat} {w : World} {a : Option Addr} {c : Nat} {l : List Int} (h : Bts B w (.slice a l.length c) l) {i : Nat} (hi : i < l.length) : ∃ b off y, a = some ⟨b, off, none⟩ ∧ b < B ∧ 0 ≤ y ∧ y ≤ 255 ∧ l[i]? = some y ∧ w.cell? ⟨b, off + i, none⟩ = some (.int .u8 y) := by
  obtain ⟨⟨a', c', hv, -, -, h3, h4⟩, h5, h6⟩ := h
  cases hv
  rcases h4 with h4 | ⟨b, off, rfl, hc⟩
  · omega
  · have hg := List.getElem?_eq_getElem hi
    have hr := h5 _ (List.mem_of_getElem? hg)
    refine ⟨b, off, _, rfl, h6 (by intro e; subst e; simp at hi) b rfl, hr.1, hr.2, hg, ?_⟩
    rw [hc i (by simpa using hi)]
    simp [hg]
set_option maxRecDepth 100000 in
set_option maxHeartbeats 4000000 in
theorem wE (B g : Nat) (v : Value) (l : List Int) (w : World) (h : CurAt B g v l w) :
    Calls Tryz.prog 125 #[.pointer (some ⟨g, 0, none⟩)] w fun e w' => ∃ r : Int, e = .returned (.int .i64 r) ∧ 0 ≤ r ∧ r ≤ 255 ∧ CurAt B g v l w' ∧ But g w w' := by
  obtain ⟨h1, h2, h3, i, x, h4, h5, h6⟩ := h
  obtain ⟨y0, y1, y2, yf⟩ := TG h6
  have H := Lib.hid (And.intro h3 h6)
  obtain ⟨⟨a, c, rfl, k1, m1, -⟩, -⟩ := id h3
  have hg := h6.lt
  have i1' : (l.length : Int) ≤ 4096 := by omega
  have i0 : (0 : Int) ≤ (i : Int) := by omega
  by_cases hi : i < l.length
  · obtain ⟨b, off, y, rfl, hb, q0, q1, hy, A0⟩ := h3.at hi
    have i1 : (i : Int) < (l.length : Int) := by omega
    clear h6 h5 h3 hy
    go_enter Tryz.func125, Tryz.ntmps125
    go_wp2
    generalize hh : wrap64 (wrap64 (x * 6364136223846793005) + 1442695040888963407) = z
    have HZ : nE z := by rw [← hh]; exact LI _
    have hw1 : But g w (w.setCell ⟨g, 2, none⟩ (.int .i64 z)) := But.set _ _ _ _
    have hB1 : Blk (w.setCell ⟨g, 2, none⟩ (.int .i64 z)) g 105 [.slice (some ⟨b, off, none⟩) l.length c, .int .i64 i, .int .i64 z] := by
      have := H.out.2.set 2 (.int .i64 z)
      simpa using this
    have A1 : (w.setCell ⟨g, 2, none⟩ (.int .i64 z)).cell? ⟨b, off + i, none⟩ = some (.int .u8 y) := by
      rw [World.cell?_of_block (hw1.block b (by omega) (by omega))]
      exact A0
    have h3' := H.out.1.but hw1 h1
    generalize w.setCell ⟨g, 2, none⟩ (.int .i64 z) = w1 at hw1 hB1 A1 h3' ⊢
    clear y0 y1 y2 yf A0 H hh
    obtain ⟨y0, y1, y2, yf⟩ := TG hB1
    have H := Lib.hid (And.intro h3' (And.intro hB1 (And.intro hw1 HZ)))
    clear h3' hB1 hw1 HZ
    go_region
    go_wp2
    rw [RJ]
    have hu0 : 0 ≤ bits BinOp.xor IntKind.i64 (z / 8589934592) (z / 35184372088832) % 256 := Int.emod_nonneg _ (by decide)
    have hu1 : bits BinOp.xor IntKind.i64 (z / 8589934592) (z / 35184372088832) % 256 < 256 := Int.emod_lt_of_pos _ (by decide)
    generalize bits BinOp.xor IntKind.i64 (z / 8589934592) (z / 35184372088832) % 256 = u at hu0 hu1 ⊢
    generalize bits BinOp.xor IntKind.i64 (z / 8589934592) (z / 35184372088832) = u'
    go_region
    go_wp2
    go_region
    go_wp2
    go_ret
    refine ⟨bits BinOp.and IntKind.i64 (u + y) 255, rfl, ?_, ?_, ?_, ?_⟩
    · rw [RJ]; omega
    · rw [RJ]; omega
    · have hd : But g w1 w1.drew.drew.drew := (((But.refl _ _).drew).drew).drew
      have hs := But.set g 1 w1.drew.drew.drew (.int .i64 ((i : Int) + 1))
      refine ⟨h1, h2, (H.out.1.drew.drew.drew).but hs h1, i + 1, z, by omega, H.out.2.2.2, ?_⟩
      exact Blk.set (w := w1.drew.drew.drew) H.out.2.1 1 (.int .i64 ((i : Int) + 1))
    · exact H.out.2.2.1.drew.drew.drew.trans (But.set g 1 _ _)
  · have i1 : ¬ (i : Int) < (l.length : Int) := by omega
    clear h6 h5 h3
    go_enter Tryz.func125, Tryz.ntmps125
    go_wp2
    generalize hh : wrap64 (wrap64 (x * 6364136223846793005) + 1442695040888963407) = z
    have HZ : nE z := by rw [← hh]; exact LI _
    have hw1 : But g w (w.setCell ⟨g, 2, none⟩ (.int .i64 z)) := But.set _ _ _ _
    have hB1 : Blk (w.setCell ⟨g, 2, none⟩ (.int .i64 z)) g 105 [.slice a l.length c, .int .i64 i, .int .i64 z] := by
      have := H.out.2.set 2 (.int .i64 z)
      simpa using this
    have h3' := H.out.1.but hw1 h1
    generalize w.setCell ⟨g, 2, none⟩ (.int .i64 z) = w1 at hw1 hB1 h3' ⊢
    clear y0 y1 y2 yf H hh
    obtain ⟨y0, y1, y2, yf⟩ := TG hB1
    have H := Lib.hid (And.intro h3' (And.intro hB1 (And.intro hw1 HZ)))
    clear h3' hB1 hw1 HZ
    go_region
    go_wp2
    rw [RJ]
    have hu0 : 0 ≤ bits BinOp.xor IntKind.i64 (z / 8589934592) (z / 35184372088832) % 256 := Int.emod_nonneg _ (by decide)
    have hu1 : bits BinOp.xor IntKind.i64 (z / 8589934592) (z / 35184372088832) % 256 < 256 := Int.emod_lt_of_pos _ (by decide)
    generalize bits BinOp.xor IntKind.i64 (z / 8589934592) (z / 35184372088832) % 256 = u at hu0 hu1 ⊢
    generalize bits BinOp.xor IntKind.i64 (z / 8589934592) (z / 35184372088832) = u'
    go_region
    go_wp2
    go_ret
    exact ⟨u, rfl, hu0, by omega, ⟨h1, h2, H.out.1.drew.drew, i, z, by omega, H.out.2.2.2, H.out.2.1⟩, H.out.2.2.1.drew.drew⟩
def vO (B g : Nat) (v : Value) (l : List Int) (w : World) (P : Int → Prop) (e : Ending) (w' : World) : Prop := ∃ r : Int, e = .returned (.int .i64 r) ∧ P r ∧ CurAt B g v l w' ∧ But g w w'
def tN (n r : Int) : Prop := 0 ≤ r ∧ (r < n ∨ r = 0)
set_option maxRecDepth 100000 in
set_option maxHeartbeats 4000000 in
theorem RA (B g : Nat) (v : Value) (l : List Int) (n : Int) (w : World) (h : CurAt B g v l w) (hn : n ≤ 4611686018427387904) :
    Calls Tryz.prog 80 #[.pointer (some ⟨g, 0, none⟩), .int .i64 n] w (vO B g v l w (tN n)) := by
  by_cases h0 : n ≤ 0
  · go_enter Tryz.func80, Tryz.ntmps80
    go_wp2
    go_ret
    exact ⟨0, rfl, ⟨by omega, .inr rfl⟩, h, But.refl _ _⟩
  · by_cases h1 : n ≤ 256
    · have H := Lib.hid h
      clear h
      have n1 : ¬ n = 0 := by omega
      have n2 : 0 < n := by omega
      go_enter Tryz.func80, Tryz.ntmps80
      go_wp2_with fail
      refine (wE B g v l w H.out).mono ?_
      rintro e w1 ⟨r, rfl, r0, r1, hc, hb⟩
      go_wp2
      go_ret
      exact ⟨r % n, rfl, ⟨Int.emod_nonneg _ n1, .inl (Int.emod_lt_of_pos _ n2)⟩, hc, hb⟩
    · have H := Lib.hid h
      clear h
      have n1 : ¬ n = 0 := by omega
      have n2 : 0 < n := by omega
      go_enter Tryz.func80, Tryz.ntmps80
      go_wp2_with fail
      refine (wE B g v l w H.out).mono ?_
      rintro e w1 ⟨r1, rfl, a1, b1, hc1, hb1⟩
      go_wp2_with fail
      refine (wE B g v l w1 hc1).mono ?_
      rintro e w2 ⟨r2, rfl, a2, b2, hc2, hb2⟩
      go_wp2_with fail
      refine (wE B g v l w2 hc2).mono ?_
      rintro e w3 ⟨r3, rfl, a3, b3, hc3, hb3⟩
      go_wp2_with fail
      refine (wE B g v l w3 hc3).mono ?_
      rintro e w4 ⟨r4, rfl, a4, b4, hc4, hb4⟩
      have z0 : 0 ≤ r1 * 16777216 + r2 * 65536 + r3 * 256 + r4 := by omega
      have z1 : r1 * 16777216 + r2 * 65536 + r3 * 256 + r4 ≤ 4294967295 := by omega
      go_wp2
      go_ret
      exact ⟨(r1 * 16777216 + r2 * 65536 + r3 * 256 + r4) % n, rfl, ⟨Int.emod_nonneg _ n1, .inl (Int.emod_lt_of_pos _ n2)⟩, hc4, ((hb1.trans hb2).trans hb3).trans hb4⟩
theorem QD (B g : Nat) (v : Value) (l : List Int) (n : Int) (w : World) (h : CurAt B g v l w) (hn : n ≤ 4611686018427387904) :
    Calls Tryz.prog 57 #[.pointer (some ⟨g, 0, none⟩), .int .i64 n] w fun e w' => ∃ b, e = .returned (.bool b) ∧ CurAt B g v l w' ∧ But g w w' := by
  go_enter Tryz.func57, Tryz.ntmps57
  go_wp2_with fail
  refine (RA B g v l n w h hn).mono ?_
  rintro e w1 ⟨r, rfl, -, hc, hb⟩
  go_wp2
  go_ret
  exact ⟨_, rfl, hc, hb⟩
theorem eF (B g : Nat) (v : Value) (l : List Int) (lo hi : Int) (w : World) (h : CurAt B g v l w) (h0 : -1152921504606846976 ≤ lo) (h1 : lo ≤ 1152921504606846976) (h2 : -1152921504606846976 ≤ hi) (h3 : hi ≤ 1152921504606846976) :
    Calls Tryz.prog 41 #[.pointer (some ⟨g, 0, none⟩), .int .i64 lo, .int .i64 hi] w (vO B g v l w (fun r => lo ≤ r ∧ (r ≤ hi ∨ r = lo))) := by
  have z0 : -9223372036854775808 ≤ hi - lo + 1 := by omega
  have z1 : hi - lo + 1 ≤ 4611686018427387904 := by omega
  go_enter Tryz.func41, Tryz.ntmps41
  go_wp2_with fail
  refine (RA B g v l (hi - lo + 1) w h z1).mono ?_
  rintro e w1 ⟨r, rfl, ⟨p0, p1⟩, hc, hb⟩
  have z2 : -9223372036854775808 ≤ lo + r := by omega
  have z3 : lo + r ≤ 9223372036854775807 := by omega
  go_wp2
  go_ret
  exact ⟨lo + r, rfl, ⟨by omega, by omega⟩, hc, hb⟩
theorem VI (a b : Int) (w : World) :
    Calls Tryz.prog 106 #[.int .i64 a, .int .i64 b] w fun e w' => e = .returned (.int .i64 (min a b)) ∧ w = w' := by
  by_cases h : a < b
  · have e : min a b = a := by omega
    rw [e]
    go_enter Tryz.func106, Tryz.ntmps106
    go_wp2
    go_ret
    exact ⟨rfl, rfl⟩
  · have e : min a b = b := by omega
    rw [e]
    go_enter Tryz.func106, Tryz.ntmps106
    go_wp2
    go_ret
    exact ⟨rfl, rfl⟩
theorem wN {w : World} {g k : Nat} {t : TypeId} {cs : List Value} (h : Blk w g t cs) (hc : ∀ u ∈ cs, ∃ x, u = .int .i64 x ∧ nE x) (hk : k < cs.length) : ∃ x, nE x ∧ w.cell? ⟨g, k, none⟩ = some (.int .i64 x) := by
  obtain ⟨x, hx, hi⟩ := hc _ (List.getElem_mem hk)
  exact ⟨x, hi, by rw [h.cell, List.getElem?_eq_getElem hk, hx]⟩
theorem But.alloc {g : Nat} {w w' : World} (h : But g w w') (o : Obj) : But g w (w'.alloc o) := h.trans (But.of_below ((Below.refl _ _).alloc (Nat.le_refl _) o))
set_option maxRecDepth 100000 in
set_option maxHeartbeats 2000000 in
theorem EM (B g : Nat) (v : Value) (l : List Int) (w : World) (h : CurAt B g v l w) :
    Calls Tryz.prog 140 #[.pointer (some ⟨g, 0, none⟩)] w (vO B g v l w nE) := by
  have hg := h.lt
  have H := Lib.hid h
  clear h
  go_enter Tryz.func140, Tryz.ntmps140
  go_wp2_with fail
  have hc0 := H.out.below ((Below.refl _ _).alloc (Nat.le_refl _) (.cells #[.int .i64 (-1), .int .i64 0, .int .i64 1, .int .i64 2147483648, .int .i64 (-2147483648), .int .i64 1099511627776, .int .i64 4611686018427387904, .int .i64 (-4611686018427387904), .int .i64 9223372036854775807, .int .i64 (-9223372036854775808)] 2))
  refine (RA B g v l 10 _ hc0 (by omega)).mono ?_
  rintro e w1 ⟨r, rfl, ⟨p0, p1⟩, hc, hb⟩
  obtain ⟨k, rfl⟩ := Int.eq_ofNat_of_zero_le p0
  have i1 : (k : Int) < 10 := by omega
  have hB : Blk w1 w.heap.size 2 [.int .i64 (-1), .int .i64 0, .int .i64 1, .int .i64 2147483648, .int .i64 (-2147483648), .int .i64 1099511627776, .int .i64 4611686018427387904, .int .i64 (-4611686018427387904), .int .i64 9223372036854775807, .int .i64 (-9223372036854775808)] := hb.blk (heap_alloc_new w _) (by omega)
  obtain ⟨x, hx, A1⟩ := wN (k := k) hB (by
    intro u hu
    simp at hu
    rcases hu with rfl | rfl | rfl | rfl | rfl | rfl | rfl | rfl | rfl | rfl <;> exact ⟨_, rfl, by unfold nE; omega⟩) (by simp; omega)
  have HH := Lib.hid (And.intro hc (And.intro hb hx))
  clear hB hb hc hc0 p1
  go_wp2
  go_ret
  exact ⟨x, rfl, HH.out.2.2, HH.out.1, ((But.refl g w).alloc _).trans HH.out.2.1⟩
set_option maxRecDepth 100000 in
set_option maxHeartbeats 4000000 in
theorem QG (B g : Nat) (v : Value) (l : List Int) (most : Int) (w : World) (h : CurAt B g v l w) (m0 : 0 ≤ most) (m1 : most ≤ 1152921504606846976) :
    Calls Tryz.prog 108 #[.pointer (some ⟨g, 0, none⟩), .int .i64 most] w (vO B g v l w nE) := by
  have z0 : -9223372036854775808 ≤ most + 1 := by omega
  have z1 : most + 1 ≤ 4611686018427387904 := by omega
  go_enter Tryz.func108, Tryz.ntmps108
  go_wp2_with fail
  refine (QD B g v l 10 w h (by omega)).mono ?_
  rintro e w1 ⟨b, rfl, hc1, hb1⟩
  cases b
  · go_wp2_with fail
    refine (QD B g v l 2 w1 hc1 (by omega)).mono ?_
    rintro e w2 ⟨b, rfl, hc2, hb2⟩
    have hb2' := hb1.trans hb2
    cases b
    · go_wp2_with fail
      refine (RA B g v l (most + 1) w2 hc2 z1).mono ?_
      rintro e w3 ⟨r, rfl, ⟨p0, p1⟩, hc3, hb3⟩
      go_wp2
      go_ret
      exact ⟨r, rfl, ⟨by omega, by omega⟩, hc3, hb2'.trans hb3⟩
    · go_wp2_with fail
      refine (VI most 4 w2).mono ?_
      rintro e w2' ⟨rfl, rfl⟩
      have q0 : 0 ≤ min most 4 := by omega
      have q1 : min most 4 ≤ 4 := by omega
      generalize min most 4 = q at q0 q1 ⊢
      have z2 : -9223372036854775808 ≤ q + 1 := by omega
      have z3 : q + 1 ≤ 4611686018427387904 := by omega
      go_wp2_with fail
      refine (RA B g v l (q + 1) w2 hc2 z3).mono ?_
      rintro e w3 ⟨r, rfl, ⟨p0, p1⟩, hc3, hb3⟩
      go_wp2
      go_ret
      exact ⟨r, rfl, ⟨by omega, by omega⟩, hc3, hb2'.trans hb3⟩
  · go_wp2_with fail
    refine (EM B g v l w1 hc1).mono ?_
    rintro e w2 ⟨o, rfl, ho, hc2, hb2⟩
    have hg := hc2.lt
    have hb2' := hb1.trans hb2
    go_wp2_with fail
    have hc0 := hc2.below ((Below.refl _ _).alloc (Nat.le_refl _) (.cells #[.int .i64 (-1), .int .i64 most, .int .i64 (most + 1), .int .i64 o] 2))
    refine (RA B g v l 4 _ hc0 (by omega)).mono ?_
    rintro e w3 ⟨r, rfl, ⟨p0, p1⟩, hc, hb⟩
    obtain ⟨k, rfl⟩ := Int.eq_ofNat_of_zero_le p0
    have i1 : (k : Int) < 4 := by omega
    have hB : Blk w3 w2.heap.size 2 [.int .i64 (-1), .int .i64 most, .int .i64 (most + 1), .int .i64 o] := hb.blk (heap_alloc_new w2 _) (by omega)
    obtain ⟨x, hx, A1⟩ := wN (k := k) hB (by
      intro u hu
      simp at hu
      rcases hu with rfl | rfl | rfl | rfl
      · exact ⟨_, rfl, by unfold nE; omega⟩
      · exact ⟨_, rfl, by unfold nE; omega⟩
      · exact ⟨_, rfl, by unfold nE; omega⟩
      · exact ⟨_, rfl, ho⟩) (by simp; omega)
    have HH := Lib.hid (And.intro hc (And.intro (hb2'.trans (((But.refl g w2).alloc _).trans hb)) hx))
    clear hB hb hc hc0 p1
    go_wp2
    go_ret
    exact ⟨x, rfl, HH.out.2.2, HH.out.1, HH.out.2.1⟩
set_option maxRecDepth 100000 in
set_option maxHeartbeats 4000000 in
theorem UI (B : Nat) (v : Value) (l : List Int) (w : World) (h : Bts B w v l) (hl : l.length ≤ 4096) (hB : B ≤ w.heap.size) :
    Calls Tryz.prog 38 #[v] w fun e w' => ∃ g, e = .returned (.pointer (some ⟨g, 0, none⟩)) ∧ w.heap.size ≤ g ∧ CurAt B g v l w' ∧ Below w.heap.size w w' := by
  obtain ⟨⟨a, c, rfl, k1, m1, -⟩, -⟩ := id h
  have z0 : (l.length : Int) ≤ 4096 := by omega
  have H := Lib.hid h
  clear h
  go_enter Tryz.func38, Tryz.ntmps38
  go_wp2
  go_loop [3, 4] (fun q i => ∃ (k : Nat) (x : Int), k ≤ l.length ∧ i = .int .i64 k ∧ q = .int .i64 x ∧ 0 ≤ x ∧ x ≤ 1073741824) (fun _ i => l.length - (intOf i).toNat)
  case atStart => exact ⟨0, 480017 + (l.length : Int), Nat.zero_le _, rfl, rfl, by omega, by omega⟩
  case round =>
    obtain ⟨k, x, hk, rfl, rfl, x0, x1⟩ := hrel
    by_cases hlt : k < l.length
    · obtain ⟨b, off, y, rfl, hb, q0, q1, hy, A0⟩ := H.out.at hlt
      have j0 : (0 : Int) ≤ (k : Int) := by omega
      have j1 : (k : Int) < (l.length : Int) := by omega
      clear hy
      go_wp2
      refine ⟨⟨k + 1, _, by omega, by go_num, rfl, ?_, ?_⟩, by simp [intOf]; omega⟩
      · rw [AO]; omega
      · rw [AO]; omega
    · obtain rfl : k = l.length := by omega
      go_wp2
      go_ret
      refine ⟨_, rfl, Nat.le_refl _, ⟨hB, hl, H.out.below ((Below.refl _ _).alloc (Nat.le_refl _) _), 0, x, Nat.zero_le _, ⟨by omega, by omega⟩, heap_alloc_new w _⟩, (Below.refl _ _).alloc (Nat.le_refl _) _⟩
end Go.Proofs.YtfjafncipjdnfaaGreat
