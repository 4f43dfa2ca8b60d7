import Derived.Test.YtfjafncipjdnfaaGreatCur2
import Derived.Test.YtfjafncipjdnfaaGreatCall
import Derived.Laws.ResultCell
namespace Go.Proofs.YtfjafncipjdnfaaGreat
open Go.ChangeShapes Go.WideShapes Go.ChangeAt Go.RowKit
set_option linter.unusedVariables false
set_option linter.unusedSimpArgs false
def DiceAt (B g : Nat) (v : Value) (l : List Int) (w : World) : Prop :=
  B ≤ g ∧ l.length ≤ 4096 ∧ Bts B w v l ∧ ∃ (i : Nat) (h : Int), i ≤ l.length ∧ Blk w g 93 [v, iJ i, .int .u64 h]
theorem DiceAt.lt {B g : Nat} {v : Value} {l : List Int} {w : World} (h : DiceAt B g v l w) : g < w.heap.size := by
  obtain ⟨-, -, -, i, x, -, hb⟩ := h
  exact hb.lt
theorem DiceAt.below {B g : Nat} {v : Value} {l : List Int} {w w' : World} (h : DiceAt B g v l w) (hb : Below w.heap.size w w') : DiceAt B g v l w' := by
  have hl := h.lt
  obtain ⟨h1, h2, h3, i, x, h4, h6⟩ := h
  exact ⟨h1, h2, h3.below hb, i, x, h4, h6.below hb hl⟩
theorem DiceAt.but {B g k : Nat} {v : Value} {l : List Int} {w w' : World} (h : DiceAt B g v l w) (hb : But k w w') (hk : k ≠ g) (hB : B ≤ k) : DiceAt B g v l w' := by
  obtain ⟨h1, h2, h3, i, x, h4, h6⟩ := h
  exact ⟨h1, h2, h3.but hb hB, i, x, h4, hb.blk h6 (Ne.symm hk)⟩
theorem DiceAt.fresh {B g k : Nat} {v : Value} {l : List Int} {w : World} (h : DiceAt B g v l w) (hk : k ≠ g) (hB : B ≤ k) (i : Nat) (x : Value) : DiceAt B g v l (w.setCell ⟨k, i, none⟩ x) := h.but (But.set k i w x) hk hB
theorem But.fresh {g k : Nat} {w w1 : World} (h : But g w w1) (hk : w.heap.size ≤ k) (i : Nat) (v : Value) : But g w (w1.setCell ⟨k, i, none⟩ v) := by
  have hs := But.set k i w1 v
  exact ⟨hs.os.trans h.os, hs.tape.trans h.tape, hs.output.trans h.output, Nat.le_trans h.size hs.size, fun j hj hne => (hs.block j (Nat.lt_of_lt_of_le hj h.size) (by omega)).trans (h.block j hj hne)⟩
def Diced (B g : Nat) (v : Value) (l : List Int) (w : World) (P : Int → Prop) (e : Ending) (w' : World) : Prop := ∃ r : Int, e = .returned (iJ r) ∧ P r ∧ DiceAt B g v l w' ∧ But g w w'
theorem NP (n : Int) : 0 ≤ bits .and .u64 n 16777215 ∧ bits .and .u64 n 16777215 ≤ 16777215 := by
  have h127 : (BitVec.ofInt 64 16777215).toNat = 2 ^ 24 - 1 := by decide
  have key : (BitVec.ofInt 64 n &&& BitVec.ofInt 64 16777215).toNat = (n % ((2 ^ 64 : Nat) : Int)).toNat % 2 ^ 24 := by
    rw [BitVec.toNat_and, BitVec.toNat_ofInt, h127, Nat.and_two_pow_sub_one_eq_mod]
  show 0 ≤ IntKind.u64.wrap ((BitVec.ofInt 64 n &&& BitVec.ofInt 64 16777215).toNat : Nat) ∧ IntKind.u64.wrap ((BitVec.ofInt 64 n &&& BitVec.ofInt 64 16777215).toNat : Nat) ≤ 16777215
  rw [key]
  have : IntKind.u64.wrap (((n % ((2 ^ 64 : Nat) : Int)).toNat % 2 ^ 24 : Nat) : Int) = (((n % ((2 ^ 64 : Nat) : Int)).toNat % 2 ^ 24 : Nat) : Int) := by
    unfold IntKind.wrap
    simp [IntKind.signed, IntKind.bits]
    omega
  rw [this]
  omega
set_option maxRecDepth 100000 in
set_option maxHeartbeats 4000000 in
theorem VF (B g : Nat) (v : Value) (l : List Int) (n : Int) (w : World) (h : DiceAt B g v l w) (hn : 0 < n) (hn2 : n ≤ 1000000) :
    Calls Tryz.prog 28 #[.pointer (some ⟨g, 0, none⟩), iJ n] w (Diced B g v l w (fun r => 0 ≤ r ∧ r < n)) := by
  obtain ⟨h1, h2, h3, i, x, h4, h6⟩ := h
  obtain ⟨y0, y1, y2, yf⟩ := vE h6
  have H := Lib.hid (And.intro h3 h6)
  obtain ⟨⟨a, c, rfl, k1, m1, -⟩, -⟩ := id h3
  have hg := h6.lt
  have i1' : (l.length : Int) ≤ 4096 := by omega
  have i0 : (0 : Int) ≤ (i : Int) := by omega
  have n0 : ¬ n = 0 := by omega
  by_cases hi : i < l.length
  · obtain ⟨b, off, y, rfl, hb, q0, q1, hy, A0⟩ := h3.at hi
    have i1 : (i : Int) < (l.length : Int) := by omega
    clear h6 h3 hy
    go_enter Tryz.func28, Tryz.ntmps28
    go_wp2
    have hu := NP (IntKind.u64.wrap (IntKind.u64.wrap (x * 6364136223846793005) + 1442695040888963407) / 8589934592)
    have hw64 : wrap64 (bits BinOp.and IntKind.u64 (IntKind.u64.wrap (IntKind.u64.wrap (x * 6364136223846793005) + 1442695040888963407) / 8589934592) 16777215) = bits BinOp.and IntKind.u64 (IntKind.u64.wrap (IntKind.u64.wrap (x * 6364136223846793005) + 1442695040888963407) / 8589934592) 16777215 := by unfold wrap64; omega
    rw [hw64]
    clear hw64
    generalize bits BinOp.and IntKind.u64 (IntKind.u64.wrap (IntKind.u64.wrap (x * 6364136223846793005) + 1442695040888963407) / 8589934592) 16777215 = u at hu ⊢
    generalize IntKind.u64.wrap (IntKind.u64.wrap (x * 6364136223846793005) + 1442695040888963407) / 8589934592 = u'
    generalize IntKind.u64.wrap (IntKind.u64.wrap (x * 6364136223846793005) + 1442695040888963407) = z
    generalize hW : w.setCell ⟨g, 2, none⟩ (.int .u64 z) = w1
    have hw1 : But g w w1 := by rw [← hW]; exact But.set _ _ _ _
    have hB1 : Blk w1 g 93 [.slice (some ⟨b, off, none⟩) l.length c, iJ i, .int .u64 z] := by
      rw [← hW]
      have := H.out.2.set 2 (.int .u64 z)
      simpa using this
    have h3' := H.out.1.but hw1 h1
    have A1 : w1.cell? ⟨b, off + i, none⟩ = some (.int .u8 y) := by
      rw [World.cell?_of_block (hw1.block b (by omega) (by omega))]
      exact A0
    clear y0 y1 y2 yf A0 H hW
    obtain ⟨y0, y1, y2, yf⟩ := vE hB1
    have H := Lib.hid (And.intro h3' (And.intro hB1 hw1))
    clear h3' hB1 hw1
    go_region
    go_wp2
    go_region
    go_wp2
    have r0 : 0 ≤ (u + y) % n := Int.emod_nonneg _ n0
    have r1 : (u + y) % n < n := Int.emod_lt_of_pos _ hn
    go_ret
    refine ⟨(u + y) % n, rfl, ⟨r0, r1⟩, ?_, ?_⟩
    · have hs := But.set g 1 w1.drew.drew (iJ ((i : Int) + 1))
      refine ⟨h1, h2, (H.out.1.drew.drew).but hs h1, i + 1, z, by omega, ?_⟩
      exact Blk.set (w := w1.drew.drew) H.out.2.1 1 (iJ ((i : Int) + 1))
    · exact H.out.2.2.drew.drew.trans (But.set g 1 _ _)
  · have i1 : ¬ (i : Int) < (l.length : Int) := by omega
    clear h6 h3
    go_enter Tryz.func28, Tryz.ntmps28
    go_wp2
    have hu := NP (IntKind.u64.wrap (IntKind.u64.wrap (x * 6364136223846793005) + 1442695040888963407) / 8589934592)
    have hw64 : wrap64 (bits BinOp.and IntKind.u64 (IntKind.u64.wrap (IntKind.u64.wrap (x * 6364136223846793005) + 1442695040888963407) / 8589934592) 16777215) = bits BinOp.and IntKind.u64 (IntKind.u64.wrap (IntKind.u64.wrap (x * 6364136223846793005) + 1442695040888963407) / 8589934592) 16777215 := by unfold wrap64; omega
    rw [hw64]
    clear hw64
    generalize bits BinOp.and IntKind.u64 (IntKind.u64.wrap (IntKind.u64.wrap (x * 6364136223846793005) + 1442695040888963407) / 8589934592) 16777215 = u at hu ⊢
    generalize IntKind.u64.wrap (IntKind.u64.wrap (x * 6364136223846793005) + 1442695040888963407) / 8589934592 = u'
    generalize IntKind.u64.wrap (IntKind.u64.wrap (x * 6364136223846793005) + 1442695040888963407) = z
    generalize hW : w.setCell ⟨g, 2, none⟩ (.int .u64 z) = w1
    have hw1 : But g w w1 := by rw [← hW]; exact But.set _ _ _ _
    have hB1 : Blk w1 g 93 [.slice a l.length c, iJ i, .int .u64 z] := by
      rw [← hW]
      have := H.out.2.set 2 (.int .u64 z)
      simpa using this
    have h3' := H.out.1.but hw1 h1
    clear y0 y1 y2 yf H hW
    obtain ⟨y0, y1, y2, yf⟩ := vE hB1
    have H := Lib.hid (And.intro h3' (And.intro hB1 hw1))
    clear h3' hB1 hw1
    go_region
    go_wp2
    go_ret
    exact ⟨u % n, rfl, ⟨Int.emod_nonneg _ n0, Int.emod_lt_of_pos _ hn⟩, ⟨h1, h2, H.out.1.drew, i, z, by omega, H.out.2.1⟩, H.out.2.2.drew⟩
set_option maxRecDepth 100000 in
set_option maxHeartbeats 4000000 in
theorem tO (B : Nat) (v : Value) (l : List Int) (s : Int) (w : World) (h : Bts B w v l) (hl : l.length ≤ 4096) (hB : B ≤ w.heap.size) :
    Calls Tryz.prog 26 #[v, .int .u64 s] w fun e w' => ∃ g, e = .returned (.pointer (some ⟨g, 0, none⟩)) ∧ w.heap.size ≤ g ∧ DiceAt B g v l w' ∧ Below w.heap.size w w' := by
  obtain ⟨⟨a, c, rfl, k1, m1, -⟩, -⟩ := id h
  have z0 : (l.length : Int) ≤ 4096 := by omega
  have H := Lib.hid h
  clear h
  go_enter Tryz.func26, Tryz.ntmps26
  go_wp2
  go_loopw [6] (fun i wr => ∃ (k : Nat) (x : Int), k ≤ l.length ∧ i = iJ k ∧ Hid (Blk wr w.heap.size 93 [.slice a l.length c, iJ 0, .int .u64 x] ∧ Below w.heap.size w wr)) (fun i _ => l.length - (intOf i).toNat)
  case atStart => exact ⟨0, _, Nat.zero_le _, rfl, Lib.hid ⟨heap_alloc_new w _, (Below.refl _ _).alloc (Nat.le_refl _) _⟩⟩
  case round =>
    obtain ⟨k, x, hk, rfl, hH⟩ := hrel
    by_cases hlt : k < l.length
    · obtain ⟨b, off, y, rfl, hb, q0, q1, hy, A0⟩ := (H.out.below (hH.out.2.mono (Nat.le_refl _))).at hlt
      obtain ⟨y0, y1, y2, yf⟩ := vE hH.out.1
      have j0 : (0 : Int) ≤ (k : Int) := by omega
      have j1 : (k : Int) < (l.length : Int) := by omega
      clear hy
      go_wp2
      go_region
      go_wp2
      refine ⟨⟨k + 1, _, by omega, by go_num, Lib.hid ⟨hH.out.1.set 2 (.int .u64 _), (hH.out.2.setCell (Nat.le_refl _) _).drew⟩⟩, by simp [intOf]; omega⟩
    · obtain rfl : k = l.length := by omega
      go_wp2
      go_ret
      exact ⟨_, rfl, Nat.le_refl _, ⟨hB, hl, H.out.below (hH.out.2.mono (Nat.le_refl _)), 0, x, Nat.zero_le _, hH.out.1⟩, hH.out.2⟩
end Go.Proofs.YtfjafncipjdnfaaGreat
