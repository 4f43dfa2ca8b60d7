/- The laws' own helpers over slices of int64: eqInt64S, markInt64S, heldInt64S. -/
import Derived.Test.YthllpgjggmdmmaaOwnR
namespace Go.Proofs.Ythllpgjggmdmmaa
open Go.ChangeShapes Go.WideShapes Go.ChangeAt Go.RowKit
set_option linter.unusedVariables false
set_option linter.unusedSimpArgs false

def cellsI (l : List Int) : List Value := l.map (Value.int .i64)
theorem cellsI_len (l : List Int) : (cellsI l).length = l.length := by simp [cellsI]
theorem cellsI_get {l : List Int} {k : Nat} {n : Int} (h : l[k]? = some n) : (cellsI l)[k]? = some (.int .i64 n) := by simp [cellsI, h]
theorem cellsI_snoc (l : List Int) (n : Int) : cellsI (l ++ [n]) = cellsI l ++ [.int .i64 n] := by simp [cellsI]
def SlI (w : World) (v : Value) (l : List Int) : Prop := Sl w v 1 l.length (cellsI l)
theorem SlI.below {w w' : World} {v : Value} {l : List Int} (h : SlI w v l) (hb : Below w.heap.size w w') : SlI w' v l := Sl.below (by omega) h hb
theorem SlI.at {w : World} {v : Value} {l : List Int} (h : SlI w v l) (hn : l ≠ []) : ∃ b off cap, v = .slice (some ⟨b, off, none⟩) l.length cap ∧ l.length ≤ cap ∧ cap ≤ maxLen ∧ b < w.heap.size ∧ ∀ k n, l[k]? = some n → w.cell? ⟨b, off + k, none⟩ = some (.int .i64 n) := by
  obtain ⟨a, cap, rfl, h1, h2, h3, h4⟩ := h
  have hlen : 0 < l.length := List.length_pos_iff.2 hn
  rcases h4 with h4 | ⟨b, off, rfl, hc⟩
  · omega
  · have key : ∀ k n, l[k]? = some n → w.cell? ⟨b, off + k, none⟩ = some (.int .i64 n) := fun k n hk => by
      rw [hc k (by rw [cellsI_len]; exact (List.getElem?_eq_some_iff.1 hk).1), cellsI_get hk]
    refine ⟨b, off, cap, rfl, h1, h2, ?_, key⟩
    exact World.block_lt_of_cell? w ⟨b, _, none⟩ (key 0 _ (List.getElem?_eq_getElem hlen))
theorem SlI.nil {w : World} {v : Value} (h : SlI w v []) : ∃ a cap, v = .slice a 0 cap := by
  obtain ⟨a, cap, rfl, _⟩ := h
  exact ⟨a, cap, rfl⟩

set_option maxHeartbeats 1000000 in
theorem eqInt64S_same (v1 v2 : Value) (l : List Int) (w : World) (h1 : SlI w v1 l) (h2 : SlI w v2 l) :
    Calls Try.prog 30 #[v1, v2] w fun e w' => e = .returned (.bool true) ∧ Below w.heap.size w w' := by
  by_cases hn : l = []
  · subst hn
    obtain ⟨a1, c1, rfl⟩ := h1.nil
    obtain ⟨a2, c2, rfl⟩ := h2.nil
    clear h1 h2
    go_enter Try.func30, Try.ntmps30
    go_wp2
    go_loopw [5] (fun i wr => i = .int .i64 0 ∧ Below w.heap.size w wr) (fun i _ => 0)
    case atStart => exact ⟨rfl, Below.refl _ _⟩
    case round =>
      obtain ⟨rfl, hb⟩ := hrel
      go_wp2
      go_ret
      exact ⟨rfl, hb⟩
  · obtain ⟨b1, o1, c1, rfl, k1, m1, s1, H1⟩ := h1.at hn
    obtain ⟨b2, o2, c2, rfl, k2, m2, s2, H2⟩ := h2.at hn
    unfold maxLen at m1 m2
    clear h1 h2
    go_enter Try.func30, Try.ntmps30
    go_wp2
    go_loopw [5] (fun i wr => ∃ k : Nat, k ≤ l.length ∧ i = .int .i64 k ∧ Below w.heap.size w wr) (fun i _ => l.length - (intOf i).toNat)
    case atStart => exact ⟨0, Nat.zero_le _, rfl, Below.refl _ _⟩
    case round =>
      obtain ⟨k, hk, rfl, hb⟩ := hrel
      by_cases hlt : k < l.length
      · obtain ⟨n, hg⟩ : ∃ n, l[k]? = some n := ⟨_, List.getElem?_eq_getElem hlt⟩
        have A1 : wr.cell? ⟨b1, o1 + k, none⟩ = some (.int .i64 n) := (hb.cell (p := ⟨b1, o1 + k, none⟩) s1).trans (H1 k n hg)
        have A2 : wr.cell? ⟨b2, o2 + k, none⟩ = some (.int .i64 n) := (hb.cell (p := ⟨b2, o2 + k, none⟩) s2).trans (H2 k n hg)
        have i0 : (0 : Int) ≤ (k : Int) := by omega
        have i1 : (k : Int) < (l.length : Int) := by omega
        clear hg H1 H2
        have HB := Lib.hid hb
        clear hb
        go_wp2
        go_region_held3 (fun w' => w'.cell? ⟨b1, o1 + k, none⟩ = some (.int .i64 n) ∧ w'.cell? ⟨b2, o2 + k, none⟩ = some (.int .i64 n)) (go_keep) (fail)
        go_wp2
        go_roundw
        case rel => exact ⟨k + 1, by omega, by go_num, by repeat (first | exact HB.out | refine Below.drew ?_)⟩
        case measure => simp [intOf]; omega
      · obtain rfl : k = l.length := by omega
        clear H1 H2
        go_wp2
        go_ret
        exact ⟨rfl, hb⟩

/-! ### mark, held -/
def markLI (k : Int) : Nat → List Int
  | 0 => []
  | n + 1 => k :: markLI (k + 1) n
theorem markLI_len (k : Int) (n : Nat) : (markLI k n).length = n := by
  induction n generalizing k with
  | zero => rfl
  | succ n ih => simp [markLI, ih]
theorem markLI_get (k : Int) (n i : Nat) (h : i < n) : (markLI k n)[i]? = some (k + i) := by
  induction n generalizing k i with
  | zero => omega
  | succ n ih =>
    cases i with
    | zero => simp [markLI]
    | succ i =>
      simp only [markLI, List.getElem?_cons_succ]
      rw [ih (k + 1) i (by omega)]
      congr 1
      omega
theorem markLI_snoc (k : Int) (n : Nat) : markLI k (n + 1) = markLI k n ++ [k + n] := by
  induction n generalizing k with
  | zero => simp [markLI]
  | succ n ih =>
    rw [markLI, ih (k + 1)]
    simp only [markLI, List.cons_append]
    congr 3
    omega
def MarkToI (w : World) (g n : Nat) (m : Int) (k : Nat) (wr : World) : Prop := But g w wr ∧ ∃ R, n - k ≤ R.length ∧ Blk wr g 2 (cellsI (markLI m k) ++ R)
theorem MarkToI.room {w : World} {g n : Nat} {m : Int} {k : Nat} {wr : World} (h : MarkToI w g n m k wr) (hk : k < n) : ∃ x0, wr.cell? ⟨g, k, none⟩ = some x0 ∧ ∀ i, wr.frozen? ⟨g, i, none⟩ = false := by
  obtain ⟨h1, R, hR, hblk⟩ := h
  have hk8 : (cellsI (markLI m k)).length = k := by rw [cellsI_len, markLI_len]
  match R, hR with
  | [], hR => simp at hR; omega
  | x :: T, _ =>
    refine ⟨x, ?_, fun i => hblk.free i⟩
    have := Blk.there (X := [x]) (R := T) (p := k) (by simpa using hblk) hk8 0 (by simp)
    simpa using this
theorem MarkToI.step {w : World} {g n : Nat} {m : Int} {k : Nat} {wr : World} (h : MarkToI w g n m k wr) (hk : k < n) : MarkToI w g n m (k + 1) (wr.setCell ⟨g, k, none⟩ (.int .i64 (m + k))) := by
  obtain ⟨h1, R, hR, hblk⟩ := h
  have hk8 : (cellsI (markLI m k)).length = k := by rw [cellsI_len, markLI_len]
  match R, hR with
  | [], hR => simp at hR; omega
  | x :: T, hR =>
    refine ⟨h1.trans (But.set g k wr _), T, by simp at hR; omega, ?_⟩
    have := Blk.setRow (p := k) (A := cellsI (markLI m k)) (X := [x]) (R := T) [.int .i64 (m + k)] (by simpa using hblk) hk8 rfl
    rw [markLI_snoc, cellsI_snoc]
    simpa [setRow] using this

set_option maxHeartbeats 2000000 in
theorem markInt64S_own (v : Value) (g n : Nat) (cs : List Value) (m : Int) (w : World) (h : Own0 w v g 2 1 n cs) (hn : n ≤ 1048576) (m0 : 0 ≤ m) (m1 : m ≤ 1099511627776) :
    Calls Try.prog 33 #[v, .int .i64 m] w fun e w' => e = .returned (.int .i64 (m + n)) ∧ Own0 w' v g 2 1 n (cellsI (markLI m n)) ∧ But g w w' := by
  obtain ⟨cap, sp, rfl, k1, hm1, h3, h4⟩ := h
  have hM0 : MarkToI w g n m 0 w := ⟨But.refl _ _, cs ++ sp, by simp; omega, by simpa [cellsI, markLI] using h4⟩
  have hm2 := hm1
  unfold maxLen at hm2
  clear h4 h3
  go_enter Try.func33, Try.ntmps33
  go_wp2
  go_loopw [1, 5] (fun q i wr => ∃ k : Nat, k ≤ n ∧ i = .int .i64 k ∧ q = .int .i64 (m + k) ∧ MarkToI w g n m k wr) (fun _ i _ => n - (intOf i).toNat)
  case atStart => exact ⟨0, Nat.zero_le _, rfl, by simp, hM0⟩
  case round =>
    obtain ⟨k, hk, rfl, hq, hM⟩ := hrel
    by_cases hlt : k < n
    · obtain ⟨x0, y0, yf⟩ := hM.room hlt
      have j0 : (0 : Int) ≤ (k : Int) := by omega
      have j1 : (k : Int) < (n : Int) := by omega
      have HM := Lib.hid hM
      obtain ⟨z, hz⟩ : ∃ z : Int, z = m + k := ⟨_, rfl⟩
      rw [← hz] at hq
      subst hq
      have z0 : 0 ≤ z := by omega
      have z1 : z ≤ 2199023255552 := by omega
      have HZ := Lib.hid hz
      clear hM hz
      go_wp2
      obtain rfl := HZ.out
      exact ⟨⟨k + 1, by omega, by go_num, val_i (by omega), HM.out.step hlt⟩, by simp [intOf]; omega⟩
    · obtain rfl : k = n := by omega
      subst hq
      have z0 : 0 ≤ m + (k : Int) := by omega
      have z1 : m + (k : Int) ≤ 2199023255552 := by omega
      go_wp2
      go_ret
      obtain ⟨q1, R, hR, hblk⟩ := hM
      exact ⟨rfl, ⟨cap, R, rfl, k1, hm1, by rw [cellsI_len, markLI_len]; omega, hblk⟩, q1⟩
set_option maxHeartbeats 1000000 in
theorem markInt64S_nil (a : Option Addr) (c : Nat) (m : Int) (w : World) (m0 : 0 ≤ m) (m1 : m ≤ 1099511627776) :
    Calls Try.prog 33 #[.slice a 0 c, .int .i64 m] w fun e w' => e = .returned (.int .i64 m) ∧ Below w.heap.size w w' := by
  go_enter Try.func33, Try.ntmps33
  go_wp2
  go_loopw [1, 5] (fun q i wr => i = .int .i64 0 ∧ q = .int .i64 m ∧ Below w.heap.size w wr) (fun _ i _ => 0)
  case atStart => exact ⟨rfl, rfl, Below.refl _ _⟩
  case round =>
    obtain ⟨rfl, rfl, hb⟩ := hrel
    go_wp2
    go_ret
    exact ⟨rfl, hb⟩
set_option maxRecDepth 100000 in
set_option maxHeartbeats 2000000 in
theorem heldInt64S_same (v : Value) (n : Nat) (m : Int) (w : World) (h : SlI w v (markLI m n)) (hn : n ≤ 1048576) (m0 : 0 ≤ m) (m1 : m ≤ 1099511627776) :
    Calls Try.prog 35 #[v, .int .i64 m] w fun e w' => e = .returned (.int .i64 (m + n)) ∧ w = w' := by
  by_cases h0 : n = 0
  · subst h0
    obtain ⟨a1, c1, rfl⟩ := h.nil
    clear h hn
    go_enter Try.func35, Try.ntmps35
    go_wp2
    go_loop [1, 5] (fun q i => i = .int .i64 0 ∧ q = .int .i64 m) (fun _ i => 0)
    case atStart => exact ⟨rfl, rfl⟩
    case round =>
      obtain ⟨rfl, rfl⟩ := hrel
      go_wp2
      go_ret
      exact ⟨ret_i (by omega), rfl⟩
  · obtain ⟨b1, o1, c1, rfl, k1, mm1, s1, H1⟩ := h.at (by intro e; have := markLI_len m n; rw [e] at this; simp at this; omega)
    rw [markLI_len] at k1 ⊢
    unfold maxLen at mm1
    clear h
    go_enter Try.func35, Try.ntmps35
    go_wp2
    go_loop [1, 5] (fun q i => ∃ k : Nat, k ≤ n ∧ i = .int .i64 k ∧ q = .int .i64 (m + k)) (fun _ i => n - (intOf i).toNat)
    case atStart => exact ⟨0, Nat.zero_le _, rfl, by simp⟩
    case round =>
      obtain ⟨k, hk, rfl, hq⟩ := hrel
      by_cases hlt : k < n
      · have A1 := H1 k _ (markLI_get m n k hlt)
        have j0 : (0 : Int) ≤ (k : Int) := by omega
        have j1 : (k : Int) < (n : Int) := by omega
        obtain ⟨z, hz⟩ : ∃ z : Int, z = m + k := ⟨_, rfl⟩
        rw [← hz] at hq A1
        subst hq
        have z0 : 0 ≤ z := by omega
        have z1 : z ≤ 2199023255552 := by omega
        have HZ := Lib.hid hz
        clear hz H1
        go_wp2
        obtain rfl := HZ.out
        exact ⟨⟨k + 1, by omega, by go_num, val_i (by omega)⟩, by simp [intOf]; omega⟩
      · obtain rfl : k = n := by omega
        subst hq
        have z0 : 0 ≤ m + (k : Int) := by omega
        have z1 : m + (k : Int) ≤ 2199023255552 := by omega
        clear H1
        go_wp2
        go_ret
        exact ⟨rfl, rfl⟩

/-! ### toInt64S -/
theorem infoI64 : (Try.prog.info? 2).map (fun i => (i.zero, i.size, i.bytes)) = some (some (.int .i64 0), 1, 8) := by kernel_rfl
def MadeI (w : World) (l : List Int) (g k : Nat) (wr : World) : Prop := Below w.heap.size w wr ∧ w.heap.size ≤ g ∧ ∃ R, R.length = l.length - k ∧ Blk wr g 2 (cellsI (l.take k) ++ R)
theorem MadeI.room {w : World} {l : List Int} {g k : Nat} {wr : World} (h : MadeI w l g k wr) (hk : k < l.length) : ∃ x0, wr.cell? ⟨g, k, none⟩ = some x0 ∧ ∀ i, wr.frozen? ⟨g, i, none⟩ = false := by
  obtain ⟨h1, h2, R, hR, hblk⟩ := h
  have hk8 : (cellsI (l.take k)).length = k := by rw [cellsI_len, List.length_take]; omega
  match R, hR with
  | [], hR => simp at hR; omega
  | x :: T, _ =>
    refine ⟨x, ?_, fun i => hblk.free i⟩
    have := Blk.there (X := [x]) (R := T) (p := k) (by simpa using hblk) hk8 0 (by simp)
    simpa using this
theorem MadeI.step {w : World} {l : List Int} {g k : Nat} {wr : World} {n : Int} (h : MadeI w l g k wr) (hn : l[k]? = some n) : MadeI w l g (k + 1) (wr.setCell ⟨g, k, none⟩ (.int .i64 n)) := by
  have hk : k < l.length := (List.getElem?_eq_some_iff.1 hn).1
  obtain ⟨h1, h2, R, hR, hblk⟩ := h
  have hk8 : (cellsI (l.take k)).length = k := by rw [cellsI_len, List.length_take]; omega
  match R, hR with
  | [], hR => simp at hR; omega
  | x :: T, hR =>
    refine ⟨h1.setCell h2 _, h2, T, by simp at hR; omega, ?_⟩
    have := Blk.setRow (p := k) (A := cellsI (l.take k)) (X := [x]) (R := T) [.int .i64 n] (by simpa using hblk) hk8 rfl
    have e : cellsI (l.take (k + 1)) = cellsI (l.take k) ++ [.int .i64 n] := by rw [List.take_add_one, hn]; simp [cellsI]
    rw [e]
    simpa [setRow] using this
theorem MadeI.done {w : World} {l : List Int} {g : Nat} {wr : World} (h : MadeI w l g l.length wr) (hm : l.length ≤ maxLen) : Own wr (.slice (some ⟨g, 0, none⟩) l.length l.length) g 2 1 l.length (cellsI l) ∧ w.heap.size ≤ g ∧ Below w.heap.size w wr := by
  obtain ⟨h1, h2, R, hR, hblk⟩ := h
  rw [List.take_length] at hblk
  exact ⟨⟨_, R, rfl, Nat.le_refl _, hm, ⟨by rw [cellsI_len]; omega, by rw [List.length_append, cellsI_len]; omega⟩, hblk⟩, h2, h1⟩
theorem MadeI.start {w w1 : World} {n : Nat} (l : List Int) {xs : List Value} (hn : l.length = n) (hown : w1.ownsRow w.heap.size 2 1 (.slice (some ⟨w.heap.size, 0, none⟩) n n) n xs) (hg : w.grownBy w1 none) : MadeI w l w.heap.size 0 w1 := by
  subst hn
  obtain ⟨cap, sp, hv, h1, h2, h3, h4⟩ := own_of_row hown
  simp only [Value.slice.injEq, true_and] at hv
  obtain rfl := hv
  refine ⟨⟨hg.os, hg.tape, hg.output, hg.size, fun k hk => hg.block k hk (by simp)⟩, Nat.le_refl _, xs ++ sp, ?_, by simpa [cellsI] using h4⟩
  have h5 := hown
  obtain ⟨hx, h | ⟨g', cap', cur, hv, hb, hh, q1, q2, q3, q4⟩⟩ := h5
  · simp at h
  · simp only [Value.slice.injEq, Option.some.injEq, Addr.mk.injEq, and_true, true_and] at hv
    obtain ⟨rfl, rfl⟩ := hv
    have e : cur = (xs ++ sp).toArray := by
      have := hh.symm.trans h4
      simpa using this
    have hs : (xs ++ sp).length = cur.size := by rw [e]; simp
    rw [hs, q3]
    omega
/-- A slice of integers in a block of its own that reads as 'l'. -/
def FreshI (w : World) (l : List Int) (e : Ending) (w' : World) : Prop := ∃ g v, e = .returned v ∧ w.heap.size ≤ g ∧ Own w' v g 2 1 l.length (cellsI l) ∧ Below w.heap.size w w'

set_option maxHeartbeats 1000000 in
theorem toInt64S_any (v : Value) (l : List Int) (w : World) (h : SlI w v l) (hl : l.length ≤ 1048576) :
    Calls Try.prog 24 #[v] w (FreshI w l) := by
  obtain ⟨i0, hi, hz0, hz1, hz2⟩ := info_parts infoI64
  by_cases hn : l = []
  · subst hn
    obtain ⟨a1, c1, rfl⟩ := h.nil
    clear h hl
    go_enter Try.func24, Try.ntmps24
    go_wp2_with (at_make; refine wpList_make_full _ rfl _ _ 23 rfl w.heap.size 2 i0 _ 1 Try.underlying23 hi hz0 hz1 _ _ _ _ 0 rfl rfl rfl rfl (by omega) (by simp [maxLen]) (Nat.le_refl _) ?_; intro w1 hown hgrow)
    have hM := MadeI.start [] rfl hown hgrow
    clear hi hz0 hz1 hz2 hown hgrow
    go_loopw [4] (fun i wr => i = .int .i64 0 ∧ MadeI w [] w.heap.size 0 wr) (fun i _ => 0)
    case atStart => exact ⟨rfl, hM⟩
    case round =>
      obtain ⟨rfl, hM⟩ := hrel
      go_wp2
      go_ret
      obtain ⟨q1, q2, q3⟩ := MadeI.done hM (by simp)
      exact ⟨_, _, rfl, q2, q1, q3⟩
  · obtain ⟨b1, o1, c1, rfl, k1, m1, s1, H1⟩ := h.at hn
    have hl2 : 8 * l.length ≤ 281474976710656 := by omega
    have hl3 : l.length ≤ maxLen := by unfold maxLen; omega
    clear h
    go_enter Try.func24, Try.ntmps24
    go_wp2_with (at_make; refine wpList_make_full _ rfl _ _ 23 rfl w.heap.size 2 i0 _ 1 Try.underlying23 hi hz0 hz1 _ _ _ _ l.length rfl rfl rfl rfl (by rw [hz2]; exact hl2) hl3 (Nat.le_refl _) ?_; intro w1 hown hgrow)
    have hM := MadeI.start l rfl hown hgrow
    clear hi hz0 hz1 hz2 hown hgrow
    go_loopw [4] (fun i wr => ∃ k : Nat, k ≤ l.length ∧ i = .int .i64 k ∧ MadeI w l w.heap.size k wr) (fun i _ => l.length - (intOf i).toNat)
    case atStart => exact ⟨0, Nat.zero_le _, rfl, hM⟩
    case round =>
      obtain ⟨k, hk, rfl, hM⟩ := hrel
      by_cases hlt : k < l.length
      · obtain ⟨n, hg⟩ : ∃ n, l[k]? = some n := ⟨_, List.getElem?_eq_getElem hlt⟩
        have A1 : wr.cell? ⟨b1, o1 + k, none⟩ = some (.int .i64 n) := (hM.1.cell (p := ⟨b1, o1 + k, none⟩) s1).trans (H1 k n hg)
        have j0 : (0 : Int) ≤ (k : Int) := by omega
        have j1 : (k : Int) < (l.length : Int) := by omega
        obtain ⟨x0, y0, yf⟩ := hM.room hlt
        have HH := Lib.hid (And.intro hM hg)
        clear hM hg H1 k1 m1 hl2 hl3
        go_wp2
        exact ⟨⟨k + 1, by omega, by go_num, HH.out.1.step HH.out.2⟩, by simp [intOf]; omega⟩
      · obtain rfl : k = l.length := by omega
        clear H1
        go_wp2
        go_ret
        obtain ⟨q1, q2, q3⟩ := hM.done hl3
        exact ⟨_, _, rfl, q2, q1, q3⟩

/-! ### What a call answers -/
/-- Likewise, and a bool. -/
def SaysIB (r : List Int × Bool) (w : World) (e : Ending) (w' : World) : Prop :=
  ∃ u, e = .returned (.tuple #[u, .bool r.2]) ∧ OwnR w' w.heap.size w'.heap.size 2 1 r.1.length (cellsI r.1) u ∧ Below w.heap.size w w'
end Go.Proofs.Ythllpgjggmdmmaa
