/- The laws' own helpers over slices of nodes: szNodeS, toNodeS, markNodeS, heldNodeS. -/
import Derived.Test.YthllpgjggmdmmaaList
namespace Go.Proofs.Ythllpgjggmdmmaa
open Go.ChangeShapes Go.WideShapes Go.ChangeAt Go.RowKit
set_option linter.unusedVariables false
set_option linter.unusedSimpArgs false

/-- The cells from 'p' on, written one after the other. -/
def setRow (w : World) (g p : Nat) : List Value → World
  | [] => w
  | v :: r => setRow (w.setCell ⟨g, p, none⟩ v) g (p + 1) r
theorem setRow_but (g : Nat) : ∀ (vs : List Value) (w : World) (p : Nat), But g w (setRow w g p vs)
  | [], w, p => But.refl g w
  | v :: r, w, p => (But.set g p w v).trans (setRow_but g r _ (p + 1))
theorem Blk.setRow {g : Nat} {e : TypeId} : ∀ (vs : List Value) {w : World} {p : Nat} {A X R : List Value}, Blk w g e (A ++ (X ++ R)) → A.length = p → X.length = vs.length → Blk (Ythllpgjggmdmmaa.setRow w g p vs) g e (A ++ (vs ++ R))
  | [], w, p, A, X, R, h, hp, hx => by
    obtain rfl : X = [] := List.length_eq_zero_iff.1 hx
    exact h
  | v :: r, w, p, A, [], R, h, hp, hx => by simp at hx
  | v :: r, w, p, A, x :: X, R, h, hp, hx => by
    have h0 := h.set p v
    have e1 : (A ++ (x :: X ++ R)).set p v = (A ++ [v]) ++ (X ++ R) := by
      subst hp
      rw [List.set_append_right _ _ (Nat.le_refl _)]
      simp
    rw [e1] at h0
    have h1 := Blk.setRow r (p := p + 1) h0 (by simp [hp]) (by simpa using hx)
    have e2 : A ++ (v :: r ++ R) = (A ++ [v]) ++ (r ++ R) := by simp
    rw [e2]
    exact h1
theorem Blk.there {w : World} {g p : Nat} {e : TypeId} {A X R : List Value} (h : Blk w g e (A ++ (X ++ R))) (hp : A.length = p) (j : Nat) (hj : j < X.length) : w.cell? ⟨g, p + j, none⟩ = X[j]? := by
  rw [h.cell, List.getElem?_append_right (by omega), List.getElem?_append_left (by omega), show p + j - A.length = j by omega]
theorem eight {α : Type} {R : List α} (h : 8 ≤ R.length) : ∃ a b c d e f g i T, R = [a, b, c, d, e, f, g, i] ++ T := by
  match R, h with
  | a :: b :: c :: d :: e :: f :: g :: i :: T, _ => exact ⟨a, b, c, d, e, f, g, i, T, rfl⟩

/-! ### szNodeS -/
set_option maxHeartbeats 400000 in
theorem szNodeS_in (a : Option Addr) (len cap : Nat) (left : Nat) (w : World) (h : len ≤ left) (hl : left ≤ 1048576) :
    Calls Try.prog 13 #[.slice a len cap, .int .i64 left] w fun e w' => e = .returned (.int .i64 ((left : Int) - len)) ∧ w = w' := by
  have g0 : ¬ ((left : Int) - (len : Int) < 0) := by omega
  have g1 : 0 ≤ (left : Int) - (len : Int) := by omega
  have g2 : (left : Int) - (len : Int) ≤ 1048576 := by omega
  go_enter Try.func13, Try.ntmps13
  go_wp2
  go_ret
  exact ⟨rfl, rfl⟩
set_option maxHeartbeats 400000 in
theorem szNodeS_out (a : Option Addr) (len cap : Nat) (left : Nat) (w : World) (h : left < len) (hl : left ≤ 1048576) (hm : len ≤ maxLen) :
    Calls Try.prog 13 #[.slice a len cap, .int .i64 left] w fun e w' => e = .returned (.int .i64 (-1)) ∧ w = w' := by
  unfold maxLen at hm
  have g0 : (left : Int) - (len : Int) < 0 := by omega
  have g1 : -9223372036854775807 ≤ (left : Int) - (len : Int) := by omega
  go_enter Try.func13, Try.ntmps13
  go_wp2
  go_ret
  exact ⟨rfl, rfl⟩

/-! ### toNodeS -/
theorem infoNode : (Try.prog.info? 52).map (fun i => (i.zero, i.size, i.bytes)) = some (some (.agg #[.int .i64 0, .int .i64 0, .int .i64 0, .int .i64 0, .int .i64 0, .bool false, .int .i64 0, .int .i64 0]), 8, 64) := by kernel_rfl
theorem own_of_row {w : World} {base g n cap : Nat} {e : TypeId} {sz : Nat} {xs : List Value} (h : w.ownsRow base e sz (.slice (some ⟨g, 0, none⟩) n cap) n xs) : Own w (.slice (some ⟨g, 0, none⟩) n cap) g e sz n xs := by
  obtain ⟨hx, h | ⟨g', cap', cur, hv, hb, hh, h1, h2, h3, h4⟩⟩ := h
  · simp at h
  · simp only [Value.slice.injEq, Option.some.injEq, Addr.mk.injEq, and_true, true_and] at hv
    obtain ⟨rfl, rfl⟩ := hv
    refine ⟨cap, cur.toList.drop (n * sz), rfl, h1, h2, ⟨hx, ?_⟩, ?_⟩
    · rw [show xs ++ cur.toList.drop (n * sz) = cur.toList from by rw [← h4, List.take_append_drop]]
      simpa using h3
    unfold Blk
    rw [hh, ← h4, List.take_append_drop]
theorem cellsOf_snoc {l : List ND} {k : Nat} {n : ND} (h : l[k]? = some n) : cellsOf (l.take (k + 1)) = cellsOf (l.take k) ++ n.cells := by
  rw [List.take_add_one, h]
  simp [cellsOf]
/-- What has been made after k rounds: the block at 'g' holds the first k nodes, and room for the others. -/
def MadeTo (w : World) (l : List ND) (g k : Nat) (wr : World) : Prop := Below w.heap.size w wr ∧ w.heap.size ≤ g ∧ ∃ R, R.length = (l.length - k) * 8 ∧ Blk wr g 52 (cellsOf (l.take k) ++ R)
theorem MadeTo.room {w : World} {l : List ND} {g k : Nat} {wr w1 : World} (h : MadeTo w l g k wr) (hb : Below wr.heap.size wr w1) (hk : k < l.length) :
    ∃ x0 x1 x2 x3 x4 x5 x6 x7, w1.cell? ⟨g, k * 8, none⟩ = some x0 ∧ w1.cell? ⟨g, k * 8 + 1, none⟩ = some x1 ∧ w1.cell? ⟨g, k * 8 + 2, none⟩ = some x2 ∧ w1.cell? ⟨g, k * 8 + 3, none⟩ = some x3 ∧ w1.cell? ⟨g, k * 8 + 4, none⟩ = some x4 ∧ w1.cell? ⟨g, k * 8 + 5, none⟩ = some x5 ∧ w1.cell? ⟨g, k * 8 + 6, none⟩ = some x6 ∧ w1.cell? ⟨g, k * 8 + 7, none⟩ = some x7 ∧ ∀ i, w1.frozen? ⟨g, i, none⟩ = false := by
  obtain ⟨h1, h2, R, hR, hblk⟩ := h
  have hk8 : (cellsOf (l.take k)).length = k * 8 := by rw [cellsOf_len, List.length_take]; omega
  obtain ⟨x0, x1, x2, x3, x4, x5, x6, x7, T, rfl⟩ := eight (R := R) (by omega)
  have hb1 := hblk.below hb hblk.lt
  have t := fun j hj => hb1.there hk8 j hj
  exact ⟨x0, x1, x2, x3, x4, x5, x6, x7, t 0 (by simp), t 1 (by simp), t 2 (by simp), t 3 (by simp), t 4 (by simp), t 5 (by simp), t 6 (by simp), t 7 (by simp), fun i => hb1.free i⟩
theorem MadeTo.step {w : World} {l : List ND} {g k : Nat} {wr w1 : World} {n : ND} (h : MadeTo w l g k wr) (hb : Below wr.heap.size wr w1) (hn : l[k]? = some n) : MadeTo w l g (k + 1) (setRow w1 g (k * 8) n.cells) := by
  have hk : k < l.length := (List.getElem?_eq_some_iff.1 hn).1
  obtain ⟨h1, h2, R, hR, hblk⟩ := h
  have hk8 : (cellsOf (l.take k)).length = k * 8 := by rw [cellsOf_len, List.length_take]; omega
  obtain ⟨x0, x1, x2, x3, x4, x5, x6, x7, T, rfl⟩ := eight (R := R) (by omega)
  have hb1 := (hblk.below hb hblk.lt).setRow n.cells hk8 rfl
  have hs := h1.size
  have hs1 := hb.size
  refine ⟨(h1.trans (hb.mono hs)).trans ((setRow_but g n.cells w1 _).below h2 (by omega)), h2, T, ?_, ?_⟩
  · simp at hR; omega
  · rw [cellsOf_snoc hn]
    simpa using hb1
theorem MadeTo.done {w : World} {l : List ND} {g : Nat} {wr : World} (h : MadeTo w l g l.length wr) (hm : l.length ≤ maxLen) : Own wr (.slice (some ⟨g, 0, none⟩) l.length l.length) g 52 8 l.length (cellsOf l) ∧ w.heap.size ≤ g ∧ Below w.heap.size w wr := by
  obtain ⟨h1, h2, R, hR, hblk⟩ := h
  rw [List.take_length] at hblk
  exact ⟨⟨_, R, rfl, Nat.le_refl _, hm, ⟨cellsOf_len l, by rw [List.length_append, cellsOf_len]; omega⟩, hblk⟩, h2, h1⟩
theorem MadeTo.start {w w1 : World} {n : Nat} (l : List ND) {xs : List Value} (hn : l.length = n) (hown : w1.ownsRow w.heap.size 52 8 (.slice (some ⟨w.heap.size, 0, none⟩) n n) n xs) (hg : w.grownBy w1 none) : MadeTo w l w.heap.size 0 w1 := by
  subst hn
  obtain ⟨cap, sp, hv, h1, h2, h3, h4⟩ := own_of_row hown
  simp only [Value.slice.injEq, true_and] at hv
  obtain rfl := hv
  refine ⟨⟨hg.os, hg.tape, hg.output, hg.size, fun k hk => hg.block k hk (by simp)⟩, Nat.le_refl _, xs ++ sp, ?_, by simpa [cellsOf] using h4⟩
  have h5 := hown
  obtain ⟨hx, h | ⟨g', cap', cur, hv, hb, hh, q1, q2, q3, q4⟩⟩ := h5
  · simp at h
  · simp only [Value.slice.injEq, Option.some.injEq, Addr.mk.injEq, and_true, true_and] at hv
    obtain ⟨rfl, rfl⟩ := hv
    have e : cur = (xs ++ sp).toArray := by
      have := hh.symm.trans h4
      simpa using this
    have hs : (xs ++ sp).length = cur.size := by rw [e]; simp
    rw [hs, q3]
    omega
/-- What toNodeS gives: a slice in a block of its own that reads as 'l'. -/
def Fresh (w : World) (l : List ND) (e : Ending) (w' : World) : Prop := ∃ g v, e = .returned v ∧ w.heap.size ≤ g ∧ Own w' v g 52 8 l.length (cellsOf l) ∧ Below w.heap.size w w'

set_option maxHeartbeats 1000000 in
theorem toNodeS_any (v : Value) (l : List ND) (w : World) (h : NSl w v l) (hl : l.length ≤ 1048576) :
    Calls Try.prog 23 #[v] w (Fresh w l) := by
  obtain ⟨i0, hi, hz0, hz1, hz2⟩ := info_parts infoNode
  by_cases hn : l = []
  · subst hn
    obtain ⟨a1, c1, rfl⟩ := h.nil
    clear h hl
    go_enter Try.func23, Try.ntmps23
    go_wp2_with (at_make; refine wpList_make_full _ rfl _ _ 31 rfl w.heap.size 52 i0 _ 8 Try.underlying31 hi hz0 hz1 _ _ _ _ 0 rfl rfl rfl rfl (by omega) (by simp [maxLen]) (Nat.le_refl _) ?_; intro w1 hown hgrow)
    have hM := MadeTo.start [] rfl hown hgrow
    clear hi hz0 hz1 hz2 hown hgrow
    go_loopw [4] (fun i wr => i = .int .i64 0 ∧ MadeTo w [] w.heap.size 0 wr) (fun i _ => 0)
    case atStart => exact ⟨rfl, hM⟩
    case round =>
      obtain ⟨rfl, hM⟩ := hrel
      go_wp2
      go_ret
      obtain ⟨q1, q2, q3⟩ := MadeTo.done hM (by simp)
      exact ⟨_, _, rfl, q2, q1, q3⟩
  · obtain ⟨b1, o1, c1, rfl, k1, m1, s1, H1⟩ := h.at hn
    have hl2 : 64 * l.length ≤ 281474976710656 := by omega
    have hl3 : l.length ≤ maxLen := by unfold maxLen; omega
    clear h
    go_enter Try.func23, Try.ntmps23
    go_wp2_with (at_make; refine wpList_make_full _ rfl _ _ 31 rfl w.heap.size 52 i0 _ 8 Try.underlying31 hi hz0 hz1 _ _ _ _ l.length rfl rfl rfl rfl (by rw [hz2]; exact hl2) hl3 (Nat.le_refl _) ?_; intro w1 hown hgrow)
    have hM := MadeTo.start l rfl hown hgrow
    clear hi hz0 hz1 hz2 hown hgrow
    go_loopw [4] (fun i wr => ∃ k : Nat, k ≤ l.length ∧ i = .int .i64 k ∧ MadeTo w l w.heap.size k wr) (fun i _ => l.length - (intOf i).toNat)
    case atStart => exact ⟨0, Nat.zero_le _, rfl, hM⟩
    case round =>
      obtain ⟨k, hk, rfl, hM⟩ := hrel
      by_cases hlt : k < l.length
      · obtain ⟨n, hg⟩ : ∃ n, l[k]? = some n := ⟨_, List.getElem?_eq_getElem hlt⟩
        have A1 := (H1 k n hg).below hM.1 s1
        simp only [At8] at A1
        have j0 : (0 : Int) ≤ (k : Int) := by omega
        have j1 : (k : Int) < (l.length : Int) := by omega
        have HH := Lib.hid (And.intro hM hg)
        clear hM hg H1 k1 m1 hl2 hl3
        go_wp2_with fail
        refine (toNode_any _ _ _ _ _ _ _ _ _).mono ?_
        rintro e w2 ⟨rfl, hb⟩
        obtain ⟨x0, x1, x2, x3, x4, x5, x6, x7, y0, y1, y2, y3, y4, y5, y6, y7, yf⟩ := HH.out.1.room hb hlt
        have HB := Lib.hid hb
        clear hb A1
        go_wp2
        exact ⟨⟨k + 1, by omega, by go_num, HH.out.1.step HB.out HH.out.2⟩, by simp [intOf]; omega⟩
      · obtain rfl : k = l.length := by omega
        clear H1
        go_wp2
        go_ret
        obtain ⟨q1, q2, q3⟩ := hM.done hl3
        exact ⟨_, _, rfl, q2, q1, q3⟩

/-! ### markNodeS, heldNodeS -/
def markN (k : Int) : ND := ⟨k, k + 1, k + 1 + 1, k + 1 + 1 + 1, k + 1 + 1 + 1 + 1, (k + 1 + 1 + 1 + 1 + 1) % 3 == 0, k + 1 + 1 + 1 + 1 + 1 + 1, k + 1 + 1 + 1 + 1 + 1 + 1 + 1⟩
theorem val_i {a b : Int} (h : a = b) : Value.int .i64 a = .int .i64 b := by rw [h]
def markL (k : Int) : Nat → List ND
  | 0 => []
  | n + 1 => markN k :: markL (k + 8) n
theorem markL_len (k : Int) (n : Nat) : (markL k n).length = n := by
  induction n generalizing k with
  | zero => rfl
  | succ n ih => simp [markL, ih]
theorem markL_get (k : Int) (n i : Nat) (h : i < n) : (markL k n)[i]? = some (markN (k + 8 * i)) := by
  induction n generalizing k i with
  | zero => omega
  | succ n ih =>
    cases i with
    | zero => simp [markL]
    | succ i =>
      simp only [markL, List.getElem?_cons_succ]
      rw [ih (k + 8) i (by omega)]
      congr 2
      omega
theorem markL_take (k : Int) (n i : Nat) (h : i ≤ n) : (markL k n).take i = markL k i := by
  induction n generalizing k i with
  | zero => obtain rfl : i = 0 := by omega
            rfl
  | succ n ih =>
    cases i with
    | zero => rfl
    | succ i => simp only [markL, List.take_succ_cons, ih (k + 8) i (by omega)]
/-- After k rounds the first k nodes of the block are the marks. -/
def MarkTo (w : World) (g n : Nat) (m : Int) (k : Nat) (wr : World) : Prop := But g w wr ∧ ∃ R, (n - k) * 8 ≤ R.length ∧ Blk wr g 52 (cellsOf (markL m k) ++ R)
theorem MarkTo.room {w : World} {g n : Nat} {m : Int} {k : Nat} {wr : World} (h : MarkTo w g n m k wr) (hk : k < n) :
    ∃ x0 x1 x2 x3 x4 x5 x6 x7, wr.cell? ⟨g, k * 8, none⟩ = some x0 ∧ wr.cell? ⟨g, k * 8 + 1, none⟩ = some x1 ∧ wr.cell? ⟨g, k * 8 + 2, none⟩ = some x2 ∧ wr.cell? ⟨g, k * 8 + 3, none⟩ = some x3 ∧ wr.cell? ⟨g, k * 8 + 4, none⟩ = some x4 ∧ wr.cell? ⟨g, k * 8 + 5, none⟩ = some x5 ∧ wr.cell? ⟨g, k * 8 + 6, none⟩ = some x6 ∧ wr.cell? ⟨g, k * 8 + 7, none⟩ = some x7 ∧ ∀ i, wr.frozen? ⟨g, i, none⟩ = false := by
  obtain ⟨h1, R, hR, hblk⟩ := h
  have hk8 : (cellsOf (markL m k)).length = k * 8 := by rw [cellsOf_len, markL_len]
  obtain ⟨x0, x1, x2, x3, x4, x5, x6, x7, T, rfl⟩ := eight (R := R) (by omega)
  have t := fun j hj => hblk.there hk8 j hj
  exact ⟨x0, x1, x2, x3, x4, x5, x6, x7, t 0 (by simp), t 1 (by simp), t 2 (by simp), t 3 (by simp), t 4 (by simp), t 5 (by simp), t 6 (by simp), t 7 (by simp), fun i => hblk.free i⟩
theorem markL_snoc (m : Int) (k : Nat) : cellsOf (markL m (k + 1)) = cellsOf (markL m k) ++ (markN (m + 8 * k)).cells := by
  have h := cellsOf_snoc (markL_get m (k + 1) k (by omega))
  rwa [markL_take m (k + 1) k (by omega), markL_take m (k + 1) (k + 1) (by omega)] at h
theorem MarkTo.step {w : World} {g n : Nat} {m : Int} {k : Nat} {wr : World} (h : MarkTo w g n m k wr) (hk : k < n) : MarkTo w g n m (k + 1) (setRow wr g (k * 8) (markN (m + 8 * k)).cells) := by
  obtain ⟨h1, R, hR, hblk⟩ := h
  have hk8 : (cellsOf (markL m k)).length = k * 8 := by rw [cellsOf_len, markL_len]
  obtain ⟨x0, x1, x2, x3, x4, x5, x6, x7, T, rfl⟩ := eight (R := R) (by omega)
  have hb1 := hblk.setRow (markN (m + 8 * k)).cells hk8 rfl
  refine ⟨h1.trans (setRow_but g _ wr _), T, ?_, ?_⟩
  · simp at hR; omega
  · rw [markL_snoc]
    simpa using hb1
/-- What markNodeS leaves. -/
def Marked (w : World) (v : Value) (g n : Nat) (m : Int) (e : Ending) (w' : World) : Prop := e = .returned (.int .i64 (m + 8 * n)) ∧ Own0 w' v g 52 8 n (cellsOf (markL m n)) ∧ But g w w'
theorem MarkTo.done {w : World} {g n cap : Nat} {m : Int} {wr : World} (h : MarkTo w g n m n wr) (h1 : n ≤ cap) (h2 : cap ≤ maxLen) : Own0 wr (.slice (some ⟨g, 0, none⟩) n cap) g 52 8 n (cellsOf (markL m n)) ∧ But g w wr := by
  obtain ⟨q1, R, hR, hblk⟩ := h
  exact ⟨⟨cap, R, rfl, h1, h2, by rw [cellsOf_len, markL_len], hblk⟩, q1⟩

set_option maxHeartbeats 2000000 in
theorem markNodeS_own (v : Value) (g n : Nat) (cs : List Value) (m : Int) (w : World) (h : Own0 w v g 52 8 n cs) (hn : n ≤ 1048576) (m0 : 0 ≤ m) (m1 : m ≤ 1099511627776) :
    Calls Try.prog 32 #[v, .int .i64 m] w (Marked w v g n m) := by
  obtain ⟨cap, sp, rfl, k1, hm1, h3, h4⟩ := h
  have hM0 : MarkTo w g n m 0 w := ⟨But.refl _ _, cs ++ sp, by simp; omega, by simpa [cellsOf, markL] using h4⟩
  have hm2 := hm1
  unfold maxLen at hm2
  clear h4 h3
  go_enter Try.func32, Try.ntmps32
  go_wp2
  go_loopw [1, 5] (fun q i wr => ∃ k : Nat, k ≤ n ∧ i = .int .i64 k ∧ q = .int .i64 (m + 8 * k) ∧ MarkTo w g n m k wr) (fun _ i _ => n - (intOf i).toNat)
  case atStart => exact ⟨0, Nat.zero_le _, rfl, by simp, hM0⟩
  case round =>
    obtain ⟨k, hk, rfl, hq, hM⟩ := hrel
    by_cases hlt : k < n
    · obtain ⟨x0, x1, x2, x3, x4, x5, x6, x7, y0, y1, y2, y3, y4, y5, y6, y7, yf⟩ := hM.room hlt
      have j0 : (0 : Int) ≤ (k : Int) := by omega
      have j1 : (k : Int) < (n : Int) := by omega
      have HM := Lib.hid hM
      obtain ⟨z, hz⟩ : ∃ z : Int, z = m + 8 * k := ⟨_, rfl⟩
      rw [← hz] at hq
      subst hq
      have z0 : 0 ≤ z := by omega
      have z1 : z ≤ 2199023255552 := by omega
      have HZ := Lib.hid hz
      clear hM hz
      go_wp2
      obtain rfl := HZ.out
      exact ⟨⟨k + 1, by omega, by go_num, val_i (by omega), HM.out.step hlt⟩, by simp [intOf]; omega⟩
    · obtain rfl : k = n := by omega
      subst hq
      have z0 : 0 ≤ m + 8 * (k : Int) := by omega
      have z1 : m + 8 * (k : Int) ≤ 2199023255552 := by omega
      go_wp2
      go_ret
      obtain ⟨q1, q2⟩ := hM.done k1 hm1
      exact ⟨rfl, q1, q2⟩

set_option maxRecDepth 100000 in
set_option maxHeartbeats 2000000 in
theorem heldNodeS_same (v : Value) (n : Nat) (m : Int) (w : World) (h : NSl w v (markL m n)) (hn : n ≤ 1048576) (m0 : 0 ≤ m) (m1 : m ≤ 1099511627776) :
    Calls Try.prog 34 #[v, .int .i64 m] w fun e w' => e = .returned (.int .i64 (m + 8 * n)) ∧ w = w' := by
  by_cases h0 : n = 0
  · subst h0
    obtain ⟨a1, c1, rfl⟩ := h.nil
    clear h hn
    go_enter Try.func34, Try.ntmps34
    go_wp2
    go_loop [1, 5] (fun q i => i = .int .i64 0 ∧ q = .int .i64 m) (fun _ i => 0)
    case atStart => exact ⟨rfl, rfl⟩
    case round =>
      obtain ⟨rfl, rfl⟩ := hrel
      go_wp2
      go_ret
      exact ⟨ret_i (by omega), rfl⟩
  · obtain ⟨b1, o1, c1, rfl, k1, mm1, s1, H1⟩ := h.at (by intro e; have := markL_len m n; rw [e] at this; simp at this; omega)
    rw [markL_len] at k1 ⊢
    unfold maxLen at mm1
    clear h
    go_enter Try.func34, Try.ntmps34
    go_wp2
    go_loop [1, 5] (fun q i => ∃ k : Nat, k ≤ n ∧ i = .int .i64 k ∧ q = .int .i64 (m + 8 * k)) (fun _ i => n - (intOf i).toNat)
    case atStart => exact ⟨0, Nat.zero_le _, rfl, by simp⟩
    case round =>
      obtain ⟨k, hk, rfl, hq⟩ := hrel
      by_cases hlt : k < n
      · have A1 := H1 k _ (markL_get m n k hlt)
        have j0 : (0 : Int) ≤ (k : Int) := by omega
        have j1 : (k : Int) < (n : Int) := by omega
        obtain ⟨z, hz⟩ : ∃ z : Int, z = m + 8 * k := ⟨_, rfl⟩
        rw [← hz] at hq A1
        subst hq
        simp only [At8, markN] at A1
        have z0 : 0 ≤ z := by omega
        have z1 : z ≤ 2199023255552 := by omega
        have HZ := Lib.hid hz
        clear hz H1
        go_wp2
        obtain rfl := HZ.out
        exact ⟨⟨k + 1, by omega, by go_num, val_i (by omega)⟩, by simp [intOf]; omega⟩
      · obtain rfl : k = n := by omega
        subst hq
        have z0 : 0 ≤ m + 8 * (k : Int) := by omega
        have z1 : m + 8 * (k : Int) ≤ 2199023255552 := by omega
        clear H1
        go_wp2
        go_ret
        exact ⟨rfl, rfl⟩

end Go.Proofs.Ythllpgjggmdmmaa
