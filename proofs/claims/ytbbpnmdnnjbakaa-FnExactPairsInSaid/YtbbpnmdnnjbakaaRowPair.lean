/- The laws' own helpers over slices of Pair: eq, mark, held. -/
import Derived.Test.YtbbpnmdnnjbakaaRows2
namespace Go.Proofs.Ytbbpnmdnnjbakaa
open Go.ChangeShapes Go.WideShapes Go.ChangeAt Go.RowKit
set_option linter.unusedVariables false
set_option linter.unusedSimpArgs false

structure RP where
  k : Int
  v : Int
instance : Inhabited RP := ⟨⟨0, 0⟩⟩
def RP.cells (n : RP) : List Value := [.int .i64 n.k, .int .i64 n.v]
def cellsP (l : List RP) : List Value := l.flatMap RP.cells
theorem RP.cells_len (n : RP) : n.cells.length = 2 := rfl
theorem cellsP_len (l : List RP) : (cellsP l).length = l.length * 2 := flat_len _ 2 RP.cells_len l
theorem cellsP_get {l : List RP} {k : Nat} {n : RP} (h : l[k]? = some n) (j : Nat) (hj : j < 2) : (cellsP l)[k * 2 + j]? = n.cells[j]? := flat_get _ 2 RP.cells_len l k j n h hj
theorem cellsP_snoc {l : List RP} {k : Nat} {n : RP} (h : l[k]? = some n) : cellsP (l.take (k + 1)) = cellsP (l.take k) ++ n.cells := by
  rw [List.take_add_one, h]
  simp [cellsP]
def SlP (w : World) (v : Value) (l : List RP) : Prop := Sl w v 2 l.length (cellsP l)
theorem SlP.below {w w' : World} {v : Value} {l : List RP} (h : SlP w v l) (hb : Below w.heap.size w w') : SlP w' v l := Sl.below (by omega) h hb
def AtP (w : World) (b o : Nat) (n : RP) : Prop := w.cell? ⟨b, o, none⟩ = some (.int .i64 n.k) ∧ w.cell? ⟨b, o + 1, none⟩ = some (.int .i64 n.v)
theorem AtP.below {w w' : World} {b o B : Nat} {n : RP} (h : AtP w b o n) (hb : Below B w w') (hB : b < B) : AtP w' b o n := by
  have e : ∀ p, w'.cell? ⟨b, p, none⟩ = w.cell? ⟨b, p, none⟩ := fun p => hb.cell (p := ⟨b, p, none⟩) hB
  simpa only [AtP, e] using h
theorem SlP.at {w : World} {v : Value} {l : List RP} (h : SlP w v l) (hn : l ≠ []) : ∃ b off cap, v = .slice (some ⟨b, off, none⟩) l.length cap ∧ l.length ≤ cap ∧ cap ≤ maxLen ∧ b < w.heap.size ∧ ∀ k n, l[k]? = some n → AtP w b (off + k * 2) n := by
  obtain ⟨a, cap, rfl, h1, h2, h3, h4⟩ := h
  have hlen : 0 < l.length := List.length_pos_iff.2 hn
  rcases h4 with h4 | ⟨b, off, rfl, hc⟩
  · omega
  · have key : ∀ k n, l[k]? = some n → ∀ j, j < 2 → w.cell? ⟨b, off + k * 2 + j, none⟩ = n.cells[j]? := fun k n hk j hj => by
      have hkl : k < l.length := (List.getElem?_eq_some_iff.1 hk).1
      have := hc (k * 2 + j) (by rw [cellsP_len]; omega)
      rw [← Nat.add_assoc] at this
      rw [this, cellsP_get hk j hj]
    refine ⟨b, off, cap, rfl, h1, h2, ?_, fun k n hk => ?_⟩
    · have h0 := key 0 _ (List.getElem?_eq_getElem hlen) 0 (by omega)
      exact World.block_lt_of_cell? w ⟨b, _, none⟩ h0
    · have q := key k n hk
      exact ⟨q 0 (by omega), q 1 (by omega)⟩
theorem SlP.nil {w : World} {v : Value} (h : SlP w v []) : ∃ a cap, v = .slice a 0 cap := by
  obtain ⟨a, cap, rfl, _⟩ := h
  exact ⟨a, cap, rfl⟩

set_option maxHeartbeats 1000000 in
theorem eqPair_same (k : Int) (v : Int) (w : World) :
    Calls Try.prog 27 #[.agg #[.int .i64 k, .int .i64 v], .agg #[.int .i64 k, .int .i64 v]] w fun e w' => e = .returned (.bool true) ∧ Below w.heap.size w w' := by
  go_enter Try.func27, Try.ntmps27
  go_wp2
  go_ret
  exact ⟨rfl, (by repeat (first | exact Below.refl _ _ | assumption | refine Below.drew ?_ | refine Below.alloc ?_ (by simp; try omega) _ | refine Below.setCell ?_ (by simp; try omega) _ | (refine Below.trans ?_ (Below.mono (by assumption) (by simp; try omega)))))⟩

def S2P (w : World) (b1 o1 : Nat) (n1 : RP) (b2 o2 : Nat) (n2 : RP) (w' : World) : Prop := b1 < w.heap.size ∧ b2 < w.heap.size ∧ Below w.heap.size w w' ∧ AtP w' b1 o1 n1 ∧ AtP w' b2 o2 n2
theorem S2P.drew {w : World} {b1 o1 : Nat} {n1 : RP} {b2 o2 : Nat} {n2 : RP} {w' : World} (h : S2P w b1 o1 n1 b2 o2 n2 w') : S2P w b1 o1 n1 b2 o2 n2 w'.drew := ⟨h.1, h.2.1, h.2.2.1.drew, h.2.2.2⟩
theorem S2P.out {w : World} {b1 o1 : Nat} {n1 : RP} {b2 o2 : Nat} {n2 : RP} {w' : World} (h : S2P w b1 o1 n1 b2 o2 n2 w') : Below w.heap.size w w' ∧ w'.cell? ⟨b1, o1, none⟩ = some (.int .i64 n1.k) ∧ w'.cell? ⟨b1, o1 + 1, none⟩ = some (.int .i64 n1.v) ∧ w'.cell? ⟨b2, o2, none⟩ = some (.int .i64 n2.k) ∧ w'.cell? ⟨b2, o2 + 1, none⟩ = some (.int .i64 n2.v) := by
  obtain ⟨_, _, hb, h1, h2⟩ := h
  simp only [AtP] at h1 h2
  simp only [h1, h2, hb, and_self]
theorem S2P.below {w : World} {b1 o1 : Nat} {n1 : RP} {b2 o2 : Nat} {n2 : RP} {w' w1 : World} (h : S2P w b1 o1 n1 b2 o2 n2 w') (hb : Below w'.heap.size w' w1) : S2P w b1 o1 n1 b2 o2 n2 w1 := by
  obtain ⟨g1, g2, hw, h1, h2⟩ := h
  have hz := hw.size
  exact ⟨g1, g2, hw.trans (hb.mono hz), h1.below hb (by omega), h2.below hb (by omega)⟩

set_option maxHeartbeats 1000000 in
theorem eqPairS_same (v1 v2 : Value) (l : List RP) (w : World) (h1 : SlP w v1 l) (h2 : SlP w v2 l) :
    Calls Try.prog 14 #[v1, v2] w fun e w' => e = .returned (.bool true) ∧ Below w.heap.size w w' := by
  by_cases hn : l = []
  · subst hn
    obtain ⟨a1, c1, rfl⟩ := h1.nil
    obtain ⟨a2, c2, rfl⟩ := h2.nil
    clear h1 h2
    go_enter Try.func14, Try.ntmps14
    go_wp2
    go_loopw [5] (fun i wr => i = .int .i64 0 ∧ Below w.heap.size w wr) (fun i _ => 0)
    case atStart => exact ⟨rfl, Below.refl _ _⟩
    case round =>
      obtain ⟨rfl, hb⟩ := hrel
      go_wp2
      go_ret
      exact ⟨rfl, hb⟩
  · obtain ⟨b1, o1, c1, rfl, k1, m1, s1, H1⟩ := h1.at hn
    obtain ⟨b2, o2, c2, rfl, k2, m2, s2, H2⟩ := h2.at hn
    unfold maxLen at m1 m2
    clear h1 h2
    go_enter Try.func14, Try.ntmps14
    go_wp2
    go_loopw [5] (fun i wr => ∃ k : Nat, k ≤ l.length ∧ i = .int .i64 k ∧ Below w.heap.size w wr) (fun i _ => l.length - (intOf i).toNat)
    case atStart => exact ⟨0, Nat.zero_le _, rfl, Below.refl _ _⟩
    case round =>
      obtain ⟨k, hk, rfl, hb⟩ := hrel
      by_cases hlt : k < l.length
      · obtain ⟨n, hg⟩ : ∃ n, l[k]? = some n := ⟨_, List.getElem?_eq_getElem hlt⟩
        have A1 := (H1 k n hg).below hb s1
        have A2 := (H2 k n hg).below hb s2
        have i0 : (0 : Int) ≤ (k : Int) := by omega
        have i1 : (k : Int) < (l.length : Int) := by omega
        have HS : S2P w b1 (o1 + k * 2) n b2 (o2 + k * 2) n wr := ⟨s1, s2, hb, A1, A2⟩
        clear hg H1 H2 A1 A2 hb
        go_wp2
        go_region_held3 (fun w' => Below w.heap.size w w' ∧ w'.cell? ⟨b1, o1 + k * 2, none⟩ = some (.int .i64 n.k) ∧ w'.cell? ⟨b1, o1 + k * 2 + 1, none⟩ = some (.int .i64 n.v) ∧ w'.cell? ⟨b2, o2 + k * 2, none⟩ = some (.int .i64 n.k) ∧ w'.cell? ⟨b2, o2 + k * 2 + 1, none⟩ = some (.int .i64 n.v)) (first | exact S2P.out (S2P.drew HS) | exact S2P.out (S2P.below (S2P.drew HS) hb1)) ((go_at_call 27; refine (eqPair_same _ _ _).mono ?_; rintro e w1 ⟨rfl, hb1⟩))
        rename_i hH
        have hB := hH.1
        clear hH HS hb1
        go_wp2
        go_roundw
        case rel => exact ⟨k + 1, by omega, by go_num, hB⟩
        case measure => simp [intOf]; omega
      · obtain rfl : k = l.length := by omega
        clear H1 H2
        go_wp2
        go_ret
        exact ⟨rfl, hb⟩

/-! ### mark, held -/
theorem takeP {α : Type} {R : List α} (h : 2 ≤ R.length) : ∃ x0 x1 T, R = [x0, x1] ++ T := by
  match R, h with
  | x0 :: x1 :: T, _ => exact ⟨x0, x1, T, rfl⟩
def markP (k : Int) : RP := ⟨k, k + 1⟩
def markLP (k : Int) : Nat → List RP
  | 0 => []
  | n + 1 => markP k :: markLP (k + 2) n
theorem markLP_len (k : Int) (n : Nat) : (markLP k n).length = n := by
  induction n generalizing k with
  | zero => rfl
  | succ n ih => simp [markLP, ih]
theorem markLP_get (k : Int) (n i : Nat) (h : i < n) : (markLP k n)[i]? = some (markP (k + 2 * i)) := by
  induction n generalizing k i with
  | zero => omega
  | succ n ih =>
    cases i with
    | zero => simp [markLP]
    | succ i =>
      simp only [markLP, List.getElem?_cons_succ]
      rw [ih (k + 2) i (by omega)]
      congr 2
      omega
theorem markLP_take (k : Int) (n i : Nat) (h : i ≤ n) : (markLP k n).take i = markLP k i := by
  induction n generalizing k i with
  | zero => obtain rfl : i = 0 := by omega
            rfl
  | succ n ih =>
    cases i with
    | zero => rfl
    | succ i => simp only [markLP, List.take_succ_cons, ih (k + 2) i (by omega)]
def MarkToP (w : World) (g n : Nat) (m : Int) (k : Nat) (wr : World) : Prop := But g w wr ∧ ∃ R, (n - k) * 2 ≤ R.length ∧ Blk wr g 49 (cellsP (markLP m k) ++ R)
theorem MarkToP.room {w : World} {g n : Nat} {m : Int} {k : Nat} {wr : World} (h : MarkToP w g n m k wr) (hk : k < n) :
    ∃ x0 x1, wr.cell? ⟨g, k * 2, none⟩ = some x0 ∧ wr.cell? ⟨g, k * 2 + 1, none⟩ = some x1 ∧ ∀ i, wr.frozen? ⟨g, i, none⟩ = false := by
  obtain ⟨h1, R, hR, hblk⟩ := h
  have hk8 : (cellsP (markLP m k)).length = k * 2 := by rw [cellsP_len, markLP_len]
  obtain ⟨x0, x1, T, rfl⟩ := takeP (R := R) (by omega)
  have t := fun j hj => hblk.there hk8 j hj
  exact ⟨x0, x1, t 0 (by simp), t 1 (by simp), fun i => hblk.free i⟩
theorem markLP_snoc (m : Int) (k : Nat) : cellsP (markLP m (k + 1)) = cellsP (markLP m k) ++ (markP (m + 2 * k)).cells := by
  have h := cellsP_snoc (markLP_get m (k + 1) k (by omega))
  rwa [markLP_take m (k + 1) k (by omega), markLP_take m (k + 1) (k + 1) (by omega)] at h
theorem MarkToP.step {w : World} {g n : Nat} {m : Int} {k : Nat} {wr : World} (h : MarkToP w g n m k wr) (hk : k < n) : MarkToP w g n m (k + 1) (setRow wr g (k * 2) (markP (m + 2 * k)).cells) := by
  obtain ⟨h1, R, hR, hblk⟩ := h
  have hk8 : (cellsP (markLP m k)).length = k * 2 := by rw [cellsP_len, markLP_len]
  obtain ⟨x0, x1, T, rfl⟩ := takeP (R := R) (by omega)
  have hb1 := hblk.setRow (markP (m + 2 * k)).cells hk8 rfl
  refine ⟨h1.trans (setRow_but g _ wr _), T, ?_, ?_⟩
  · simp at hR; omega
  · rw [markLP_snoc]
    simpa using hb1
def MarkedP (w : World) (v : Value) (g n : Nat) (m : Int) (e : Ending) (w' : World) : Prop := e = .returned (.int .i64 (m + 2 * n)) ∧ Own w' v g 49 2 n (cellsP (markLP m n)) ∧ But g w w'
theorem MarkToP.done {w : World} {g n cap : Nat} {m : Int} {wr : World} (h : MarkToP w g n m n wr) (h1 : n ≤ cap) (h2 : cap ≤ maxLen) : Own wr (.slice (some ⟨g, 0, none⟩) n cap) g 49 2 n (cellsP (markLP m n)) ∧ But g w wr := by
  obtain ⟨q1, R, hR, hblk⟩ := h
  exact ⟨⟨cap, R, rfl, h1, h2, by rw [cellsP_len, markLP_len], hblk⟩, q1⟩

set_option maxHeartbeats 2000000 in
theorem markPairS_own (v : Value) (g n : Nat) (cs : List Value) (m : Int) (w : World) (h : Own w v g 49 2 n cs) (hn : n ≤ 1048576) (m0 : 0 ≤ m) (m1 : m ≤ 1099511627776) :
    Calls Try.prog 16 #[v, .int .i64 m] w (MarkedP w v g n m) := by
  obtain ⟨cap, sp, rfl, k1, hm1, h3, h4⟩ := h
  have hM0 : MarkToP w g n m 0 w := ⟨But.refl _ _, cs ++ sp, by simp; omega, by simpa [cellsP, markLP] using h4⟩
  have hm2 := hm1
  unfold maxLen at hm2
  clear h4 h3
  go_enter Try.func16, Try.ntmps16
  go_wp2
  go_loopw [1, 5] (fun q i wr => ∃ k : Nat, k ≤ n ∧ i = .int .i64 k ∧ q = .int .i64 (m + 2 * k) ∧ MarkToP w g n m k wr) (fun _ i _ => n - (intOf i).toNat)
  case atStart => exact ⟨0, Nat.zero_le _, rfl, by simp, hM0⟩
  case round =>
    obtain ⟨k, hk, rfl, hq, hM⟩ := hrel
    by_cases hlt : k < n
    · obtain ⟨x0, x1, y0, y1, yf⟩ := hM.room hlt
      have j0 : (0 : Int) ≤ (k : Int) := by omega
      have j1 : (k : Int) < (n : Int) := by omega
      have HM := Lib.hid hM
      obtain ⟨z, hz⟩ : ∃ z : Int, z = m + 2 * k := ⟨_, rfl⟩
      rw [← hz] at hq
      subst hq
      have z0 : 0 ≤ z := by omega
      have z1 : z ≤ 2199023255552 := by omega
      have HZ := Lib.hid hz
      clear hM hz
      go_wp2
      obtain rfl := HZ.out
      exact ⟨⟨k + 1, by omega, by go_num, val_i (by omega), HM.out.step hlt⟩, by simp [intOf]; omega⟩
    · obtain rfl : k = n := by omega
      subst hq
      have z0 : 0 ≤ m + 2 * (k : Int) := by omega
      have z1 : m + 2 * (k : Int) ≤ 2199023255552 := by omega
      go_wp2
      go_ret
      obtain ⟨q1, q2⟩ := hM.done k1 hm1
      exact ⟨rfl, q1, q2⟩
set_option maxHeartbeats 1000000 in
theorem markPairS_nil (a : Option Addr) (c : Nat) (m : Int) (w : World) (m0 : 0 ≤ m) (m1 : m ≤ 1099511627776) :
    Calls Try.prog 16 #[.slice a 0 c, .int .i64 m] w fun e w' => e = .returned (.int .i64 m) ∧ Below w.heap.size w w' := by
  go_enter Try.func16, Try.ntmps16
  go_wp2
  go_loopw [1, 5] (fun q i wr => i = .int .i64 0 ∧ q = .int .i64 m ∧ Below w.heap.size w wr) (fun _ i _ => 0)
  case atStart => exact ⟨rfl, rfl, Below.refl _ _⟩
  case round =>
    obtain ⟨rfl, rfl, hb⟩ := hrel
    go_wp2
    go_ret
    exact ⟨rfl, hb⟩

set_option maxRecDepth 100000 in
set_option maxHeartbeats 2000000 in
theorem heldPairS_same (v : Value) (n : Nat) (m : Int) (w : World) (h : SlP w v (markLP m n)) (hn : n ≤ 1048576) (m0 : 0 ≤ m) (m1 : m ≤ 1099511627776) :
    Calls Try.prog 17 #[v, .int .i64 m] w fun e w' => e = .returned (.int .i64 (m + 2 * n)) ∧ w = w' := by
  by_cases h0 : n = 0
  · subst h0
    obtain ⟨a1, c1, rfl⟩ := h.nil
    clear h hn
    go_enter Try.func17, Try.ntmps17
    go_wp2
    go_loop [1, 5] (fun q i => i = .int .i64 0 ∧ q = .int .i64 m) (fun _ i => 0)
    case atStart => exact ⟨rfl, rfl⟩
    case round =>
      obtain ⟨rfl, rfl⟩ := hrel
      go_wp2
      go_ret
      exact ⟨ret_i (by omega), rfl⟩
  · obtain ⟨b1, o1, c1, rfl, k1, mm1, s1, H1⟩ := h.at (by intro e; have := markLP_len m n; rw [e] at this; simp at this; omega)
    rw [markLP_len] at k1 ⊢
    unfold maxLen at mm1
    clear h
    go_enter Try.func17, Try.ntmps17
    go_wp2
    go_loop [1, 5] (fun q i => ∃ k : Nat, k ≤ n ∧ i = .int .i64 k ∧ q = .int .i64 (m + 2 * k)) (fun _ i => n - (intOf i).toNat)
    case atStart => exact ⟨0, Nat.zero_le _, rfl, by simp⟩
    case round =>
      obtain ⟨k, hk, rfl, hq⟩ := hrel
      by_cases hlt : k < n
      · have A1 := H1 k _ (markLP_get m n k hlt)
        have j0 : (0 : Int) ≤ (k : Int) := by omega
        have j1 : (k : Int) < (n : Int) := by omega
        obtain ⟨z, hz⟩ : ∃ z : Int, z = m + 2 * k := ⟨_, rfl⟩
        rw [← hz] at hq A1
        subst hq
        simp only [AtP, markP] at A1
        have z0 : 0 ≤ z := by omega
        have z1 : z ≤ 2199023255552 := by omega
        have HZ := Lib.hid hz
        clear hz H1
        go_wp2
        obtain rfl := HZ.out
        exact ⟨⟨k + 1, by omega, by go_num, val_i (by omega)⟩, by simp [intOf]; omega⟩
      · obtain rfl : k = n := by omega
        subst hq
        have z0 : 0 ≤ m + 2 * (k : Int) := by omega
        have z1 : m + 2 * (k : Int) ≤ 2199023255552 := by omega
        clear H1
        go_wp2
        go_ret
        exact ⟨rfl, rfl⟩
end Go.Proofs.Ytbbpnmdnnjbakaa
