import Derived.Test.YtfjafncipjdnfaaGreatList
namespace Go.Proofs.YtfjafncipjdnfaaGreat
open Go.ChangeShapes Go.WideShapes Go.ChangeAt Go.RowKit
set_option linter.unusedVariables false
set_option linter.unusedSimpArgs false
def setRow (w : World) (g p : Nat) : List Value → World
  | [] => w
  | v :: r => setRow (w.setCell ⟨g, p, none⟩ v) g (p + 1) r
theorem aF (g : Nat) : ∀ (vs : List Value) (w : World) (p : Nat), But g w (setRow w g p vs)
  | [], w, p => But.refl g w
  | v :: r, w, p => (But.set g p w v).trans (aF g r _ (p + 1))
theorem Blk.setRow {g : Nat} {e : TypeId} : ∀ (vs : List Value) {w : World} {p : Nat} {A X R : List Value}, Blk w g e (A ++ (X ++ R)) → A.length = p → X.length = vs.length → Blk (YtfjafncipjdnfaaGreat.setRow w g p vs) g e (A ++ (vs ++ R))
  | [], w, p, A, X, R, h, hp, hx => by
    obtain rfl : X = [] := List.length_eq_zero_iff.1 hx
    exact h
  | v :: r, w, p, A, [], R, h, hp, hx => by simp at hx
  | v :: r, w, p, A, x :: X, R, h, hp, hx => by
    have h0 := h.set p v
    have e1 : (A ++ (x :: X ++ R)).set p v = (A ++ [v]) ++ (X ++ R) := by
      subst hp
      rw [List.set_append_right _ _ (Nat.le_refl _)]
      simp
    rw [e1] at h0
    have h1 := Blk.setRow r (p := p + 1) h0 (by simp [hp]) (by simpa using hx)
    have e2 : A ++ (v :: r ++ R) = (A ++ [v]) ++ (r ++ R) := by simp
    rw [e2]
    exact h1
theorem Blk.there {w : World} {g p : Nat} {e : TypeId} {A X R : List Value} (h : Blk w g e (A ++ (X ++ R))) (hp : A.length = p) (j : Nat) (hj : j < X.length) : w.cell? ⟨g, p + j, none⟩ = X[j]? := by
  rw [h.cell, List.getElem?_append_right (by omega), List.getElem?_append_left (by omega), show p + j - A.length = j by omega]
theorem yO {α : Type} {R : List α} (h : 8 ≤ R.length) : ∃ a b c d e f g i T, R = [a, b, c, d, e, f, g, i] ++ T := by
  match R, h with
  | a :: b :: c :: d :: e :: f :: g :: i :: T, _ => exact ⟨a, b, c, d, e, f, g, i, T, rfl⟩
theorem BF : (Tryz.prog.info? 37).map (fun i => (i.zero, i.size, i.bytes)) = some (some (.agg #[.int .i64 0, .int .i64 0, .int .i64 0, .int .i64 0, .int .i64 0, .bool false, .int .i64 0, .int .i64 0]), 8, 64) := by kernel_rfl
theorem MD {w : World} {base g n cap : Nat} {e : TypeId} {sz : Nat} {xs : List Value} (h : w.ownsRow base e sz (.slice (some ⟨g, 0, none⟩) n cap) n xs) : Own w (.slice (some ⟨g, 0, none⟩) n cap) g e sz n xs := by
  obtain ⟨hx, h | ⟨g', cap', cur, hv, hb, hh, h1, h2, h3, h4⟩⟩ := h
  · simp at h
  · simp only [Value.slice.injEq, Option.some.injEq, Addr.mk.injEq, and_true, true_and] at hv
    obtain ⟨rfl, rfl⟩ := hv
    refine ⟨cap, cur.toList.drop (n * sz), rfl, h1, h2, ⟨hx, ?_⟩, ?_⟩
    · rw [show xs ++ cur.toList.drop (n * sz) = cur.toList from by rw [← h4, List.take_append_drop]]
      simpa using h3
    unfold Blk
    rw [hh, ← h4, List.take_append_drop]
theorem BG {l : List ND} {k : Nat} {n : ND} (h : l[k]? = some n) : cellsOf (l.take (k + 1)) = cellsOf (l.take k) ++ n.cells := by
  rw [List.take_add_one, h]
  simp [cellsOf]
def MadeTo (w : World) (l : List ND) (g k : Nat) (wr : World) : Prop := Below w.heap.size w wr ∧ w.heap.size ≤ g ∧ ∃ R, R.length = (l.length - k) * 8 ∧ Blk wr g 37 (cellsOf (l.take k) ++ R)
theorem MadeTo.step {w : World} {l : List ND} {g k : Nat} {wr w1 : World} {n : ND} (h : MadeTo w l g k wr) (hb : Below wr.heap.size wr w1) (hn : l[k]? = some n) : MadeTo w l g (k + 1) (setRow w1 g (k * 8) n.cells) := by
  have hk : k < l.length := (List.getElem?_eq_some_iff.1 hn).1
  obtain ⟨h1, h2, R, hR, hblk⟩ := h
  have hk8 : (cellsOf (l.take k)).length = k * 8 := by rw [iA, List.length_take]; omega
  obtain ⟨x0, x1, x2, x3, x4, x5, x6, x7, T, rfl⟩ := yO (R := R) (by omega)
  have hb1 := (hblk.below hb hblk.lt).setRow n.cells hk8 rfl
  have hs := h1.size
  have hs1 := hb.size
  refine ⟨(h1.trans (hb.mono hs)).trans ((aF g n.cells w1 _).below h2 (by omega)), h2, T, ?_, ?_⟩
  · simp at hR; omega
  · rw [BG hn]
    simpa using hb1
theorem MadeTo.done {w : World} {l : List ND} {g : Nat} {wr : World} (h : MadeTo w l g l.length wr) (hm : l.length ≤ maxLen) : Own wr (.slice (some ⟨g, 0, none⟩) l.length l.length) g 37 8 l.length (cellsOf l) ∧ w.heap.size ≤ g ∧ Below w.heap.size w wr := by
  obtain ⟨h1, h2, R, hR, hblk⟩ := h
  rw [List.take_length] at hblk
  exact ⟨⟨_, R, rfl, Nat.le_refl _, hm, ⟨iA l, by rw [List.length_append, iA]; omega⟩, hblk⟩, h2, h1⟩
theorem MadeTo.start {w w1 : World} {n : Nat} (l : List ND) {xs : List Value} (hn : l.length = n) (hown : w1.ownsRow w.heap.size 37 8 (.slice (some ⟨w.heap.size, 0, none⟩) n n) n xs) (hg : w.grownBy w1 none) : MadeTo w l w.heap.size 0 w1 := by
  subst hn
  obtain ⟨cap, sp, hv, h1, h2, h3, h4⟩ := MD hown
  simp only [Value.slice.injEq, true_and] at hv
  obtain rfl := hv
  refine ⟨⟨hg.os, hg.tape, hg.output, hg.size, fun k hk => hg.block k hk (by simp)⟩, Nat.le_refl _, xs ++ sp, ?_, by simpa [cellsOf] using h4⟩
  have h5 := hown
  obtain ⟨hx, h | ⟨g', cap', cur, hv, hb, hh, q1, q2, q3, q4⟩⟩ := h5
  · simp at h
  · simp only [Value.slice.injEq, Option.some.injEq, Addr.mk.injEq, and_true, true_and] at hv
    obtain ⟨rfl, rfl⟩ := hv
    have e : cur = (xs ++ sp).toArray := by
      have := hh.symm.trans h4
      simpa using this
    have hs : (xs ++ sp).length = cur.size := by rw [e]; simp
    rw [hs, q3]
    omega
def Fresh (w : World) (l : List ND) (e : Ending) (w' : World) : Prop := ∃ g v, e = .returned v ∧ w.heap.size ≤ g ∧ Own w' v g 37 8 l.length (cellsOf l) ∧ Below w.heap.size w w'
def wK (k : Int) : ND := ⟨k, k + 1, k + 1 + 1, k + 1 + 1 + 1, k + 1 + 1 + 1 + 1, (k + 1 + 1 + 1 + 1 + 1) % 3 == 0, k + 1 + 1 + 1 + 1 + 1 + 1, k + 1 + 1 + 1 + 1 + 1 + 1 + 1⟩
def FE (k : Int) : Nat → List ND
  | 0 => []
  | n + 1 => wK k :: FE (k + 8) n
theorem SI (k : Int) (n : Nat) : (FE k n).length = n := by
  induction n generalizing k with
  | zero => rfl
  | succ n ih => simp [FE, ih]
theorem xM (k : Int) (n i : Nat) (h : i < n) : (FE k n)[i]? = some (wK (k + 8 * i)) := by
  induction n generalizing k i with
  | zero => omega
  | succ n ih =>
    cases i with
    | zero => simp [FE]
    | succ i =>
      simp only [FE, List.getElem?_cons_succ]
      rw [ih (k + 8) i (by omega)]
      congr 2
      omega
theorem MH (k : Int) (n i : Nat) (h : i ≤ n) : (FE k n).take i = FE k i := by
  induction n generalizing k i with
  | zero => obtain rfl : i = 0 := by omega
            rfl
  | succ n ih =>
    cases i with
    | zero => rfl
    | succ i => simp only [FE, List.take_succ_cons, ih (k + 8) i (by omega)]
def MarkTo (w : World) (g n : Nat) (m : Int) (k : Nat) (wr : World) : Prop := But g w wr ∧ ∃ R, (n - k) * 8 ≤ R.length ∧ Blk wr g 37 (cellsOf (FE m k) ++ R)
theorem nL (m : Int) (k : Nat) : cellsOf (FE m (k + 1)) = cellsOf (FE m k) ++ (wK (m + 8 * k)).cells := by
  have h := BG (xM m (k + 1) k (by omega))
  rwa [MH m (k + 1) k (by omega), MH m (k + 1) (k + 1) (by omega)] at h
theorem MarkTo.step {w : World} {g n : Nat} {m : Int} {k : Nat} {wr : World} (h : MarkTo w g n m k wr) (hk : k < n) : MarkTo w g n m (k + 1) (setRow wr g (k * 8) (wK (m + 8 * k)).cells) := by
  obtain ⟨h1, R, hR, hblk⟩ := h
  have hk8 : (cellsOf (FE m k)).length = k * 8 := by rw [iA, SI]
  obtain ⟨x0, x1, x2, x3, x4, x5, x6, x7, T, rfl⟩ := yO (R := R) (by omega)
  have hb1 := hblk.setRow (wK (m + 8 * k)).cells hk8 rfl
  refine ⟨h1.trans (aF g _ wr _), T, ?_, ?_⟩
  · simp at hR; omega
  · rw [nL]
    simpa using hb1
theorem MarkTo.done {w : World} {g n cap : Nat} {m : Int} {wr : World} (h : MarkTo w g n m n wr) (h1 : n ≤ cap) (h2 : cap ≤ maxLen) : Own0 wr (.slice (some ⟨g, 0, none⟩) n cap) g 37 8 n (cellsOf (FE m n)) ∧ But g w wr := by
  obtain ⟨q1, R, hR, hblk⟩ := h
  exact ⟨⟨cap, R, rfl, h1, h2, by rw [iA, SI], hblk⟩, q1⟩
def OwnR (w : World) (B E : Nat) (t : TypeId) (sz n : Nat) (cs : List Value) (v : Value) : Prop :=
  (n = 0 ∧ cs = [] ∧ ∃ a cap, v = .slice a 0 cap ∧ cap ≤ maxLen) ∨ (0 < n ∧ ∃ g, B ≤ g ∧ g < E ∧ Own w v g t sz n cs)
theorem OwnR.sl {w : World} {B E sz n : Nat} {t : TypeId} {cs : List Value} {v : Value} (h : OwnR w B E t sz n cs v) : Sl w v sz n cs := by
  rcases h with ⟨rfl, rfl, a, cap, rfl, hc⟩ | ⟨-, g, -, -, h⟩
  · exact ⟨a, cap, rfl, Nat.zero_le _, hc, by simp, .inl rfl⟩
  · exact h.sl
theorem OwnR.below {w w' : World} {B E D sz n : Nat} {t : TypeId} {cs : List Value} {v : Value} (h : OwnR w B E t sz n cs v) (hb : Below D w w') (hD : E ≤ D) : OwnR w' B E t sz n cs v := by
  rcases h with h | ⟨h0, g, h1, h2, h⟩
  · exact .inl h
  · exact .inr ⟨h0, g, h1, h2, h.below hb (by omega)⟩
theorem OwnR.but {w w' : World} {B E g sz n : Nat} {t : TypeId} {cs : List Value} {v : Value} (h : OwnR w B E t sz n cs v) (hb : But g w w') (hg : g < B ∨ E ≤ g) : OwnR w' B E t sz n cs v := by
  rcases h with h | ⟨h0, g', h1, h2, h⟩
  · exact .inl h
  · exact .inr ⟨h0, g', h1, h2, h.but hb (by omega)⟩
theorem OwnR.mono {w : World} {B E B' E' sz n : Nat} {t : TypeId} {cs : List Value} {v : Value} (h : OwnR w B E t sz n cs v) (hB : B' ≤ B) (hE : E ≤ E') : OwnR w B' E' t sz n cs v := by
  rcases h with h | ⟨h0, g, h1, h2, h⟩
  · exact .inl h
  · exact .inr ⟨h0, g, by omega, by omega, h⟩
theorem OwnR.of_own {w : World} {B g sz n : Nat} {t : TypeId} {cs : List Value} {v : Value} (h : Own w v g t sz n cs) (hB : B ≤ g) (h0 : 0 < n) : OwnR w B w.heap.size t sz n cs v := .inr ⟨h0, g, hB, h.lt, h⟩
theorem OwnR.nil (w : World) (B E sz : Nat) (t : TypeId) (a : Option Addr) (cap : Nat) (hc : cap ≤ maxLen) : OwnR w B E t sz 0 [] (.slice a 0 cap) := .inl ⟨rfl, rfl, a, cap, rfl, hc⟩
theorem OwnR.of_row {w : World} {B sz n oc : Nat} {t : TypeId} {oa : Option Addr} {cs : List Value} (h : w.ownsRow B t sz (.slice oa n oc) n cs) : OwnR w B w.heap.size t sz n cs (.slice oa n oc) := by
  rcases Nat.eq_zero_or_pos n with h0 | h0
  · subst h0
    have hl : cs = [] := List.length_eq_zero_iff.1 (by rw [h.1]; simp)
    subst hl
    rcases h.2 with ⟨hv, -⟩ | ⟨g, cap, cur, hv, hb, hg, h1, h2, -⟩
    · cases hv
      exact OwnR.nil _ _ _ _ _ _ _ (by simp [maxLen])
    · cases hv
      exact OwnR.nil _ _ _ _ _ _ _ h2
  · rcases h.2 with ⟨-, hv⟩ | ⟨g, cap, cur, hv, hb, hg, -⟩
    · omega
    · cases hv
      exact .inr ⟨h0, g, hb, (Array.getElem?_eq_some_iff.1 hg).1, MD h⟩
theorem OwnR.slice {w : World} {B E sz n : Nat} {t : TypeId} {cs : List Value} {v : Value} (h : OwnR w B E t sz n cs v) : ∃ a cap, v = .slice a n cap ∧ n ≤ cap ∧ cap ≤ maxLen := by
  obtain ⟨a, cap, rfl, h1, h2, -⟩ := h.sl
  exact ⟨a, cap, rfl, h1, h2⟩
theorem MG {w1 w2 : World} {B D : Nat} {e : TypeId} {sz n : Nat} {v : Value} {cs : List Value} (h : w1.ownsRow B e sz v n cs) (hD : w1.heap.size ≤ D) (hb : Below D w1 w2) : w2.ownsRow B e sz v n cs := by
  rcases h with ⟨h1, h2 | ⟨g, cap, cur, hv, hg, hh, r⟩⟩
  · exact ⟨h1, .inl h2⟩
  · exact ⟨h1, .inr ⟨g, cap, cur, hv, hg, (hb.block g (Nat.lt_of_lt_of_le (Array.getElem?_eq_some_iff.1 hh).1 hD)).trans hh, r⟩⟩
theorem wF {w w1 : World} (t : TypeId) (sz : Nat) (hb : Below w.heap.size w w1) : (w1.alloc (.cells #[] t)).ownsRow w.heap.size t sz (.slice (some ⟨w1.heap.size, 0, none⟩) 0 0) 0 [] :=
  ⟨by simp, .inr ⟨w1.heap.size, 0, #[], rfl, hb.size, heap_alloc_new w1 _, Nat.le_refl _, by simp [maxLen], by simp, by simp⟩⟩
def CA (l : List Int) : List Value := l.map (Value.int .i64)
theorem BA (l : List Int) : (CA l).length = l.length := by simp [CA]
theorem FL {l : List Int} {k : Nat} {n : Int} (h : l[k]? = some n) : (CA l)[k]? = some (.int .i64 n) := by simp [CA, h]
theorem UK (l : List Int) (n : Int) : CA (l ++ [n]) = CA l ++ [.int .i64 n] := by simp [CA]
def SlI (w : World) (v : Value) (l : List Int) : Prop := Sl w v 1 l.length (CA l)
theorem SlI.below {w w' : World} {v : Value} {l : List Int} (h : SlI w v l) (hb : Below w.heap.size w w') : SlI w' v l := Sl.below (by omega) h hb
theorem SlI.at {w : World} {v : Value} {l : List Int} (h : SlI w v l) (hn : l ≠ []) : ∃ b off cap, v = .slice (some ⟨b, off, none⟩) l.length cap ∧ l.length ≤ cap ∧ cap ≤ maxLen ∧ b < w.heap.size ∧ ∀ k n, l[k]? = some n → w.cell? ⟨b, off + k, none⟩ = some (.int .i64 n) := by
  obtain ⟨a, cap, rfl, h1, h2, h3, h4⟩ := h
  have hlen : 0 < l.length := List.length_pos_iff.2 hn
  rcases h4 with h4 | ⟨b, off, rfl, hc⟩
  · omega
  · have key : ∀ k n, l[k]? = some n → w.cell? ⟨b, off + k, none⟩ = some (.int .i64 n) := fun k n hk => by
      rw [hc k (by rw [BA]; exact (List.getElem?_eq_some_iff.1 hk).1), FL hk]
    refine ⟨b, off, cap, rfl, h1, h2, ?_, key⟩
    exact World.block_lt_of_cell? w ⟨b, _, none⟩ (key 0 _ (List.getElem?_eq_getElem hlen))
theorem SlI.nil {w : World} {v : Value} (h : SlI w v []) : ∃ a cap, v = .slice a 0 cap := by
  obtain ⟨a, cap, rfl, _⟩ := h
  exact ⟨a, cap, rfl⟩
def vE (k : Int) : Nat → List Int
  | 0 => []
  | n + 1 => k :: vE (k + 1) n
theorem qL (k : Int) (n : Nat) : (vE k n).length = n := by
  induction n generalizing k with
  | zero => rfl
  | succ n ih => simp [vE, ih]
theorem yK (k : Int) (n : Nat) : vE k (n + 1) = vE k n ++ [k + n] := by
  induction n generalizing k with
  | zero => simp [vE]
  | succ n ih =>
    rw [vE, ih (k + 1)]
    simp only [vE, List.cons_append]
    congr 3
    omega
def MarkToI (w : World) (g n : Nat) (m : Int) (k : Nat) (wr : World) : Prop := But g w wr ∧ ∃ R, n - k ≤ R.length ∧ Blk wr g 2 (CA (vE m k) ++ R)
theorem MarkToI.step {w : World} {g n : Nat} {m : Int} {k : Nat} {wr : World} (h : MarkToI w g n m k wr) (hk : k < n) : MarkToI w g n m (k + 1) (wr.setCell ⟨g, k, none⟩ (.int .i64 (m + k))) := by
  obtain ⟨h1, R, hR, hblk⟩ := h
  have hk8 : (CA (vE m k)).length = k := by rw [BA, qL]
  match R, hR with
  | [], hR => simp at hR; omega
  | x :: T, hR =>
    refine ⟨h1.trans (But.set g k wr _), T, by simp at hR; omega, ?_⟩
    have := Blk.setRow (p := k) (A := CA (vE m k)) (X := [x]) (R := T) [.int .i64 (m + k)] (by simpa using hblk) hk8 rfl
    rw [yK, UK]
    simpa [setRow] using this
theorem YL : (Tryz.prog.info? 2).map (fun i => (i.zero, i.size, i.bytes)) = some (some (.int .i64 0), 1, 8) := by kernel_rfl
def MadeI (w : World) (l : List Int) (g k : Nat) (wr : World) : Prop := Below w.heap.size w wr ∧ w.heap.size ≤ g ∧ ∃ R, R.length = l.length - k ∧ Blk wr g 2 (CA (l.take k) ++ R)
theorem MadeI.step {w : World} {l : List Int} {g k : Nat} {wr : World} {n : Int} (h : MadeI w l g k wr) (hn : l[k]? = some n) : MadeI w l g (k + 1) (wr.setCell ⟨g, k, none⟩ (.int .i64 n)) := by
  have hk : k < l.length := (List.getElem?_eq_some_iff.1 hn).1
  obtain ⟨h1, h2, R, hR, hblk⟩ := h
  have hk8 : (CA (l.take k)).length = k := by rw [BA, List.length_take]; omega
  match R, hR with
  | [], hR => simp at hR; omega
  | x :: T, hR =>
    refine ⟨h1.setCell h2 _, h2, T, by simp at hR; omega, ?_⟩
    have := Blk.setRow (p := k) (A := CA (l.take k)) (X := [x]) (R := T) [.int .i64 n] (by simpa using hblk) hk8 rfl
    have e : CA (l.take (k + 1)) = CA (l.take k) ++ [.int .i64 n] := by rw [List.take_add_one, hn]; simp [CA]
    rw [e]
    simpa [setRow] using this
theorem MadeI.done {w : World} {l : List Int} {g : Nat} {wr : World} (h : MadeI w l g l.length wr) (hm : l.length ≤ maxLen) : Own wr (.slice (some ⟨g, 0, none⟩) l.length l.length) g 2 1 l.length (CA l) ∧ w.heap.size ≤ g ∧ Below w.heap.size w wr := by
  obtain ⟨h1, h2, R, hR, hblk⟩ := h
  rw [List.take_length] at hblk
  exact ⟨⟨_, R, rfl, Nat.le_refl _, hm, ⟨by rw [BA]; omega, by rw [List.length_append, BA]; omega⟩, hblk⟩, h2, h1⟩
theorem MadeI.start {w w1 : World} {n : Nat} (l : List Int) {xs : List Value} (hn : l.length = n) (hown : w1.ownsRow w.heap.size 2 1 (.slice (some ⟨w.heap.size, 0, none⟩) n n) n xs) (hg : w.grownBy w1 none) : MadeI w l w.heap.size 0 w1 := by
  subst hn
  obtain ⟨cap, sp, hv, h1, h2, h3, h4⟩ := MD hown
  simp only [Value.slice.injEq, true_and] at hv
  obtain rfl := hv
  refine ⟨⟨hg.os, hg.tape, hg.output, hg.size, fun k hk => hg.block k hk (by simp)⟩, Nat.le_refl _, xs ++ sp, ?_, by simpa [CA] using h4⟩
  have h5 := hown
  obtain ⟨hx, h | ⟨g', cap', cur, hv, hb, hh, q1, q2, q3, q4⟩⟩ := h5
  · simp at h
  · simp only [Value.slice.injEq, Option.some.injEq, Addr.mk.injEq, and_true, true_and] at hv
    obtain ⟨rfl, rfl⟩ := hv
    have e : cur = (xs ++ sp).toArray := by
      have := hh.symm.trans h4
      simpa using this
    have hs : (xs ++ sp).length = cur.size := by rw [e]; simp
    rw [hs, q3]
    omega
def LN (w : World) (l : List Int) (e : Ending) (w' : World) : Prop := ∃ g v, e = .returned v ∧ w.heap.size ≤ g ∧ Own w' v g 2 1 l.length (CA l) ∧ Below w.heap.size w w'
def SaysI (r : List Int) (w : World) (e : Ending) (w' : World) : Prop :=
  ∃ u, e = .returned u ∧ OwnR w' w.heap.size w'.heap.size 2 1 r.length (CA r) u ∧ Below w.heap.size w w'
def SaysIB (r : List Int × Bool) (w : World) (e : Ending) (w' : World) : Prop :=
  ∃ u, e = .returned (.tuple #[u, .bool r.2]) ∧ OwnR w' w.heap.size w'.heap.size 2 1 r.1.length (CA r.1) u ∧ Below w.heap.size w w'
end Go.Proofs.YtfjafncipjdnfaaGreat
