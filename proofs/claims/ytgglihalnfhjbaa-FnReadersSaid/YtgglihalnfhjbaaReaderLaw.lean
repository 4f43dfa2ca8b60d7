/- What the law on readers calls beside the readers, and the mathematics of it. -/
import Derived.Test.YtgglihalnfhjbaaDrawReader
namespace Go.Proofs.Ytgglihalnfhjbaa
open Go.ChangeShapes Go.WideShapes Go.ChangeAt Go.RowKit
set_option linter.unusedVariables false
set_option linter.unusedSimpArgs false

theorem But.down {g : Nat} {w w1 w2 : World} (h : Below w.heap.size w w1) (hb : But g w1 w2) (hg : w.heap.size ≤ g) : Below w.heap.size w w2 := h.trans (hb.below hg h.size)

set_option maxHeartbeats 2000000 in
theorem DrawCounted_any (v : Value) (l : List Int) (w : World) (h : Bts w.heap.size w v l) (hl : l.length ≤ 4096) :
    Calls Try.prog 5 #[v] w fun e w' => ∃ (u : Value) (r : List Int) (t : Int), e = .returned (.tuple #[u, .int .i64 t]) ∧ SlI w' u r ∧ r.length ≤ 16 ∧ Below w.heap.size w w' := by
  have C := l1New_any w.heap.size v l w h hl (Nat.le_refl _)
  obtain ⟨⟨a, c, rfl, -⟩, -⟩ := h
  go_enter Try.func5, Try.ntmps5
  go_wp2_with fail
  refine C.mono ?_
  rintro e w1 ⟨g, rfl, hg, hc1, hB1⟩
  go_wp2_with fail
  refine (l4Draw_any _ g _ l w1 hc1).mono ?_
  rintro e w2 ⟨u, r, rfl, hS, h16, hw, hc2, hb2⟩
  have hlt := hc2.lt
  obtain ⟨a2, c2, rfl, k2, m2, -⟩ := id hS
  go_wp2_with fail
  refine (l1From_any _ g _ l (-1) r.length w2 hc2 (by omega) (by omega) (by omega) (by omega)).mono ?_
  rintro e w3 ⟨t, rfl, -, hc3, hb3⟩
  go_wp2
  go_ret2
  have h1 := hc1.lt
  refine ⟨_, r, t, rfl, hb3.sl hS (fun e => ?_), h16, But.down (But.down hB1 hb2 hg) hb3 hg⟩
  have := hw g e
  omega

set_option maxHeartbeats 2000000 in
theorem DrawCountsOk_any (v : Value) (l : List Int) (w : World) (h : Bts w.heap.size w v l) (hl : l.length ≤ 4096) :
    Calls Try.prog 8 #[v] w fun e w' => ∃ (u : Value) (r : List Int), e = .returned u ∧ SlI w' u r ∧ r.length ≤ 16 ∧ Below w.heap.size w w' := by
  have C := l1New_any w.heap.size v l w h hl (Nat.le_refl _)
  obtain ⟨⟨a, c, rfl, -⟩, -⟩ := h
  go_enter Try.func8, Try.ntmps8
  go_wp2_with fail
  refine C.mono ?_
  rintro e w1 ⟨g, rfl, hg, hc1, hB1⟩
  go_wp2_with fail
  refine (l4Draw_any _ g _ l w1 hc1).mono ?_
  rintro e w2 ⟨u, r, rfl, hS, h16, hw, hc2, hb2⟩
  go_wp2
  go_ret
  exact ⟨_, r, rfl, hS, h16, But.down hB1 hb2 hg⟩

theorem big_any (a : Option Addr) (n c : Nat) (w : World) :
    Calls Try.prog 4 #[.slice a n c] w fun e w' => e = .returned (.bool (decide ((n : Int) > 4096))) ∧ w = w' := by
  go_enter Try.func4, Try.ntmps4
  go_wp2
  go_ret
  exact ⟨rfl, rfl⟩

set_option maxHeartbeats 1000000 in
theorem likeInts_same (v1 v2 : Value) (l : List Int) (w : World) (h1 : SlI w v1 l) (h2 : SlI w v2 l) :
    Calls Try.prog 9 #[v1, v2] w fun e w' => e = .returned (.bool true) ∧ Below w.heap.size w w' := by
  by_cases hn : l = []
  · subst hn
    obtain ⟨a1, c1, rfl⟩ := h1.nil
    obtain ⟨a2, c2, rfl⟩ := h2.nil
    clear h1 h2
    go_enter Try.func9, Try.ntmps9
    go_wp2
    go_loopw [5] (fun i wr => i = .int .i64 0 ∧ Below w.heap.size w wr) (fun i _ => 0)
    case atStart => exact ⟨rfl, Below.refl _ _⟩
    case round =>
      obtain ⟨rfl, hb⟩ := hrel
      go_wp2
      go_ret
      exact ⟨rfl, hb⟩
  · obtain ⟨b1, o1, c1, rfl, k1, m1, s1, H1⟩ := h1.at hn
    obtain ⟨b2, o2, c2, rfl, k2, m2, s2, H2⟩ := h2.at hn
    unfold maxLen at m1 m2
    clear h1 h2
    go_enter Try.func9, Try.ntmps9
    go_wp2
    go_loopw [5] (fun i wr => ∃ k : Nat, k ≤ l.length ∧ i = .int .i64 k ∧ Below w.heap.size w wr) (fun i _ => l.length - (intOf i).toNat)
    case atStart => exact ⟨0, Nat.zero_le _, rfl, Below.refl _ _⟩
    case round =>
      obtain ⟨k, hk, rfl, hb⟩ := hrel
      by_cases hlt : k < l.length
      · obtain ⟨n, hg⟩ : ∃ n, l[k]? = some n := ⟨_, List.getElem?_eq_getElem hlt⟩
        have A1 : wr.cell? ⟨b1, o1 + k, none⟩ = some (.int .i64 n) := (hb.cell (p := ⟨b1, o1 + k, none⟩) s1).trans (H1 k n hg)
        have A2 : wr.cell? ⟨b2, o2 + k, none⟩ = some (.int .i64 n) := (hb.cell (p := ⟨b2, o2 + k, none⟩) s2).trans (H2 k n hg)
        have i0 : (0 : Int) ≤ (k : Int) := by omega
        have i1 : (k : Int) < (l.length : Int) := by omega
        clear hg H1 H2
        have HB := Lib.hid hb
        clear hb
        go_wp2
        go_region_held3 (fun w' => w'.cell? ⟨b1, o1 + k, none⟩ = some (.int .i64 n) ∧ w'.cell? ⟨b2, o2 + k, none⟩ = some (.int .i64 n)) (go_keep) (fail)
        go_wp2
        go_roundw
        case rel => exact ⟨k + 1, by omega, by go_num, by repeat (first | exact HB.out | refine Below.drew ?_)⟩
        case measure => simp [intOf]; omega
      · obtain rfl : k = l.length := by omega
        clear H1 H2
        go_wp2
        go_ret
        exact ⟨rfl, hb⟩

/-! ### The mathematics -/
theorem oddsTo_congr {l m : List Int} : ∀ (n : Nat), (∀ j, j < n → atI l j % 2 = atI m j % 2) → oddsTo l n = oddsTo m n
  | 0, _ => rfl
  | n + 1, h => by
    rw [oddsTo, oddsTo, oddsTo_congr n (fun j hj => h j (by omega)), h n (by omega)]
theorem oddsTo_one {l : List Int} {k : Nat} (hk : k < l.length) : ∀ (n : Nat), k < n → (atI l k % 2 = 1 ∧ (oddsTo (l.set k (atI l k + 1)) n).length + 1 = (oddsTo l n).length) ∨ (¬ atI l k % 2 = 1 ∧ (oddsTo (l.set k (atI l k + 1)) n).length = (oddsTo l n).length + 1)
  | 0, h => by omega
  | n + 1, h => by
    by_cases e : k = n
    · subst e
      have e1 : oddsTo (l.set k (atI l k + 1)) k = oddsTo l k := oddsTo_congr k (fun j hj => by rw [atI_set _ _ _ _ hk, if_neg (by omega)])
      rw [oddsTo, oddsTo, e1, atI_set _ _ _ _ hk, if_pos rfl]
      by_cases ho : atI l k % 2 = 1
      · left
        rw [if_pos ho, if_neg (by omega)]
        exact ⟨ho, by simp⟩
      · right
        rw [if_neg ho, if_pos (by omega)]
        exact ⟨ho, by simp⟩
    · have ih := oddsTo_one hk n (by omega)
      rw [oddsTo, oddsTo, atI_set _ _ _ _ hk, if_neg e]
      by_cases hn : atI l n % 2 = 1
      · rw [if_pos hn, if_pos hn]
        simp only [List.length_append, List.length_singleton]
        omega
      · rw [if_neg hn, if_neg hn]
        exact ih
theorem countR_true {l rl : List Int} {t : Int} (h : countR l t = (rl, true)) : countsB l = true ∧ ∃ k : Nat, t = (k : Int) ∧ k < l.length ∧ atI l k < 100000 ∧ rl = l.set k (atI l k + 1) := by
  unfold countR at h
  split at h
  · rename_i hc
    split at h
    · rename_i h2
      simp only [Bool.and_eq_true, decide_eq_true_eq] at h2
      have h3 := inB_t h2.1
      refine ⟨hc, t.toNat, by omega, by omega, h2.2, ?_⟩
      simpa using h.symm
    · simp at h
  · simp at h
theorem countsB_set {l : List Int} {k : Nat} (h : countsB l = true) (hk : k < l.length) (hx : atI l k < 100000) : countsB (l.set k (atI l k + 1)) = true := by
  obtain ⟨h1, h2, h3⟩ := countsB_some h
  refine countsB_all (by simp [sizeB, inB]; omega) (fun j n _ hn => ?_)
  rw [List.getElem?_set] at hn
  by_cases e : k = j
  · subst e
    simp [hk] at hn
    subst hn
    have := h3 k _ (List.getElem?_eq_getElem hk)
    rw [← atI_get (List.getElem?_eq_getElem hk)] at this
    simp [inB]; omega
  · rw [if_neg e] at hn
    have := h3 j n hn
    simp [inB]; omega
theorem walk_one {l rl : List Int} {t : Int} (h : countR l t = (rl, true)) : countsB rl = true ∧ ((walkR rl).length + 1 = (walkR l).length ∨ (walkR rl).length = (walkR l).length + 1) := by
  obtain ⟨hc, k, rfl, hk, hx, rfl⟩ := countR_true h
  have hc2 := countsB_set hc hk hx
  refine ⟨hc2, ?_⟩
  simp only [walkR, hc, hc2, if_true, List.length_set]
  have := oddsTo_one hk l.length hk
  omega
theorem walk_two {l rl z : List Int} {t : Int} (h : countR l t = (rl, true)) (h2 : countR rl t = (z, true)) : walkR z = walkR l := by
  obtain ⟨hc, k, rfl, hk, hx, rfl⟩ := countR_true h
  obtain ⟨hc2, k', e, hk2, hx2, rfl⟩ := countR_true h2
  obtain rfl : k' = k := by omega
  have hc3 := countsB_set hc2 hk2 hx2
  simp only [walkR, hc, hc3, if_true, List.length_set]
  refine oddsTo_congr _ (fun j hj => ?_)
  rw [atI_set _ _ _ _ hk2, atI_set _ _ _ _ hk, atI_set _ _ _ _ hk]
  by_cases e : k' = j
  · subst e
    simp
    omega
  · rw [if_neg e, if_neg e]
end Go.Proofs.Ytgglihalnfhjbaa
