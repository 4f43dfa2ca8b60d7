/- Walking and Counted of the model. -/
import Derived.Test.YtgglihalnfhjbaaReader3
namespace Go.Proofs.Ytgglihalnfhjbaa
open Go.ChangeShapes Go.WideShapes Go.ChangeAt Go.RowKit
set_option linter.unusedVariables false
set_option linter.unusedSimpArgs false

set_option maxRecDepth 100000 in
set_option maxHeartbeats 2000000 in
theorem spec_Walking (v : Value) (l : List Int) (w : World) (h : SlI w v l) (hl : l.length ≤ 1048576) :
    Calls Try.prog 13 #[v] w (SaysI (walkR l) w) := by
  obtain ⟨i0, hi0, hz0, hz1, hz2⟩ := info_parts infoI64
  by_cases hn : l = []
  · subst hn
    obtain ⟨a1, c1, rfl⟩ := h.nil
    clear h hl
    go_enter Try.func13, Try.ntmps13
    go_wp2
    go_loopw [3, 4] (fun v i wr => i = .int .i64 0 ∧ (∃ a, v = .slice a 0 0) ∧ Below w.heap.size w wr) (fun _ i _ => 0)
    case atStart => exact ⟨rfl, ⟨_, rfl⟩, (Below.refl _ _).alloc (Nat.le_refl _) _⟩
    case round =>
      obtain ⟨rfl, ⟨a, rfl⟩, hb⟩ := hrel
      go_wp2
      go_ret
      exact ⟨_, rfl, OwnR.nil _ _ _ _ _ _ _ (by simp [maxLen]), hb⟩
  · have C := fun wr hb => spec_CountsOk v l wr (h.below hb) hl
    obtain ⟨b1, o1, c1, rfl, k1, m1, s1, H1⟩ := h.at hn
    have hl1 : 1 ≤ l.length := List.length_pos_iff.2 hn
    unfold maxLen at m1
    have HC := Lib.hid C
    clear h hn C
    rcases Bool.eq_false_or_eq_true (countsB l) with hc | hc
    · obtain ⟨l1, l6, hin⟩ := countsB_some hc
      have HW : walkR l = oddsTo l l.length := by rw [walkR, if_pos hc]
      rw [HW]
      have HIN := Lib.hid hin
      have HCC := Lib.hid hc
      clear hc HW hin
      go_enter Try.func13, Try.ntmps13
      go_wp2
      go_loopw [3, 4] (fun v i wr => ∃ (k : Nat) (oa : Option Addr) (oc : Nat), k ≤ l.length ∧ i = .int .i64 k ∧ v = .slice oa (oddsTo l k).length oc ∧ Hid (wr.ownsRow w.heap.size 2 1 (.slice oa (oddsTo l k).length oc) (oddsTo l k).length (cellsI (oddsTo l k))) ∧ Below w.heap.size w wr) (fun _ i _ => l.length - (intOf i).toNat)
      case atStart => exact ⟨0, _, _, Nat.zero_le _, rfl, rfl, Lib.hid (none_row _ _ (Below.refl _ _)), (Below.refl _ _).alloc (Nat.le_refl _) _⟩
      case round =>
        obtain ⟨k, oa, oc, hk, rfl, rfl, hrow, hb⟩ := hrel
        have hz := hb.size
        have HB := Lib.hid hb
        by_cases hlt : k < l.length
        · obtain ⟨n, hg⟩ : ∃ n, l[k]? = some n := ⟨_, List.getElem?_eq_getElem hlt⟩
          have A1 : wr.cell? ⟨b1, o1 + k, none⟩ = some (.int .i64 n) := (hb.cell (p := ⟨b1, o1 + k, none⟩) s1).trans (H1 k n hg)
          have i0' : (0 : Int) ≤ (k : Int) := by omega
          have i1' : (k : Int) < (l.length : Int) := by omega
          obtain ⟨n0, n1⟩ := HIN.out k n hg
          have HA := Lib.hid (atI_get hg)
          have hol := oddsTo_len l k
          clear hg H1 hb
          go_wp2_with fail
          refine (HC.out _ HB.out).mono ?_
          rintro e w2 ⟨rfl, rfl⟩
          rw [HCC.out]
          by_cases ho : n % 2 = 1
          · have ho' : ¬ n % 2 = 0 := by omega
            go_wp2_with (first
              | (at_builtin; refine wpList_append_lies _ rfl _ _ 24 rfl w.heap.size 2 i0 (.int .i64 0) 1 8 Try.underlying24 hi0 hz0 hz1 hz2 rfl (by decide) (.slice oa (oddsTo l k).length oc) (oddsTo l k).length (cellsI (oddsTo l k)) rfl (hrow.out.alloc _) ⟨wr.heap.size, 0, none⟩ 1 1 [.int .i64 k] rfl rfl (cell_one_new _ _ _) (by simp [Value.oneCell']) (by omega) (by unfold maxLen; omega) (by omega) (by simp; omega) (wr.heap.size + 1) (by simp) ?_; intro g' cap' w5 hown' hg5 hat5 hgl5; go_frame)
              | go_in)
            have e1 : oddsTo l (k + 1) = oddsTo l k ++ [(k : Int)] := by rw [oddsTo, HA.out, if_pos ho]
            have e2 : (oddsTo l (k + 1)).length = (oddsTo l k).length + 1 := by rw [e1]; simp
            refine ⟨⟨k + 1, some ⟨g', 0, none⟩, cap', by omega, by go_num, by rw [e2], Lib.hid ?_, ?_⟩, by simp [intOf]; omega⟩
            · rw [e2, e1, cellsI_snoc]
              exact hown'
            · exact (HB.out.alloc hz _).grown hg5 (by simp; omega) (fun j hj => (hrow.out.lt j hj).1)
          · have ho' : n % 2 = 0 := by omega
            go_wp2
            have e1 : oddsTo l (k + 1) = oddsTo l k := by rw [oddsTo, HA.out, if_neg ho]
            refine ⟨⟨k + 1, oa, oc, by omega, by go_num, by rw [e1], ?_, HB.out⟩, by simp [intOf]; omega⟩
            rw [e1]
            exact hrow
        · obtain rfl : k = l.length := by omega
          clear H1 hb
          go_wp2
          go_ret
          exact ⟨_, rfl, OwnR.of_row hrow.out, HB.out⟩
    · have HW : walkR l = [] := by rw [walkR, if_neg (by rw [hc]; simp)]
      rw [HW]
      have HCC := Lib.hid hc
      clear hc HW H1
      have i1' : (0 : Int) < (l.length : Int) := by omega
      go_enter Try.func13, Try.ntmps13
      go_wp2
      go_loopw [3, 4] (fun v i wr => i = .int .i64 0 ∧ (∃ a, v = .slice a 0 0) ∧ Below w.heap.size w wr) (fun _ i _ => 0)
      case atStart => exact ⟨rfl, ⟨_, rfl⟩, (Below.refl _ _).alloc (Nat.le_refl _) _⟩
      case round =>
        obtain ⟨rfl, ⟨a, rfl⟩, hb⟩ := hrel
        have HB := Lib.hid hb
        clear hb
        go_wp2_with fail
        refine (HC.out _ HB.out).mono ?_
        rintro e w2 ⟨rfl, rfl⟩
        rw [HCC.out]
        go_wp2
        go_ret
        exact ⟨_, rfl, OwnR.nil _ _ _ _ _ _ _ (by simp [maxLen]), HB.out⟩

/-! ### Counted -/
set_option maxHeartbeats 1000000 in
theorem spec_copyI (v : Value) (l : List Int) (w : World) (h : SlI w v l) (hn : l ≠ []) (hl : l.length ≤ 1048576) : Calls Try.prog 20 #[v] w (FreshI w l) := by
  obtain ⟨b1, o1, c1, rfl, k1, m1, s1, H1⟩ := h.at hn
  have hl0 : 0 < l.length := List.length_pos_iff.2 hn
  obtain ⟨i0, hi0, hz0, hz1, hz2⟩ := info_parts infoI64
  have HW := Lib.hid h
  clear H1 h
  go_enter Try.func20, Try.ntmps20
  go_wp2_with (first
    | (at_builtin; refine wpList_append_lies _ rfl _ _ 24 rfl w.heap.size 2 i0 _ 1 8 Try.underlying24 hi0 hz0 hz1 hz2 rfl (by decide) (.slice (some ⟨w.heap.size, 0, none⟩) 0 0) 0 [] rfl (none_row _ _ (Below.refl _ _)) ⟨b1, o1, none⟩ l.length c1 (cellsI l) rfl (by rw [cellsI_len]; omega) (cells_newsI HW.out ((Below.refl _ _).alloc (Nat.le_refl _) _) hn) (cellsI_one l) hl0 (by unfold maxLen; omega) (by omega) (by simp) (w.heap.size + 1) (by simp) ?_; intro g cap w1 hown hgrow hat hgl)
    | go_in)
  go_ret
  rw [List.nil_append, Nat.zero_add] at hown
  obtain ⟨q1, q2⟩ : w.heap.size ≤ g ∧ Below w.heap.size w w1 := ⟨by
      rcases hat with h | h
      · simp [Value.ownBlock] at h; omega
      · omega, ((Below.refl _ _).alloc (Nat.le_refl _) _).grown hgrow (by simp) (fun j hj => by simp [Value.ownBlock] at hj; omega)⟩
  exact ⟨g, _, rfl, q1, own_of_row hown, q2⟩

theorem own_set {w1 : World} {l : List Int} {g k : Nat} {u : Value} (hO : Own w1 u g 2 1 l.length (cellsI l)) (hk : k < l.length) (o : Int) : Own (w1.setCell ⟨g, k, none⟩ (.int .i64 o)) u g 2 1 (l.set k o).length (cellsI (l.set k o)) := by
  obtain ⟨cap, sp, rfl, h1, h2, h3, h4⟩ := hO
  refine ⟨cap, sp, by simp, by simpa using h1, h2, by rw [cellsI_len]; omega, ?_⟩
  have := h4.set k (.int .i64 o)
  rw [List.set_append_left _ _ (by rw [cellsI_len]; exact hk)] at this
  simpa [cellsI] using this
theorem own_at {w1 : World} {l : List Int} {g k : Nat} {n c : Nat} (hO : Own w1 (.slice (some ⟨g, 0, none⟩) n c) g 2 1 l.length (cellsI l)) (hk : k < l.length) : w1.cell? ⟨g, k, none⟩ = some (.int .i64 (atI l k)) ∧ w1.frozen? ⟨g, k, none⟩ = false := by
  obtain ⟨cap, sp, hv, h1, h2, h3, h4⟩ := hO
  refine ⟨?_, h4.free k⟩
  rw [h4.cell, List.getElem?_append_left (by rw [cellsI_len]; exact hk), cellsI_get (List.getElem?_eq_getElem hk), atI_get (List.getElem?_eq_getElem hk)]

set_option maxRecDepth 100000 in
set_option maxHeartbeats 2000000 in
theorem spec_Counted (v : Value) (l : List Int) (t : Int) (w : World) (h : SlI w v l) (hl : l.length ≤ 1048576) :
    Calls Try.prog 7 #[v, .int .i64 t] w (SaysIB (countR l t) w) := by
  have C := spec_CountsOk v l w h hl
  rcases Bool.eq_false_or_eq_true (countsB l) with hc | hc
  · obtain ⟨l1, l6, hin⟩ := countsB_some hc
    rw [hc] at C
    have hn : l ≠ [] := by intro e; subst e; simp at l1
    have C2 := spec_copyI v l w h hn hl
    obtain ⟨b1, o1, c1, rfl, k1, m1, s1, H1⟩ := h.at hn
    unfold maxLen at m1
    rcases Bool.eq_false_or_eq_true (inB t 0 ((l.length : Int) - 1)) with ht | ht
    · obtain ⟨t0, t1⟩ := inB_t ht
      obtain ⟨k, rfl⟩ := Int.eq_ofNat_of_zero_le t0
      have hk : k < l.length := by omega
      have hg := List.getElem?_eq_getElem hk
      have A1 := H1 k _ hg
      obtain ⟨x0, x1⟩ := hin k _ hg
      rw [← atI_get hg] at A1 x0 x1
      have HT := Lib.hid ht
      have HIN := Lib.hid (And.intro hk hc)
      have i1' : (k : Int) < (l.length : Int) := by omega
      by_cases h9 : atI l k < 100000
      · rw [countR_yes hc hk h9]
        have h9' : ¬ atI l k ≥ 100000 := by omega
        have HL : 1 ≤ (l.set k (atI l k + 1)).length := by simpa using l1
        clear hc ht hin H1 h hg h9
        go_enter Try.func7, Try.ntmps7
        go_wp2_with fail
        refine C.mono ?_
        rintro e w1 ⟨rfl, rfl⟩
        go_wp2_with fail
        refine C2.mono ?_
        rintro e w1 ⟨g, u, rfl, hg, hO, hB1⟩
        have A2 := (hB1.cell (p := ⟨b1, o1 + k, none⟩) s1).trans A1
        obtain ⟨cap, sp, rfl, q1, q2, q3, q4⟩ := id hO
        obtain ⟨A5, A6⟩ := own_at hO hk
        unfold maxLen at q2
        have HH := Lib.hid (And.intro hO hB1)
        clear hO hB1 C C2 q3 q4
        go_wp2_with fail
        refine (spec_in _ _ _ _).mono ?_
        rintro e w2 ⟨rfl, rfl⟩
        rw [HT.out]
        go_wp2
        go_ret2
        exact SaysIB.fresh hg (own_set HH.out.1 HIN.out.1 _) HL (Below.refl _ _) (HH.out.2.setCell hg _)
      · rw [countR_full hc h9]
        have h9' : atI l k ≥ 100000 := by omega
        clear hc ht hin H1 h hg h9
        go_enter Try.func7, Try.ntmps7
        go_wp2_with fail
        refine C.mono ?_
        rintro e w1 ⟨rfl, rfl⟩
        go_wp2_with fail
        refine C2.mono ?_
        rintro e w1 ⟨g, u, rfl, hg, hO, hB1⟩
        have A2 := (hB1.cell (p := ⟨b1, o1 + k, none⟩) s1).trans A1
        have HH := Lib.hid (And.intro hO hB1)
        clear hO hB1 C C2
        go_wp2_with fail
        refine (spec_in _ _ _ _).mono ?_
        rintro e w2 ⟨rfl, rfl⟩
        rw [HT.out]
        go_wp2
        go_ret2
        exact SaysIB.fresh hg HH.out.1 l1 (Below.refl _ _) HH.out.2
    · rw [countR_none hc ht]
      have HT := Lib.hid ht
      clear hc ht hin H1 h
      go_enter Try.func7, Try.ntmps7
      go_wp2_with fail
      refine C.mono ?_
      rintro e w1 ⟨rfl, rfl⟩
      go_wp2_with fail
      refine C2.mono ?_
      rintro e w1 ⟨g, u, rfl, hg, hO, hB1⟩
      have HH := Lib.hid (And.intro hO hB1)
      clear hO hB1 C C2
      go_wp2_with fail
      refine (spec_in _ _ _ _).mono ?_
      rintro e w2 ⟨rfl, rfl⟩
      rw [HT.out]
      go_wp2
      go_ret2
      exact SaysIB.fresh hg HH.out.1 l1 (Below.refl _ _) HH.out.2
  · rw [countR_off hc]
    rw [hc] at C
    obtain ⟨a, c, rfl, -⟩ := h
    clear hc
    go_enter Try.func7, Try.ntmps7
    go_wp2_with fail
    refine C.mono ?_
    rintro e w1 ⟨rfl, rfl⟩
    go_wp2
    go_ret2
    exact ⟨_, rfl, OwnR.nil _ _ _ _ _ _ _ (by simp [maxLen]), (Below.refl _ _).alloc (Nat.le_refl _) _⟩
end Go.Proofs.Ytgglihalnfhjbaa
