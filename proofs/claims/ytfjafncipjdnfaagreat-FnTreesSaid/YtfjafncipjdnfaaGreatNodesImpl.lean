import Derived.Test.YtfjafncipjdnfaaGreatNodesSpec
namespace Go.Proofs.YtfjafncipjdnfaaGreat
open Go.ChangeShapes Go.WideShapes Go.ChangeAt Go.RowKit
set_option linter.unusedVariables false
set_option linter.unusedSimpArgs false
theorem fH {n m : ND} {r : List ND} {k : Nat} (hm : (n :: r)[k]? = some m) (h : rB m (n :: r).length = false) : PA (n :: r) = false := by
  cases k with
  | zero =>
    simp at hm
    subst hm
    exact cF (by rw [h]; simp)
  | succ j => exact cE (List.mem_of_getElem? (by simpa using hm)) (by rw [h]; simp)
theorem CF (n : ND) (w : World) : Calls Tryz.prog 84 #[.agg #[iJ n.k, iJ n.v, iJ n.l, iJ n.r, iJ n.o, .bool n.g, iJ n.lt, iJ n.rt]] w fun e w' => e = .returned (.bool (KC n)) ∧ Below w.heap.size w w' := GM n.k n.v n.l n.r n.o n.g n.lt n.rt w
theorem aI (n : ND) (w : World) : Calls Tryz.prog 85 #[.agg #[iJ n.k, iJ n.v, iJ n.l, iJ n.r, iJ n.o, .bool n.g, iJ n.lt, iJ n.rt]] w fun e w' => e = .returned (.bool (SD n)) ∧ Below w.heap.size w w' := yN n.k n.v n.l n.r n.o n.g n.lt n.rt w
theorem GE (n : ND) (many : Int) (w : World) (m0 : 1 ≤ many) (m1 : many ≤ 1048576) : Calls Tryz.prog 86 #[.agg #[iJ n.k, iJ n.v, iJ n.l, iJ n.r, iJ n.o, .bool n.g, iJ n.lt, iJ n.rt], iJ many] w fun e w' => e = .returned (.bool (rB n many)) ∧ Below w.heap.size w w' := by
  have h := IM n.k n.v n.l n.r n.o n.g n.lt n.rt many w m0 m1
  rw [rN] at h
  exact h
set_option maxHeartbeats 2000000 in
theorem xE (a : Option Addr) (N cap : Nat) (w : World) (h : ZA (N : Int) 1 30 = false) (hN : N ≤ 1048576) : Calls Tryz.prog 42 #[.slice a N cap] w fun e w' => e = .returned (.bool false) ∧ Below w.heap.size w w' := by
  go_enter Tryz.func42, Tryz.ntmps42
  go_wp2_with (first | (go_at_call 83; refine (zC _ _ _ _).mono ?_; rintro e w1 ⟨rfl, rfl⟩))
  go_ret
  exact ⟨rfl, Below.refl _ _⟩
set_option maxRecDepth 100000 in
set_option maxHeartbeats 4000000 in
theorem RG (v : Value) (n : ND) (r : List ND) (w : World) (h : NSl w v (n :: r)) (hl : (n :: r).length ≤ 30) (hbad : KC n = false) : Calls Tryz.prog 42 #[v] w (Says (n :: r) w) := by
  have hn : PA (n :: r) = false := cF (by rw [hbad]; rfl)
  obtain ⟨b1, o1, c1, rfl, k1, m1, s1, H1⟩ := h.at (by simp)
  have A1 := H1 0 n rfl
  simp only [At8, Nat.zero_mul, Nat.add_zero] at A1
  obtain ⟨N, hN⟩ : ∃ N, N = (n :: r).length := ⟨_, rfl⟩
  have hN1 : 1 ≤ N := by rw [hN]; simp
  rw [← hN] at hl k1 ⊢
  have HN := Lib.hid hn
  clear h H1 hN hn
  unfold maxLen at m1
  have j0 : (1 : Int) ≤ (N : Int) := by omega
  have j1 : (N : Int) ≤ 30 := by omega
  have hc : ZA (N : Int) 1 30 = true := by simp [ZA, j0, j1]
  go_enter Tryz.func42, Tryz.ntmps42
  go_wp2_with (first | (go_at_call 83; refine (zC _ _ _ _).mono ?_; rintro e w1 ⟨rfl, rfl⟩) | (go_at_call 84; refine (CF n _).mono ?_; rintro e w1 ⟨rfl, hb1⟩; have hz1 := hb1.size))
  go_ret
  exact Says.of HN.out bB
set_option maxRecDepth 100000 in
set_option maxHeartbeats 4000000 in
theorem oH (v : Value) (n : ND) (r : List ND) (w : World) (h : NSl w v (n :: r)) (hl : (n :: r).length ≤ 30) (hroot : KC n = true) : Calls Tryz.prog 42 #[v] w (Says (n :: r) w) := by
  obtain ⟨b1, o1, c1, rfl, k1, m1, s1, H1⟩ := h.at (by simp)
  have A1 := H1 0 n rfl
  simp only [At8, Nat.zero_mul, Nat.add_zero] at A1
  obtain ⟨N, hN⟩ : ∃ N, N = (n :: r).length := ⟨_, rfl⟩
  have hN1 : 1 ≤ N := by rw [hN]; simp
  have hl' := hl
  rw [← hN] at hl k1 ⊢
  have HN := Lib.hid hN
  have HH := Lib.hid H1
  clear h H1 hN
  unfold maxLen at m1
  have j0 : (1 : Int) ≤ (N : Int) := by omega
  have j1 : (N : Int) ≤ 30 := by omega
  have hc : ZA (N : Int) 1 30 = true := by simp [ZA, j0, j1]
  by_cases hcap : c1 = 1
  · subst hcap
    have HE := Lib.hid (show ∀ m ∈ r, SD m = true from by
      have h1 := HN.out
      simp only [List.length_cons] at h1
      obtain rfl : r = [] := List.length_eq_zero_iff.1 (by omega)
      simp)
    go_enter Tryz.func42, Tryz.ntmps42
    go_wp2_with (first | (go_at_call 83; refine (zC _ _ _ _).mono ?_; rintro e w1 ⟨rfl, rfl⟩) | (go_at_call 84; refine (CF n _).mono ?_; rintro e w1 ⟨rfl, hb1⟩; have hz1 := hb1.size))
    go_loopw [23] (fun i wr => ∃ k : Nat, k ≤ N - 1 ∧ i = iJ k ∧ Below w.heap.size w wr) (fun i _ => N - (intOf i).toNat)
    case atStart => exact ⟨0, Nat.zero_le _, rfl, bB⟩
    case round =>
      clear hb1 hz1 A1
      obtain ⟨k, hk, rfl, hB⟩ := hrel
      have hge : ¬ k < N - 1 := by omega
      go_wp2
      go_loopw [33] (fun i wr => ∃ k : Nat, k ≤ N ∧ i = iJ k ∧ Hid (∀ j m, j < k → (n :: r)[j]? = some m → rB m N = true) ∧ Below w.heap.size w wr) (fun i _ => N - (intOf i).toNat)
      case atStart => exact ⟨0, Nat.zero_le _, rfl, Lib.hid (fun j m h1 => by omega), hB⟩
      case round =>
        clear hB
        obtain ⟨k, hk, rfl, HR, hB⟩ := hrel
        by_cases hlt : k < N
        · obtain ⟨m, hg⟩ : ∃ m, (n :: r)[k]? = some m := ⟨_, List.getElem?_eq_getElem (by rw [← HN.out]; exact hlt)⟩
          have A2 := (HH.out k m hg).below hB s1
          simp only [At8] at A2
          have HG := Lib.hid hg
          have j2 : (0 : Int) ≤ (k : Int) := by omega
          have j3 : (k : Int) < (N : Int) := by omega
          have hz := hB.size
          clear hg
          rcases Bool.eq_false_or_eq_true (rB m N) with t0 | t0
          · go_wp2_with (first | (go_at_call 86; refine (GE m _ _ (by omega) (by omega)).mono ?_; rintro e w1 ⟨rfl, hb1⟩; have hz1 := hb1.size))
            go_roundw
            case rel => exact ⟨k + 1, by omega, by go_num, Lib.hid (fun j m' h1 h2 => by
              by_cases e : j = k
              · subst e
                have h3 := HG.out
                rw [h2] at h3
                cases h3
                exact t0
              · exact HR.out j m' (by omega) h2), bB⟩
            case measure => simp [intOf]; omega
          · go_wp2_with (first | (go_at_call 86; refine (GE m _ _ (by omega) (by omega)).mono ?_; rintro e w1 ⟨rfl, hb1⟩; have hz1 := hb1.size))
            go_ret
            exact Says.of (fH HG.out (by rw [← HN.out]; exact t0)) bB
        · obtain rfl : k = N := by omega
          go_wp2
          go_ret
          exact Says.of (xF hl' (by rw [hroot, ← HN.out, HR.out 0 n (by omega) rfl]; rfl) (fun m hm => by
            obtain ⟨i, hi⟩ := List.mem_iff_getElem?.1 hm
            have hl9 : i < r.length := (List.getElem?_eq_some_iff.1 hi).1
            rw [HE.out m hm, ← HN.out, HR.out (i + 1) m (by have := HN.out; simp at this; omega) (by simpa using hi)]
            rfl)) hB
  · have hcap1 : 1 < c1 := by omega
    go_enter Tryz.func42, Tryz.ntmps42
    go_wp2_with (first | (go_at_call 83; refine (zC _ _ _ _).mono ?_; rintro e w1 ⟨rfl, rfl⟩) | (go_at_call 84; refine (CF n _).mono ?_; rintro e w1 ⟨rfl, hb1⟩; have hz1 := hb1.size))
    go_loopw [23] (fun i wr => ∃ k : Nat, k ≤ N - 1 ∧ i = iJ k ∧ Hid (∀ j m, j < k → r[j]? = some m → SD m = true) ∧ Below w.heap.size w wr) (fun i _ => N - (intOf i).toNat)
    case atStart => exact ⟨0, Nat.zero_le _, rfl, Lib.hid (fun j m h1 => by omega), bB⟩
    case round =>
      clear hb1 hz1 A1
      obtain ⟨k, hk, rfl, HR, hB⟩ := hrel
      by_cases hlt : k < N - 1
      · obtain ⟨m, hg⟩ : ∃ m, r[k]? = some m := ⟨_, List.getElem?_eq_getElem (by have := HN.out; simp at this; omega)⟩
        have A2 := (HH.out (k + 1) m (by simpa using hg)).below hB s1
        rw [show o1 + (k + 1) * 8 = o1 + 8 + k * 8 by omega] at A2
        simp only [At8] at A2
        have HG := Lib.hid hg
        have j2 : (0 : Int) ≤ (k : Int) := by omega
        have j3 : (k : Int) < ((N - 1 : Nat) : Int) := by omega
        have hz := hB.size
        clear hg
        rcases Bool.eq_false_or_eq_true (SD m) with t0 | t0
        · go_wp2_with (first | (go_at_call 85; refine (aI m _).mono ?_; rintro e w1 ⟨rfl, hb1⟩; have hz1 := hb1.size))
          go_roundw
          case rel => exact ⟨k + 1, by omega, by go_num, Lib.hid (fun j m' h1 h2 => by
            by_cases e : j = k
            · subst e
              have h3 := HG.out
              rw [h2] at h3
              cases h3
              exact t0
            · exact HR.out j m' (by omega) h2), bB⟩
          case measure => simp [intOf]; omega
        · go_wp2_with (first | (go_at_call 85; refine (aI m _).mono ?_; rintro e w1 ⟨rfl, hb1⟩; have hz1 := hb1.size))
          go_ret
          exact Says.of (cE (List.mem_of_getElem? HG.out) (by rw [← HN.out]; simp [t0])) bB
      · obtain rfl : k = N - 1 := by omega
        have HE := Lib.hid (show ∀ m ∈ r, SD m = true from fun m hm => by
          obtain ⟨i, hi⟩ := List.mem_iff_getElem?.1 hm
          have hl9 : i < r.length := (List.getElem?_eq_some_iff.1 hi).1
          exact HR.out i m (by have := HN.out; simp at this; omega) hi)
        clear HR
        go_wp2
        go_loopw [33] (fun i wr => ∃ k : Nat, k ≤ N ∧ i = iJ k ∧ Hid (∀ j m, j < k → (n :: r)[j]? = some m → rB m N = true) ∧ Below w.heap.size w wr) (fun i _ => N - (intOf i).toNat)
        case atStart => exact ⟨0, Nat.zero_le _, rfl, Lib.hid (fun j m h1 => by omega), hB⟩
        case round =>
          clear hB
          obtain ⟨k, hk, rfl, HR, hB⟩ := hrel
          by_cases hlt : k < N
          · obtain ⟨m, hg⟩ : ∃ m, (n :: r)[k]? = some m := ⟨_, List.getElem?_eq_getElem (by rw [← HN.out]; exact hlt)⟩
            have A2 := (HH.out k m hg).below hB s1
            simp only [At8] at A2
            have HG := Lib.hid hg
            have j2 : (0 : Int) ≤ (k : Int) := by omega
            have j3 : (k : Int) < (N : Int) := by omega
            have hz := hB.size
            clear hg
            rcases Bool.eq_false_or_eq_true (rB m N) with t0 | t0
            · go_wp2_with (first | (go_at_call 86; refine (GE m _ _ (by omega) (by omega)).mono ?_; rintro e w1 ⟨rfl, hb1⟩; have hz1 := hb1.size))
              go_roundw
              case rel => exact ⟨k + 1, by omega, by go_num, Lib.hid (fun j m' h1 h2 => by
                by_cases e : j = k
                · subst e
                  have h3 := HG.out
                  rw [h2] at h3
                  cases h3
                  exact t0
                · exact HR.out j m' (by omega) h2), bB⟩
              case measure => simp [intOf]; omega
            · go_wp2_with (first | (go_at_call 86; refine (GE m _ _ (by omega) (by omega)).mono ?_; rintro e w1 ⟨rfl, hb1⟩; have hz1 := hb1.size))
              go_ret
              exact Says.of (fH HG.out (by rw [← HN.out]; exact t0)) bB
          · obtain rfl : k = N := by omega
            go_wp2
            go_ret
            exact Says.of (xF hl' (by rw [hroot, ← HN.out, HR.out 0 n (by omega) rfl]; rfl) (fun m hm => by
              obtain ⟨i, hi⟩ := List.mem_iff_getElem?.1 hm
              have hl9 : i < r.length := (List.getElem?_eq_some_iff.1 hi).1
              rw [HE.out m hm, ← HN.out, HR.out (i + 1) m (by have := HN.out; simp at this; omega) (by simpa using hi)]
              rfl)) hB
theorem wG (v : Value) (l : List ND) (w : World) (h : NSl w v l) (hl : l.length ≤ 1048576) : Calls Tryz.prog 42 #[v] w (Says l w) := by
  match l, h, hl with
  | [], h, _ =>
    obtain ⟨a, cap, rfl⟩ := h.nil
    exact (xE a 0 cap w (by simp [ZA]) (by omega)).mono fun e w' ⟨he, hb⟩ => by subst he; exact Says.of rfl hb
  | n :: r, h, hl =>
    by_cases h30 : (n :: r).length ≤ 30
    · rcases Bool.eq_false_or_eq_true (KC n) with hg | hg
      · exact oH v n r w h h30 hg
      · exact RG v n r w h h30 hg
    · have h2 : PA (n :: r) = false := eH (by omega)
      obtain ⟨a, cap, rfl, _⟩ := h
      exact (xE a (n :: r).length cap w (by simp only [ZA]; rw [decide_eq_false (p := ((n :: r).length : Int) ≤ 30) (by omega)]; simp) hl).mono fun e w' ⟨he, hb⟩ => by subst he; exact Says.of h2 hb
end Go.Proofs.YtfjafncipjdnfaaGreat
