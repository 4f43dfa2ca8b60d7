import Derived.Test.YtfjafncipjdnfaaGreatLock
import Derived.Maps.RangeWalk
namespace Go.Proofs.YtfjafncipjdnfaaGreat
open Go.ChangeShapes Go.WideShapes Go.ChangeAt Go.RowKit Go.Maps
set_option linter.unusedVariables false
set_option linter.unusedSimpArgs false
theorem tG (t : Int) (w : World) : Calls Tryz.prog 146 #[.int .i64 t] w fun e w' => e = .returned (.bool (eF t)) ∧ w = w' := by
  go_enter Tryz.func146, Tryz.ntmps146
  go_wp2_with (go_at_call 100; refine (fB _ _ _ _).mono ?_; rintro e w1 ⟨rfl, rfl⟩)
  go_ret
  exact ⟨rfl, rfl⟩
theorem cG (a : Option Addr) (c : Nat) (l : List ND) (x : Int) (w : World) (hl : l.length ≤ 1048576) : Calls Tryz.prog 102 #[.slice a l.length c, .int .i64 x] w fun e w' => e = .returned (.bool (mC l x)) ∧ w = w' := by
  go_enter Tryz.func102, Tryz.ntmps102
  go_wp2_with (go_at_call 100; refine (fB _ _ _ _).mono ?_; rintro e w1 ⟨rfl, rfl⟩)
  go_ret
  exact ⟨rfl, rfl⟩
set_option maxHeartbeats 1000000 in
theorem uG (v : Value) (l : List ND) (w : World) (h : NSl w v l) (hn : l ≠ []) (hl : l.length ≤ 1048576) : Calls Tryz.prog 103 #[v] w (EO w l) := by
  obtain ⟨b1, o1, c1, rfl, k1, m1, s1, H1⟩ := h.at hn
  have hl0 : 0 < l.length := List.length_pos_iff.2 hn
  obtain ⟨i0, hi0, hz0, hz1, hz2⟩ := info_parts iG
  have HW := Lib.hid h
  clear H1 h
  go_enter Tryz.func103, Tryz.ntmps103
  go_wp2_with (first
    | (at_builtin; refine wpList_append_lies _ rfl _ _ 24 rfl w.heap.size 37 i0 _ 8 64 fA hi0 hz0 hz1 hz2 rfl (by decide) (.slice (some ⟨w.heap.size, 0, none⟩) 0 0) 0 [] rfl (dG _ _ (Below.refl _ _)) ⟨b1, o1, none⟩ l.length c1 (cellsOf l) rfl (kA l) (XI HW.out ((Below.refl _ _).alloc (Nat.le_refl _) _) hn) (gI l) hl0 (by unfold maxLen; omega) (by omega) (by simp) (w.heap.size + 1) (by simp) ?_; intro g cap w1 hown hgrow hat hgl)
    | go_in)
  go_ret
  rw [List.nil_append, Nat.zero_add] at hown
  obtain ⟨q1, q2⟩ : w.heap.size ≤ g ∧ Below w.heap.size w w1 := ⟨by
      rcases hat with h | h
      · simp [Value.ownBlock] at h; omega
      · omega, ((Below.refl _ _).alloc (Nat.le_refl _) _).grown hgrow (by simp) (fun j hj => by simp [Value.ownBlock] at hj; omega)⟩
  exact ⟨g, _, rfl, q1, YD hown, q2⟩
theorem gO {w1 : World} {l : List ND} {g k : Nat} {u : Value} {n : ND} (hO : Own w1 u g 37 8 l.length (cellsOf l)) (hn : l[k]? = some n) (o : Int) : Own (w1.setCell ⟨g, k * 8 + 4, none⟩ (.int .i64 o)) u g 37 8 (l.set k (SE n o)).length (cellsOf (l.set k (SE n o))) := by
  obtain ⟨cap, sp, rfl, h1, h2, h3, h4⟩ := hO
  refine ⟨cap, sp, by simp, by simpa using h1, h2, ⟨by rw [kA], ?_⟩, h4.set4 hn o⟩
  have h5 := h3.2
  simp only [List.length_append, kA, List.length_set] at h5 ⊢
  exact h5
set_option maxRecDepth 100000 in
set_option maxHeartbeats 2000000 in
theorem PH (v : Value) (l : List ND) (a task : Int) (w : World) (h : NSl w v l) (hl : l.length ≤ 1048576) (ha : dF a) :
    Calls Tryz.prog 119 #[v, .int .i64 a, .int .i64 task] w (SaysL (rB l a task) w) := by
  have C := IF v l w h hl
  rcases Bool.eq_false_or_eq_true (FB l) with hb | hb
  · rcases Bool.eq_false_or_eq_true (eF task) with ht | ht
    · obtain ⟨l1, l30⟩ := gB hb
      obtain ⟨t0, t5⟩ := PC ht
      have HL : rB l a task = if mC l a && NE l a == 0 then (CD l a (task + 1), true) else (l, false) := by unfold rB; rw [hb, ht]; rfl
      have hne : l ≠ [] := by intro e; subst e; simp at l1
      obtain ⟨b1, o1, c1, rfl, k1, m1, s1, H1⟩ := h.at hne
      unfold maxLen at m1
      have HH := Lib.hid h
      have HT := Lib.hid ht
      rcases Bool.eq_false_or_eq_true (mC l a) with hh | hh
      · obtain ⟨a0, a1⟩ := PC hh
        obtain ⟨k, rfl⟩ := Int.eq_ofNat_of_zero_le a0
        have hk : k < l.length := by omega
        obtain ⟨n, hn⟩ : ∃ n, l[k]? = some n := ⟨_, List.getElem?_eq_getElem hk⟩
        have ho : NE l (k : Int) = n.o := by simp [NE, hn]
        have HN := Lib.hid hn
        have HA := Lib.hid (H1 k n hn)
        have HHH := Lib.hid hh
        have j0 : (k : Int) < (l.length : Int) := by omega
        by_cases h0 : n.o = 0
        · have HR : rB l k task = (CD l k (task + 1), true) := by rw [HL, hh, ho, h0]; rfl
          rw [HR]
          have HG : CD l k (task + 1) = l.set k (SE n (task + 1)) := by simp [CD, hn]
          have HGG := Lib.hid HG
          have H0 := Lib.hid h0
          clear HL HR h hn ho H1 hh ht HG h0
          go_enter Tryz.func119, Tryz.ntmps119
          go_wp2_with fail
          refine C.mono ?_
          rintro e w1 ⟨rfl, hB1⟩
          rw [hb]
          go_wp2_with fail
          refine (tG task w1).mono ?_
          rintro e w1' ⟨rfl, rfl⟩
          rw [HT.out]
          go_wp2_with fail
          refine (uG _ l w1 (HH.out.below hB1) hne hl).mono ?_
          rintro e w2 ⟨g, u, rfl, hg, hO, hB2⟩
          have hB2' := hB1.trans (hB2.mono hB1.size)
          go_wp2_with fail
          refine (cG _ _ l _ _ hl).mono ?_
          rintro e w2' ⟨rfl, rfl⟩
          rw [HHH.out]
          have A0 := HA.out.below hB2' s1
          simp only [At8, H0.out] at A0
          obtain ⟨-, -, -, -, A4, -⟩ := A0
          obtain ⟨cap, sp, rfl, q1, q2, q3, q4⟩ := id hO
          obtain ⟨A5, A6⟩ := q4.there4 HN.out
          have HO := Lib.hid hO
          have HB := Lib.hid hB2'
          have hz := hB1.size
          unfold maxLen at q2
          clear q4 q3 hO hB2' hB1 hB2 C
          go_wp2
          go_ret2
          rw [HGG.out]
          exact ⟨_, rfl, OwnR.of_own (gO HO.out HN.out _) (by omega) (by simp; omega), HB.out.setCell (by simp; omega) _⟩
        · have HR : rB l k task = (l, false) := by rw [HL, hh, ho]; simp [h0]
          rw [HR]
          clear HL HR h hn ho H1 hh ht
          go_enter Tryz.func119, Tryz.ntmps119
          go_wp2_with fail
          refine C.mono ?_
          rintro e w1 ⟨rfl, hB1⟩
          rw [hb]
          go_wp2_with fail
          refine (tG task w1).mono ?_
          rintro e w1' ⟨rfl, rfl⟩
          rw [HT.out]
          go_wp2_with fail
          refine (uG _ l w1 (HH.out.below hB1) hne hl).mono ?_
          rintro e w2 ⟨g, u, rfl, hg, hO, hB2⟩
          have hB2' := hB1.trans (hB2.mono hB1.size)
          go_wp2_with fail
          refine (cG _ _ l _ _ hl).mono ?_
          rintro e w2' ⟨rfl, rfl⟩
          rw [HHH.out]
          have A0 := HA.out.below hB2' s1
          simp only [At8] at A0
          obtain ⟨-, -, -, -, A4, -⟩ := A0
          go_wp2
          go_ret2
          exact SaysL.fresh hB1 hg hO l1 hB2
      · have HR : rB l a task = (l, false) := by rw [HL, hh]; rfl
        rw [HR]
        have HHH := Lib.hid hh
        clear HL HR h H1 hh ht
        go_enter Tryz.func119, Tryz.ntmps119
        go_wp2_with fail
        refine C.mono ?_
        rintro e w1 ⟨rfl, hB1⟩
        rw [hb]
        go_wp2_with fail
        refine (tG task w1).mono ?_
        rintro e w1' ⟨rfl, rfl⟩
        rw [HT.out]
        go_wp2_with fail
        refine (uG _ l w1 (HH.out.below hB1) hne hl).mono ?_
        rintro e w2 ⟨g, u, rfl, hg, hO, hB2⟩
        go_wp2_with fail
        refine (cG _ _ l _ _ hl).mono ?_
        rintro e w2' ⟨rfl, rfl⟩
        rw [HHH.out]
        go_wp2
        go_ret2
        exact SaysL.fresh hB1 hg hO l1 hB2
    · have HR : rB l a task = ([], false) := by unfold rB; rw [hb, ht]; rfl
      rw [HR]
      have HT := Lib.hid ht
      clear HR ht
      go_enter Tryz.func119, Tryz.ntmps119
      go_wp2_with fail
      refine C.mono ?_
      rintro e w1 ⟨rfl, hB1⟩
      rw [hb]
      go_wp2_with fail
      refine (tG task w1).mono ?_
      rintro e w1' ⟨rfl, rfl⟩
      rw [HT.out]
      go_wp2
      go_ret2
      exact ⟨_, rfl, OwnR.nil _ _ _ _ _ _ _ (by simp [maxLen]), hB1.alloc hB1.size _⟩
  · have HR : rB l a task = ([], false) := by unfold rB; rw [hb]; rfl
    rw [HR]
    clear HR
    go_enter Tryz.func119, Tryz.ntmps119
    go_wp2_with fail
    refine C.mono ?_
    rintro e w1 ⟨rfl, hB1⟩
    rw [hb]
    go_wp2
    go_ret2
    exact ⟨_, rfl, OwnR.nil _ _ _ _ _ _ _ (by simp [maxLen]), hB1.alloc hB1.size _⟩
def sI (l : List ND) (task : Int) (k : Nat) : List Int := ((List.range k).filter fun i => match l[i]? with | some n => n.o == task + 1 | none => false).map fun (i : Nat) => (i : Int)
def oF (l : List ND) (task : Int) (k : Nat) : List Int := if eF task then sI l task k else []
theorem CL {l : List ND} {k : Nat} {n : ND} (h : l[k]? = some n) (task : Int) : oF l task (k + 1) = if eF task && n.o == task + 1 then oF l task k ++ [(k : Int)] else oF l task k := by
  unfold oF
  cases ht : eF task
  · simp
  · by_cases h0 : n.o = task + 1
    · simp [sI, List.range_succ, List.filter_append, h, h0]
    · simp [sI, List.range_succ, List.filter_append, h, h0]
set_option maxRecDepth 100000 in
set_option maxHeartbeats 4000000 in
theorem QH (v : Value) (l : List ND) (task : Int) (w : World) (h : NSl w v l) (hl : l.length ≤ 1048576) :
    Calls Tryz.prog 164 #[v, .int .i64 task] w (SaysI (tB l task) w) := by
  have C := fun w1 hb => IF v l w1 (NSl.below h (w' := w1) hb) hl
  rcases Bool.eq_false_or_eq_true (FB l) with hb | hb
  · obtain ⟨l1, l30⟩ := gB hb
    have hne : l ≠ [] := by intro e; subst e; simp at l1
    obtain ⟨b1, o1, c1, rfl, k1, m1, s1, H1⟩ := h.at hne
    unfold maxLen at m1
    obtain ⟨i0, hi0, hz0, hz1, hz2⟩ := info_parts xK
    have HH := Lib.hid H1
    have HC := Lib.hid C
    clear h H1 C
    go_enter Tryz.func164, Tryz.ntmps164
    go_wp2
    go_loopw [5, 6] (fun o i wr => ∃ (k : Nat) (ss : List Int) (oa : Option Addr) (oc : Nat), k ≤ l.length ∧ o = .slice oa ss.length oc ∧ i = .int .i64 k ∧ ss.length ≤ k ∧ Hid (ss = oF l task k) ∧
        Hid (wr.ownsRow w.heap.size 2 1 (.slice oa ss.length oc) ss.length (DA ss)) ∧ Below w.heap.size w wr) (fun _ i _ => l.length - (intOf i).toNat)
    case atStart => exact ⟨0, [], _, _, Nat.zero_le _, rfl, rfl, Nat.le_refl _, Lib.hid (by simp [oF, sI]), Lib.hid (dG _ _ (Below.refl _ _)), (Below.refl _ _).alloc (Nat.le_refl _) _⟩
    case round =>
      obtain ⟨k, ss, oa, oc, hk, rfl, rfl, hsk, hss, hrow, hB⟩ := hrel
      by_cases hlt : k < l.length
      · obtain ⟨n, hn⟩ : ∃ n, l[k]? = some n := ⟨_, List.getElem?_eq_getElem hlt⟩
        have i0' : (0 : Int) ≤ (k : Int) := by omega
        have i1 : (k : Int) < (l.length : Int) := by omega
        have hstep := CL hn task
        have HS := Lib.hid hstep
        have HA := Lib.hid (HH.out k n hn)
        have HB := Lib.hid hB
        clear hstep hn hB
        go_wp2_with fail
        refine (HC.out wr HB.out).mono ?_
        rintro e w1 ⟨rfl, hB1⟩
        rw [hb]
        have hB1' := HB.out.trans (hB1.mono HB.out.size)
        have hrow1 := Lib.hid (oN hrow.out (Nat.le_refl _) hB1)
        have A0 := HA.out.below hB1' s1
        simp only [At8] at A0
        obtain ⟨-, -, -, -, A4, -⟩ := A0
        have HB1 := Lib.hid hB1'
        clear hB1 hB1'
        by_cases t0 : 0 ≤ task
        · by_cases t5 : task < 6
          · have ht : eF task = true := by simp [eF, XA]; omega
            by_cases h0 : n.o = task + 1
            · have e1 : oF l task (k + 1) = ss ++ [(k : Int)] := by rw [HS.out, if_pos (by rw [ht]; simp [h0]), hss.out]
              have E1 := Lib.hid e1
              rw [h0] at A4
              clear e1 h0 ht
              go_wp2_with (first
                | (at_builtin; refine wpList_append_lies _ rfl _ _ 39 rfl w.heap.size 2 i0 (.int .i64 0) 1 8 KA hi0 hz0 hz1 hz2 rfl (by decide) (.slice oa ss.length oc) ss.length (DA ss) rfl (hrow1.out.alloc _) ⟨w1.heap.size, 0, none⟩ 1 1 [.int .i64 (k : Int)] rfl rfl (cell_one_new _ _ _) (by simp [Value.oneCell']) (by omega) (by unfold maxLen; omega) (by omega) (by have := HB1.out.size; simp; omega) (w1.heap.size + 1) (by simp) ?_; intro g' cap' w5 hown' hg5 hat5 hgl5; go_frame))
              go_roundw
              case rel => exact ⟨k + 1, ss ++ [(k : Int)], some ⟨g', 0, none⟩, cap', by omega, by simp, by go_num, by simp; omega, Lib.hid E1.out.symm, Lib.hid (by simpa [DA] using hown'), (HB1.out.alloc HB1.out.size _).grown hg5 (by have := HB1.out.size; simp; omega) (fun j hj => (hrow1.out.lt j hj).1)⟩
              case measure => simp [intOf]; omega
            · have e1 : oF l task (k + 1) = ss := by rw [HS.out, if_neg (by simp [h0]), hss.out]
              have E1 := Lib.hid e1
              clear e1 ht
              go_wp2
              go_roundw
              case rel => exact ⟨k + 1, ss, oa, oc, by omega, rfl, by go_num, by omega, Lib.hid E1.out.symm, hrow1, HB1.out⟩
              case measure => simp [intOf]; omega
          · have e1 : oF l task (k + 1) = ss := by rw [HS.out, if_neg (by simp [eF, XA]; omega), hss.out]
            have E1 := Lib.hid e1
            clear e1
            go_wp2
            go_roundw
            case rel => exact ⟨k + 1, ss, oa, oc, by omega, rfl, by go_num, by omega, Lib.hid E1.out.symm, hrow1, HB1.out⟩
            case measure => simp [intOf]; omega
        · have e1 : oF l task (k + 1) = ss := by rw [HS.out, if_neg (by simp [eF, XA]; omega), hss.out]
          have E1 := Lib.hid e1
          clear e1
          go_wp2
          go_roundw
          case rel => exact ⟨k + 1, ss, oa, oc, by omega, rfl, by go_num, by omega, Lib.hid E1.out.symm, hrow1, HB1.out⟩
          case measure => simp [intOf]; omega
      · obtain rfl : k = l.length := by omega
        have e2 : tB l task = ss := by rw [hss.out]; simp only [tB, hb, Bool.true_and]; rfl
        have E2 := Lib.hid e2
        clear e2
        go_wp2
        go_ret
        rw [E2.out]
        exact ⟨_, rfl, OwnR.of_row hrow.out, hB⟩
  · have HR : tB l task = [] := by simp [tB, hb]
    rw [HR]
    obtain ⟨a, cap, rfl, _⟩ := id h
    have HC := Lib.hid C
    clear HR C
    go_enter Tryz.func164, Tryz.ntmps164
    go_wp2
    go_loopw [5, 6] (fun o i wr => o = .slice (some ⟨w.heap.size, 0, none⟩) 0 0 ∧ i = .int .i64 0 ∧ Below w.heap.size w wr) (fun _ _ _ => 0)
    case atStart => exact ⟨rfl, rfl, (Below.refl _ _).alloc (Nat.le_refl _) _⟩
    case round =>
      obtain ⟨rfl, rfl, hB⟩ := hrel
      by_cases hlt : 0 < l.length
      · have i1 : (0 : Int) < (l.length : Int) := by omega
        go_wp2_with fail
        refine (HC.out wr hB).mono ?_
        rintro e w1 ⟨rfl, hB1⟩
        rw [hb]
        go_wp2
        go_ret
        exact ⟨_, rfl, OwnR.nil _ _ _ _ _ _ _ (by simp [maxLen]), hB.trans (hB1.mono hB.size)⟩
      · have i1 : ¬ (0 : Int) < (l.length : Int) := by omega
        go_wp2
        go_ret
        exact ⟨_, rfl, OwnR.nil _ _ _ _ _ _ _ (by simp [maxLen]), hB⟩
end Go.Proofs.YtfjafncipjdnfaaGreat
