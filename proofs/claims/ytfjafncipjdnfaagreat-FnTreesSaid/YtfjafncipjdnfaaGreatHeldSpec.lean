import Derived.Test.YtfjafncipjdnfaaGreatNodesSpec
import Derived.Test.YtfjafncipjdnfaaGreatOpen
import Derived.Deep.AppendLies
import Derived.Maps.RangeWalk
namespace Go.Proofs.YtfjafncipjdnfaaGreat
open Go.ChangeShapes Go.WideShapes Go.ChangeAt Go.RowKit
set_option linter.unusedVariables false
set_option linter.unusedSimpArgs false
def HJ (l : List ND) (task : Int) : List Int := ((List.range l.length).filter fun i => match l[i]? with | some n => n.o == task + 1 | none => false).map fun (i : Nat) => (i : Int)
def qF (t : Int) : Bool := ZA t 0 5
def fB (l : List ND) (task : Int) : List Int := if PA l && qF task then HJ l task else []
def SF (n : ND) (o : Int) : ND := { n with o := o }
def dC (l : List ND) (at' : Int) : Bool := ZA at' 0 ((l.length : Int) - 1)
def sH (l : List ND) (at' : Int) : Int := match l[at'.toNat]? with | some n => n.o | none => 0
def lF (l : List ND) (at' o : Int) : List ND := match l[at'.toNat]? with | some n => l.set at'.toNat (SF n o) | none => l
def XC (l : List ND) (at' task : Int) : List ND × Bool :=
  if PA l && qF task then (if dC l at' && sH l at' == 0 then (lF l at' (task + 1), true) else (l, false)) else ([], false)
theorem TB {l : List ND} (h : PA l = true) : 1 ≤ l.length ∧ l.length ≤ 30 := by
  match l, h with
  | m :: r, h =>
    simp only [PA, Bool.and_eq_true, decide_eq_true_eq] at h
    exact h.1
theorem TK (l : List ND) : ∀ u ∈ cellsOf l, u.oneCell' = true := by
  intro u hu
  obtain ⟨n, -, hn⟩ := List.mem_flatMap.1 hu
  simp [ND.cells] at hn
  rcases hn with rfl | rfl | rfl | rfl | rfl | rfl | rfl | rfl <;> rfl
theorem CL {w w1 : World} {l : List ND} {b off c : Nat} (h : Sl w (.slice (some ⟨b, off, none⟩) l.length c) 8 l.length (cellsOf l)) (hb : Below w.heap.size w w1) (hn : l ≠ []) : ∀ j u, (cellsOf l)[j]? = some u → w1.cell? ((⟨b, off, none⟩ : Addr).add j) = some u := by
  intro j u hj
  obtain ⟨a, cap, hv, -, -, h3, h4⟩ := Sl.below (by omega) h hb
  cases hv
  rcases h4 with h4 | ⟨b', off', e, hc⟩
  · exact absurd (List.length_eq_zero_iff.1 h4) hn
  · cases e
    rw [JL, hc j (List.getElem?_eq_some_iff.1 hj).1, hj]
theorem OM {l : List ND} {k : Nat} {n : ND} (h : l[k]? = some n) (o : Int) : (cellsOf l).set (k * 8 + 4) (.int .i64 o) = cellsOf (l.set k (SF n o)) := by
  induction l generalizing k with
  | nil => simp at h
  | cons m r ih =>
    cases k with
    | zero =>
      simp at h
      subst h
      simp [cellsOf, ND.cells, SF]
    | succ k =>
      simp only [List.getElem?_cons_succ] at h
      have e : cellsOf (m :: r) = m.cells ++ cellsOf r := rfl
      rw [e, List.set_append_right _ _ (by rw [ND.cells_len]; omega), ND.cells_len, show (k + 1) * 8 + 4 - 8 = k * 8 + 4 by omega, ih h]
      rfl
theorem Blk.there4 {w : World} {g : Nat} {e : TypeId} {l : List ND} {sp : List Value} {k : Nat} {n : ND} (h : Blk w g e (cellsOf l ++ sp)) (hn : l[k]? = some n) : w.cell? ⟨g, k * 8 + 4, none⟩ = some (.int .i64 n.o) ∧ w.frozen? ⟨g, k * 8 + 4, none⟩ = false := by
  have hk : k < l.length := (List.getElem?_eq_some_iff.1 hn).1
  refine ⟨?_, h.free _⟩
  rw [h.cell, List.getElem?_append_left (by rw [iA]; omega), kH hn 4 (by omega)]
  rfl
theorem Blk.set4 {w : World} {g : Nat} {e : TypeId} {l : List ND} {sp : List Value} {k : Nat} {n : ND} (h : Blk w g e (cellsOf l ++ sp)) (hn : l[k]? = some n) (o : Int) : Blk (w.setCell ⟨g, k * 8 + 4, none⟩ (.int .i64 o)) g e (cellsOf (l.set k (SF n o)) ++ sp) := by
  have hk : k < l.length := (List.getElem?_eq_some_iff.1 hn).1
  have := h.set (k * 8 + 4) (.int .i64 o)
  rwa [List.set_append_left _ _ (by rw [iA]; omega), OM hn] at this
def SaysL (r : List ND × Bool) (w : World) (e : Ending) (w' : World) : Prop :=
  ∃ u, e = .returned (.tuple #[u, .bool r.2]) ∧ OwnR w' w.heap.size w'.heap.size 37 8 r.1.length (cellsOf r.1) u ∧ Below w.heap.size w w'
theorem SaysL.fresh {w w1 w' : World} {l : List ND} {g : Nat} {u : Value} {b : Bool} (hB : Below w.heap.size w w1) (hg : w1.heap.size ≤ g) (hO : Own w' u g 37 8 l.length (cellsOf l)) (hl : 1 ≤ l.length) (hB' : Below w1.heap.size w1 w') : SaysL (l, b) w (.returned (.tuple #[u, .bool b])) w' :=
  ⟨u, rfl, OwnR.of_own hO (show w.heap.size ≤ g by have := hB.size; omega) (show 0 < l.length from hl), hB.trans (hB'.mono hB.size)⟩
theorem ZI (l : List ND) (a o : Int) : (lF l a o).length = l.length := by
  unfold lF
  split <;> simp
open Go.Maps
theorem MF (t : Int) (w : World) : Calls Tryz.prog 146 #[.int .i64 t] w fun e w' => e = .returned (.bool (qF t)) ∧ w = w' := by
  go_enter Tryz.func146, Tryz.ntmps146
  go_wp2_with (go_at_call 100; refine (UA _ _ _ _).mono ?_; rintro e w1 ⟨rfl, rfl⟩)
  go_ret
  exact ⟨rfl, rfl⟩
theorem tF (a : Option Addr) (c : Nat) (l : List ND) (x : Int) (w : World) (hl : l.length ≤ 1048576) : Calls Tryz.prog 102 #[.slice a l.length c, .int .i64 x] w fun e w' => e = .returned (.bool (dC l x)) ∧ w = w' := by
  go_enter Tryz.func102, Tryz.ntmps102
  go_wp2_with (go_at_call 100; refine (UA _ _ _ _).mono ?_; rintro e w1 ⟨rfl, rfl⟩)
  go_ret
  exact ⟨rfl, rfl⟩
set_option maxHeartbeats 1000000 in
theorem NF (v : Value) (l : List ND) (w : World) (h : NSl w v l) (hn : l ≠ []) (hl : l.length ≤ 1048576) : Calls Tryz.prog 103 #[v] w (Fresh w l) := by
  obtain ⟨b1, o1, c1, rfl, k1, m1, s1, H1⟩ := h.at hn
  have hl0 : 0 < l.length := List.length_pos_iff.2 hn
  obtain ⟨i0, hi0, hz0, hz1, hz2⟩ := info_parts BF
  have HW := Lib.hid h
  clear H1 h
  go_enter Tryz.func103, Tryz.ntmps103
  go_wp2_with (first
    | (at_builtin; refine wpList_append_lies _ rfl _ _ 24 rfl w.heap.size 37 i0 _ 8 64 fA hi0 hz0 hz1 hz2 rfl (by decide) (.slice (some ⟨w.heap.size, 0, none⟩) 0 0) 0 [] rfl (wF _ _ (Below.refl _ _)) ⟨b1, o1, none⟩ l.length c1 (cellsOf l) rfl (iA l) (CL HW.out ((Below.refl _ _).alloc (Nat.le_refl _) _) hn) (TK l) hl0 (by unfold maxLen; omega) (by omega) (by simp) (w.heap.size + 1) (by simp) ?_; intro g cap w1 hown hgrow hat hgl)
    | go_in)
  go_ret
  rw [List.nil_append, Nat.zero_add] at hown
  obtain ⟨q1, q2⟩ : w.heap.size ≤ g ∧ Below w.heap.size w w1 := ⟨by
      rcases hat with h | h
      · simp [Value.ownBlock] at h; omega
      · omega, ((Below.refl _ _).alloc (Nat.le_refl _) _).grown hgrow (by simp) (fun j hj => by simp [Value.ownBlock] at hj; omega)⟩
  exact ⟨g, _, rfl, q1, MD hown, q2⟩
theorem mN {w1 : World} {l : List ND} {g k : Nat} {u : Value} {n : ND} (hO : Own w1 u g 37 8 l.length (cellsOf l)) (hn : l[k]? = some n) (o : Int) : Own (w1.setCell ⟨g, k * 8 + 4, none⟩ (.int .i64 o)) u g 37 8 (l.set k (SF n o)).length (cellsOf (l.set k (SF n o))) := by
  obtain ⟨cap, sp, rfl, h1, h2, h3, h4⟩ := hO
  refine ⟨cap, sp, by simp, by simpa using h1, h2, ⟨by rw [iA], ?_⟩, h4.set4 hn o⟩
  have h5 := h3.2
  simp only [List.length_append, iA, List.length_set] at h5 ⊢
  exact h5
set_option maxRecDepth 100000 in
set_option maxHeartbeats 2000000 in
theorem YG (v : Value) (l : List ND) (a task : Int) (w : World) (h : NSl w v l) (hl : l.length ≤ 1048576) (ha : nE a) :
    Calls Tryz.prog 119 #[v, .int .i64 a, .int .i64 task] w (SaysL (XC l a task) w) := by
  have C := CD v l w h hl
  rcases Bool.eq_false_or_eq_true (PA l) with hb | hb
  · rcases Bool.eq_false_or_eq_true (qF task) with ht | ht
    · obtain ⟨l1, l30⟩ := TB hb
      obtain ⟨t0, t5⟩ := QC ht
      have HL : XC l a task = if dC l a && sH l a == 0 then (lF l a (task + 1), true) else (l, false) := by unfold XC; rw [hb, ht]; rfl
      have hne : l ≠ [] := by intro e; subst e; simp at l1
      obtain ⟨b1, o1, c1, rfl, k1, m1, s1, H1⟩ := h.at hne
      unfold maxLen at m1
      have HH := Lib.hid h
      have HT := Lib.hid ht
      rcases Bool.eq_false_or_eq_true (dC l a) with hh | hh
      · obtain ⟨a0, a1⟩ := QC hh
        obtain ⟨k, rfl⟩ := Int.eq_ofNat_of_zero_le a0
        have hk : k < l.length := by omega
        obtain ⟨n, hn⟩ : ∃ n, l[k]? = some n := ⟨_, List.getElem?_eq_getElem hk⟩
        have ho : sH l (k : Int) = n.o := by simp [sH, hn]
        have HN := Lib.hid hn
        have HA := Lib.hid (H1 k n hn)
        have HHH := Lib.hid hh
        have j0 : (k : Int) < (l.length : Int) := by omega
        by_cases h0 : n.o = 0
        · have HR : XC l k task = (lF l k (task + 1), true) := by rw [HL, hh, ho, h0]; rfl
          rw [HR]
          have HG : lF l k (task + 1) = l.set k (SF n (task + 1)) := by simp [lF, hn]
          have HGG := Lib.hid HG
          have H0 := Lib.hid h0
          clear HL HR h hn ho H1 hh ht HG h0
          go_enter Tryz.func119, Tryz.ntmps119
          go_wp2_with fail
          refine C.mono ?_
          rintro e w1 ⟨rfl, hB1⟩
          rw [hb]
          go_wp2_with fail
          refine (MF task w1).mono ?_
          rintro e w1' ⟨rfl, rfl⟩
          rw [HT.out]
          go_wp2_with fail
          refine (NF _ l w1 (HH.out.below hB1) hne hl).mono ?_
          rintro e w2 ⟨g, u, rfl, hg, hO, hB2⟩
          have hB2' := hB1.trans (hB2.mono hB1.size)
          go_wp2_with fail
          refine (tF _ _ l _ _ hl).mono ?_
          rintro e w2' ⟨rfl, rfl⟩
          rw [HHH.out]
          have A0 := HA.out.below hB2' s1
          simp only [At8, H0.out] at A0
          obtain ⟨-, -, -, -, A4, -⟩ := A0
          obtain ⟨cap, sp, rfl, q1, q2, q3, q4⟩ := id hO
          obtain ⟨A5, A6⟩ := q4.there4 HN.out
          have HO := Lib.hid hO
          have HB := Lib.hid hB2'
          have hz := hB1.size
          unfold maxLen at q2
          clear q4 q3 hO hB2' hB1 hB2 C
          go_wp2
          go_ret2
          rw [HGG.out]
          exact ⟨_, rfl, OwnR.of_own (mN HO.out HN.out _) (by omega) (by simp; omega), HB.out.setCell (by simp; omega) _⟩
        · have HR : XC l k task = (l, false) := by rw [HL, hh, ho]; simp [h0]
          rw [HR]
          clear HL HR h hn ho H1 hh ht
          go_enter Tryz.func119, Tryz.ntmps119
          go_wp2_with fail
          refine C.mono ?_
          rintro e w1 ⟨rfl, hB1⟩
          rw [hb]
          go_wp2_with fail
          refine (MF task w1).mono ?_
          rintro e w1' ⟨rfl, rfl⟩
          rw [HT.out]
          go_wp2_with fail
          refine (NF _ l w1 (HH.out.below hB1) hne hl).mono ?_
          rintro e w2 ⟨g, u, rfl, hg, hO, hB2⟩
          have hB2' := hB1.trans (hB2.mono hB1.size)
          go_wp2_with fail
          refine (tF _ _ l _ _ hl).mono ?_
          rintro e w2' ⟨rfl, rfl⟩
          rw [HHH.out]
          have A0 := HA.out.below hB2' s1
          simp only [At8] at A0
          obtain ⟨-, -, -, -, A4, -⟩ := A0
          go_wp2
          go_ret2
          exact SaysL.fresh hB1 hg hO l1 hB2
      · have HR : XC l a task = (l, false) := by rw [HL, hh]; rfl
        rw [HR]
        have HHH := Lib.hid hh
        clear HL HR h H1 hh ht
        go_enter Tryz.func119, Tryz.ntmps119
        go_wp2_with fail
        refine C.mono ?_
        rintro e w1 ⟨rfl, hB1⟩
        rw [hb]
        go_wp2_with fail
        refine (MF task w1).mono ?_
        rintro e w1' ⟨rfl, rfl⟩
        rw [HT.out]
        go_wp2_with fail
        refine (NF _ l w1 (HH.out.below hB1) hne hl).mono ?_
        rintro e w2 ⟨g, u, rfl, hg, hO, hB2⟩
        go_wp2_with fail
        refine (tF _ _ l _ _ hl).mono ?_
        rintro e w2' ⟨rfl, rfl⟩
        rw [HHH.out]
        go_wp2
        go_ret2
        exact SaysL.fresh hB1 hg hO l1 hB2
    · have HR : XC l a task = ([], false) := by unfold XC; rw [hb, ht]; rfl
      rw [HR]
      have HT := Lib.hid ht
      clear HR ht
      go_enter Tryz.func119, Tryz.ntmps119
      go_wp2_with fail
      refine C.mono ?_
      rintro e w1 ⟨rfl, hB1⟩
      rw [hb]
      go_wp2_with fail
      refine (MF task w1).mono ?_
      rintro e w1' ⟨rfl, rfl⟩
      rw [HT.out]
      go_wp2
      go_ret2
      exact ⟨_, rfl, OwnR.nil _ _ _ _ _ _ _ (by simp [maxLen]), hB1.alloc hB1.size _⟩
  · have HR : XC l a task = ([], false) := by unfold XC; rw [hb]; rfl
    rw [HR]
    clear HR
    go_enter Tryz.func119, Tryz.ntmps119
    go_wp2_with fail
    refine C.mono ?_
    rintro e w1 ⟨rfl, hB1⟩
    rw [hb]
    go_wp2
    go_ret2
    exact ⟨_, rfl, OwnR.nil _ _ _ _ _ _ _ (by simp [maxLen]), hB1.alloc hB1.size _⟩
def tH (l : List ND) (task : Int) (k : Nat) : List Int := ((List.range k).filter fun i => match l[i]? with | some n => n.o == task + 1 | none => false).map fun (i : Nat) => (i : Int)
def NE (l : List ND) (task : Int) (k : Nat) : List Int := if qF task then tH l task k else []
theorem GK {l : List ND} {k : Nat} {n : ND} (h : l[k]? = some n) (task : Int) : NE l task (k + 1) = if qF task && n.o == task + 1 then NE l task k ++ [(k : Int)] else NE l task k := by
  unfold NE
  cases ht : qF task
  · simp
  · by_cases h0 : n.o = task + 1
    · simp [tH, List.range_succ, List.filter_append, h, h0]
    · simp [tH, List.range_succ, List.filter_append, h, h0]
set_option maxRecDepth 100000 in
set_option maxHeartbeats 4000000 in
theorem ZG (v : Value) (l : List ND) (task : Int) (w : World) (h : NSl w v l) (hl : l.length ≤ 1048576) :
    Calls Tryz.prog 164 #[v, .int .i64 task] w (SaysI (fB l task) w) := by
  have C := fun w1 hb => CD v l w1 (NSl.below h (w' := w1) hb) hl
  rcases Bool.eq_false_or_eq_true (PA l) with hb | hb
  · obtain ⟨l1, l30⟩ := TB hb
    have hne : l ≠ [] := by intro e; subst e; simp at l1
    obtain ⟨b1, o1, c1, rfl, k1, m1, s1, H1⟩ := h.at hne
    unfold maxLen at m1
    obtain ⟨i0, hi0, hz0, hz1, hz2⟩ := info_parts YL
    have HH := Lib.hid H1
    have HC := Lib.hid C
    clear h H1 C
    go_enter Tryz.func164, Tryz.ntmps164
    go_wp2
    go_loopw [5, 6] (fun o i wr => ∃ (k : Nat) (ss : List Int) (oa : Option Addr) (oc : Nat), k ≤ l.length ∧ o = .slice oa ss.length oc ∧ i = .int .i64 k ∧ ss.length ≤ k ∧ Hid (ss = NE l task k) ∧
        Hid (wr.ownsRow w.heap.size 2 1 (.slice oa ss.length oc) ss.length (CA ss)) ∧ Below w.heap.size w wr) (fun _ i _ => l.length - (intOf i).toNat)
    case atStart => exact ⟨0, [], _, _, Nat.zero_le _, rfl, rfl, Nat.le_refl _, Lib.hid (by simp [NE, tH]), Lib.hid (wF _ _ (Below.refl _ _)), (Below.refl _ _).alloc (Nat.le_refl _) _⟩
    case round =>
      obtain ⟨k, ss, oa, oc, hk, rfl, rfl, hsk, hss, hrow, hB⟩ := hrel
      by_cases hlt : k < l.length
      · obtain ⟨n, hn⟩ : ∃ n, l[k]? = some n := ⟨_, List.getElem?_eq_getElem hlt⟩
        have i0' : (0 : Int) ≤ (k : Int) := by omega
        have i1 : (k : Int) < (l.length : Int) := by omega
        have hstep := GK hn task
        have HS := Lib.hid hstep
        have HA := Lib.hid (HH.out k n hn)
        have HB := Lib.hid hB
        clear hstep hn hB
        go_wp2_with fail
        refine (HC.out wr HB.out).mono ?_
        rintro e w1 ⟨rfl, hB1⟩
        rw [hb]
        have hB1' := HB.out.trans (hB1.mono HB.out.size)
        have hrow1 := Lib.hid (MG hrow.out (Nat.le_refl _) hB1)
        have A0 := HA.out.below hB1' s1
        simp only [At8] at A0
        obtain ⟨-, -, -, -, A4, -⟩ := A0
        have HB1 := Lib.hid hB1'
        clear hB1 hB1'
        by_cases t0 : 0 ≤ task
        · by_cases t5 : task < 6
          · have ht : qF task = true := by simp [qF, ZA]; omega
            by_cases h0 : n.o = task + 1
            · have e1 : NE l task (k + 1) = ss ++ [(k : Int)] := by rw [HS.out, if_pos (by rw [ht]; simp [h0]), hss.out]
              have E1 := Lib.hid e1
              rw [h0] at A4
              clear e1 h0 ht
              go_wp2_with (first
                | (at_builtin; refine wpList_append_lies _ rfl _ _ 39 rfl w.heap.size 2 i0 (.int .i64 0) 1 8 pB hi0 hz0 hz1 hz2 rfl (by decide) (.slice oa ss.length oc) ss.length (CA ss) rfl (hrow1.out.alloc _) ⟨w1.heap.size, 0, none⟩ 1 1 [.int .i64 (k : Int)] rfl rfl (cell_one_new _ _ _) (by simp [Value.oneCell']) (by omega) (by unfold maxLen; omega) (by omega) (by have := HB1.out.size; simp; omega) (w1.heap.size + 1) (by simp) ?_; intro g' cap' w5 hown' hg5 hat5 hgl5; go_frame))
              go_roundw
              case rel => exact ⟨k + 1, ss ++ [(k : Int)], some ⟨g', 0, none⟩, cap', by omega, by simp, by go_num, by simp; omega, Lib.hid E1.out.symm, Lib.hid (by simpa [CA] using hown'), (HB1.out.alloc HB1.out.size _).grown hg5 (by have := HB1.out.size; simp; omega) (fun j hj => (hrow1.out.lt j hj).1)⟩
              case measure => simp [intOf]; omega
            · have e1 : NE l task (k + 1) = ss := by rw [HS.out, if_neg (by simp [h0]), hss.out]
              have E1 := Lib.hid e1
              clear e1 ht
              go_wp2
              go_roundw
              case rel => exact ⟨k + 1, ss, oa, oc, by omega, rfl, by go_num, by omega, Lib.hid E1.out.symm, hrow1, HB1.out⟩
              case measure => simp [intOf]; omega
          · have e1 : NE l task (k + 1) = ss := by rw [HS.out, if_neg (by simp [qF, ZA]; omega), hss.out]
            have E1 := Lib.hid e1
            clear e1
            go_wp2
            go_roundw
            case rel => exact ⟨k + 1, ss, oa, oc, by omega, rfl, by go_num, by omega, Lib.hid E1.out.symm, hrow1, HB1.out⟩
            case measure => simp [intOf]; omega
        · have e1 : NE l task (k + 1) = ss := by rw [HS.out, if_neg (by simp [qF, ZA]; omega), hss.out]
          have E1 := Lib.hid e1
          clear e1
          go_wp2
          go_roundw
          case rel => exact ⟨k + 1, ss, oa, oc, by omega, rfl, by go_num, by omega, Lib.hid E1.out.symm, hrow1, HB1.out⟩
          case measure => simp [intOf]; omega
      · obtain rfl : k = l.length := by omega
        have e2 : fB l task = ss := by rw [hss.out]; simp only [fB, hb, Bool.true_and]; rfl
        have E2 := Lib.hid e2
        clear e2
        go_wp2
        go_ret
        rw [E2.out]
        exact ⟨_, rfl, OwnR.of_row hrow.out, hB⟩
  · have HR : fB l task = [] := by simp [fB, hb]
    rw [HR]
    obtain ⟨a, cap, rfl, _⟩ := id h
    have HC := Lib.hid C
    clear HR C
    go_enter Tryz.func164, Tryz.ntmps164
    go_wp2
    go_loopw [5, 6] (fun o i wr => o = .slice (some ⟨w.heap.size, 0, none⟩) 0 0 ∧ i = .int .i64 0 ∧ Below w.heap.size w wr) (fun _ _ _ => 0)
    case atStart => exact ⟨rfl, rfl, (Below.refl _ _).alloc (Nat.le_refl _) _⟩
    case round =>
      obtain ⟨rfl, rfl, hB⟩ := hrel
      by_cases hlt : 0 < l.length
      · have i1 : (0 : Int) < (l.length : Int) := by omega
        go_wp2_with fail
        refine (HC.out wr hB).mono ?_
        rintro e w1 ⟨rfl, hB1⟩
        rw [hb]
        go_wp2
        go_ret
        exact ⟨_, rfl, OwnR.nil _ _ _ _ _ _ _ (by simp [maxLen]), hB.trans (hB1.mono hB.size)⟩
      · have i1 : ¬ (0 : Int) < (l.length : Int) := by omega
        go_wp2
        go_ret
        exact ⟨_, rfl, OwnR.nil _ _ _ _ _ _ _ (by simp [maxLen]), hB⟩
end Go.Proofs.YtfjafncipjdnfaaGreat
