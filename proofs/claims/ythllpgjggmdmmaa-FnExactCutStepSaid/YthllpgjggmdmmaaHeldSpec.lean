/- HeldBy, Locked and Unlocked of the model. -/
import Derived.Test.YthllpgjggmdmmaaLock
import Derived.Maps.RangeWalk
namespace Go.Proofs.Ythllpgjggmdmmaa
open Go.ChangeShapes Go.WideShapes Go.ChangeAt Go.RowKit Go.Maps
set_option linter.unusedVariables false
set_option linter.unusedSimpArgs false

theorem spec_task (t : Int) (w : World) : Calls Try.prog 62 #[.int .i64 t] w fun e w' => e = .returned (.bool (taskB t)) ∧ w = w' := by
  go_enter Try.func62, Try.ntmps62
  go_wp2_with (go_at_call 38; refine (spec_in _ _ _ _).mono ?_; rintro e w1 ⟨rfl, rfl⟩)
  go_ret
  exact ⟨rfl, rfl⟩
theorem spec_has (a : Option Addr) (c : Nat) (l : List ND) (x : Int) (w : World) (hl : l.length ≤ 1048576) : Calls Try.prog 40 #[.slice a l.length c, .int .i64 x] w fun e w' => e = .returned (.bool (hasB l x)) ∧ w = w' := by
  go_enter Try.func40, Try.ntmps40
  go_wp2_with (go_at_call 38; refine (spec_in _ _ _ _).mono ?_; rintro e w1 ⟨rfl, rfl⟩)
  go_ret
  exact ⟨rfl, rfl⟩
set_option maxHeartbeats 1000000 in
theorem spec_copy (v : Value) (l : List ND) (w : World) (h : NSl w v l) (hn : l ≠ []) (hl : l.length ≤ 1048576) : Calls Try.prog 41 #[v] w (Fresh w l) := by
  obtain ⟨b1, o1, c1, rfl, k1, m1, s1, H1⟩ := h.at hn
  have hl0 : 0 < l.length := List.length_pos_iff.2 hn
  obtain ⟨i0, hi0, hz0, hz1, hz2⟩ := info_parts infoNode
  have HW := Lib.hid h
  clear H1 h
  go_enter Try.func41, Try.ntmps41
  go_wp2_with (first
    | (at_builtin; refine wpList_append_lies _ rfl _ _ 31 rfl w.heap.size 52 i0 _ 8 64 Try.underlying31 hi0 hz0 hz1 hz2 rfl (by decide) (.slice (some ⟨w.heap.size, 0, none⟩) 0 0) 0 [] rfl (none_row _ _ (Below.refl _ _)) ⟨b1, o1, none⟩ l.length c1 (cellsOf l) rfl (cellsOf_len l) (cells_news HW.out ((Below.refl _ _).alloc (Nat.le_refl _) _) hn) (cellsOf_one l) hl0 (by unfold maxLen; omega) (by omega) (by simp) (w.heap.size + 1) (by simp) ?_; intro g cap w1 hown hgrow hat hgl)
    | go_in)
  go_ret
  rw [List.nil_append, Nat.zero_add] at hown
  obtain ⟨q1, q2⟩ : w.heap.size ≤ g ∧ Below w.heap.size w w1 := ⟨by
      rcases hat with h | h
      · simp [Value.ownBlock] at h; omega
      · omega, ((Below.refl _ _).alloc (Nat.le_refl _) _).grown hgrow (by simp) (fun j hj => by simp [Value.ownBlock] at hj; omega)⟩
  exact ⟨g, _, rfl, q1, own_of_row hown, q2⟩

/-- A node's Owner, written into a copy of one's own. -/
theorem own_give {w1 : World} {l : List ND} {g k : Nat} {u : Value} {n : ND} (hO : Own w1 u g 52 8 l.length (cellsOf l)) (hn : l[k]? = some n) (o : Int) : Own (w1.setCell ⟨g, k * 8 + 4, none⟩ (.int .i64 o)) u g 52 8 (l.set k (setO n o)).length (cellsOf (l.set k (setO n o))) := by
  obtain ⟨cap, sp, rfl, h1, h2, h3, h4⟩ := hO
  refine ⟨cap, sp, by simp, by simpa using h1, h2, ⟨by rw [cellsOf_len], ?_⟩, h4.set4 hn o⟩
  have h5 := h3.2
  simp only [List.length_append, cellsOf_len, List.length_set] at h5 ⊢
  exact h5

set_option maxRecDepth 100000 in
set_option maxHeartbeats 2000000 in
theorem spec_Locked (v : Value) (l : List ND) (a task : Int) (w : World) (h : NSl w v l) (hl : l.length ≤ 1048576) (ha : In64 a) :
    Calls Try.prog 43 #[v, .int .i64 a, .int .i64 task] w (SaysL (lockB l a task) w) := by
  have C := spec_NodesOk v l w h hl
  rcases Bool.eq_false_or_eq_true (nodesB l) with hb | hb
  · rcases Bool.eq_false_or_eq_true (taskB task) with ht | ht
    · obtain ⟨l1, l30⟩ := nodes_some hb
      obtain ⟨t0, t5⟩ := inB_t ht
      have HL : lockB l a task = if hasB l a && ownerAt l a == 0 then (giveO l a (task + 1), true) else (l, false) := by unfold lockB; rw [hb, ht]; rfl
      have hne : l ≠ [] := by intro e; subst e; simp at l1
      obtain ⟨b1, o1, c1, rfl, k1, m1, s1, H1⟩ := h.at hne
      unfold maxLen at m1
      have HH := Lib.hid h
      have HT := Lib.hid ht
      rcases Bool.eq_false_or_eq_true (hasB l a) with hh | hh
      · obtain ⟨a0, a1⟩ := inB_t hh
        obtain ⟨k, rfl⟩ := Int.eq_ofNat_of_zero_le a0
        have hk : k < l.length := by omega
        obtain ⟨n, hn⟩ : ∃ n, l[k]? = some n := ⟨_, List.getElem?_eq_getElem hk⟩
        have ho : ownerAt l (k : Int) = n.o := by simp [ownerAt, hn]
        have HN := Lib.hid hn
        have HA := Lib.hid (H1 k n hn)
        have HHH := Lib.hid hh
        have j0 : (k : Int) < (l.length : Int) := by omega
        by_cases h0 : n.o = 0
        · have HR : lockB l k task = (giveO l k (task + 1), true) := by rw [HL, hh, ho, h0]; rfl
          rw [HR]
          have HG : giveO l k (task + 1) = l.set k (setO n (task + 1)) := by simp [giveO, hn]
          have HGG := Lib.hid HG
          have H0 := Lib.hid h0
          clear HL HR h hn ho H1 hh ht HG h0
          go_enter Try.func43, Try.ntmps43
          go_wp2_with fail
          refine C.mono ?_
          rintro e w1 ⟨rfl, hB1⟩
          rw [hb]
          go_wp2_with fail
          refine (spec_task task w1).mono ?_
          rintro e w1' ⟨rfl, rfl⟩
          rw [HT.out]
          go_wp2_with fail
          refine (spec_copy _ l w1 (HH.out.below hB1) hne hl).mono ?_
          rintro e w2 ⟨g, u, rfl, hg, hO, hB2⟩
          have hB2' := hB1.trans (hB2.mono hB1.size)
          go_wp2_with fail
          refine (spec_has _ _ l _ _ hl).mono ?_
          rintro e w2' ⟨rfl, rfl⟩
          rw [HHH.out]
          have A0 := HA.out.below hB2' s1
          simp only [At8, H0.out] at A0
          obtain ⟨-, -, -, -, A4, -⟩ := A0
          obtain ⟨cap, sp, rfl, q1, q2, q3, q4⟩ := id hO
          obtain ⟨A5, A6⟩ := q4.there4 HN.out
          have HO := Lib.hid hO
          have HB := Lib.hid hB2'
          have hz := hB1.size
          unfold maxLen at q2
          clear q4 q3 hO hB2' hB1 hB2 C
          go_wp2
          go_ret2
          rw [HGG.out]
          exact ⟨_, rfl, OwnR.of_own (own_give HO.out HN.out _) (by omega) (by simp; omega), HB.out.setCell (by simp; omega) _⟩
        · have HR : lockB l k task = (l, false) := by rw [HL, hh, ho]; simp [h0]
          rw [HR]
          clear HL HR h hn ho H1 hh ht
          go_enter Try.func43, Try.ntmps43
          go_wp2_with fail
          refine C.mono ?_
          rintro e w1 ⟨rfl, hB1⟩
          rw [hb]
          go_wp2_with fail
          refine (spec_task task w1).mono ?_
          rintro e w1' ⟨rfl, rfl⟩
          rw [HT.out]
          go_wp2_with fail
          refine (spec_copy _ l w1 (HH.out.below hB1) hne hl).mono ?_
          rintro e w2 ⟨g, u, rfl, hg, hO, hB2⟩
          have hB2' := hB1.trans (hB2.mono hB1.size)
          go_wp2_with fail
          refine (spec_has _ _ l _ _ hl).mono ?_
          rintro e w2' ⟨rfl, rfl⟩
          rw [HHH.out]
          have A0 := HA.out.below hB2' s1
          simp only [At8] at A0
          obtain ⟨-, -, -, -, A4, -⟩ := A0
          go_wp2
          go_ret2
          exact SaysL.fresh hB1 hg hO l1 hB2
      · have HR : lockB l a task = (l, false) := by rw [HL, hh]; rfl
        rw [HR]
        have HHH := Lib.hid hh
        clear HL HR h H1 hh ht
        go_enter Try.func43, Try.ntmps43
        go_wp2_with fail
        refine C.mono ?_
        rintro e w1 ⟨rfl, hB1⟩
        rw [hb]
        go_wp2_with fail
        refine (spec_task task w1).mono ?_
        rintro e w1' ⟨rfl, rfl⟩
        rw [HT.out]
        go_wp2_with fail
        refine (spec_copy _ l w1 (HH.out.below hB1) hne hl).mono ?_
        rintro e w2 ⟨g, u, rfl, hg, hO, hB2⟩
        go_wp2_with fail
        refine (spec_has _ _ l _ _ hl).mono ?_
        rintro e w2' ⟨rfl, rfl⟩
        rw [HHH.out]
        go_wp2
        go_ret2
        exact SaysL.fresh hB1 hg hO l1 hB2
    · have HR : lockB l a task = ([], false) := by unfold lockB; rw [hb, ht]; rfl
      rw [HR]
      have HT := Lib.hid ht
      clear HR ht
      go_enter Try.func43, Try.ntmps43
      go_wp2_with fail
      refine C.mono ?_
      rintro e w1 ⟨rfl, hB1⟩
      rw [hb]
      go_wp2_with fail
      refine (spec_task task w1).mono ?_
      rintro e w1' ⟨rfl, rfl⟩
      rw [HT.out]
      go_wp2
      go_ret2
      exact ⟨_, rfl, OwnR.nil _ _ _ _ _ _ _ (by simp [maxLen]), hB1.alloc hB1.size _⟩
  · have HR : lockB l a task = ([], false) := by unfold lockB; rw [hb]; rfl
    rw [HR]
    clear HR
    go_enter Try.func43, Try.ntmps43
    go_wp2_with fail
    refine C.mono ?_
    rintro e w1 ⟨rfl, hB1⟩
    rw [hb]
    go_wp2
    go_ret2
    exact ⟨_, rfl, OwnR.nil _ _ _ _ _ _ _ (by simp [maxLen]), hB1.alloc hB1.size _⟩
/-! ### How long the answers are -/
end Go.Proofs.Ythllpgjggmdmmaa
