/- NodesOk of the model: it answers 'nodesB' of the nodes. -/
import Derived.Test.YthllpgjggmdmmaaNodesOk
namespace Go.Proofs.Ythllpgjggmdmmaa
open Go.ChangeShapes Go.WideShapes Go.ChangeAt Go.RowKit
set_option linter.unusedVariables false
set_option linter.unusedSimpArgs false


theorem spec_link_n (n : ND) (many : Int) (w : World) (m0 : 1 ≤ many) (m1 : many ≤ 1048576) :
    Calls Try.prog 73 #[.agg #[.int .i64 n.k, .int .i64 n.v, .int .i64 n.l, .int .i64 n.r, .int .i64 n.o, .bool n.g, .int .i64 n.lt, .int .i64 n.rt], .int .i64 many] w fun e w' => e = .returned (.bool (linkB n many)) ∧ Below w.heap.size w w' :=
  spec_link n.k n.v n.l n.r n.o n.g n.lt n.rt many w m0 m1
theorem nodesB_long {l : List ND} (h : 30 < l.length) : nodesB l = false := by
  have h1 : decide (l.length ≤ 30) = false := decide_eq_false (by omega)
  simp [nodesB, h1]
theorem nodesB_first {n : ND} {r : List ND} (h : (rootB n && linkB n (n :: r).length) = false) : nodesB (n :: r) = false := by
  simp only [nodesB, h, Bool.false_and, Bool.and_false]
theorem nodesB_rest {n m : ND} {r : List ND} (hm : m ∈ r) (h : (entB m && linkB m (n :: r).length) = false) : nodesB (n :: r) = false := by
  have e : (r.all fun m => entB m && linkB m (n :: r).length) = false := by
    rw [List.all_eq_false]
    exact ⟨m, hm, by rw [h]; simp⟩
  simp only [nodesB, e, Bool.and_false]
theorem nodesB_true {n : ND} {r : List ND} (hl : (n :: r).length ≤ 30) (h : (rootB n && linkB n (n :: r).length) = true) (hr : ∀ m ∈ r, (entB m && linkB m (n :: r).length) = true) : nodesB (n :: r) = true := by
  have e : (r.all fun m => entB m && linkB m (n :: r).length) = true := List.all_eq_true.2 hr
  have e1 : decide (1 ≤ (n :: r).length) = true := by simp
  have e2 : decide ((n :: r).length ≤ 30) = true := by simpa using hl
  simp only [nodesB, e, e1, e2, h, Bool.and_self]
theorem get_mem_tail {n m : ND} {r : List ND} {k : Nat} (h : (n :: r)[k]? = some m) (hk : 1 ≤ k) : m ∈ r := by
  obtain ⟨j, rfl⟩ : ∃ j, k = j + 1 := ⟨k - 1, by omega⟩
  simp only [List.getElem?_cons_succ] at h
  exact List.mem_of_getElem? h
/-- The first k - 1 nodes behind the root are as they must be. -/
def RestTo (n : ND) (r : List ND) (k : Nat) : Prop := ∀ j m, 1 ≤ j → j < k → (n :: r)[j]? = some m → (entB m && linkB m (n :: r).length) = true
theorem RestTo.all {n : ND} {r : List ND} (h : RestTo n r (n :: r).length) : ∀ m ∈ r, (entB m && linkB m (n :: r).length) = true := by
  intro m hm
  obtain ⟨i, hi⟩ := List.mem_iff_getElem?.1 hm
  have hl : i < r.length := (List.getElem?_eq_some_iff.1 hi).1
  exact h (i + 1) m (by omega) (by simp; omega) (by simpa using hi)
theorem RestTo.step {n m : ND} {r : List ND} {k : Nat} (h : RestTo n r k) (hm : (n :: r)[k]? = some m) (ht : (entB m && linkB m (n :: r).length) = true) : RestTo n r (k + 1) := by
  intro j m' h1 h2 h3
  by_cases e : j = k
  · subst e
    rw [hm] at h3
    cases h3
    exact ht
  · exact h j m' h1 (by omega) h3
theorem RestTo.one (n : ND) (r : List ND) : RestTo n r 1 := fun j m h1 h2 => by omega
/-- The end, whatever came of it. -/
def Says (l : List ND) (w : World) (e : Ending) (w' : World) : Prop := e = .returned (.bool (nodesB l)) ∧ Below w.heap.size w w'
theorem Says.of {l : List ND} {w w' : World} {b : Bool} (h : nodesB l = b) (hb : Below w.heap.size w w') : Says l w (.returned (.bool b)) w' := ⟨by rw [h], hb⟩


set_option maxHeartbeats 2000000 in
theorem spec_nodesOk_nil (v : Value) (w : World) (h : NSl w v []) : Calls Try.prog 57 #[v] w (Says [] w) := by
  obtain ⟨a1, c1, rfl⟩ := h.nil
  clear h
  go_enter Try.func57, Try.ntmps57
  go_wp2
  go_ret
  exact Says.of rfl (Below.refl _ _)
set_option maxHeartbeats 2000000 in
theorem spec_nodesOk_long (v : Value) (l : List ND) (w : World) (h : NSl w v l) (hl : 30 < l.length) (hl2 : l.length ≤ 1048576) : Calls Try.prog 57 #[v] w (Says l w) := by
  have hn := nodesB_long hl
  obtain ⟨b1, o1, c1, rfl, k1, m1, s1, H1⟩ := h.at (by intro e; rw [e] at hl; simp at hl)
  clear h H1
  go_enter Try.func57, Try.ntmps57
  go_wp2
  go_ret
  exact Says.of hn (Below.refl _ _)


set_option maxRecDepth 100000 in
set_option maxHeartbeats 4000000 in
theorem spec_nodesOk_bad (v : Value) (n : ND) (r : List ND) (w : World) (h : NSl w v (n :: r)) (hl : (n :: r).length ≤ 30) (hbad : (rootB n && linkB n (n :: r).length) = false) : Calls Try.prog 57 #[v] w (Says (n :: r) w) := by
  have hn := nodesB_first hbad
  obtain ⟨b1, o1, c1, rfl, k1, m1, s1, H1⟩ := h.at (by simp)
  have A1 := H1 0 n rfl
  simp only [At8, Nat.zero_mul, Nat.add_zero] at A1
  obtain ⟨N, hN⟩ : ∃ N, N = (n :: r).length := ⟨_, rfl⟩
  have hN1 : 1 ≤ N := by rw [hN]; simp
  have hs : n :: r = n :: r := rfl
  rw [← hN] at hl hbad k1 ⊢
  have HN := Lib.hid hn
  clear h H1 hN hn
  unfold maxLen at m1
  have j0 : (1 : Int) ≤ (N : Int) := by omega
  have j1 : (N : Int) ≤ 30 := by omega
  rcases Bool.eq_false_or_eq_true (n.k != -1) with t0 | t0
  · clear hbad
    go_enter Try.func57, Try.ntmps57
    go_wp2
    go_ret
    exact Says.of HN.out (by repeat (first | exact Below.refl _ _ | assumption | refine Below.drew ?_ | refine Below.alloc ?_ (by first | omega | (simp; try omega)) _ | refine Below.setCell ?_ (by first | omega | (simp; try omega)) _ | (refine Below.trans ?_ (Below.mono (by assumption) (by first | omega | (simp; try omega))))))
  rcases Bool.eq_false_or_eq_true (n.v != 0) with t1 | t1
  · clear hbad
    go_enter Try.func57, Try.ntmps57
    go_wp2
    go_ret
    exact Says.of HN.out (by repeat (first | exact Below.refl _ _ | assumption | refine Below.drew ?_ | refine Below.alloc ?_ (by first | omega | (simp; try omega)) _ | refine Below.setCell ?_ (by first | omega | (simp; try omega)) _ | (refine Below.trans ?_ (Below.mono (by assumption) (by first | omega | (simp; try omega))))))
  rcases Bool.eq_false_or_eq_true (n.l != 0) with t2 | t2
  · clear hbad
    go_enter Try.func57, Try.ntmps57
    go_wp2
    go_ret
    exact Says.of HN.out (by repeat (first | exact Below.refl _ _ | assumption | refine Below.drew ?_ | refine Below.alloc ?_ (by first | omega | (simp; try omega)) _ | refine Below.setCell ?_ (by first | omega | (simp; try omega)) _ | (refine Below.trans ?_ (Below.mono (by assumption) (by first | omega | (simp; try omega))))))
  rcases Bool.eq_false_or_eq_true n.g with t3 | t3
  · clear hbad
    go_enter Try.func57, Try.ntmps57
    go_wp2
    go_ret
    exact Says.of HN.out (by repeat (first | exact Below.refl _ _ | assumption | refine Below.drew ?_ | refine Below.alloc ?_ (by first | omega | (simp; try omega)) _ | refine Below.setCell ?_ (by first | omega | (simp; try omega)) _ | (refine Below.trans ?_ (Below.mono (by assumption) (by first | omega | (simp; try omega))))))
  have T3 := Lib.hid t3
  obtain ⟨rk, rv, rl, rr, ro, rg, rlt, rrt⟩ := n
  obtain rfl : rk = -1 := by simpa [bne] using t0
  obtain rfl : rv = 0 := by simpa [bne] using t1
  obtain rfl : rl = 0 := by simpa [bne] using t2
  obtain rfl : rg = false := T3.out
  have hL : linkB ⟨-1, 0, 0, rr, ro, false, rlt, rrt⟩ N = false := by simpa [rootB] using hbad
  clear hbad t0 t1 t2 T3
  go_enter Try.func57, Try.ntmps57
  go_wp2_with (first | (go_at_call 73; refine (spec_link _ _ _ _ _ _ _ _ _ _ (by omega) (by omega)).mono ?_; rintro e w1 ⟨rfl, hb1⟩; have hz1 := hb1.size; (try simp at hz1)))
  go_ret
  exact Says.of HN.out (by repeat (first | exact Below.refl _ _ | assumption | refine Below.drew ?_ | refine Below.alloc ?_ (by first | omega | (simp; try omega)) _ | refine Below.setCell ?_ (by first | omega | (simp; try omega)) _ | (refine Below.trans ?_ (Below.mono (by assumption) (by first | omega | (simp; try omega))))))

set_option maxRecDepth 100000 in
set_option maxHeartbeats 4000000 in
theorem spec_nodesOk_good (v : Value) (n : ND) (r : List ND) (w : World) (h : NSl w v (n :: r)) (hl : (n :: r).length ≤ 30) (hgood : (rootB n && linkB n (n :: r).length) = true) : Calls Try.prog 57 #[v] w (Says (n :: r) w) := by
  have hfin := nodesB_true (n := n) (r := r) hl hgood
  obtain ⟨b1, o1, c1, rfl, k1, m1, s1, H1⟩ := h.at (by simp)
  have A1 := H1 0 n rfl
  obtain ⟨N, hN⟩ : ∃ N, N = (n :: r).length := ⟨_, rfl⟩
  have hN1 : 1 ≤ N := by rw [hN]; simp
  rw [← hN] at hl hgood k1 ⊢
  have HF := Lib.hid hfin
  have HN := Lib.hid hN
  have HH := Lib.hid H1
  clear h hN hfin H1
  unfold maxLen at m1
  have j0 : (1 : Int) ≤ (N : Int) := by omega
  have j1 : (N : Int) ≤ 30 := by omega
  have hroot : rootB n = true := by revert hgood; cases rootB n <;> simp
  have hL : linkB n N = true := by revert hgood; cases linkB n N <;> simp
  obtain ⟨rk, rv, rl, rr, ro, rg, rlt, rrt⟩ := n
  simp only [rootB, Bool.and_eq_true, beq_iff_eq, Bool.not_eq_true'] at hroot
  obtain ⟨⟨⟨rfl, rfl⟩, rfl⟩, rfl⟩ := hroot
  simp only [At8, Nat.zero_mul, Nat.add_zero] at A1
  clear hgood
  go_enter Try.func57, Try.ntmps57
  go_wp2_with (first | (go_at_call 73; refine (spec_link _ _ _ _ _ _ _ _ _ _ (by omega) (by omega)).mono ?_; rintro e w1 ⟨rfl, hb1⟩; have hz1 := hb1.size; (try simp at hz1)))
  have hB : Below w.heap.size w w1 := (by repeat (first | exact Below.refl _ _ | assumption | refine Below.drew ?_ | refine Below.alloc ?_ (by first | omega | (simp; try omega)) _ | refine Below.setCell ?_ (by first | omega | (simp; try omega)) _ | (refine Below.trans ?_ (Below.mono (by assumption) (by first | omega | (simp; try omega))))))
  clear A1 hL hb1 hz1
  go_loopw [4] (fun i wr => ∃ k : Nat, 1 ≤ k ∧ k ≤ N ∧ i = .int .i64 k ∧ Hid (RestTo ⟨-1, 0, 0, rr, ro, false, rlt, rrt⟩ r k) ∧ Below w.heap.size w wr) (fun i _ => N - (intOf i).toNat)
  case atStart => exact ⟨1, Nat.le_refl _, by omega, rfl, Lib.hid (RestTo.one _ _), hB⟩
  case round =>
    clear hB
    obtain ⟨k, hk0, hk, rfl, HR, hB⟩ := hrel
    by_cases hlt : k < N
    · obtain ⟨m, hg⟩ : ∃ m, (⟨-1, 0, 0, rr, ro, false, rlt, rrt⟩ :: r : List ND)[k]? = some m := ⟨_, List.getElem?_eq_getElem (by rw [← HN.out]; exact hlt)⟩
      have A2 := (HH.out k m hg).below hB s1
      simp only [At8] at A2
      have HG := Lib.hid hg
      have j2 : (0 : Int) ≤ (k : Int) := by omega
      have j3 : (k : Int) < (N : Int) := by omega
      have hz := hB.size
      clear hg
      rcases Bool.eq_false_or_eq_true (inB m.k 0 99) with t0 | t0
      rotate_left
      · go_wp2_with (first | (go_at_call 38; refine (spec_in _ _ _ _).mono ?_; rintro e w1 ⟨rfl, rfl⟩))
        go_ret
        exact Says.of (nodesB_rest (get_mem_tail HG.out hk0) (by rw [← HN.out]; simp [entB, t0])) (by repeat (first | exact Below.refl _ _ | assumption | refine Below.drew ?_ | refine Below.alloc ?_ (by first | omega | (simp; try omega)) _ | refine Below.setCell ?_ (by first | omega | (simp; try omega)) _ | (refine Below.trans ?_ (Below.mono (by assumption) (by first | omega | (simp; try omega))))))
      rcases Bool.eq_false_or_eq_true (inB m.v 0 999) with t1 | t1
      rotate_left
      · go_wp2_with (first | (go_at_call 38; refine (spec_in _ _ _ _).mono ?_; rintro e w1 ⟨rfl, rfl⟩))
        go_ret
        exact Says.of (nodesB_rest (get_mem_tail HG.out hk0) (by rw [← HN.out]; simp [entB, t1])) (by repeat (first | exact Below.refl _ _ | assumption | refine Below.drew ?_ | refine Below.alloc ?_ (by first | omega | (simp; try omega)) _ | refine Below.setCell ?_ (by first | omega | (simp; try omega)) _ | (refine Below.trans ?_ (Below.mono (by assumption) (by first | omega | (simp; try omega))))))
      rcases Bool.eq_false_or_eq_true (linkB m N) with t2 | t2
      rotate_left
      · go_wp2_with (first | (go_at_call 38; refine (spec_in _ _ _ _).mono ?_; rintro e w1 ⟨rfl, rfl⟩) | (go_at_call 73; refine (spec_link_n m _ _ (by omega) (by omega)).mono ?_; rintro e w1 ⟨rfl, hb1⟩; have hz1 := hb1.size))
        go_ret
        exact Says.of (nodesB_rest (get_mem_tail HG.out hk0) (by rw [← HN.out]; simp [t2])) (by repeat (first | exact Below.refl _ _ | assumption | refine Below.drew ?_ | refine Below.alloc ?_ (by first | omega | (simp; try omega)) _ | refine Below.setCell ?_ (by first | omega | (simp; try omega)) _ | (refine Below.trans ?_ (Below.mono (by assumption) (by first | omega | (simp; try omega))))))
      · go_wp2_with (first | (go_at_call 38; refine (spec_in _ _ _ _).mono ?_; rintro e w1 ⟨rfl, rfl⟩) | (go_at_call 73; refine (spec_link_n m _ _ (by omega) (by omega)).mono ?_; rintro e w1 ⟨rfl, hb1⟩; have hz1 := hb1.size))
        go_roundw
        case rel => exact ⟨k + 1, by omega, by omega, by go_num, Lib.hid (HR.out.step HG.out (by rw [← HN.out]; simp [entB, t0, t1, t2])), (by repeat (first | exact Below.refl _ _ | assumption | refine Below.drew ?_ | refine Below.alloc ?_ (by first | omega | (simp; try omega)) _ | refine Below.setCell ?_ (by first | omega | (simp; try omega)) _ | (refine Below.trans ?_ (Below.mono (by assumption) (by first | omega | (simp; try omega))))))⟩
        case measure => simp [intOf]; omega
    · obtain rfl : k = N := by omega
      go_wp2
      go_ret
      exact Says.of (HF.out (RestTo.all (by rw [← HN.out]; exact HR.out))) hB
theorem spec_NodesOk (v : Value) (l : List ND) (w : World) (h : NSl w v l) (hl : l.length ≤ 1048576) : Calls Try.prog 57 #[v] w (Says l w) := by
  match l, h, hl with
  | [], h, _ => exact spec_nodesOk_nil v w h
  | n :: r, h, hl =>
    by_cases h30 : (n :: r).length ≤ 30
    · rcases Bool.eq_false_or_eq_true (rootB n && linkB n (n :: r).length) with hg | hg
      · exact spec_nodesOk_good v n r w h h30 hg
      · exact spec_nodesOk_bad v n r w h h30 hg
    · exact spec_nodesOk_long v _ w h (by omega) hl

end Go.Proofs.Ythllpgjggmdmmaa
