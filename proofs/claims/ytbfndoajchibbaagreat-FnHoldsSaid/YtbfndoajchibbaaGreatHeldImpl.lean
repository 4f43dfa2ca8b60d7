/- holders and withHolders of the program: the map inside, and the nodes with the Owners that it tells. -/
import Derived.Test.YtbfndoajchibbaaGreatHeld
import Derived.Test.YtbfndoajchibbaaGreatOpen
import Derived.Deep.AppendLies
namespace Go.Proofs.YtbfndoajchibbaaGreat
open Go.ChangeShapes Go.WideShapes Go.ChangeAt Go.RowKit Go.Maps
set_option linter.unusedVariables false
set_option linter.unusedSimpArgs false

theorem impl_canHold (v : Value) (l : List ND) (task : Int) (w : World) (h : NSl w v l) (hl : l.length ≤ 1048576) : Calls Tryz.prog 19 #[v, .int .i64 task] w fun e w' => e = .returned (.bool (nodesB l && taskB task)) ∧ Below w.heap.size w w' := by
  have C := impl_NodesOk v l w h hl
  have D := fun w1 => impl_in task 0 5 w1
  rcases Bool.eq_false_or_eq_true (nodesB l) with hb | hb
  · go_enter Tryz.func19, Tryz.ntmps19
    go_wp2_with fail
    refine C.mono ?_
    rintro e w1 ⟨rfl, hb1⟩
    rw [hb]
    go_wp2_with (go_at_call 21; refine (D _).mono ?_; rintro e w2 ⟨rfl, rfl⟩)
    go_ret
    exact ⟨by simp [hb, taskB], hb1⟩
  · go_enter Tryz.func19, Tryz.ntmps19
    go_wp2_with fail
    refine C.mono ?_
    rintro e w1 ⟨rfl, hb1⟩
    rw [hb]
    go_wp2
    go_ret
    exact ⟨by simp [hb], hb1⟩

set_option maxRecDepth 100000 in
set_option maxHeartbeats 2000000 in
theorem impl_holders (v : Value) (l : List ND) (w : World) (h : NSl w v l) (hb : nodesB l = true) :
    Calls Tryz.prog 20 #[v] w fun e w' => e = .returned (.map (some w.heap.size)) ∧ MapF w' w.heap.size l.length (holdF l l.length) ∧ Below w.heap.size w w' := by
  obtain ⟨hl1, hl2⟩ := nodes_some hb
  obtain ⟨b1, o1, c1, rfl, k1, m1, s1, H1⟩ := h.at (by intro e; subst e; simp at hl1)
  have HO := Lib.hid (fun k n hn => nodes_owner hb (k := k) (n := n) hn)
  unfold maxLen at m1
  clear h hb
  have hmm := @run_makeMap Tryz.prog
  go_enter Tryz.func20, Tryz.ntmps20
  go_wp2
  go_loopw [9] (fun i wr => ∃ k : Nat, k ≤ l.length ∧ i = .int .i64 k ∧ MapF wr w.heap.size k (holdF l k) ∧ Below w.heap.size w wr) (fun i _ => l.length - (intOf i).toNat)
  case atStart => exact ⟨0, Nat.zero_le _, rfl, (MapF.made w).congr (fun x => (holdF_zero l x).symm), (Below.refl _ _).alloc (Nat.le_refl _) _⟩
  case round =>
    obtain ⟨k, hk, rfl, hM, hB⟩ := hrel
    by_cases hlt : k < l.length
    · obtain ⟨n, hg⟩ : ∃ n, l[k]? = some n := ⟨_, List.getElem?_eq_getElem hlt⟩
      obtain ⟨w0, w6⟩ := HO.out k n hg
      have A1 := (H1 k n hg).below hB s1
      have i0 : (0 : Int) ≤ (k : Int) := by omega
      have i1 : (k : Int) < (l.length : Int) := by omega
      have HG := Lib.hid hg
      have HB := Lib.hid hB
      have HM := Lib.hid hM
      have hz := hB.size
      have hz2 := hM.lt
      obtain ⟨k0, v0, l0, r0, o0, g0, lt0, rt0⟩ := n
      simp only [At8] at A1
      simp only at w0 w6
      clear hg hB hM H1 hmm
      by_cases h0 : o0 = 0
      · subst h0
        go_wp2
        go_roundw
        case rel => exact ⟨k + 1, by omega, by go_num, (HM.out.alloc _).mono (by omega) |>.congr (fun x => (holdF_free HG.out rfl x).symm), HB.out.alloc hz _⟩
        case measure => simp [intOf]; omega
      · have o1' : 1 ≤ o0 := by omega
        go_wp2_with (first
          | (at_mapUpdate; refine at_store _ rfl _ _ _ rfl w.heap.size k _ rfl (HM.out.alloc _) (by unfold maxLen; omega) k (o0 - 1) rfl rfl (by unfold In64; omega) (by unfold In64; omega) ?_; intro w2 hM2 hg2; go_frame)
          | go_in)
        go_roundw
        case rel =>
          refine ⟨k + 1, by omega, by go_num, hM2.congr (fun x => ?_), (HB.out.alloc hz _).grown hg2 (by simp; omega) (fun j hj => by cases hj; exact Nat.le_refl _)⟩
          rw [holdF_succ HG.out, if_neg h0]
        case measure => simp [intOf]; omega
    · obtain rfl : k = l.length := by omega
      go_wp2
      go_ret
      exact ⟨rfl, hM, hB⟩
end Go.Proofs.YtbfndoajchibbaaGreat
