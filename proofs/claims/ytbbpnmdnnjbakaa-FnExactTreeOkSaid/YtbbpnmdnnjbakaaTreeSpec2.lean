/- The model's walk of all, and TreeOk of the model: it answers 'treeB' of the nodes. -/
import Derived.Test.YtbbpnmdnnjbakaaTreeSpec
import Derived.Test.YtbbpnmdnnjbakaaTreeImpl
namespace Go.Proofs.Ytbbpnmdnnjbakaa
open Go.ChangeShapes Go.WideShapes Go.ChangeAt Go.RowKit
set_option linter.unusedVariables false
set_option linter.unusedSimpArgs false

def allB (l : List ND) : List Nat × Bool := if nodesB l then trav l else ([], false)
theorem allB_ok (l : List ND) : (allB l).2 = treeB l := by
  unfold allB treeB
  cases nodesB l <;> simp
def AllS (l : List ND) (w : World) (e : Ending) (w' : World) : Prop :=
  ∃ oa oc, e = .returned (.tuple #[.slice oa (allB l).1.length oc, .bool (allB l).2]) ∧ w'.ownsRow w.heap.size 2 1 (.slice oa (allB l).1.length oc) (allB l).1.length ((allB l).1.map intV) ∧ Below w.heap.size w w'
theorem none_row {w w1 : World} (hb : Below w.heap.size w w1) : (w1.alloc (.cells #[] 2)).ownsRow w.heap.size 2 1 (.slice (some ⟨w1.heap.size, 0, none⟩) 0 0) 0 [] :=
  ⟨rfl, .inr ⟨w1.heap.size, 0, #[], rfl, hb.size, World.alloc_heap_new w1 _, Nat.le_refl _, by simp [maxLen], rfl, rfl⟩⟩

set_option maxRecDepth 100000 in
set_option maxHeartbeats 4000000 in
theorem l2All_not (v : Value) (l : List ND) (w : World) (h : NSl w v l) (hl : l.length ≤ 1048576) (hn : nodesB l = false) : Calls Try.prog 22 #[v] w (AllS l w) := by
  have ha : allB l = ([], false) := by simp [allB, hn]
  have hN := spec_NodesOk v l w h hl
  obtain ⟨a, cap, rfl, _⟩ := h
  go_enter Try.func22, Try.ntmps22
  go_wp2_with fail
  refine hN.mono ?_
  rintro e w1 ⟨rfl, hb⟩
  rw [hn]
  have HB := Lib.hid hb
  clear hb hN
  go_wp2
  go_ret2
  rw [AllS, ha]
  exact ⟨_, _, rfl, none_row HB.out, HB.out.alloc HB.out.size _⟩
set_option maxRecDepth 100000 in
set_option maxHeartbeats 4000000 in
theorem l2All_go (v : Value) (n : ND) (l : List ND) (w : World) (h : NSl w v l) (hr0 : l[0]? = some n) (hn : nodesB l = true) : Calls Try.prog 22 #[v] w (AllS l w) := by
  obtain ⟨hL, hr, hrt, _⟩ := walk_at hr0 hn
  have ha : allB l = trav l := by simp [allB, hn]
  have hN := spec_NodesOk v l w h (by have := hL.1; omega)
  obtain ⟨b, off, cap, rfl, k1, m1, s1, H1⟩ := h.at (by intro e; rw [e] at hr0; simp at hr0)
  go_enter Try.func22, Try.ntmps22
  go_wp2_with fail
  refine hN.mono ?_
  rintro e w1 ⟨rfl, hb⟩
  rw [hn]
  have A1 := (H1 0 n hr0).below hb s1
  rw [Nat.zero_mul, Nat.add_zero] at A1
  simp only [At8, hr] at A1
  have i2 : (0 : Int) < (l.length : Int) := by have := hL.2.1; omega
  have HB := Lib.hid hb
  clear hb hN hr hr0
  go_wp2_with fail
  have hB0 := HB.out.size
  have hBa : Below w.heap.size w (w1.alloc (.cells #[] 2)) := HB.out.alloc hB0 _
  have C := l2Walk_in b off cap w.heap.size l hL 31 (rootR l) (-1) 100 [] (some ⟨w1.heap.size, 0, none⟩) 0 (w1.alloc (.cells #[] 2)) (by have := many_le l (-1) 100; have := hL.1; omega) hrt (by omega) (by omega)
    (NAt.below ⟨s1, H1⟩ hBa) hBa.size (none_row HB.out) (by simp)
  refine C.mono ?_
  rintro e w2 ⟨oa, oc, rfl, hown, hg, hbk⟩
  have R : AllS l w (.returned (.tuple #[.slice oa (trav l).1.length oc, .bool (trav l).2])) w2 := by
    rw [AllS, ha]
    exact ⟨oa, oc, rfl, hown, hBa.grown hg hBa.size (fun k e => by
      obtain rfl : w1.heap.size = k := by simpa [Value.ownBlock] using e
      exact hB0)⟩
  have HR := Lib.hid R
  clear R hown hg hbk hBa C
  rw [trav] at HR
  go_wp2_with fail
  go_ret2
  exact HR.out
theorem l2All_in (v : Value) (l : List ND) (w : World) (h : NSl w v l) (hl : l.length ≤ 1048576) : Calls Try.prog 22 #[v] w (AllS l w) := by
  rcases Bool.eq_false_or_eq_true (nodesB l) with hn | hn
  · cases l with
    | nil => simp [nodesB] at hn
    | cons n r => exact l2All_go v n _ w h rfl hn
  · exact l2All_not v l w h hl hn
set_option maxHeartbeats 1000000 in
theorem spec_TreeOk (v : Value) (l : List ND) (w : World) (h : NSl w v l) (hl : l.length ≤ 1048576) : Calls Try.prog 8 #[v] w (SaysT l w) := by
  have C := l2All_in v l w h hl
  obtain ⟨a, cap, rfl, _⟩ := h
  go_enter Try.func8, Try.ntmps8
  go_wp2_with fail
  refine C.mono ?_
  rintro e w1 ⟨oa, oc, rfl, hown, hb⟩
  have HB := Lib.hid hb
  clear C hown hb
  go_wp2_with fail
  go_ret
  exact ⟨by rw [allB_ok]; rfl, HB.out⟩
end Go.Proofs.Ytbbpnmdnnjbakaa
