/- The draws of any calls. -/
import Derived.Test.YtgaakkdbfphgjaaDraw5a
import Derived.Deep.RegionWith
namespace Go.Proofs.Ytgaakkdbfphgjaa
open Go.ChangeShapes Go.WideShapes Go.ChangeAt Go.RowKit
set_option linter.unusedVariables false
set_option linter.unusedSimpArgs false

set_option maxRecDepth 100000 in
set_option maxHeartbeats 4000000 in
theorem l5DrawAny_any (B g : Nat) (v : Value) (l : List Int) (w : World) (h : CurAt B g v l w) :
    Calls Try.prog 14 #[.pointer (some ⟨g, 0, none⟩)] w (DrewC B g v l w (fun _ _ _ => True)) := by
  have hg := h.lt
  have hBg := h.1
  have H := Lib.hid h
  clear h
  go_enter Try.func14, Try.ntmps14
  go_wp2_with fail
  refine (l5Draw_any B g v l _ (H.out.alloc _)).mono ?_
  rintro e w1 ⟨c, k, y, rfl, -, hc1, hb1⟩
  have hg1 := ((But.refl g w).alloc _).trans hb1
  have hR1 := hb1.blk (heap_alloc_new w _) (show w.heap.size ≠ g by omega)
  have hs1 := hg1.size
  have hs1' := hR1.lt
  have HH := Lib.hid (And.intro (hc1.alloc (.cells #[.int .i64 c, .int .i64 k, .int .i64 y] 25)) (And.intro (hg1.alloc (.cells #[.int .i64 c, .int .i64 k, .int .i64 y] 25)) (And.intro (Blk.below hR1 ((Below.refl _ _).alloc (Nat.le_refl _) (.cells #[.int .i64 c, .int .i64 k, .int .i64 y] 25)) hs1') (show Blk _ w1.heap.size 25 [.int .i64 c, .int .i64 k, .int .i64 y] from heap_alloc_new w1 _))))
  clear hc1 hb1 hg1 hR1
  go_wp2_with fail
  refine (l1Once_any B g v l 5 _ HH.out.1 (by omega)).mono ?_
  rintro e w2 ⟨b, rfl, hc2, hb2⟩
  have w2g := HH.out.2.1.trans hb2
  have w2r := hb2.blk HH.out.2.2.1 (show w.heap.size ≠ g by omega)
  have w2k := hb2.blk HH.out.2.2.2 (show w1.heap.size ≠ g by omega)
  have HH := Lib.hid (And.intro hc2 (And.intro w2g (And.intro w2r w2k)))
  clear hc2 hb2 w2g w2r w2k
  cases b
  · obtain ⟨y0, y1, y2, yf⟩ := cur_cells3 HH.out.2.2.2
    obtain ⟨z0, z1, z2, zf⟩ := cur_cells3 HH.out.2.2.1
    go_wp2
    exact bodyPost_ret (results_cl6 rfl rfl (((HH.out.2.2.1.set 0 (.int .i64 c)).set 1 (.int .i64 k)).set 2 (.int .i64 y))) rfl ⟨c, k, y, rfl, trivial, (((HH.out.1.fresh (by omega) (by omega) 0 _).fresh (by omega) (by omega) 1 _).fresh (by omega) (by omega) 2 _), (((HH.out.2.1.fresh (by omega) 0 _).fresh (by omega) 1 _).fresh (by omega) 2 _)⟩
  · go_wp2_with fail
    refine (l1Below_any B g v l 3 _ HH.out.1 (by omega)).mono ?_
    rintro e w3 ⟨r, rfl, ⟨p0, p1⟩, hc3, hb3⟩
    have w3g := HH.out.2.1.trans hb3
    have w3r := hb3.blk HH.out.2.2.1 (show w.heap.size ≠ g by omega)
    have w3k := hb3.blk HH.out.2.2.2 (show w1.heap.size ≠ g by omega)
    have HH := Lib.hid (And.intro hc3 (And.intro w3g (And.intro w3r w3k)))
    clear hc3 hb3 w3g w3r w3k
    have hh : r = 0 ∨ r = 1 ∨ r = 2 := by omega
    clear p0 p1
    rcases hh with rfl | rfl | rfl
    · go_wp2_with fail
      refine (l1From_any B g v l 0 4 _ HH.out.1 (by omega) (by omega) (by omega) (by omega)).mono ?_
      rintro e w4 ⟨x, rfl, -, hc4, hb4⟩
      have w4g := HH.out.2.1.trans hb4
      have w4r := hb4.blk HH.out.2.2.1 (show w.heap.size ≠ g by omega)
      have w4k := hb4.blk HH.out.2.2.2 (show w1.heap.size ≠ g by omega)
      have HH := Lib.hid (And.intro hc4 (And.intro w4g (And.intro w4r w4k)))
      clear hc4 hb4 w4g w4r w4k
      obtain ⟨y0, y1, y2, yf⟩ := cur_cells3 HH.out.2.2.2
      obtain ⟨z0, z1, z2, zf⟩ := cur_cells3 HH.out.2.2.1
      go_wp2
      exact bodyPost_ret (results_cl6 rfl rfl (((((But.set w1.heap.size 0 w4 (.int .i64 x)).blk HH.out.2.2.1 (show w.heap.size ≠ w1.heap.size by omega)).set 0 (.int .i64 x)).set 1 (.int .i64 k)).set 2 (.int .i64 y))) rfl ⟨x, k, y, rfl, trivial, ((((HH.out.1.fresh (k := w1.heap.size) (by omega) (by omega) 0 _).fresh (by omega) (by omega) 0 _).fresh (by omega) (by omega) 1 _).fresh (by omega) (by omega) 2 _), ((((HH.out.2.1.fresh (k := w1.heap.size) (by omega) 0 _).fresh (by omega) 0 _).fresh (by omega) 1 _).fresh (by omega) 2 _)⟩
    · go_wp2_with fail
      refine (l1Num_any B g v l 99 _ HH.out.1 (by omega) (by omega)).mono ?_
      rintro e w4 ⟨x, rfl, -, hc4, hb4⟩
      have w4g := HH.out.2.1.trans hb4
      have w4r := hb4.blk HH.out.2.2.1 (show w.heap.size ≠ g by omega)
      have w4k := hb4.blk HH.out.2.2.2 (show w1.heap.size ≠ g by omega)
      have HH := Lib.hid (And.intro hc4 (And.intro w4g (And.intro w4r w4k)))
      clear hc4 hb4 w4g w4r w4k
      obtain ⟨y0, y1, y2, yf⟩ := cur_cells3 HH.out.2.2.2
      obtain ⟨z0, z1, z2, zf⟩ := cur_cells3 HH.out.2.2.1
      go_wp2
      exact bodyPost_ret (results_cl6 rfl rfl (((((But.set w1.heap.size 1 w4 (.int .i64 x)).blk HH.out.2.2.1 (show w.heap.size ≠ w1.heap.size by omega)).set 0 (.int .i64 c)).set 1 (.int .i64 x)).set 2 (.int .i64 y))) rfl ⟨c, x, y, rfl, trivial, ((((HH.out.1.fresh (k := w1.heap.size) (by omega) (by omega) 1 _).fresh (by omega) (by omega) 0 _).fresh (by omega) (by omega) 1 _).fresh (by omega) (by omega) 2 _), ((((HH.out.2.1.fresh (k := w1.heap.size) (by omega) 1 _).fresh (by omega) 0 _).fresh (by omega) 1 _).fresh (by omega) 2 _)⟩
    · go_wp2_with fail
      refine (l1Num_any B g v l 999 _ HH.out.1 (by omega) (by omega)).mono ?_
      rintro e w4 ⟨x, rfl, -, hc4, hb4⟩
      have w4g := HH.out.2.1.trans hb4
      have w4r := hb4.blk HH.out.2.2.1 (show w.heap.size ≠ g by omega)
      have w4k := hb4.blk HH.out.2.2.2 (show w1.heap.size ≠ g by omega)
      have HH := Lib.hid (And.intro hc4 (And.intro w4g (And.intro w4r w4k)))
      clear hc4 hb4 w4g w4r w4k
      obtain ⟨y0, y1, y2, yf⟩ := cur_cells3 HH.out.2.2.2
      obtain ⟨z0, z1, z2, zf⟩ := cur_cells3 HH.out.2.2.1
      go_wp2
      exact bodyPost_ret (results_cl6 rfl rfl (((((But.set w1.heap.size 2 w4 (.int .i64 x)).blk HH.out.2.2.1 (show w.heap.size ≠ w1.heap.size by omega)).set 0 (.int .i64 c)).set 1 (.int .i64 k)).set 2 (.int .i64 x))) rfl ⟨c, k, x, rfl, trivial, ((((HH.out.1.fresh (k := w1.heap.size) (by omega) (by omega) 2 _).fresh (by omega) (by omega) 0 _).fresh (by omega) (by omega) 1 _).fresh (by omega) (by omega) 2 _), ((((HH.out.2.1.fresh (k := w1.heap.size) (by omega) 2 _).fresh (by omega) 0 _).fresh (by omega) 1 _).fresh (by omega) 2 _)⟩

set_option maxHeartbeats 2000000 in
theorem DrawCallOk_any (B : Nat) (v : Value) (l : List Int) (w : World) (h : Bts B w v l) (hl : l.length ≤ 4096) (hB : B ≤ w.heap.size) :
    Calls Try.prog 6 #[v] w fun e w' => (∃ c k y : Int, e = .returned (.agg #[.int .i64 c, .int .i64 k, .int .i64 y])) ∧ Below w.heap.size w w' := by
  have b0 := (Below.refl w.heap.size w).alloc (Nat.le_refl _) (.cells #[.int .i64 0, .int .i64 0, .int .i64 0] 25)
  have C := l1New_any B v l _ (h.below b0) hl (by simp; omega)
  obtain ⟨⟨a, c, rfl, -⟩, -⟩ := h
  go_enter Try.func6, Try.ntmps6
  go_wp2_with fail
  refine C.mono ?_
  rintro e w1 ⟨g, rfl, hg, hc1, hB1⟩
  simp at hg
  have hR1 := Blk.below (e := 25) (cs := [.int .i64 0, .int .i64 0, .int .i64 0]) (heap_alloc_new w _) hB1 (by simp)
  have b1 := b0.trans (hB1.mono (by simp))
  go_wp2_with fail
  refine (l5DrawAny_any _ g _ l w1 hc1).mono ?_
  rintro e w2 ⟨c, k, y, rfl, -, hc2, hb2⟩
  have hR2 := hb2.blk hR1 (show w.heap.size ≠ g by omega)
  have b2 := b1.trans (hb2.below (B := w.heap.size) (by omega) b1.size)
  obtain ⟨z0, z1, z2, zf⟩ := cur_cells3 hR2
  go_wp2
  exact bodyPost_ret (results_cl6 rfl rfl (((hR2.set 0 (.int .i64 c)).set 1 (.int .i64 k)).set 2 (.int .i64 y))) rfl ⟨⟨_, _, _, rfl⟩, ((b2.setCell (Nat.le_refl _) _).setCell (Nat.le_refl _) _).setCell (Nat.le_refl _) _⟩
set_option maxHeartbeats 2000000 in
theorem DrawReplyOk_any (B : Nat) (v : Value) (l : List Int) (w : World) (h : Bts B w v l) (hl : l.length ≤ 4096) (hB : B ≤ w.heap.size) :
    Calls Try.prog 5 #[v] w fun e w' => (∃ c k y r : Int, e = .returned (.tuple #[.agg #[.int .i64 c, .int .i64 k, .int .i64 y], .int .i64 r])) ∧ Below w.heap.size w w' := by
  have b0 := (Below.refl w.heap.size w).alloc (Nat.le_refl _) (.cells #[.int .i64 0, .int .i64 0, .int .i64 0] 25)
  have C := l1New_any B v l _ (h.below b0) hl (by simp; omega)
  obtain ⟨⟨a, c, rfl, -⟩, -⟩ := h
  go_enter Try.func5, Try.ntmps5
  go_wp2_with fail
  refine C.mono ?_
  rintro e w1 ⟨g, rfl, hg, hc1, hB1⟩
  simp at hg
  have hR1 := Blk.below (e := 25) (cs := [.int .i64 0, .int .i64 0, .int .i64 0]) (heap_alloc_new w _) hB1 (by simp)
  have b1 := b0.trans (hB1.mono (by simp))
  go_wp2_with fail
  refine (l5DrawAny_any _ g _ l w1 hc1).mono ?_
  rintro e w2 ⟨c, k, y, rfl, -, hc2, hb2⟩
  have hR2 := hb2.blk hR1 (show w.heap.size ≠ g by omega)
  have b2 := b1.trans (hb2.below (B := w.heap.size) (by omega) b1.size)
  have hK2 : Blk (w2.alloc (.cells #[.int .i64 c, .int .i64 k, .int .i64 y] 25)).drew w2.heap.size 25 [.int .i64 c, .int .i64 k, .int .i64 y] := heap_alloc_new w2 _
  have hR3 := hR2.below ((Below.refl _ _).alloc (Nat.le_refl _) (.cells #[.int .i64 c, .int .i64 k, .int .i64 y] 25)).drew hR2.lt
  have hc3 := hc2.below ((Below.refl _ _).alloc (Nat.le_refl _) (.cells #[.int .i64 c, .int .i64 k, .int .i64 y] 25)).drew
  have b3 := (b2.alloc (by have := b2.size; omega) (.cells #[.int .i64 c, .int .i64 k, .int .i64 y] 25)).drew
  have hlt2 := hR2.lt
  have hgl := hc2.lt
  obtain ⟨z0, z1, z2, zf⟩ := cur_cells3 hR2
  have HH := Lib.hid (And.intro hK2 (And.intro hR3 (And.intro hc3 b3)))
  clear hK2 hR3 hc3 b3 hR1 hR2 hb2 hc2 hc1 b1 b2 hB1 b0
  go_wp2_with fail
  go_region_with (go_at_call 15; refine (l1From_any _ g _ l (-1) 4 _ HH.out.2.2.1 (by omega) (by omega) (by omega) (by omega)).mono ?_; rintro e w4 ⟨r, rfl, -, hc4, hb4⟩; have hk4 := hb4.blk HH.out.1 (by omega); have hr4 := hb4.blk HH.out.2.1 (by omega); obtain ⟨x0, x1, x2, xf⟩ := cur_cells3 hk4; obtain ⟨v0, v1, v2, vf⟩ := cur_cells3 hr4; have b4 := HH.out.2.2.2.trans (hb4.below (B := w.heap.size) (by omega) HH.out.2.2.2.size))
  all_goals
    go_wp2
    exact bodyPost_ret (results_cl62 rfl rfl (((hr4.set 0 (.int .i64 c)).set 1 (.int .i64 k)).set 2 (.int .i64 y))) rfl ⟨⟨c, k, y, r, rfl⟩, ((b4.setCell (Nat.le_refl _) _).setCell (Nat.le_refl _) _).setCell (Nat.le_refl _) _⟩
end Go.Proofs.Ytgaakkdbfphgjaa
