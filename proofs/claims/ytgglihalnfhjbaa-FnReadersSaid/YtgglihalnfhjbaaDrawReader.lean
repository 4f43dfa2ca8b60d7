/- The draws of counts. -/
import Derived.Test.YtgglihalnfhjbaaCur2
import Derived.Test.YtgglihalnfhjbaaReaderSpec
import Derived.Maps.RangeWalk
import Derived.Deep.AppendLies
namespace Go.Proofs.Ytgglihalnfhjbaa
open Go.ChangeShapes Go.WideShapes Go.ChangeAt Go.RowKit
set_option linter.unusedVariables false
set_option linter.unusedSimpArgs false

theorem But.grown {g : Nat} {w wr w5 : World} {o : Option Nat} (h : But g w wr) (hg : wr.grownBy w5 o) (ho : ∀ j, o = some j → w.heap.size ≤ j) : But g w w5 :=
  ⟨hg.os.trans h.os, hg.tape.trans h.tape, hg.output.trans h.output, Nat.le_trans h.size hg.size, fun k hk hne => (hg.block k (Nat.lt_of_lt_of_le hk h.size) (fun e => by have := ho k e.symm; omega)).trans (h.block k hk hne)⟩
theorem CurAt.grown {B g : Nat} {v : Value} {l : List Int} {w w' : World} {o : Option Nat} (h : CurAt B g v l w) (hg : w.grownBy w' o) (ho : ∀ j, o = some j → g < j) : CurAt B g v l w' := by
  have hB := h.1
  cases o with
  | none => exact h.below ((Below.refl _ _).grown hg (Nat.le_refl _) (fun j hj => by cases hj))
  | some j =>
    have hj := ho j rfl
    exact h.but (k := j) ⟨hg.os, hg.tape, hg.output, hg.size, fun k hk hne => hg.block k hk (fun e => hne (by cases e; rfl))⟩ (by omega) (by omega)
theorem row_but {w1 w2 : World} {B g : Nat} {e : TypeId} {sz n : Nat} {v : Value} {cs : List Value} (h : w1.ownsRow B e sz v n cs) (hb : But g w1 w2) (hg : g < B) : w2.ownsRow B e sz v n cs := by
  rcases h with ⟨h1, h2 | ⟨k, cap, cur, hv, hk, hh, r⟩⟩
  · exact ⟨h1, .inl h2⟩
  · exact ⟨h1, .inr ⟨k, cap, cur, hv, hk, (hb.block k (Array.getElem?_eq_some_iff.1 hh).1 (by omega)).trans hh, r⟩⟩

/-- A draw of integers: in memory of their own, from D on, beside the cursor. -/
def DrewI (B g D : Nat) (v : Value) (l : List Int) (w : World) (e : Ending) (w' : World) : Prop := ∃ (u : Value) (r : List Int), e = .returned u ∧ SlI w' u r ∧ r.length ≤ 16 ∧ (∀ k, u.ownBlock = some k → D ≤ k) ∧ CurAt B g v l w' ∧ But g w w'

theorem row_own {w : World} {B n oc : Nat} {t : TypeId} {oa : Option Addr} {sz : Nat} {cs : List Value} (h : w.ownsRow B t sz (.slice oa n oc) n cs) (hn : 0 < n) : ∃ k, oa = some ⟨k, 0, none⟩ ∧ B ≤ k ∧ Own w (.slice (some ⟨k, 0, none⟩) n oc) k t sz n cs := by
  rcases id h with ⟨-, ⟨-, hv⟩ | ⟨k, cap, cur, hv, hb, -⟩⟩
  · omega
  · cases hv
    exact ⟨k, rfl, hb, own_of_row h⟩
theorem made_ints (n : Nat) : (madeCells (Value.int .i64 0).cells (n * 1)).toList = cellsI (List.replicate n 0) := by
  have e : (Value.int .i64 0).cells = #[Value.int .i64 0] := rfl
  rw [e]
  apply List.ext_getElem
  · simp [madeCells, cellsI]
  · intro i h1 h2
    simp [madeCells, cellsI, Nat.mod_one]
theorem DrewI.mk' {B g D k : Nat} {v u : Value} {l r : List Int} {w w' : World} (hO : Own w' u k 2 1 r.length (cellsI r)) (hl : r.length ≤ 16) (hk : D ≤ k) (hc : CurAt B g v l w' ∧ But g w w') : DrewI B g D v l w (.returned u) w' := by
  refine ⟨u, r, rfl, hO.sl, hl, ?_, hc.1, hc.2⟩
  obtain ⟨cap, sp, rfl, -⟩ := hO
  intro j hj
  simp [Value.ownBlock] at hj
  omega

set_option maxRecDepth 100000 in
set_option maxHeartbeats 8000000 in
theorem l4Draw_any (B g : Nat) (v : Value) (l : List Int) (w : World) (h : CurAt B g v l w) :
    Calls Try.prog 15 #[.pointer (some ⟨g, 0, none⟩)] w (DrewI B g w.heap.size v l w) := by
  obtain ⟨i0, hi0, hz0, hz1, hz2⟩ := info_parts infoI64
  have hg := h.lt
  have H := Lib.hid h
  clear h
  go_enter Try.func15, Try.ntmps15
  go_wp2_with fail
  have hc0 := H.out.below ((Below.refl _ _).alloc (Nat.le_refl _) (.cells #[] 2))
  refine (l1Below_any B g v l 5 _ hc0 (by omega)).mono ?_
  rintro e w1 ⟨n, rfl, ⟨p0, p1⟩, hc1, hb1⟩
  have z0 : n + 1 ≤ 5 := by omega
  have hS1 : Hid (w1.ownsRow w.heap.size 2 1 (.slice (some ⟨w.heap.size, 0, none⟩) 0 0) 0 []) := Lib.hid (row_but (none_row _ _ (Below.refl _ _)) hb1 hg)
  have HC := Lib.hid (And.intro hc1 (((But.refl g w).alloc (.cells #[] 2)).trans hb1))
  clear hc0 hc1 hb1
  go_wp2
  go_loopw [3, 4] (fun u i wr => ∃ (oa : Option Addr) (oc : Nat) (r : List Int) (m : Int), u = .slice oa r.length oc ∧ i = .int .i64 m ∧ 0 ≤ m ∧ m + r.length ≤ 5 ∧ 1 ≤ m + r.length ∧ Hid (wr.ownsRow w.heap.size 2 1 (.slice oa r.length oc) r.length (cellsI r)) ∧ Hid (CurAt B g v l wr ∧ But g w wr)) (fun _ i _ => (intOf i).toNat)
  case atStart => exact ⟨_, _, [], 1 + n, rfl, rfl, by omega, by simp; omega, by simp; omega, hS1, HC⟩
  case round =>
    obtain ⟨oa, oc, r, m, rfl, rfl, m0, m1, m2, hrow, hcc⟩ := hrel
    by_cases hm : 0 < m
    · have hm' : m > 0 := hm
      go_wp2_with fail
      refine (l1Below_any B g v l 9 _ hcc.out.1 (by omega)).mono ?_
      rintro e w2 ⟨x, rfl, ⟨q0, q1⟩, hc2, hb2⟩
      have hrow2 := Lib.hid (row_but hrow.out hb2 hg)
      have hcc2 := Lib.hid (And.intro hc2 (hcc.out.2.trans hb2))
      have hz := hcc2.out.2.size
      clear hc2 hb2 hcc hrow
      go_wp2_with (first
        | (at_builtin; refine wpList_append_lies _ rfl _ _ 24 rfl w.heap.size 2 i0 (.int .i64 0) 1 8 Try.underlying24 hi0 hz0 hz1 hz2 rfl (by decide) (.slice oa r.length oc) r.length (cellsI r) rfl (hrow2.out.alloc _) ⟨w2.heap.size, 0, none⟩ 1 1 [.int .i64 x] rfl rfl (cell_one_new _ _ _) (by simp [Value.oneCell']) (by omega) (by unfold maxLen; omega) (by omega) (by simp; omega) (w2.heap.size + 1) (by simp) ?_; intro g' cap' w5 hown' hg5 hat5 hgl5; go_frame)
        | go_in)
      refine ⟨⟨some ⟨g', 0, none⟩, cap', r ++ [x], m - 1, by simp, rfl, by omega, by simp; omega, by simp; omega, Lib.hid ?_, Lib.hid ⟨?_, ?_⟩⟩, by simp [intOf]; omega⟩
      · rw [cellsI_snoc]
        simpa using hown'
      · exact (hcc2.out.1.below ((Below.refl _ _).alloc (Nat.le_refl _) _)).grown hg5 (fun j hj => by have := (hrow2.out.lt j hj).1; omega)
      · exact (hcc2.out.2.alloc _).grown hg5 (fun j hj => (hrow2.out.lt j hj).1)
    · obtain rfl : m = 0 := by omega
      have hr : 0 < r.length := by omega
      obtain ⟨k, rfl, hk, hO⟩ := row_own hrow.out hr
      have hlt := hO.lt
      have HO := Lib.hid hO
      clear hO hrow H HC hS1
      go_wp2_with fail
      refine (l1Once_any B g v l 8 _ hcc.out.1 (by omega)).mono ?_
      rintro e w2 ⟨b, rfl, hc2, hb2⟩
      have hO2 := HO.out.but hb2 (show k ≠ g by omega)
      have hB2 := hcc.out.2.trans hb2
      clear hcc HO
      cases b
      · go_wp2_with fail
        refine (l1Once_any B g v l 12 _ hc2 (by omega)).mono ?_
        rintro e w3 ⟨b, rfl, hc3, hb3⟩
        have hO3 := hO2.but hb3 (show k ≠ g by omega)
        have hB3 := hB2.trans hb3
        have HH := Lib.hid (And.intro hO3 (And.intro hc3 hB3))
        clear hO2 hB2 hb2 hc2 hb3
        cases b
        · go_wp2
          go_ret
          exact DrewI.mk' HH.out.1 (by omega) hk HH.out.2
        · go_wp2_with fail
          refine (l1Below_any B g v l 9 _ hc3 (by omega)).mono ?_
          rintro e w4 ⟨x, rfl, ⟨q0, q1⟩, hc4, hb4⟩
          obtain ⟨n, rfl⟩ := Int.eq_ofNat_of_zero_le q0
          have n9 : n ≤ 9 := by omega
          have hz := (HH.out.2.2.trans hb4).size
          have HH2 := Lib.hid (And.intro hc4 (HH.out.2.2.trans hb4))
          clear hc3 hO3 hB3 hc4 hb4
          go_wp2_with (first
            | (at_make; refine wpList_make_full _ rfl _ _ 24 rfl w.heap.size 2 i0 _ 1 Try.underlying24 hi0 hz0 hz1 _ _ _ _ n rfl rfl rfl rfl (by rw [hz2]; omega) (by unfold maxLen; omega) hz ?_; intro w5 hown hgrow)
            | go_in)
          go_ret
          rw [made_ints] at hown
          have hO5 : Own w5 (.slice (some ⟨w4.heap.size, 0, none⟩) n n) w4.heap.size 2 1 (List.replicate n (0 : Int)).length (cellsI (List.replicate n 0)) := by simpa using own_of_row hown
          exact DrewI.mk' hO5 (by simp; omega) hz ⟨HH2.out.1.grown hgrow (fun j hj => by cases hj), HH2.out.2.grown hgrow (fun j hj => by cases hj)⟩
      · go_wp2_with fail
        refine (l1Num_any B g v l 100000 _ hc2 (by omega) (by omega)).mono ?_
        rintro e w3 ⟨x, rfl, hx, hc3, hb3⟩
        have hO3 := hO2.but hb3 (show k ≠ g by omega)
        have hB3 := hB2.trans hb3
        obtain ⟨A5, A6⟩ := own_at hO3 hr
        have hO4 := own_set hO3 hr x
        have hs := But.set k 0 w3 (.int .i64 x)
        have hc4 := hc3.but hs (by omega) (by have := hc3.1; omega)
        have hB4 : But g w (w3.setCell ⟨k, 0, none⟩ (.int .i64 x)) := ⟨hs.os.trans hB3.os, hs.tape.trans hB3.tape, hs.output.trans hB3.output, Nat.le_trans hB3.size hs.size, fun j hj hne => (hs.block j (Nat.lt_of_lt_of_le hj hB3.size) (by omega)).trans (hB3.block j hj hne)⟩
        have HH := Lib.hid (And.intro hO4 (And.intro hc4 hB4))
        clear hO2 hB2 hb2 hc2 hb3 hO3 hB3 hO4 hs hc4 hB4 hc3
        have i1 : (0 : Int) < (r.length : Int) := by omega
        go_wp2_with fail
        refine (l1Once_any B g v l 12 _ HH.out.2.1 (by omega)).mono ?_
        rintro e w4 ⟨b, rfl, hc4, hb4⟩
        have hO5 := HH.out.1.but hb4 (show k ≠ g by omega)
        have HH := Lib.hid (And.intro hO5 (And.intro hc4 (HH.out.2.2.trans hb4)))
        clear hO5 hb4
        cases b
        · go_wp2
          go_ret
          exact DrewI.mk' HH.out.1 (by simp; omega) hk HH.out.2
        · go_wp2_with fail
          refine (l1Below_any B g v l 9 _ hc4 (by omega)).mono ?_
          rintro e w5 ⟨x, rfl, ⟨q0, q1⟩, hc5, hb5⟩
          obtain ⟨n, rfl⟩ := Int.eq_ofNat_of_zero_le q0
          have n9 : n ≤ 9 := by omega
          have hz := (HH.out.2.2.trans hb5).size
          have HH2 := Lib.hid (And.intro hc5 (HH.out.2.2.trans hb5))
          clear hc4 hc5 hb5
          go_wp2_with (first
            | (at_make; refine wpList_make_full _ rfl _ _ 24 rfl w.heap.size 2 i0 _ 1 Try.underlying24 hi0 hz0 hz1 _ _ _ _ n rfl rfl rfl rfl (by rw [hz2]; omega) (by unfold maxLen; omega) hz ?_; intro w6 hown hgrow)
            | go_in)
          go_ret
          rw [made_ints] at hown
          have hO5 : Own w6 (.slice (some ⟨w5.heap.size, 0, none⟩) n n) w5.heap.size 2 1 (List.replicate n (0 : Int)).length (cellsI (List.replicate n 0)) := by simpa using own_of_row hown
          exact DrewI.mk' hO5 (by simp; omega) hz ⟨HH2.out.1.grown hgrow (fun j hj => by cases hj), HH2.out.2.grown hgrow (fun j hj => by cases hj)⟩
end Go.Proofs.Ytgglihalnfhjbaa
