/- Whether a step may be made: the model. -/
import Derived.Test.YthllpgjggmdmmaaShared
namespace Go.Proofs.Ythllpgjggmdmmaa
open Go.ChangeShapes Go.WideShapes Go.ChangeAt Go.RowKit
set_option linter.unusedVariables false
set_option linter.unusedSimpArgs false

def l7okB (l : List ND) (c : List Int) (task : Int) (h : HD) (a b : Int) : Bool :=
  sharedB l c && handB h && inB task 0 ((c.length : Int) - 1) && inB h.at_ a b && (five h).all (fun n => hasB l n)
def hasTo (l : List ND) (f : List Int) (k : Nat) : Prop := ∀ (j : Nat) (n : Int), j < k → f[j]? = some n → hasB l n = true
theorem hasTo.all {l : List ND} {f : List Int} (h : hasTo l f f.length) : f.all (fun n => hasB l n) = true := by
  rw [List.all_eq_true]
  intro n hn
  obtain ⟨j, hj, e⟩ := List.getElem_of_mem hn
  exact h j n hj (by rw [List.getElem?_eq_getElem hj, e])
theorem has_off {l : List ND} {f : List Int} {k : Nat} {n : Int} (hn : f[k]? = some n) (h : hasB l n = false) : f.all (fun n => hasB l n) = false := by
  rw [Bool.eq_false_iff]
  intro hc
  rw [List.all_eq_true] at hc
  rw [hc n (List.mem_of_getElem? hn)] at h
  cases h
/-- A load of a row whose guard says yes. -/
theorem wpl_load_g {ops : Array Oper} {rest : List Oper} {o : Oper} {a : Act} {w : World} {Q : Exit → Act → World → Prop} (hw : Region.wanted o (yielded ops a.tmps) = true) (ty : TypeId) (x : Operand) (ho : o.op = .load ty x)
    (g : Nat) (hx : a.eval x = .pointer (some ⟨g, 0, none⟩)) (t : TypeId) (cs : List Value) {fs : Array Field} (hg : Blk w g t cs)
    (hu : Try.prog.underlying ty = some (.struct fs)) (hi : (Try.prog.info? ty).map (fun i => i.size) = some cs.toArray.size)
    (h : wpList Try.prog ops Q rest (a.put o.dst (.agg cs.toArray)) w) : wpList Try.prog ops Q (o :: rest) a w :=
  BigFrame.wpList_want hw fun K hK => wp_load_row ty x ho g hx t cs.toArray (0, 0) _ hg hu rfl hi (hK _ _ h)
set_option maxRecDepth 100000 in
set_option maxHeartbeats 4000000 in
theorem spec_l7Ok (u x : Value) (l : List ND) (c : List Int) (task : Int) (h : HD) (a b : Int) (w : World) (h1 : NSl w u l) (h2 : SlI w x c) (hl : l.length ≤ 1048576) (hc : c.length ≤ 1048576) :
    Calls Try.prog 15 #[.agg #[u, x], .int .i64 task, h.val, .int .i64 a, .int .i64 b] w fun e w' => e = .returned (.bool (l7okB l c task h a b)) ∧ Below w.heap.size w w' := by
  have CS := fun w h1 h2 => spec_SharedOk u x l c w h1 h2 hl hc
  have CH := fun w => spec_HandOk h w
  have CN := fun w => spec_l6Nodes h w
  have HR : l7okB l c task h a b = (sharedB l c && handB h && inB task 0 ((c.length : Int) - 1) && inB h.at_ a b && (five h).all (fun n => hasB l n)) := rfl
  generalize l7okB l c task h a b = R at HR ⊢
  generalize sharedB l c = sb at CS HR
  generalize handB h = hb at CH HR
  have hl5' : (five h).length = 5 := rfl
  generalize five h = l5 at CN HR hl5'
  have H := Lib.hid (And.intro h1 h2)
  obtain ⟨a1, k1, rfl, -⟩ := h1
  obtain ⟨a2, k2, rfl, kk2, mm2, -⟩ := h2
  unfold HD.val at CH CN ⊢
  have hB0 : Below w.heap.size w ((w.alloc (.cells #[Value.slice a1 l.length k1, Value.slice a2 c.length k2] 33)).alloc (.cells h.cells.toArray 36)) := ((Below.refl _ _).alloc (Nat.le_refl _) _).alloc (by simp) _
  cases sb
  · have hr : R = false := by rw [HR]; simp
    clear HR
    subst hr
    go_enter Try.func15, Try.ntmps15
    go_wp2_with fail
    refine (CS _ (H.out.1.below hB0) (H.out.2.below hB0)).mono ?_
    rintro e w1 ⟨rfl, hB1⟩
    go_wp2
    go_ret
    exact ⟨rfl, hB0.trans (hB1.mono (by simp; omega))⟩
  · cases hb
    · have hr : R = false := by rw [HR]; simp
      clear HR
      subst hr
      go_enter Try.func15, Try.ntmps15
      go_wp2_with fail
      refine (CS _ (H.out.1.below hB0) (H.out.2.below hB0)).mono ?_
      rintro e w1 ⟨rfl, hB1⟩
      obtain ⟨b0, b1, hB, hs⟩ := two_allocs hB1
      go_wp2_with (first | (refine wpl_load_g ?_ 36 _ rfl (w.heap.size + 1) ?_ 36 (HD.cells (h)) ?_ Try.underlying36 infoHd ?_; rfl; rfl; exact b1; go_frame) | fail)
      refine (CH _).mono ?_
      rintro e w2 ⟨rfl, hB2⟩
      go_wp2
      go_ret
      exact ⟨rfl, hB.trans (hB2.mono hB.size)⟩
    · have c0 : (0 : Int) ≤ (c.length : Int) := by omega
      have c1 : (c.length : Int) ≤ 1048576 := by omega
      rcases Bool.eq_false_or_eq_true (inB task 0 ((c.length : Int) - 1)) with t0 | t0
      · rcases Bool.eq_false_or_eq_true (inB h.at_ a b) with t1 | t1
        · have HR2 : R = l5.all (fun n => hasB l n) := by rw [HR]; simp [t0, t1]
          have HRR := Lib.hid HR2
          have T0 := Lib.hid t0
          have T1 := Lib.hid t1
          clear HR HR2 t0 t1
          go_enter Try.func15, Try.ntmps15
          go_wp2_with fail
          refine (CS _ (H.out.1.below hB0) (H.out.2.below hB0)).mono ?_
          rintro e w1 ⟨rfl, hB1⟩
          obtain ⟨b0, b1, hB, hs⟩ := two_allocs hB1
          go_wp2_with (first | (refine wpl_load_g ?_ 36 _ rfl (w.heap.size + 1) ?_ 36 (HD.cells (h)) ?_ Try.underlying36 infoHd ?_; rfl; rfl; exact b1; go_frame) | fail)
          refine (CH _).mono ?_
          rintro e w2 ⟨rfl, hB2⟩
          have b0' := Blk.below (e := 33) (cs := [Value.slice a1 l.length k1, Value.slice a2 c.length k2]) b0 hB2 (by omega)
          have b1' := Blk.below (e := 36) (cs := h.cells) b1 hB2 (by omega)
          obtain ⟨q0, q1, qf⟩ := two_cells b0'
          have y0 : w2.cell? ⟨w.heap.size + 1, 0, none⟩ = some (.int .i64 h.at_) := b1'.cell 0
          have hB' := hB.trans (hB2.mono hB.size)
          clear b0 b1 hB1 hB2 hB
          go_wp2_with fail
          refine (spec_in _ _ _ _).mono ?_
          rintro e w2' ⟨rfl, rfl⟩
          rw [T0.out]
          go_wp2_with fail
          refine (spec_in _ _ _ _).mono ?_
          rintro e w2' ⟨rfl, rfl⟩
          rw [T1.out]
          go_wp2_with (first | (refine wpList_load_row rfl 36 _ rfl (w.heap.size + 1) ?_ 36 ((HD.cells (h)).toArray) (0, 0) _ ?_ Try.underlying36 rfl infoHd ?_; rfl; exact b1'; go_frame) | fail)
          refine (CN _).mono ?_
          rintro e w3 ⟨g5, u5, rfl, hg5, hO5, hB3⟩
          have b0 := b0'.below hB3 b0'.lt
          clear q0 q1 qf y0
          obtain ⟨q0, q1, qf⟩ := two_cells b0
          have hS5 : SlI w3 u5 l5 := hO5.sl
          obtain ⟨fb, fo, fc, rfl, fk, fm, fs, F1⟩ := hS5.at (by intro e; rw [e] at hl5'; simp at hl5')
          rw [hl5'] at fk ⊢
          have hB3' := hB'.trans (hB3.mono hB'.size)
          have hs3 := b0.lt
          have HB3 := Lib.hid hB3'
          clear b0 b0' b1' hO5 hS5 hB3 hB3' hB' CS CH CN
          go_wp2
          go_loopw [12] (fun i wr => ∃ j : Nat, j ≤ 5 ∧ i = .int .i64 j ∧ hasTo l l5 j ∧ Below w3.heap.size w3 wr) (fun i _ => 5 - (intOf i).toNat)
          case atStart => exact ⟨0, Nat.zero_le _, rfl, fun j n hj => by omega, Below.refl _ _⟩
          case round =>
            obtain ⟨j, hj, rfl, hP, hb⟩ := hrel
            by_cases hlt : j < 5
            · obtain ⟨n, hg⟩ : ∃ n, l5[j]? = some n := ⟨_, List.getElem?_eq_getElem (by omega)⟩
              have A1 : wr.cell? ⟨fb, fo + j, none⟩ = some (.int .i64 n) := (hb.cell (p := ⟨fb, fo + j, none⟩) fs).trans (F1 j n hg)
              have A2 : wr.cell? ⟨w.heap.size, 0, none⟩ = some (.slice a1 l.length k1) := (hb.cell (p := ⟨w.heap.size, 0, none⟩) hs3).trans q0
              have j0 : (0 : Int) ≤ (j : Int) := by omega
              have j1 : (j : Int) < 5 := by omega
              have HHH := Lib.hid (And.intro hP (And.intro hg hb))
              clear hP hg hb F1 q0 q1 qf
              rcases Bool.eq_false_or_eq_true (hasB l n) with hh | hh
              · have HI := Lib.hid hh
                clear hh
                go_wp2
                go_region_held3 (fun w' => w'.cell? ⟨fb, fo + j, none⟩ = some (.int .i64 n) ∧ w'.cell? ⟨w.heap.size, 0, none⟩ = some (.slice a1 l.length k1)) (go_keep) ((go_at_call 40; refine (spec_has _ _ l _ _ hl).mono ?_; rintro e w4 ⟨rfl, rfl⟩))
                rw [HI.out]
                go_wp2
                refine ⟨⟨j + 1, by omega, by go_num, fun i m hi hm => ?_, HHH.out.2.2.drew⟩, by simp [intOf]; omega⟩
                by_cases e : i = j
                · subst e
                  rw [HHH.out.2.1] at hm
                  cases hm
                  exact HI.out
                · exact HHH.out.1 i m (by omega) hm
              · have HI := Lib.hid hh
                have hr : R = false := by rw [HRR.out, has_off HHH.out.2.1 hh]
                have HRF := Lib.hid hr
                clear hh hr
                go_wp2
                go_region_held3 (fun w' => w'.cell? ⟨fb, fo + j, none⟩ = some (.int .i64 n) ∧ w'.cell? ⟨w.heap.size, 0, none⟩ = some (.slice a1 l.length k1)) (go_keep) ((go_at_call 40; refine (spec_has _ _ l _ _ hl).mono ?_; rintro e w4 ⟨rfl, rfl⟩))
                rw [HI.out]
                go_wp2
                go_ret
                exact ⟨by first | rfl | (rw [HRF.out]; rfl), HB3.out.trans (HHH.out.2.2.drew.mono HB3.out.size)⟩
            · obtain rfl : j = 5 := by omega
              have hr : R = true := by rw [HRR.out]; exact hasTo.all (by rw [hl5']; exact hP)
              have HRF := Lib.hid hr
              have HHH := Lib.hid hb
              clear hP hb F1 hr q0 q1 qf
              go_wp2
              go_ret
              exact ⟨by first | rfl | (rw [HRF.out]; rfl), HB3.out.trans (HHH.out.mono HB3.out.size)⟩
        · have hr : R = false := by rw [HR]; simp [t0, t1]
          clear HR
          subst hr
          have T0 := Lib.hid t0
          have T1 := Lib.hid t1
          clear t0 t1
          go_enter Try.func15, Try.ntmps15
          go_wp2_with fail
          refine (CS _ (H.out.1.below hB0) (H.out.2.below hB0)).mono ?_
          rintro e w1 ⟨rfl, hB1⟩
          obtain ⟨b0, b1, hB, hs⟩ := two_allocs hB1
          go_wp2_with (first | (refine wpl_load_g ?_ 36 _ rfl (w.heap.size + 1) ?_ 36 (HD.cells (h)) ?_ Try.underlying36 infoHd ?_; rfl; rfl; exact b1; go_frame) | fail)
          refine (CH _).mono ?_
          rintro e w2 ⟨rfl, hB2⟩
          have b0' := Blk.below (e := 33) (cs := [Value.slice a1 l.length k1, Value.slice a2 c.length k2]) b0 hB2 (by omega)
          have b1' := Blk.below (e := 36) (cs := h.cells) b1 hB2 (by omega)
          obtain ⟨q0, q1, qf⟩ := two_cells b0'
          have y0 : w2.cell? ⟨w.heap.size + 1, 0, none⟩ = some (.int .i64 h.at_) := b1'.cell 0
          have hB' := hB.trans (hB2.mono hB.size)
          clear b0 b1 hB1 hB2 hB
          go_wp2_with fail
          refine (spec_in _ _ _ _).mono ?_
          rintro e w2' ⟨rfl, rfl⟩
          rw [T0.out]
          go_wp2_with fail
          refine (spec_in _ _ _ _).mono ?_
          rintro e w2' ⟨rfl, rfl⟩
          rw [T1.out]
          go_wp2
          go_ret
          exact ⟨rfl, hB'⟩
      · have hr : R = false := by rw [HR]; simp [t0]
        clear HR
        subst hr
        have T0 := Lib.hid t0
        clear t0
        go_enter Try.func15, Try.ntmps15
        go_wp2_with fail
        refine (CS _ (H.out.1.below hB0) (H.out.2.below hB0)).mono ?_
        rintro e w1 ⟨rfl, hB1⟩
        obtain ⟨b0, b1, hB, hs⟩ := two_allocs hB1
        go_wp2_with (first | (refine wpl_load_g ?_ 36 _ rfl (w.heap.size + 1) ?_ 36 (HD.cells (h)) ?_ Try.underlying36 infoHd ?_; rfl; rfl; exact b1; go_frame) | fail)
        refine (CH _).mono ?_
        rintro e w2 ⟨rfl, hB2⟩
        have b0' := Blk.below (e := 33) (cs := [Value.slice a1 l.length k1, Value.slice a2 c.length k2]) b0 hB2 (by omega)
        have b1' := Blk.below (e := 36) (cs := h.cells) b1 hB2 (by omega)
        obtain ⟨q0, q1, qf⟩ := two_cells b0'
        have y0 : w2.cell? ⟨w.heap.size + 1, 0, none⟩ = some (.int .i64 h.at_) := b1'.cell 0
        have hB' := hB.trans (hB2.mono hB.size)
        clear b0 b1 hB1 hB2 hB
        go_wp2_with fail
        refine (spec_in _ _ _ _).mono ?_
        rintro e w2' ⟨rfl, rfl⟩
        rw [T0.out]
        go_wp2
        go_ret
        exact ⟨rfl, hB'⟩
end Go.Proofs.Ythllpgjggmdmmaa
