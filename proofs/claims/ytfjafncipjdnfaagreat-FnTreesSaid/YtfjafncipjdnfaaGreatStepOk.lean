import Derived.Test.YtfjafncipjdnfaaGreatHand3
namespace Go.Proofs.YtfjafncipjdnfaaGreat
open Go.ChangeShapes Go.WideShapes Go.ChangeAt Go.RowKit
set_option linter.unusedVariables false
set_option linter.unusedSimpArgs false
def OA (l : List ND) (c : List Int) : Bool := PA l && sD c
theorem SE {w : World} {g : Nat} {t : TypeId} {a b : Value} (h : Blk w g t [a, b]) : w.cell? ⟨g, 0, none⟩ = some a ∧ w.cell? ⟨g, 1, none⟩ = some b ∧ ∀ i, w.frozen? ⟨g, i, none⟩ = false := ⟨h.cell 0, h.cell 1, fun i => h.free i⟩
set_option maxHeartbeats 1000000 in
theorem rD (u x : Value) (l : List ND) (c : List Int) (w : World) (h1 : NSl w u l) (h2 : SlI w x c) (hl : l.length ≤ 1048576) (hc : c.length ≤ 1048576) :
    Calls Tryz.prog 25 #[.agg #[u, x]] w fun e w' => e = .returned (.bool (OA l c)) ∧ Below w.heap.size w w' := by
  have CN := fun w h => CD u l w h hl
  have CC := fun w h => AI x c w h hc
  have HR : OA l c = (PA l && sD c) := rfl
  rw [HR]
  clear HR
  unfold Says at CN
  generalize PA l = nb at CN ⊢
  generalize sD c = cb at CC ⊢
  have H := Lib.hid (And.intro h1 h2)
  obtain ⟨a, k, rfl, -⟩ := h1
  obtain ⟨a', k', rfl, -⟩ := h2
  have b0 := (Below.refl w.heap.size w).alloc (Nat.le_refl _) (.cells #[Value.slice a l.length k, Value.slice a' c.length k'] 41)
  cases nb
  · go_enter Tryz.func25, Tryz.ntmps25
    go_wp2_with fail
    refine (CN _ (H.out.1.below b0)).mono ?_
    rintro e w1 ⟨rfl, hB1⟩
    go_wp2
    go_ret
    exact ⟨rfl, b0.trans (hB1.mono (by simp))⟩
  · go_enter Tryz.func25, Tryz.ntmps25
    go_wp2_with fail
    refine (CN _ (H.out.1.below b0)).mono ?_
    rintro e w1 ⟨rfl, hB1⟩
    have b1 := b0.trans (hB1.mono (by simp))
    obtain ⟨q0, q1, qf⟩ := SE (Blk.below (e := 41) (cs := [Value.slice a l.length k, Value.slice a' c.length k']) (heap_alloc_new w _) hB1 (by simp))
    go_wp2_with fail
    refine (CC _ (H.out.2.below b1)).mono ?_
    rintro e w2 ⟨rfl, rfl⟩
    go_wp2
    go_ret
    exact ⟨rfl, b1⟩
def QB (l : List ND) (c : List Int) (task : Int) (h : HD) (a b : Int) : Bool :=
  OA l c && SA h && ZA task 0 ((c.length : Int) - 1) && ZA h.at_ a b && (zG h).all (fun n => dC l n)
def hasTo (l : List ND) (f : List Int) (k : Nat) : Prop := ∀ (j : Nat) (n : Int), j < k → f[j]? = some n → dC l n = true
theorem hasTo.all {l : List ND} {f : List Int} (h : hasTo l f f.length) : f.all (fun n => dC l n) = true := by
  rw [List.all_eq_true]
  intro n hn
  obtain ⟨j, hj, e⟩ := List.getElem_of_mem hn
  exact h j n hj (by rw [List.getElem?_eq_getElem hj, e])
theorem mO {l : List ND} {f : List Int} {k : Nat} {n : Int} (hn : f[k]? = some n) (h : dC l n = false) : f.all (fun n => dC l n) = false := by
  rw [Bool.eq_false_iff]
  intro hc
  rw [List.all_eq_true] at hc
  rw [hc n (List.mem_of_getElem? hn)] at h
  cases h
theorem WE {ops : Array Oper} {rest : List Oper} {o : Oper} {a : Act} {w : World} {Q : Exit → Act → World → Prop} (hw : Region.wanted o (yielded ops a.tmps) = true) (ty : TypeId) (x : Operand) (ho : o.op = .load ty x)
    (g : Nat) (hx : a.eval x = .pointer (some ⟨g, 0, none⟩)) (t : TypeId) (cs : List Value) {fs : Array Field} (hg : Blk w g t cs)
    (hu : Tryz.prog.underlying ty = some (.struct fs)) (hi : (Tryz.prog.info? ty).map (fun i => i.size) = some cs.toArray.size)
    (h : wpList Tryz.prog ops Q rest (a.put o.dst (.agg cs.toArray)) w) : wpList Tryz.prog ops Q (o :: rest) a w :=
  BigFrame.wpList_want hw fun K hK => wp_load_row ty x ho g hx t cs.toArray (0, 0) _ hg hu rfl hi (hK _ _ h)
set_option maxRecDepth 100000 in
set_option maxHeartbeats 4000000 in
theorem aD (u x : Value) (l : List ND) (c : List Int) (task : Int) (h : HD) (a b : Int) (w : World) (h1 : NSl w u l) (h2 : SlI w x c) (hl : l.length ≤ 1048576) (hc : c.length ≤ 1048576) :
    Calls Tryz.prog 50 #[.agg #[u, x], .int .i64 task, h.val, .int .i64 a, .int .i64 b] w fun e w' => e = .returned (.bool (QB l c task h a b)) ∧ Below w.heap.size w w' := by
  have CS := fun w h1 h2 => rD u x l c w h1 h2 hl hc
  have CH := fun w => OC h w
  have CN := fun w => pG h w
  have HR : QB l c task h a b = (OA l c && SA h && ZA task 0 ((c.length : Int) - 1) && ZA h.at_ a b && (zG h).all (fun n => dC l n)) := rfl
  generalize QB l c task h a b = R at HR ⊢
  generalize OA l c = sb at CS HR
  generalize SA h = hb at CH HR
  have hl5' : (zG h).length = 5 := rfl
  generalize zG h = l5 at CN HR hl5'
  have H := Lib.hid (And.intro h1 h2)
  obtain ⟨a1, k1, rfl, -⟩ := h1
  obtain ⟨a2, k2, rfl, kk2, mm2, -⟩ := h2
  unfold HD.val at CH CN ⊢
  have hB0 : Below w.heap.size w ((w.alloc (.cells #[Value.slice a1 l.length k1, Value.slice a2 c.length k2] 41)).alloc (.cells h.cells.toArray 45)) := ((Below.refl _ _).alloc (Nat.le_refl _) _).alloc (by simp) _
  cases sb
  · have hr : R = false := by rw [HR]; simp
    clear HR
    subst hr
    go_enter Tryz.func50, Tryz.ntmps50
    go_wp2_with fail
    refine (CS _ (H.out.1.below hB0) (H.out.2.below hB0)).mono ?_
    rintro e w1 ⟨rfl, hB1⟩
    go_wp2
    go_ret
    exact ⟨rfl, hB0.trans (hB1.mono (by simp; omega))⟩
  · cases hb
    · have hr : R = false := by rw [HR]; simp
      clear HR
      subst hr
      go_enter Tryz.func50, Tryz.ntmps50
      go_wp2_with fail
      refine (CS _ (H.out.1.below hB0) (H.out.2.below hB0)).mono ?_
      rintro e w1 ⟨rfl, hB1⟩
      obtain ⟨b0, b1, hB, hs⟩ := XE hB1
      go_wp2_with (first | (refine WE ?_ 45 _ rfl (w.heap.size + 1) ?_ 45 (HD.cells (h)) ?_ dA UH ?_; rfl; rfl; exact b1; go_frame) | fail)
      refine (CH _).mono ?_
      rintro e w2 ⟨rfl, hB2⟩
      go_wp2
      go_ret
      exact ⟨rfl, hB.trans (hB2.mono hB.size)⟩
    · have c0 : (0 : Int) ≤ (c.length : Int) := by omega
      have c1 : (c.length : Int) ≤ 1048576 := by omega
      rcases Bool.eq_false_or_eq_true (ZA task 0 ((c.length : Int) - 1)) with t0 | t0
      · rcases Bool.eq_false_or_eq_true (ZA h.at_ a b) with t1 | t1
        · have HR2 : R = l5.all (fun n => dC l n) := by rw [HR]; simp [t0, t1]
          have HRR := Lib.hid HR2
          have T0 := Lib.hid t0
          have T1 := Lib.hid t1
          clear HR HR2 t0 t1
          go_enter Tryz.func50, Tryz.ntmps50
          go_wp2_with fail
          refine (CS _ (H.out.1.below hB0) (H.out.2.below hB0)).mono ?_
          rintro e w1 ⟨rfl, hB1⟩
          obtain ⟨b0, b1, hB, hs⟩ := XE hB1
          go_wp2_with (first | (refine WE ?_ 45 _ rfl (w.heap.size + 1) ?_ 45 (HD.cells (h)) ?_ dA UH ?_; rfl; rfl; exact b1; go_frame) | fail)
          refine (CH _).mono ?_
          rintro e w2 ⟨rfl, hB2⟩
          have b0' := Blk.below (e := 41) (cs := [Value.slice a1 l.length k1, Value.slice a2 c.length k2]) b0 hB2 (by omega)
          have b1' := Blk.below (e := 45) (cs := h.cells) b1 hB2 (by omega)
          obtain ⟨q0, q1, qf⟩ := SE b0'
          have y0 : w2.cell? ⟨w.heap.size + 1, 0, none⟩ = some (.int .i64 h.at_) := b1'.cell 0
          have hB' := hB.trans (hB2.mono hB.size)
          clear b0 b1 hB1 hB2 hB
          go_wp2_with fail
          refine (UA _ _ _ _).mono ?_
          rintro e w2' ⟨rfl, rfl⟩
          rw [T0.out]
          go_wp2_with fail
          refine (UA _ _ _ _).mono ?_
          rintro e w2' ⟨rfl, rfl⟩
          rw [T1.out]
          go_wp2_with (first | (refine wpList_load_row rfl 45 _ rfl (w.heap.size + 1) ?_ 45 ((HD.cells (h)).toArray) (0, 0) _ ?_ dA rfl UH ?_; rfl; exact b1'; go_frame) | fail)
          refine (CN _).mono ?_
          rintro e w3 ⟨g5, u5, rfl, hg5, hO5, hB3⟩
          have b0 := b0'.below hB3 b0'.lt
          clear q0 q1 qf y0
          obtain ⟨q0, q1, qf⟩ := SE b0
          have hS5 : SlI w3 u5 l5 := hO5.sl
          obtain ⟨fb, fo, fc, rfl, fk, fm, fs, F1⟩ := hS5.at (by intro e; rw [e] at hl5'; simp at hl5')
          rw [hl5'] at fk ⊢
          have hB3' := hB'.trans (hB3.mono hB'.size)
          have hs3 := b0.lt
          have HB3 := Lib.hid hB3'
          clear b0 b0' b1' hO5 hS5 hB3 hB3' hB' CS CH CN
          go_wp2
          go_loopw [12] (fun i wr => ∃ j : Nat, j ≤ 5 ∧ i = .int .i64 j ∧ hasTo l l5 j ∧ Below w3.heap.size w3 wr) (fun i _ => 5 - (intOf i).toNat)
          case atStart => exact ⟨0, Nat.zero_le _, rfl, fun j n hj => by omega, Below.refl _ _⟩
          case round =>
            obtain ⟨j, hj, rfl, hP, hb⟩ := hrel
            by_cases hlt : j < 5
            · obtain ⟨n, hg⟩ : ∃ n, l5[j]? = some n := ⟨_, List.getElem?_eq_getElem (by omega)⟩
              have A1 : wr.cell? ⟨fb, fo + j, none⟩ = some (.int .i64 n) := (hb.cell (p := ⟨fb, fo + j, none⟩) fs).trans (F1 j n hg)
              have A2 : wr.cell? ⟨w.heap.size, 0, none⟩ = some (.slice a1 l.length k1) := (hb.cell (p := ⟨w.heap.size, 0, none⟩) hs3).trans q0
              have j0 : (0 : Int) ≤ (j : Int) := by omega
              have j1 : (j : Int) < 5 := by omega
              have HHH := Lib.hid (And.intro hP (And.intro hg hb))
              clear hP hg hb F1 q0 q1 qf
              rcases Bool.eq_false_or_eq_true (dC l n) with hh | hh
              · have HI := Lib.hid hh
                clear hh
                go_wp2
                go_region_held3 (fun w' => w'.cell? ⟨fb, fo + j, none⟩ = some (.int .i64 n) ∧ w'.cell? ⟨w.heap.size, 0, none⟩ = some (.slice a1 l.length k1)) (go_keep) ((go_at_call 102; refine (tF _ _ l _ _ hl).mono ?_; rintro e w4 ⟨rfl, rfl⟩))
                rw [HI.out]
                go_wp2
                refine ⟨⟨j + 1, by omega, by go_num, fun i m hi hm => ?_, HHH.out.2.2.drew⟩, by simp [intOf]; omega⟩
                by_cases e : i = j
                · subst e
                  rw [HHH.out.2.1] at hm
                  cases hm
                  exact HI.out
                · exact HHH.out.1 i m (by omega) hm
              · have HI := Lib.hid hh
                have hr : R = false := by rw [HRR.out, mO HHH.out.2.1 hh]
                have HRF := Lib.hid hr
                clear hh hr
                go_wp2
                go_region_held3 (fun w' => w'.cell? ⟨fb, fo + j, none⟩ = some (.int .i64 n) ∧ w'.cell? ⟨w.heap.size, 0, none⟩ = some (.slice a1 l.length k1)) (go_keep) ((go_at_call 102; refine (tF _ _ l _ _ hl).mono ?_; rintro e w4 ⟨rfl, rfl⟩))
                rw [HI.out]
                go_wp2
                go_ret
                exact ⟨by first | rfl | (rw [HRF.out]; rfl), HB3.out.trans (HHH.out.2.2.drew.mono HB3.out.size)⟩
            · obtain rfl : j = 5 := by omega
              have hr : R = true := by rw [HRR.out]; exact hasTo.all (by rw [hl5']; exact hP)
              have HRF := Lib.hid hr
              have HHH := Lib.hid hb
              clear hP hb F1 hr q0 q1 qf
              go_wp2
              go_ret
              exact ⟨by first | rfl | (rw [HRF.out]; rfl), HB3.out.trans (HHH.out.mono HB3.out.size)⟩
        · have hr : R = false := by rw [HR]; simp [t0, t1]
          clear HR
          subst hr
          have T0 := Lib.hid t0
          have T1 := Lib.hid t1
          clear t0 t1
          go_enter Tryz.func50, Tryz.ntmps50
          go_wp2_with fail
          refine (CS _ (H.out.1.below hB0) (H.out.2.below hB0)).mono ?_
          rintro e w1 ⟨rfl, hB1⟩
          obtain ⟨b0, b1, hB, hs⟩ := XE hB1
          go_wp2_with (first | (refine WE ?_ 45 _ rfl (w.heap.size + 1) ?_ 45 (HD.cells (h)) ?_ dA UH ?_; rfl; rfl; exact b1; go_frame) | fail)
          refine (CH _).mono ?_
          rintro e w2 ⟨rfl, hB2⟩
          have b0' := Blk.below (e := 41) (cs := [Value.slice a1 l.length k1, Value.slice a2 c.length k2]) b0 hB2 (by omega)
          have b1' := Blk.below (e := 45) (cs := h.cells) b1 hB2 (by omega)
          obtain ⟨q0, q1, qf⟩ := SE b0'
          have y0 : w2.cell? ⟨w.heap.size + 1, 0, none⟩ = some (.int .i64 h.at_) := b1'.cell 0
          have hB' := hB.trans (hB2.mono hB.size)
          clear b0 b1 hB1 hB2 hB
          go_wp2_with fail
          refine (UA _ _ _ _).mono ?_
          rintro e w2' ⟨rfl, rfl⟩
          rw [T0.out]
          go_wp2_with fail
          refine (UA _ _ _ _).mono ?_
          rintro e w2' ⟨rfl, rfl⟩
          rw [T1.out]
          go_wp2
          go_ret
          exact ⟨rfl, hB'⟩
      · have hr : R = false := by rw [HR]; simp [t0]
        clear HR
        subst hr
        have T0 := Lib.hid t0
        clear t0
        go_enter Tryz.func50, Tryz.ntmps50
        go_wp2_with fail
        refine (CS _ (H.out.1.below hB0) (H.out.2.below hB0)).mono ?_
        rintro e w1 ⟨rfl, hB1⟩
        obtain ⟨b0, b1, hB, hs⟩ := XE hB1
        go_wp2_with (first | (refine WE ?_ 45 _ rfl (w.heap.size + 1) ?_ 45 (HD.cells (h)) ?_ dA UH ?_; rfl; rfl; exact b1; go_frame) | fail)
        refine (CH _).mono ?_
        rintro e w2 ⟨rfl, hB2⟩
        have b0' := Blk.below (e := 41) (cs := [Value.slice a1 l.length k1, Value.slice a2 c.length k2]) b0 hB2 (by omega)
        have b1' := Blk.below (e := 45) (cs := h.cells) b1 hB2 (by omega)
        obtain ⟨q0, q1, qf⟩ := SE b0'
        have y0 : w2.cell? ⟨w.heap.size + 1, 0, none⟩ = some (.int .i64 h.at_) := b1'.cell 0
        have hB' := hB.trans (hB2.mono hB.size)
        clear b0 b1 hB1 hB2 hB
        go_wp2_with fail
        refine (UA _ _ _ _).mono ?_
        rintro e w2' ⟨rfl, rfl⟩
        rw [T0.out]
        go_wp2
        go_ret
        exact ⟨rfl, hB'⟩
end Go.Proofs.YtfjafncipjdnfaaGreat
