import Derived.Test.YtfjafncipjdnfaaGreatTreeImpl
import Derived.Deep.AppendLies
import Derived.Test.YtfjafncipjdnfaaGreatRowInt
namespace Go.Proofs.YtfjafncipjdnfaaGreat
open Go.ChangeShapes Go.WideShapes Go.ChangeAt Go.RowKit
set_option linter.unusedVariables false
set_option linter.unusedSimpArgs false
def TH (i : Nat) : Value := iJ (i : Int)
theorem kO : (Tryz.prog.info? 2).map (fun i => (i.zero, i.size, i.bytes)) = some (some (iJ 0), 1, 8) := by kernel_rfl
def WalkS (B : Nat) (ov : Value) (res : List Nat × Bool) (w : World) (e : Ending) (w' : World) : Prop :=
  ∃ oa oc, e = .returned (.tuple #[.slice oa res.1.length oc, .bool res.2]) ∧ w'.ownsRow B 2 1 (.slice oa res.1.length oc) res.1.length (res.1.map TH) ∧ w.grownBy w' ov.ownBlock ∧
    ∀ g, (Value.slice oa res.1.length oc).ownBlock = some g → ov.ownBlock = some g ∨ w.heap.size ≤ g
theorem XN (l : List ND) (f : Nat) (lo hi : Int) (out : List Nat) : sw l (f + 1) 0 lo hi out = (out, true) := by simp [sw]
theorem GO {l : List ND} {p : Nat} {m : ND} (h0 : p ≠ 0) (hm : l[p]? = some m) {f : Nat} {lo hi : Int} {out : List Nat} (hb : (m.g || decide (m.k ≤ lo) || decide (hi ≤ m.k) || decide (30 ≤ out.length)) = true) : sw l (f + 1) p lo hi out = (out, false) := by
  simp only [sw, h0, if_false, hm, hb, if_true]
theorem sw_go {l : List ND} {p a b : Nat} {m : ND} (h0 : p ≠ 0) (hm : l[p]? = some m) (ha : m.l = (a : Int)) (hb' : m.r = (b : Int)) {f : Nat} {lo hi : Int} {out : List Nat} (hb : (m.g || decide (m.k ≤ lo) || decide (hi ≤ m.k) || decide (30 ≤ out.length)) = false) :
    sw l (f + 1) p lo hi out = if (sw l f a lo m.k out).2 then sw l f b m.k hi ((sw l f a lo m.k out).1 ++ [p]) else sw l f a lo m.k out := by
  simp only [sw, h0, if_false, hm, hb, Bool.false_eq_true, ha, hb', Int.toNat_natCast]
theorem WalkS.same {B : Nat} {oa : Option Addr} {oc : Nat} {out : List Nat} {w w' : World} {r : Bool} {res : List Nat × Bool} (hr : res = (out, r)) (h : w.ownsRow B 2 1 (.slice oa out.length oc) out.length (out.map TH)) (hB : B ≤ w.heap.size) (hg : w.grownBy w' none) :
    WalkS B (.slice oa out.length oc) res w (.returned (.tuple #[.slice oa out.length oc, .bool r])) w' := by
  subst hr
  refine ⟨oa, oc, rfl, ?_, ⟨hg.os, hg.tape, hg.output, hg.size, fun k hk _ => hg.block k hk (by simp)⟩, fun g hg' => .inl hg'⟩
  exact h.kept hg (Classical.em _)
set_option maxRecDepth 100000 in
set_option maxHeartbeats 4000000 in
theorem CM (b off cap B : Nat) (l : List ND) (hL : KE l) : ∀ (f p : Nat) (lo hi : Int) (out : List Nat) (oa : Option Addr) (oc : Nat) (w : World), many l lo hi < f → p < l.length → -1 ≤ lo → hi ≤ 100 →
    NAt B w b off l → B ≤ w.heap.size → w.ownsRow B 2 1 (.slice oa out.length oc) out.length (out.map TH) → out.length ≤ 60 →
    Calls Tryz.prog 87 #[.slice (some ⟨b, off, none⟩) l.length cap, iJ (p : Int), iJ lo, iJ hi, .slice oa out.length oc] w (WalkS B (.slice oa out.length oc) (sw l f p lo hi out) w) := by
  intro f
  induction f with
  | zero => intro p lo hi out oa oc w hf; omega
  | succ f ih =>
    intro p lo hi out oa oc w hf hp hlo hhi hN hB hown hout
    by_cases h0 : p = 0
    · subst h0
      have R := Lib.hid (WalkS.same (w' := w) (XN l f lo hi out) hown hB ⟨rfl, rfl, rfl, Nat.le_refl _, fun _ _ _ => rfl⟩)
      clear ih hown hN
      go_enter Tryz.func87, Tryz.ntmps87
      go_wp2
      go_ret2
      exact R.out
    obtain ⟨m, hm⟩ : ∃ m, l[p]? = some m := ⟨_, List.getElem?_eq_getElem hp⟩
    obtain ⟨a, b', ha, hb', la, lb⟩ := hL.2.2.1 p m hm
    have A1 := hN.2 p m hm
    simp only [At8, ha, hb'] at A1
    have t0 : ((p : Int) == 0) = false := by simpa using h0
    have i0 : (0 : Int) ≤ (p : Int) := by omega
    have i1 : (p : Int) < (l.length : Int) := by omega
    rcases Bool.eq_false_or_eq_true (m.g || decide (m.k ≤ lo) || decide (hi ≤ m.k) || decide (30 ≤ out.length)) with hb | hb
    · have R := Lib.hid (fun o => WalkS.same (w' := w.alloc o) (GO (f := f) h0 hm hb) hown hB (World.grownBy_alloc w o none))
      have HB := Lib.hid hb
      clear ih hown hN hb
      rcases Bool.eq_false_or_eq_true m.g with g0 | g0
      · go_enter Tryz.func87, Tryz.ntmps87
        go_wp2
        go_ret2
        exact R.out _
      rcases Bool.eq_false_or_eq_true (decide (m.k ≤ lo)) with g1 | g1
      · go_enter Tryz.func87, Tryz.ntmps87
        go_wp2
        go_ret2
        exact R.out _
      rcases Bool.eq_false_or_eq_true (decide (hi ≤ m.k)) with g2 | g2
      · go_enter Tryz.func87, Tryz.ntmps87
        go_wp2
        go_ret2
        exact R.out _
      · have g3 : (30 : Int) ≤ (out.length : Int) := by
          have := HB.out
          rw [g0, g1, g2] at this
          have h30 : 30 ≤ out.length := by simpa using this
          omega
        go_enter Tryz.func87, Tryz.ntmps87
        go_wp2
        go_ret2
        exact R.out _
    · simp only [Bool.or_eq_false_iff] at hb
      have hgo := sw_go h0 hm ha hb' (f := f) (lo := lo) (hi := hi) (out := out) (by simp only [hb, Bool.or_self])
      obtain ⟨⟨⟨g0, g1⟩, g2⟩, g3⟩ := hb
      have e1 := of_decide_eq_false g1
      have e2 := of_decide_eq_false g2
      have e3 := of_decide_eq_false g3
      have g3' : decide ((30 : Int) ≤ (out.length : Int)) = false := decide_eq_false (by omega)
      have hmk := hL.2.2.2 p m (by omega) hm
      have m1 := TI hm (lo := lo) (hi := hi) (by omega) (by omega)
      have m2 := OH hm (lo := lo) (hi := hi) (by omega) (by omega)
      obtain ⟨w1, hw1⟩ : ∃ x, x = w.alloc (.cells #[iJ m.k, iJ m.v, iJ a, iJ b', iJ m.o, .bool false, iJ m.lt, iJ m.rt] 37) := ⟨_, rfl⟩
      have hz1 : w1.heap.size = w.heap.size + 1 := by rw [hw1]; simp
      have hq1 : Blk w1 w.heap.size 37 [iJ m.k, iJ m.v, iJ a, iJ b', iJ m.o, .bool false, iJ m.lt, iJ m.rt] := by rw [hw1]; exact World.alloc_heap_new w _
      have hg1 : w.grownBy w1 none := by rw [hw1]; exact World.grownBy_alloc w _ none
      have hb1 : Below B w w1 := (Below.refl _ _).grown hg1 hB (fun k e => by cases e)
      have hown1 : w1.ownsRow B 2 1 (.slice oa out.length oc) out.length (out.map TH) := hown.kept hg1 (Classical.em _)
      have hoq : (Value.slice oa out.length oc).ownBlock ≠ some w.heap.size := by
        intro e
        rcases hown.2 with ⟨h, -⟩ | ⟨g, cap', cur, hv, -, hg, -⟩
        · rw [h] at e; cases e
        · rw [hv] at e
          obtain rfl : g = w.heap.size := by simpa [Value.ownBlock] using e
          have := (Array.getElem?_eq_some_iff.1 hg).1
          omega
      have c1 := ih a lo m.k out oa oc w1 (by omega) la hlo (by omega) (hN.below hb1) (by omega) hown1 hout
      have K := Lib.hid (And.intro hgo (And.intro hq1 (And.intro hg1 (And.intro hb1 (And.intro hoq hN)))))
      have HI := Lib.hid ih
      clear hgo hq1 hg1 hb1 hoq hN ih hown1 e1 e2 e3 g3 hm ha hb'
      have HO := Lib.hid hown
      clear hown
      have HW1 := Lib.hid hw1
      clear hw1
      go_enter Tryz.func87, Tryz.ntmps87
      go_wp2_with fail
      rw [← HW1.out]
      refine c1.mono ?_
      clear c1
      rintro e w2 ⟨oa2, oc2, rfl, hown2, hg2, hbk2⟩
      rcases Bool.eq_false_or_eq_true (sw l f a lo m.k out).2 with hr | hr
      · obtain ⟨hgo, hq1, hg1, hb1, hoq, hN⟩ := K.out
        have hq2 : Blk w2 w.heap.size 37 [iJ m.k, iJ m.v, iJ a, iJ b', iJ m.o, .bool false, iJ m.lt, iJ m.rt] := (hg2.block _ (by omega) (Ne.symm hoq)).trans hq1
        have s3 : w2.cell? ⟨w.heap.size, 3, none⟩ = some (iJ b') := by rw [hq2.cell]; rfl
        have s0 : w2.cell? ⟨w.heap.size, 0, none⟩ = some (iJ m.k) := by rw [hq2.cell]; rfl
        have hlt2 := hq2.lt
        have hlen : (sw l f a lo m.k out).1.length ≤ 60 - 1 := by
          obtain ⟨xs, hh, t, e⟩ := qH hL hr
          have := t.len hL.1
          rw [e, List.length_append]
          have h9 := of_decide_eq_false g3'
          omega
        obtain ⟨i0, hi0, hz0, hz1', hz2⟩ := info_parts kO
        obtain ⟨o2, ho2⟩ : ∃ o2, o2 = (sw l f a lo m.k out).1 := ⟨_, rfl⟩
        have hrow : (Value.slice oa2 o2.length oc2).ownBlock ≠ some w.heap.size := by
          intro e
          rw [ho2] at e
          rcases hbk2 _ e with h | h
          · exact hoq h
          · omega
        rw [← ho2] at hown2 hlen ⊢
        rw [hr]
        have hrb : ∀ k, (Value.slice oa2 o2.length oc2).ownBlock = some k → B ≤ k := by
          intro k e
          rcases hown2.2 with ⟨h, -⟩ | ⟨g, cap', cur, hv, hg, -⟩
          · rw [h] at e; cases e
          · rw [hv] at e
            obtain rfl : g = k := by simpa [Value.ownBlock] using e
            exact hg
        have hbB : Below B w w2 := hb1.trans ((Below.refl _ _).grown hg2 (by omega) (fun k e => by
          rcases HO.out.2 with ⟨h, -⟩ | ⟨g, cap', cur, hv, hg, -⟩
          · rw [h] at e; cases e
          · rw [hv] at e
            obtain rfl : g = k := by simpa [Value.ownBlock] using e
            exact hg))
        have hz2s := hg2.size
        have C2 := Lib.hid (show ∀ gg cap4 w4, w4.ownsRow B 2 1 (.slice (some ⟨gg, 0, none⟩) (o2.length + 1) cap4) (o2.length + 1) (o2.map TH ++ [iJ (p : Int)]) → Below B w2 w4 →
            Calls Tryz.prog 87 #[.slice (some ⟨b, off, none⟩) l.length cap, iJ (b' : Int), iJ m.k, iJ hi, .slice (some ⟨gg, 0, none⟩) (o2.length + 1) cap4] w4 (WalkS B (.slice (some ⟨gg, 0, none⟩) (o2.length + 1) cap4) (sw l f b' m.k hi (o2 ++ [p])) w4) from fun gg cap4 w4 h4 hb4 => by
          have h5 := HI.out b' m.k hi (o2 ++ [p]) (some ⟨gg, 0, none⟩) cap4 w4 (by omega) lb (by omega) hhi (hN.below (hbB.trans hb4)) (by have := hb4.size; omega)
          rw [List.length_append, List.length_singleton, List.map_append, List.map_singleton] at h5
          exact h5 h4 (by omega))
        have K2 := Lib.hid (And.intro hgo (And.intro hg1 (And.intro hb1 (And.intro hoq (And.intro hN (And.intro hg2 (And.intro hbk2 (And.intro hr ho2))))))))
        clear hgo hq1 hg1 hb1 hoq hN hg2 hbk2 hr ho2 hq2 K hbB
        have H2 := Lib.hid hown2
        clear hown2
        go_wp2_with fail
        go_region_held3 (fun w' => w'.cell? ⟨w.heap.size, 3, none⟩ = some (iJ b') ∧ w'.cell? ⟨w.heap.size, 0, none⟩ = some (iJ m.k))
          (first
            | go_keep
            | (go_split_ands
               refine ⟨?_, ?_⟩
               · (rw [hgrow.cell_far _ (by simp; omega) (Ne.symm hrow)]; assumption)
               · (rw [hgrow.cell_far _ (by simp; omega) (Ne.symm hrow)]; assumption))
            | (go_split_ands
               refine ⟨?_, ?_⟩
               · (rw [hg5.cell_far _ (by simp; omega) (by simpa [Value.ownBlock] using hgq)]; assumption)
               · (rw [hg5.cell_far _ (by simp; omega) (by simpa [Value.ownBlock] using hgq)]; assumption)))
          (first
            | (refine step_append_lies _ (by rfl) _ _ _ (by rfl) B 2 i0 _ 1 8 pB hi0 hz0 hz1' hz2 rfl (by omega) (.slice oa2 o2.length oc2) o2.length (o2.map TH) (by rfl) ((H2.out.alloc _).drew) ⟨w2.heap.size, 0, none⟩ 1 1 [iJ (p : Int)] (by rfl) (by rfl) (World.news_of_block (cs := #[iJ (p : Int)]) (t := 2) (fr := (0, 0)) (heap_alloc_new w2 _)) (by simp [Value.oneCell']) (by omega) (by simp [maxLen]; omega) (by omega) (by simp; omega) (w2.heap.size + 1) (by simp) ?_; intro gg cap4 w4 hown4 hgrow hat hlt; have hgq : w.heap.size ≠ gg := fun e => hat.elim (fun h => hrow (e ▸ h)) (fun h => by omega); have hs4 := hgrow.size; simp at hs4)
            | (go_at_call 87; refine (C2.out _ _ _ hown4 (Below.grown (by repeat (first | exact Below.refl _ _ | refine Below.drew ?_ | refine Below.alloc ?_ (by first | omega | (simp; omega)) _)) hgrow (by simp; omega) hrb)).mono ?_; rintro e w5 ⟨oa5, oc5, rfl, hown5, hg5, hbk5⟩))
        obtain ⟨hgo, hg1, hb1, hoq, hN, hg2, hbk2, hr, ho2⟩ := K2.out
        have R : WalkS B (.slice oa out.length oc) (sw l (f + 1) p lo hi out) w (.returned (.tuple #[.slice oa5 (sw l f b' m.k hi (o2 ++ [p])).1.length oc5, .bool (sw l f b' m.k hi (o2 ++ [p])).2])) w5 := by
          rw [hgo, hr, if_pos rfl, ← ho2]
          rw [← ho2] at hbk2
          have hs5 := hg5.size
          have notOld : ∀ k, k < w.heap.size → some k ≠ (Value.slice oa out.length oc).ownBlock → some k ≠ (Value.slice oa2 o2.length oc2).ownBlock := fun k hk hs e => by
            rcases hbk2 k e.symm with h | h
            · exact hs h.symm
            · omega
          refine ⟨oa5, oc5, rfl, hown5, ⟨hg5.os.trans (hgrow.os.trans (hg2.os.trans hg1.os)), hg5.tape.trans (hgrow.tape.trans (hg2.tape.trans hg1.tape)), hg5.output.trans (hgrow.output.trans (hg2.output.trans hg1.output)), by omega, fun k hk hs => ?_⟩, fun g hg => ?_⟩
          · have hk2 := notOld k hk hs
            have hkg : some k ≠ (Value.slice (some ⟨gg, 0, none⟩) (o2.length + 1) cap4).ownBlock := fun e => by
              have e' : k = gg := by simpa [Value.ownBlock] using e
              rcases hat with h | h
              · exact hk2 (by rw [h, e'])
              · omega
            have h6 : (w2.alloc (.cells #[iJ (p : Int)] 2)).heap[k]? = w2.heap[k]? := Below.heap_alloc _ _ _ (by omega)
            exact (hg5.block k (by omega) hkg).trans ((hgrow.block k (by simp; omega) hk2).trans (h6.trans ((hg2.block k (by omega) hs).trans (hg1.block k hk (by simp)))))
          · rcases hbk5 g hg with h | h
            · have e' : gg = g := by simpa [Value.ownBlock] using h
              subst e'
              rcases hat with h | h
              · rcases hbk2 _ h with h | h
                · exact .inl h
                · exact .inr (by omega)
              · exact .inr (by omega)
            · exact .inr (by omega)
        have HR := Lib.hid R
        clear R hgo hg1 hb1 hoq hN hg2 hbk2 hr ho2 hgrow hown4 hown5 hg5 hbk5 hat
        go_wp2_with fail
        go_ret2
        exact HR.out
      · have R : WalkS B (.slice oa out.length oc) (sw l (f + 1) p lo hi out) w (.returned (.tuple #[.slice oa2 (sw l f a lo m.k out).1.length oc2, .bool false])) w2 := by
          obtain ⟨hgo, hq1, hg1, hb1, hoq, hN⟩ := K.out
          rw [hgo, hr, if_neg (by simp)]
          refine ⟨oa2, oc2, by rw [hr], hown2, ⟨hg2.os.trans hg1.os, hg2.tape.trans hg1.tape, hg2.output.trans hg1.output, by have := hg2.size; omega, fun k hk hs => (hg2.block k (by omega) hs).trans (hg1.block k hk (by simp))⟩, fun g hg => ?_⟩
          rcases hbk2 g hg with h | h
          · exact .inl h
          · exact .inr (by omega)
        have HR := Lib.hid R
        clear R hown2 hg2 hbk2
        go_wp2_with fail
        go_ret2
        exact HR.out
def iG (l : List ND) : List Nat × Bool := if PA l then lG l else ([], false)
theorem UJ (l : List ND) : (iG l).2 = yB l := by
  unfold iG yB
  cases PA l <;> simp
def RM (l : List ND) (w : World) (e : Ending) (w' : World) : Prop :=
  ∃ oa oc, e = .returned (.tuple #[.slice oa (iG l).1.length oc, .bool (iG l).2]) ∧ w'.ownsRow w.heap.size 2 1 (.slice oa (iG l).1.length oc) (iG l).1.length ((iG l).1.map TH) ∧ Below w.heap.size w w'
set_option maxRecDepth 100000 in
set_option maxHeartbeats 4000000 in
theorem DM (v : Value) (l : List ND) (w : World) (h : NSl w v l) (hl : l.length ≤ 1048576) (hn : PA l = false) : Calls Tryz.prog 43 #[v] w (RM l w) := by
  have ha : iG l = ([], false) := by simp [iG, hn]
  have hN := CD v l w h hl
  obtain ⟨a, cap, rfl, _⟩ := h
  go_enter Tryz.func43, Tryz.ntmps43
  go_wp2_with fail
  refine hN.mono ?_
  rintro e w1 ⟨rfl, hb⟩
  rw [hn]
  have HB := Lib.hid hb
  clear hb hN
  go_wp2
  go_ret2
  rw [RM, ha]
  exact ⟨_, _, rfl, wF _ _ HB.out, HB.out.alloc HB.out.size _⟩
set_option maxRecDepth 100000 in
set_option maxHeartbeats 4000000 in
theorem uN (v : Value) (n : ND) (l : List ND) (w : World) (h : NSl w v l) (hr0 : l[0]? = some n) (hn : PA l = true) : Calls Tryz.prog 43 #[v] w (RM l w) := by
  obtain ⟨hL, hr, hrt, _⟩ := BE hr0 hn
  have ha : iG l = lG l := by simp [iG, hn]
  have hN := CD v l w h (by have := hL.1; omega)
  obtain ⟨b, off, cap, rfl, k1, m1, s1, H1⟩ := h.at (by intro e; rw [e] at hr0; simp at hr0)
  go_enter Tryz.func43, Tryz.ntmps43
  go_wp2_with fail
  refine hN.mono ?_
  rintro e w1 ⟨rfl, hb⟩
  rw [hn]
  have A1 := (H1 0 n hr0).below hb s1
  rw [Nat.zero_mul, Nat.add_zero] at A1
  simp only [At8, hr] at A1
  have i2 : (0 : Int) < (l.length : Int) := by have := hL.2.1; omega
  have HB := Lib.hid hb
  clear hb hN hr hr0
  go_wp2_with fail
  have hB0 := HB.out.size
  have hBa : Below w.heap.size w (w1.alloc (.cells #[] 2)) := HB.out.alloc hB0 _
  have C := CM b off cap w.heap.size l hL 31 (fD l) (-1) 100 [] (some ⟨w1.heap.size, 0, none⟩) 0 (w1.alloc (.cells #[] 2)) (by have := vH l (-1) 100; have := hL.1; omega) hrt (by omega) (by omega)
    (NAt.below ⟨s1, H1⟩ hBa) hBa.size (wF _ _ HB.out) (by simp)
  refine C.mono ?_
  rintro e w2 ⟨oa, oc, rfl, hown, hg, hbk⟩
  have R : RM l w (.returned (.tuple #[.slice oa (lG l).1.length oc, .bool (lG l).2])) w2 := by
    rw [RM, ha]
    exact ⟨oa, oc, rfl, hown, hBa.grown hg hBa.size (fun k e => by
      obtain rfl : w1.heap.size = k := by simpa [Value.ownBlock] using e
      exact hB0)⟩
  have HR := Lib.hid R
  clear R hown hg hbk hBa C
  rw [lG] at HR
  go_wp2_with fail
  go_ret2
  exact HR.out
theorem AF (v : Value) (l : List ND) (w : World) (h : NSl w v l) (hl : l.length ≤ 1048576) : Calls Tryz.prog 43 #[v] w (RM l w) := by
  rcases Bool.eq_false_or_eq_true (PA l) with hn | hn
  · cases l with
    | nil => simp [PA] at hn
    | cons n r => exact uN v n _ w h rfl hn
  · exact DM v l w h hl hn
set_option maxHeartbeats 1000000 in
theorem XG (v : Value) (l : List ND) (w : World) (h : NSl w v l) (hl : l.length ≤ 1048576) : Calls Tryz.prog 12 #[v] w (cM l w) := by
  have C := AF v l w h hl
  obtain ⟨a, cap, rfl, _⟩ := h
  go_enter Tryz.func12, Tryz.ntmps12
  go_wp2_with fail
  refine C.mono ?_
  rintro e w1 ⟨oa, oc, rfl, hown, hb⟩
  have HB := Lib.hid hb
  clear C hown hb
  go_wp2_with fail
  go_ret
  exact ⟨by rw [UJ]; rfl, HB.out⟩
end Go.Proofs.YtfjafncipjdnfaaGreat
