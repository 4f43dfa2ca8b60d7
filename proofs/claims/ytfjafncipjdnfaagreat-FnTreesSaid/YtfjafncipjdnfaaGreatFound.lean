import Derived.Test.YtfjafncipjdnfaaGreatTreeSpec2
import Derived.Sort.AtCall
namespace Go.Proofs.YtfjafncipjdnfaaGreat
open Go.ChangeShapes Go.WideShapes Go.ChangeAt Go.RowKit Go.Shelf
attribute [local go_sem] Oper.semAt_some
set_option linter.unusedVariables false
set_option linter.unusedSimpArgs false
set_option maxHeartbeats 1000000 in
theorem vN (a b : Int) (w : World) : Calls Tryz.prog 89 #[iJ a, iJ b] w fun e w' => e = .returned (iJ (max a b)) ∧ Below w.heap.size w w' := by
  by_cases h : a > b
  · have hm : max a b = a := by omega
    have HM := Lib.hid hm
    clear hm
    go_enter Tryz.func89, Tryz.ntmps89
    go_wp2
    go_ret
    exact ⟨by rw [HM.out]; rfl, Below.refl _ _⟩
  · have hm : max a b = b := by omega
    have HM := Lib.hid hm
    clear hm
    go_enter Tryz.func89, Tryz.ntmps89
    go_wp2
    go_ret
    exact ⟨by rw [HM.out]; rfl, Below.refl _ _⟩
theorem ZK {n : Int} (h0 : 0 ≤ n) (h1 : n ≤ 1000000) : IntKind.i64.wrap n = n := by
  simp [IntKind.wrap, IntKind.signed, IntKind.bits]
  omega
theorem JD {w w' : World} {b o : Nat} {x y : Value} {o2 : Nat} (hb : b < w.heap.size) (h1 : w.cell? ⟨b, o, none⟩ = some x) (h2 : w.cell? ⟨b, o2, none⟩ = some y) (h : Below w.heap.size w w') : Below w.heap.size w w' ∧ w'.cell? ⟨b, o, none⟩ = some x ∧ w'.cell? ⟨b, o2, none⟩ = some y :=
  ⟨h, (h.cell (p := ⟨b, o, none⟩) hb).trans h1, (h.cell (p := ⟨b, o2, none⟩) hb).trans h2⟩
set_option maxRecDepth 100000 in
set_option maxHeartbeats 4000000 in
theorem tL (b off cap n₀ : Nat) (l : List ND) (hL : KE l) {p : Nat} {lo hi : Int} {xs : List Nat} {h : Nat} (t : IsT l p lo hi xs h) : ∀ (w : World), h ≤ 100 → NAt n₀ w b off l → n₀ ≤ w.heap.size →
    Calls Tryz.prog 46 #[.slice (some ⟨b, off, none⟩) l.length cap, iJ (p : Int)] w fun e w' => e = .returned (iJ (h : Int)) ∧ Below w.heap.size w w' := by
  induction t with
  | nil lo hi =>
    intro w _ hN _
    clear hN
    go_enter Tryz.func46, Tryz.ntmps46
    go_wp2
    go_ret
    exact ⟨rfl, Below.refl _ _⟩
  | node p lo hi n a c xs ys h1 h2 h0 hn hg hl hh ha hc t1 t2 ih1 ih2 =>
    intro w hm hN hw
    have A1 := hN.2 p n hn
    have hbw : b < w.heap.size := Nat.lt_of_lt_of_le hN.1 hw
    have hp : p < l.length := (List.getElem?_eq_some_iff.1 hn).1
    simp only [At8, ha, hc] at A1
    obtain ⟨-, -, A2, A3, -⟩ := A1
    have t0 : ((p : Int) == 0) = false := by simpa using h0
    have i0 : (0 : Int) ≤ (p : Int) := by omega
    have i1 : (p : Int) < (l.length : Int) := by omega
    have C1 := Lib.hid (fun w' (hb : Below w.heap.size w w') => ih1 w' (by omega) (hN.below (hb.mono hw)) (Nat.le_trans hw hb.size))
    have C2 := Lib.hid (fun w' (hb : Below w.heap.size w w') => ih2 w' (by omega) (hN.below (hb.mono hw)) (Nat.le_trans hw hb.size))
    have D : ((1 : Int) + max (h1 : Int) (h2 : Int)) = ((1 + max h1 h2 : Nat) : Int) := by omega
    have HD := Lib.hid D
    have hm1 : (0 : Int) ≤ max (h1 : Int) (h2 : Int) ∧ max (h1 : Int) (h2 : Int) ≤ 100 := by omega
    clear ih1 ih2 D hN hn ha hc hl hh hg
    go_enter Tryz.func46, Tryz.ntmps46
    go_wp2_with fail
    go_region_held3 (fun w' => Below w.heap.size w w' ∧ w'.cell? ⟨b, off + p * 8 + 2, none⟩ = some (iJ a) ∧ w'.cell? ⟨b, off + p * 8 + 3, none⟩ = some (iJ c))
      (first
        | exact JD hbw A2 A3 (Below.refl _ _).drew
        | exact JD hbw A2 A3 ((Below.refl _ _).drew.trans (Below.mono hb1 (Nat.le_refl _)))
        | exact JD hbw A2 A3 ((Below.refl _ _).drew.trans (Below.mono hb2 (Nat.le_refl _)))
        | exact JD hbw A2 A3 (((Below.refl _ _).drew.trans (Below.mono hb1 (Nat.le_refl _))).trans (Below.mono hb2 hb1.size))
        | exact JD hbw A2 A3 (((Below.refl _ _).drew.trans (Below.mono hb2 (Nat.le_refl _))).trans (Below.mono hb1 hb2.size))
        | exact JD hbw A2 A3 ((((Below.refl _ _).drew.trans (Below.mono hb1 (Nat.le_refl _))).trans (Below.mono hb2 hb1.size)).trans (Below.mono hb3 (Nat.le_trans hb1.size hb2.size)))
        | exact JD hbw A2 A3 ((((Below.refl _ _).drew.trans (Below.mono hb2 (Nat.le_refl _))).trans (Below.mono hb1 hb2.size)).trans (Below.mono hb3 (Nat.le_trans hb2.size hb1.size))))
      (first
        | (go_at_call_has 46 a; refine (C1.out _ (by first | exact (Below.refl _ _).drew | exact ((Below.refl _ _).drew.trans (Below.mono hb2 (Nat.le_refl _))))).mono ?_; rintro e w1 ⟨rfl, hb1⟩)
        | (go_at_call_has 46 c; refine (C2.out _ (by first | exact (Below.refl _ _).drew | exact ((Below.refl _ _).drew.trans (Below.mono hb1 (Nat.le_refl _))))).mono ?_; rintro e w2 ⟨rfl, hb2⟩)
        | (go_at_call 89; refine (vN _ _ _).mono ?_; rintro e w3 ⟨rfl, hb3⟩))
    rename_i hH
    have hB := hH.1
    clear hH hb1 hb2 hb3 C1 C2
    go_wp2
    go_ret
    exact ⟨ret_i ((ZK (by omega) (by omega)).trans HD.out), hB⟩
def dM (l : List ND) (w : World) (e : Ending) (w' : World) : Prop := e = .returned (iJ (fC l)) ∧ Below w.heap.size w w'
theorem gI {l : List ND} (h : yB l = false) : fC l = -1 := by simp [fC, h]
theorem LF {l : List ND} (h : yB l = true) : ∃ n, l[0]? = some n ∧ PA l = true := by
  have hn : PA l = true := by simp only [yB, Bool.and_eq_true] at h; exact h.1
  cases l with
  | nil => simp [PA] at hn
  | cons n r => exact ⟨n, rfl, hn⟩
set_option maxHeartbeats 1000000 in
theorem FJ (v : Value) (l : List ND) (w : World) (h : NSl w v l) (hl : l.length ≤ 1048576) : Calls Tryz.prog 17 #[v] w (dM l w) := by
  have C := XG v l w h hl
  rcases Bool.eq_false_or_eq_true (yB l) with ht | ht
  · obtain ⟨n, hr0, hn⟩ := LF ht
    obtain ⟨hL, hr, hrt, _⟩ := BE hr0 hn
    obtain ⟨xs, hh, t, -, -, hh30⟩ := BD ht
    have hd : fC l = (hh : Int) := by rw [fC, ht, if_pos rfl, IsT.hF t (by omega)]
    obtain ⟨b, off, cap, rfl, k1, m1, s1, H1⟩ := h.at (by intro e; rw [e] at hr0; simp at hr0)
    go_enter Tryz.func17, Tryz.ntmps17
    go_wp2_with fail
    refine C.mono ?_
    rintro e w1 ⟨rfl, hb⟩
    rw [ht]
    have A1 := (H1 0 n hr0).below hb s1
    rw [Nat.zero_mul, Nat.add_zero] at A1
    simp only [At8, hr] at A1
    have i2 : (0 : Int) < (l.length : Int) := by have := hL.2.1; omega
    have C2 := tL b off cap w.heap.size l hL t w1 (by omega) (NAt.below ⟨s1, H1⟩ hb) hb.size
    have HB := Lib.hid hb
    have HD := Lib.hid hd
    clear hb hr hr0 hd C
    go_wp2_with fail
    refine C2.mono ?_
    rintro e w2 ⟨rfl, hb2⟩
    go_wp2
    go_ret
    exact ⟨by rw [HD.out]; rfl, HB.out.trans (hb2.mono HB.out.size)⟩
  · have hd := Lib.hid (gI ht)
    obtain ⟨a, cap, rfl, _⟩ := h
    go_enter Tryz.func17, Tryz.ntmps17
    go_wp2_with fail
    refine C.mono ?_
    rintro e w1 ⟨rfl, hb⟩
    rw [ht]
    have HB := Lib.hid hb
    clear hb C
    go_wp2
    go_ret
    exact ⟨by rw [hd.out]; rfl, HB.out⟩
set_option maxRecDepth 100000 in
set_option maxHeartbeats 4000000 in
theorem bI (v : Value) (l : List ND) (w : World) (h : NSl w v l) (hl : l.length ≤ 1048576) (ht : yB l = false) : Calls Tryz.prog 10 #[v] w (dM l w) := by
  have C := kD v l w h hl
  have hd := Lib.hid (gI ht)
  obtain ⟨a, cap, rfl, _⟩ := h
  go_enter Tryz.func10, Tryz.ntmps10
  go_wp2_with fail
  refine C.mono ?_
  rintro e w1 ⟨rfl, hb⟩
  rw [ht]
  have HB := Lib.hid hb
  clear hb C
  go_wp2
  go_ret
  exact ⟨by rw [hd.out]; rfl, HB.out⟩
set_option maxRecDepth 100000 in
set_option maxHeartbeats 4000000 in
theorem II (v : Value) (l : List ND) (w : World) (h : NSl w v l) (ht : yB l = true) : Calls Tryz.prog 10 #[v] w (dM l w) := by
  obtain ⟨n, hr0, hn⟩ := LF ht
  obtain ⟨hL, hr, hrt, c', gs, wk, hup⟩ := BE hr0 hn
  obtain ⟨xs, hh, t, -, -, hh30⟩ := BD ht
  have C := kD v l w h (by have := hL.1; omega)
  have hd : fC l = (((gs.map Prod.snd).foldl max 0 : Nat) : Int) := by
    have h1 := (t.walk wk (Nat.le_refl _) (fun x hx h => by cases h)).2 0
    rw [fC, ht, if_pos rfl, IsT.hF t (by omega)]
    omega
  obtain ⟨b, off, cap, rfl, k1, m1, s1, H1⟩ := h.at (by intro e; rw [e] at hr0; simp at hr0)
  refine (callsIn_wide (n := 0)).1 ?_
  refine callsIn_of_wp_marks Tryz.func10 rfl trivial ?_ rfl
  simp only [Tryz.ntmps10, List.size_toArray, List.length_cons, List.length_nil, Nat.reduceAdd, Nat.reduceSub, Array.replicate_succ, Array.replicate_zero, List.push_toArray, List.append_toArray, List.nil_append, List.cons_append]
  gi_wp2_with fail
  refine ⟨trivial, rfl, ?_⟩
  refine (callsIn_wide.2 C).mono ?_
  rintro e W1 ⟨rfl, hb1⟩
  rw [ht]
  have H0 := Lib.hid (And.intro H1 (And.intro hd (And.intro hr (And.intro hb1 hup))))
  clear hb1 hup H1 hr hd C
  gi_wp2_with fail
  refine ⟨trivial, rfl, ?_⟩
  refine (callsIn_wide.2 (GG _ _ _ _)).mono ?_
  rintro e W2 ⟨rfl, hW2⟩
  have HW2 := Lib.hid hW2
  clear hW2
  gi_wp2_with fail
  obtain ⟨H1, hd, hr, hb1, hup⟩ := H0.out
  have hW2 := HW2.out
  obtain ⟨z, hz⟩ : ∃ z, z = W1.heap.size := ⟨_, rfl⟩
  have hzw : w.heap.size ≤ z := by rw [hz]; exact hb1.size
  have hs2 : W2.heap.size = z + 2 := by rw [hW2, hz]; simp
  have hb12 : Below W1.heap.size W1 W2 := by rw [hW2]; exact ((Below.refl _ _).alloc (Nat.le_refl _) _).alloc (by simp) _
  have hla : Blk W2 z 2 [iJ 0] := by
    rw [hW2, hz]
    exact (Below.heap_alloc _ _ _ (by simp)).trans (World.alloc_heap_new W1 _)
  have hbx : Blk W2 (z + 1) 24 [.slice (some ⟨b, off, none⟩) l.length cap] := by
    have := World.alloc_heap_new (W1.alloc (.cells #[iJ 0] 2)) (.cells #[.slice (some ⟨b, off, none⟩) l.length cap] 24)
    rw [World.size_alloc, ← hW2, ← hz] at this
    exact this
  have hb2 := hb1.trans (hb12.mono hb1.size)
  have hN0 : NAt w.heap.size w b off l := ⟨s1, H1⟩
  rw [← hz]
  clear H0 HW2 H1 hz hW2 hb12
  refine bG (S₀ := fun k => k = z) rfl rfl w.heap.size b off cap l hL (hN0.below hb2) (by rw [hbx.cell]; rfl) n (fD l) c' gs hr0 hr wk
    (fun pre S W => (∀ k, S k ↔ k = z) ∧ Blk W z 2 [iJ (((pre.map Prod.snd).foldl max 0 : Nat) : Int)] ∧ Below w.heap.size w W)
    (fun q W => False)
    ?hI ?hIs ?hIx
    ⟨fun k => Iff.rfl, hla, hb2⟩
    (fun x => { tmps := #[.slice (some ⟨b, off, none⟩) l.length cap, uD, iJ 0, .pointer (some ⟨z, 0, none⟩), uD, iJ x.2,
      .slice (some ⟨b, off, none⟩) l.length cap, .bool true, .bool false, .slice (some ⟨b, off, none⟩) l.length cap, .func (.func 81) #[] #[.pointer (some ⟨z + 1, 0, none⟩)], iJ x.1, iJ x.2,
      uD, uD, uD, uD], defers := [] }) ?assign ?body ?done ?stop
  case hI =>
    rintro pre S W W' ⟨hS, h1, h4⟩ hsep
    exact ⟨hS, (hsep.same _ h1.lt ((hS _).2 rfl)).trans h1, h4.trans hsep.below⟩
  case hIs =>
    rintro pre S W ⟨hS, h1, h4⟩
    refine ⟨h4.size, fun k hk => ?_⟩
    obtain rfl := (hS k).1 hk
    exact h1.lt
  case hIx =>
    rintro q W o h
    exact h
  case assign =>
    intro l' x W K hK
    dsimp only [LK]
    gi_wp2
    exact hK
  case body =>
    rintro l' pre S x W ⟨hS, h1, h4⟩ hx1 hx2 _
    obtain ⟨d0, hd0⟩ : ∃ d0, d0 = (pre.map Prod.snd).foldl max 0 := ⟨_, rfl⟩
    rw [← hd0] at h1
    have c2 : W.cell? ⟨z, 0, none⟩ = some (iJ d0) := by rw [h1.cell]; rfl
    have c3 : W.frozen? ⟨z, 0, none⟩ = false := h1.free _
    have Nor := Lib.hid (show ∃ S', ((∀ k, S' k ↔ k = z) ∧ Blk (W.setCell ⟨z, 0, none⟩ (iJ ((max d0 x.2 : Nat) : Int))) z 2 [iJ ((((pre ++ [x]).map Prod.snd).foldl max 0 : Nat) : Int)] ∧ Below w.heap.size w (W.setCell ⟨z, 0, none⟩ (iJ ((max d0 x.2 : Nat) : Int)))) ∧ Mine w.heap.size S S' W (W.setCell ⟨z, 0, none⟩ (iJ ((max d0 x.2 : Nat) : Int))) from
      ⟨S, ⟨hS, by rw [List.map_append, List.map_singleton, List.foldl_append, ← hd0]; exact h1.set 0 _, h4.setCell (p := ⟨z, 0, none⟩) hzw _⟩,
        (Below.refl _ _).setCell (p := ⟨z, 0, none⟩) hzw _, fun k hk hs => Below.heap_setCell _ ⟨z, 0, none⟩ _ k (fun e => hs ((hS k).2 e)), fun k _ h => h⟩)
    clear hS h1 h4 hd0 hd hup hL hrt wk hr hr0 hla hbx hb2 hN0 hx1 t hb1
    gi_wp2_with fail
    all_goals
      first
        | (have q := Nor.out; rw [show max d0 x.2 = d0 by omega] at q; exact q)
        | (have q := Nor.out; rw [show max d0 x.2 = x.2 by omega] at q; exact q)
  case done =>
    rintro D S W hD ⟨hS, h1, h4⟩ hSD hK
    rw [← hd] at h1
    have c4 : W.cell? ⟨z, 0, none⟩ = some (iJ (fC l)) := by rw [h1.cell]; rfl
    have hE := Lib.hid (h4.grown (grownBy_putObj' _ D (.deferred none)) h4.size (fun j e => by cases e; omega))
    clear h1 h4 hS hSD hup hd
    gi_wp2
    refine ⟨by simp, .inl ⟨_, _, rfl, run_takeDeferred hK, ?_⟩⟩
    exact ⟨iJ (fC l), by simp [results, Tryz.f10, go_sem], rfl, hE.out⟩
  case stop =>
    rintro D q W hD hq h hK
    exact h.elim
theorem OJ (v : Value) (l : List ND) (w : World) (h : NSl w v l) (hl : l.length ≤ 1048576) : Calls Tryz.prog 10 #[v] w (dM l w) := by
  rcases Bool.eq_false_or_eq_true (yB l) with ht | ht
  · exact II v l w h ht
  · exact bI v l w h hl ht
def cJ (l : List ND) (key : Int) (w : World) (e : Ending) (w' : World) : Prop := e = .returned (iJ (RD l key)) ∧ Below w.heap.size w w'
theorem dI {l : List ND} {key : Int} (h : yB l = false) : RD l key = 0 := by simp [RD, h]
set_option maxRecDepth 100000 in
set_option maxHeartbeats 4000000 in
theorem ZH (v : Value) (l : List ND) (key : Int) (w : World) (h : NSl w v l) (hl : l.length ≤ 1048576) (ht : yB l = false) : Calls Tryz.prog 15 #[v, iJ key] w (cJ l key w) := by
  have C := kD v l w h hl
  have hd := Lib.hid (dI (key := key) ht)
  obtain ⟨a, cap, rfl, _⟩ := h
  go_enter Tryz.func15, Tryz.ntmps15
  go_wp2_with fail
  refine C.mono ?_
  rintro e w1 ⟨rfl, hb⟩
  rw [ht]
  have HB := Lib.hid hb
  clear hb C
  go_wp2
  go_ret
  exact ⟨by rw [hd.out]; rfl, HB.out⟩
def S1 (w : World) (b o : Nat) (n : ND) (w' : World) : Prop := b < w.heap.size ∧ Below w.heap.size w w' ∧ At8 w' b o n
theorem S1.drew {w : World} {b o : Nat} {n : ND} {w' : World} (h : S1 w b o n w') : S1 w b o n w'.drew := ⟨h.1, h.2.1.drew, h.2.2⟩
theorem S1.below {w : World} {b o : Nat} {n : ND} {w' w1 : World} (h : S1 w b o n w') (hb : Below w'.heap.size w' w1) : S1 w b o n w1 :=
  ⟨h.1, h.2.1.trans (hb.mono h.2.1.size), h.2.2.below hb (Nat.lt_of_lt_of_le h.1 h.2.1.size)⟩
theorem S1.out {w : World} {b o : Nat} {n : ND} {w' : World} (h : S1 w b o n w') {a c : Nat} (ha : n.l = (a : Int)) (hc : n.r = (c : Int)) : Below w.heap.size w w' ∧ w'.cell? ⟨b, o, none⟩ = some (iJ n.k) ∧ w'.cell? ⟨b, o + 1, none⟩ = some (iJ n.v) ∧ w'.cell? ⟨b, o + 2, none⟩ = some (iJ a) ∧ w'.cell? ⟨b, o + 3, none⟩ = some (iJ c) ∧ w'.cell? ⟨b, o + 4, none⟩ = some (iJ n.o) ∧ w'.cell? ⟨b, o + 5, none⟩ = some (.bool n.g) ∧ w'.cell? ⟨b, o + 6, none⟩ = some (iJ n.lt) ∧ w'.cell? ⟨b, o + 7, none⟩ = some (iJ n.rt) := by
  obtain ⟨_, hb, h1⟩ := h
  simp only [At8, ha, hc] at h1
  exact ⟨hb, h1⟩
set_option maxRecDepth 100000 in
set_option maxHeartbeats 4000000 in
theorem GI (v : Value) (l : List ND) (key : Int) (w : World) (h : NSl w v l) (ht : yB l = true) : Calls Tryz.prog 15 #[v, iJ key] w (cJ l key w) := by
  obtain ⟨n0, hr0, hn⟩ := LF ht
  obtain ⟨hL, hr, hrt, _⟩ := BE hr0 hn
  obtain ⟨xs, hh, t, htr, -, hh30⟩ := BD ht
  have C := kD v l w h (by have := hL.1; omega)
  have hf : RD l key = ((VB l key xs : Nat) : Int) := by rw [RD, ht, if_pos rfl, htr]
  obtain ⟨b, off, cap, rfl, k1, m1, s1, H1⟩ := h.at (by intro e; rw [e] at hr0; simp at hr0)
  go_enter Tryz.func15, Tryz.ntmps15
  go_wp2_with fail
  refine C.mono ?_
  rintro e w1 ⟨rfl, hb⟩
  rw [ht]
  have A1 := (H1 0 n0 hr0).below hb s1
  rw [Nat.zero_mul, Nat.add_zero] at A1
  simp only [At8, hr] at A1
  have i2 : (0 : Int) < (l.length : Int) := by have := hL.2.1; omega
  have HB := Lib.hid hb
  have HF := Lib.hid hf
  have HH := Lib.hid H1
  have HT := Lib.hid t
  clear hb hr hr0 hf C H1 t h
  go_wp2_with fail
  go_loopg [5] (hh + 1) (fun k i wr => ∃ (p : Nat) (lo hi : Int) (ys : List Nat) (h' : Nat), i = iJ (p : Int) ∧ Hid (IsT l p lo hi ys h') ∧ h' < k ∧ Hid (VB l key ys = VB l key xs) ∧ Below w.heap.size w wr)
  case atStart => exact ⟨fD l, -1, 100, xs, hh, rfl, HT, by omega, Lib.hid rfl, HB.out⟩
  case round =>
    clear A1 HB HT
    obtain ⟨p, lo, hi, ys, h', rfl, HI, hk, HE, hB⟩ := hrel
    by_cases h0 : p = 0
    · subst h0
      have hz : VB l key xs = 0 := by
        rw [← HE.out]
        have ti := HI.out
        cases ti with
        | nil lo hi => rfl
        | node _ _ _ _ _ _ _ _ _ _ h0 => exact absurd rfl h0
      have HZ := Lib.hid hz
      have HBB := Lib.hid hB
      clear hz hB
      go_wp2
      go_ret
      exact ⟨by rw [HF.out, HZ.out]; rfl, HBB.out⟩
    · obtain ⟨n, a, c, hm, ha, hc, f1, f2, f3⟩ := IsT.find_step (key := key) HI.out h0
      have hp : p < l.length := (List.getElem?_eq_some_iff.1 hm).1
      have A0 := (HH.out p n hm).below hB s1
      have HS : S1 wr b (off + p * 8) n wr := ⟨Nat.lt_of_lt_of_le s1 hB.size, Below.refl _ _, A0⟩
      have A1 := A0
      simp only [At8, ha, hc] at A1
      have t0 : ((p : Int) == 0) = false := by simpa using h0
      have i0 : (0 : Int) ≤ (p : Int) := by omega
      have i1 : (p : Int) < (l.length : Int) := by omega
      have HA := Lib.hid (And.intro ha hc)
      have F1 := Lib.hid f1
      have F2 := Lib.hid f2
      have F3 := Lib.hid f3
      have HBB := Lib.hid hB
      have hp0 : ((p : Int) != 0) = true := by simpa [bne] using h0
      clear A0 f1 f2 f3 hB hm ha hc
      by_cases hkey : n.k = key
      · have hv : VB l key xs = p := by rw [← HE.out]; exact F1.out hkey
        have HV := Lib.hid hv
        have q0 : (n.k != key) = false := by simp [hkey]
        have HK := Lib.hid hkey
        clear hv HS hkey
        go_wp2
        go_ret
        exact ⟨by rw [HF.out, HV.out]; rfl, HBB.out⟩
      · have q0 : (n.k != key) = true := by simp [bne, hkey]
        have HK := Lib.hid hkey
        have HSS := Lib.hid HS
        clear hkey HS
        have W0 := S1.out HSS.out HA.out.1 HA.out.2
        go_wp2_with fail
        go_region_held3 (fun w' => Below wr.heap.size wr w' ∧ w'.cell? ⟨b, off + p * 8, none⟩ = some (iJ n.k) ∧ w'.cell? ⟨b, off + p * 8 + 1, none⟩ = some (iJ n.v) ∧ w'.cell? ⟨b, off + p * 8 + 2, none⟩ = some (iJ a) ∧ w'.cell? ⟨b, off + p * 8 + 3, none⟩ = some (iJ c) ∧ w'.cell? ⟨b, off + p * 8 + 4, none⟩ = some (iJ n.o) ∧ w'.cell? ⟨b, off + p * 8 + 5, none⟩ = some (.bool n.g) ∧ w'.cell? ⟨b, off + p * 8 + 6, none⟩ = some (iJ n.lt) ∧ w'.cell? ⟨b, off + p * 8 + 7, none⟩ = some (iJ n.rt))
          (first
            | exact S1.out (S1.drew HSS.out) HA.out.1 HA.out.2
            | exact S1.out (S1.below (S1.drew HSS.out) hb1) HA.out.1 HA.out.2
            | exact S1.out (S1.below (S1.below (S1.drew HSS.out) hb1) hb2) HA.out.1 HA.out.2)
          (first
            | (go_at_call 45; refine (EK _ _ _ _ _ _ _ _ _ _).mono ?_; rintro e w1 ⟨rfl, hb1⟩)
            | (go_at_call 44; refine (uL _ _ _ _ _ _ _ _ _ _).mono ?_; rintro e w2 ⟨rfl, hb2⟩))
        rename_i hH
        have hB3 := Lib.hid hH.1
        clear hH hb1 hb2 W0
        have hnext : ∃ (p' : Nat) (lo' hi' : Int) (ys' : List Nat) (h'' : Nat), h'' < h' ∧ Hid (IsT l p' lo' hi' ys' h'') ∧ Hid (VB l key ys' = VB l key xs) ∧ Hid (XA (VA key n.k) (a : Int) (c : Int) = (p' : Int)) := by
          by_cases hlt : key < n.k
          · obtain ⟨lo', hi', ys', h'', q1, q2, q3⟩ := F2.out hlt
            exact ⟨a, lo', hi', ys', h'', q1, Lib.hid q2, Lib.hid (q3.symm.trans HE.out), Lib.hid (by simp [VA, XA, hlt])⟩
          · obtain ⟨lo', hi', ys', h'', q1, q2, q3⟩ := F3.out (by have := HK.out; omega)
            exact ⟨c, lo', hi', ys', h'', q1, Lib.hid q2, Lib.hid (q3.symm.trans HE.out), Lib.hid (by simp [VA, XA, hlt])⟩
        obtain ⟨p', lo', hi', ys', h'', q1, q2, q3, q4⟩ := hnext
        go_wp2
        go_roundg (h'' + 1)
        case measure => omega
        case rel => exact ⟨p', lo', hi', ys', h'', by rw [q4.out], q2, by omega, q3, HBB.out.trans (hB3.out.mono HBB.out.size)⟩
theorem xG (v : Value) (l : List ND) (key : Int) (hkey : nE key) (w : World) (h : NSl w v l) (hl : l.length ≤ 1048576) : Calls Tryz.prog 15 #[v, iJ key] w (cJ l key w) := by
  rcases Bool.eq_false_or_eq_true (yB l) with ht | ht
  · exact GI v l key w h ht
  · exact ZH v l key w h hl ht
theorem dN {w : World} {B n oc : Nat} {e : TypeId} {oa : Option Addr} {cs : List Value} (h : w.ownsRow B e 1 (.slice oa n oc) n cs) (hn : 0 < n) : ∃ g, oa = some ⟨g, 0, none⟩ ∧ B ≤ g ∧ g < w.heap.size ∧ ∀ j, j < n → w.cell? ⟨g, j, none⟩ = cs[j]? := by
  rcases h.2 with ⟨-, h0⟩ | ⟨g, cap, cur, hv, hb, hg, h1, h2, h3, h4⟩
  · omega
  · have hoa : oa = some ⟨g, 0, none⟩ := by cases hv; rfl
    refine ⟨g, hoa, hb, (Array.getElem?_eq_some_iff.1 hg).1, fun j hj => ?_⟩
    rw [← h4, cell_of_row w g j cur e (0, 0) hg]
    rw [List.getElem?_take_of_lt (by omega)]
    simp
set_option maxRecDepth 100000 in
set_option maxHeartbeats 4000000 in
theorem BH (v : Value) (l : List ND) (key : Int) (w : World) (h : NSl w v l) (hl : l.length ≤ 1048576) (ht : yB l = false) : Calls Tryz.prog 16 #[v, iJ key] w (cJ l key w) := by
  have C := AF v l w h hl
  have hd := Lib.hid (dI (key := key) ht)
  obtain ⟨a, cap, rfl, _⟩ := h
  go_enter Tryz.func16, Tryz.ntmps16
  go_wp2_with fail
  refine C.mono ?_
  rintro e w1 ⟨oa, oc, rfl, hown, hb⟩
  rw [UJ, ht]
  have HB := Lib.hid hb
  clear hb C hown
  go_wp2_with fail
  go_loopw [7] (fun i wr => i = iJ 0 ∧ Below w.heap.size w wr) (fun i _ => 0)
  case atStart => exact ⟨rfl, HB.out⟩
  case round =>
    obtain ⟨rfl, hB⟩ := hrel
    have HB2 := Lib.hid hB
    clear hB
    go_wp2
    all_goals
      go_ret
      exact ⟨by rw [hd.out]; rfl, HB2.out⟩
set_option maxRecDepth 100000 in
set_option maxHeartbeats 4000000 in
theorem vI (v : Value) (l : List ND) (key : Int) (w : World) (h : NSl w v l) (ht : yB l = true) : Calls Tryz.prog 16 #[v, iJ key] w (cJ l key w) := by
  obtain ⟨n0, hr0, hn⟩ := LF ht
  obtain ⟨hL, hr, hrt, _⟩ := BE hr0 hn
  obtain ⟨xs, hh, t, htr, hxs, hh30⟩ := BD ht
  have C := AF v l w h (by have := hL.1; omega)
  have hf : RD l key = ((VB l key xs : Nat) : Int) := by rw [RD, ht, if_pos rfl, htr]
  have hall : iG l = (xs, true) := by rw [iG, hn, if_pos rfl, htr]
  have hat : ∀ i p, xs[i]? = some p → ∃ m, l[p]? = some m := fun i p hp => by
    obtain ⟨m, hm, _⟩ := t.rise.mem p (List.mem_of_getElem? hp)
    exact ⟨m, hm⟩
  obtain ⟨b, off, cap, rfl, k1, m1, s1, H1⟩ := h.at (by intro e; rw [e] at hr0; simp at hr0)
  go_enter Tryz.func16, Tryz.ntmps16
  go_wp2_with fail
  refine C.mono ?_
  rintro e w1 ⟨oa, oc, rfl, hown, hb⟩
  rw [hall] at hown ⊢
  have HO := Lib.hid hown
  have HB := Lib.hid hb
  have HF := Lib.hid hf
  have HH := Lib.hid H1
  have HA := Lib.hid hat
  clear hb hr hr0 hf C H1 t h hown hall hat
  go_wp2_with fail
  go_loopw [7] (fun i wr => ∃ k : Nat, k ≤ xs.length ∧ i = iJ k ∧ Hid (VB l key (xs.drop k) = VB l key xs) ∧ Below w1.heap.size w1 wr) (fun i _ => xs.length - (intOf i).toNat)
  case atStart => exact ⟨0, Nat.zero_le _, rfl, Lib.hid rfl, Below.refl _ _⟩
  case round =>
    obtain ⟨k, hk, rfl, HE, hB⟩ := hrel
    by_cases hlt : k < xs.length
    · obtain ⟨p, hp⟩ : ∃ p, xs[k]? = some p := ⟨_, List.getElem?_eq_getElem hlt⟩
      obtain ⟨m, hm⟩ := HA.out k p hp
      obtain ⟨g, rfl, hg1, hg2, hg3⟩ := dN HO.out (show 0 < xs.length by omega)
      have hpl : p < l.length := (List.getElem?_eq_some_iff.1 hm).1
      have A0 := (HH.out p m hm).below (HB.out.trans (hB.mono HB.out.size)) s1
      simp only [At8] at A0
      have A1 := A0.1
      have A2 : wr.cell? ⟨g, k, none⟩ = some (iJ (p : Int)) := by
        rw [hB.cell (p := ⟨g, k, none⟩) hg2, hg3 k hlt]
        simp [hp, TH]
      have j0 : (0 : Int) ≤ (k : Int) := by omega
      have j1 : (k : Int) < (xs.length : Int) := by omega
      have i0 : (0 : Int) ≤ (p : Int) := by omega
      have i1 : (p : Int) < (l.length : Int) := by omega
      have hstep : VB l key (xs.drop k) = if m.k = key then p else VB l key (xs.drop (k + 1)) := by
        have e : xs.drop k = p :: xs.drop (k + 1) := by
          rw [List.drop_eq_getElem_cons hlt]
          congr 1
          rw [List.getElem?_eq_getElem hlt] at hp
          exact Option.some.inj hp
        rw [e, VB, hm]
      have HS := Lib.hid hstep
      have HB2 := Lib.hid hB
      clear A0 hg3 hstep hB hm hp
      by_cases hkey : m.k = key
      · have hv : VB l key xs = p := by rw [← HE.out, HS.out, if_pos hkey]
        have HV := Lib.hid hv
        have q0 : (m.k == key) = true := by simp [hkey]
        clear hv hkey
        go_wp2
        go_ret
        exact ⟨by rw [HF.out, HV.out]; rfl, HB.out.trans (HB2.out.mono HB.out.size)⟩
      · have hv : VB l key (xs.drop (k + 1)) = VB l key xs := by rw [← HE.out, HS.out, if_neg hkey]
        have HV := Lib.hid hv
        have q0 : (m.k == key) = false := by simp [hkey]
        clear hv hkey
        go_wp2
        go_roundw
        case rel => exact ⟨k + 1, by omega, by go_num, HV, HB2.out⟩
        case measure => simp [intOf]; omega
    · obtain rfl : k = xs.length := by omega
      have hz : VB l key xs = 0 := by rw [← HE.out, List.drop_length]; rfl
      have HZ := Lib.hid hz
      have HB2 := Lib.hid hB
      clear hz hB
      go_wp2
      all_goals
        go_ret
        exact ⟨by rw [HF.out, HZ.out]; rfl, HB.out.trans (HB2.out.mono HB.out.size)⟩
theorem EJ (v : Value) (l : List ND) (key : Int) (hkey : nE key) (w : World) (h : NSl w v l) (hl : l.length ≤ 1048576) : Calls Tryz.prog 16 #[v, iJ key] w (cJ l key w) := by
  rcases Bool.eq_false_or_eq_true (yB l) with ht | ht
  · exact vI v l key w h ht
  · exact BH v l key w h hl ht
end Go.Proofs.YtfjafncipjdnfaaGreat
