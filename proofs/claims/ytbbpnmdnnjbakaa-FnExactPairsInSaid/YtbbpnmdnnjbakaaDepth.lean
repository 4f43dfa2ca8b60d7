/- DepthOf of the program and of the model: both answer 'depthB' of the nodes. -/
import Derived.Test.YtbbpnmdnnjbakaaTreeSpec2
import Derived.Sort.AtCall
namespace Go.Proofs.Ytbbpnmdnnjbakaa
open Go.ChangeShapes Go.WideShapes Go.ChangeAt Go.RowKit Go.Shelf
attribute [local go_sem] Oper.semAt_some
set_option linter.unusedVariables false
set_option linter.unusedSimpArgs false

set_option maxHeartbeats 1000000 in
theorem l1Max_in (a b : Int) (w : World) : Calls Try.prog 40 #[.int .i64 a, .int .i64 b] w fun e w' => e = .returned (.int .i64 (max a b)) ∧ Below w.heap.size w w' := by
  by_cases h : a > b
  · have hm : max a b = a := by omega
    have HM := Lib.hid hm
    clear hm
    go_enter Try.func40, Try.ntmps40
    go_wp2
    go_ret
    exact ⟨by rw [HM.out]; rfl, Below.refl _ _⟩
  · have hm : max a b = b := by omega
    have HM := Lib.hid hm
    clear hm
    go_enter Try.func40, Try.ntmps40
    go_wp2
    go_ret
    exact ⟨by rw [HM.out]; rfl, Below.refl _ _⟩

theorem wrap_small {n : Int} (h0 : 0 ≤ n) (h1 : n ≤ 1000000) : IntKind.i64.wrap n = n := by
  simp [IntKind.wrap, IntKind.signed, IntKind.bits]
  omega
theorem two_below {w w' : World} {b o : Nat} {x y : Value} {o2 : Nat} (hb : b < w.heap.size) (h1 : w.cell? ⟨b, o, none⟩ = some x) (h2 : w.cell? ⟨b, o2, none⟩ = some y) (h : Below w.heap.size w w') : Below w.heap.size w w' ∧ w'.cell? ⟨b, o, none⟩ = some x ∧ w'.cell? ⟨b, o2, none⟩ = some y :=
  ⟨h, (h.cell (p := ⟨b, o, none⟩) hb).trans h1, (h.cell (p := ⟨b, o2, none⟩) hb).trans h2⟩
set_option maxRecDepth 100000 in
set_option maxHeartbeats 4000000 in
theorem l2Depth_in (b off cap n₀ : Nat) (l : List ND) (hL : Links l) {p : Nat} {lo hi : Int} {xs : List Nat} {h : Nat} (t : IsT l p lo hi xs h) : ∀ (w : World), h ≤ 100 → NAt n₀ w b off l → n₀ ≤ w.heap.size →
    Calls Try.prog 30 #[.slice (some ⟨b, off, none⟩) l.length cap, .int .i64 (p : Int)] w fun e w' => e = .returned (.int .i64 (h : Int)) ∧ Below w.heap.size w w' := by
  induction t with
  | nil lo hi =>
    intro w _ hN _
    clear hN
    go_enter Try.func30, Try.ntmps30
    go_wp2
    go_ret
    exact ⟨rfl, Below.refl _ _⟩
  | node p lo hi n a c xs ys h1 h2 h0 hn hg hl hh ha hc t1 t2 ih1 ih2 =>
    intro w hm hN hw
    have A1 := hN.2 p n hn
    have hbw : b < w.heap.size := Nat.lt_of_lt_of_le hN.1 hw
    have hp : p < l.length := (List.getElem?_eq_some_iff.1 hn).1
    simp only [At8, ha, hc] at A1
    obtain ⟨-, -, A2, A3, -⟩ := A1
    have t0 : ((p : Int) == 0) = false := by simpa using h0
    have i0 : (0 : Int) ≤ (p : Int) := by omega
    have i1 : (p : Int) < (l.length : Int) := by omega
    have C1 := Lib.hid (fun w' (hb : Below w.heap.size w w') => ih1 w' (by omega) (hN.below (hb.mono hw)) (Nat.le_trans hw hb.size))
    have C2 := Lib.hid (fun w' (hb : Below w.heap.size w w') => ih2 w' (by omega) (hN.below (hb.mono hw)) (Nat.le_trans hw hb.size))
    have D : ((1 : Int) + max (h1 : Int) (h2 : Int)) = ((1 + max h1 h2 : Nat) : Int) := by omega
    have HD := Lib.hid D
    have hm1 : (0 : Int) ≤ max (h1 : Int) (h2 : Int) ∧ max (h1 : Int) (h2 : Int) ≤ 100 := by omega
    clear ih1 ih2 D hN hn ha hc hl hh hg
    go_enter Try.func30, Try.ntmps30
    go_wp2_with fail
    go_region_held3 (fun w' => Below w.heap.size w w' ∧ w'.cell? ⟨b, off + p * 8 + 2, none⟩ = some (.int .i64 a) ∧ w'.cell? ⟨b, off + p * 8 + 3, none⟩ = some (.int .i64 c))
      (first
        | exact two_below hbw A2 A3 (Below.refl _ _).drew
        | exact two_below hbw A2 A3 ((Below.refl _ _).drew.trans (Below.mono hb1 (Nat.le_refl _)))
        | exact two_below hbw A2 A3 ((Below.refl _ _).drew.trans (Below.mono hb2 (Nat.le_refl _)))
        | exact two_below hbw A2 A3 (((Below.refl _ _).drew.trans (Below.mono hb1 (Nat.le_refl _))).trans (Below.mono hb2 hb1.size))
        | exact two_below hbw A2 A3 (((Below.refl _ _).drew.trans (Below.mono hb2 (Nat.le_refl _))).trans (Below.mono hb1 hb2.size))
        | exact two_below hbw A2 A3 ((((Below.refl _ _).drew.trans (Below.mono hb1 (Nat.le_refl _))).trans (Below.mono hb2 hb1.size)).trans (Below.mono hb3 (Nat.le_trans hb1.size hb2.size)))
        | exact two_below hbw A2 A3 ((((Below.refl _ _).drew.trans (Below.mono hb2 (Nat.le_refl _))).trans (Below.mono hb1 hb2.size)).trans (Below.mono hb3 (Nat.le_trans hb2.size hb1.size))))
      (first
        | (go_at_call_has 30 a; refine (C1.out _ (by first | exact (Below.refl _ _).drew | exact ((Below.refl _ _).drew.trans (Below.mono hb2 (Nat.le_refl _))))).mono ?_; rintro e w1 ⟨rfl, hb1⟩)
        | (go_at_call_has 30 c; refine (C2.out _ (by first | exact (Below.refl _ _).drew | exact ((Below.refl _ _).drew.trans (Below.mono hb1 (Nat.le_refl _))))).mono ?_; rintro e w2 ⟨rfl, hb2⟩)
        | (go_at_call 40; refine (l1Max_in _ _ _).mono ?_; rintro e w3 ⟨rfl, hb3⟩))
    rename_i hH
    have hB := hH.1
    clear hH hb1 hb2 hb3 C1 C2
    go_wp2
    go_ret
    exact ⟨ret_i ((wrap_small (by omega) (by omega)).trans HD.out), hB⟩
def SaysD (l : List ND) (w : World) (e : Ending) (w' : World) : Prop := e = .returned (.int .i64 (depthB l)) ∧ Below w.heap.size w w'
theorem depthB_not {l : List ND} (h : treeB l = false) : depthB l = -1 := by simp [depthB, h]
/-- A tree's nodes: their links, the root, the walk. -/
theorem tree_at {l : List ND} (h : treeB l = true) : ∃ n, l[0]? = some n ∧ nodesB l = true := by
  have hn : nodesB l = true := by simp only [treeB, Bool.and_eq_true] at h; exact h.1
  cases l with
  | nil => simp [nodesB] at hn
  | cons n r => exact ⟨n, rfl, hn⟩

set_option maxHeartbeats 1000000 in
theorem spec_DepthOf (v : Value) (l : List ND) (w : World) (h : NSl w v l) (hl : l.length ≤ 1048576) : Calls Try.prog 20 #[v] w (SaysD l w) := by
  have C := spec_TreeOk v l w h hl
  rcases Bool.eq_false_or_eq_true (treeB l) with ht | ht
  · obtain ⟨n, hr0, hn⟩ := tree_at ht
    obtain ⟨hL, hr, hrt, _⟩ := walk_at hr0 hn
    obtain ⟨xs, hh, t, -, -, hh30⟩ := tree_of ht
    have hd : depthB l = (hh : Int) := by rw [depthB, ht, if_pos rfl, IsT.hF t (by omega)]
    obtain ⟨b, off, cap, rfl, k1, m1, s1, H1⟩ := h.at (by intro e; rw [e] at hr0; simp at hr0)
    go_enter Try.func20, Try.ntmps20
    go_wp2_with fail
    refine C.mono ?_
    rintro e w1 ⟨rfl, hb⟩
    rw [ht]
    have A1 := (H1 0 n hr0).below hb s1
    rw [Nat.zero_mul, Nat.add_zero] at A1
    simp only [At8, hr] at A1
    have i2 : (0 : Int) < (l.length : Int) := by have := hL.2.1; omega
    have C2 := l2Depth_in b off cap w.heap.size l hL t w1 (by omega) (NAt.below ⟨s1, H1⟩ hb) hb.size
    have HB := Lib.hid hb
    have HD := Lib.hid hd
    clear hb hr hr0 hd C
    go_wp2_with fail
    refine C2.mono ?_
    rintro e w2 ⟨rfl, hb2⟩
    go_wp2
    go_ret
    exact ⟨by rw [HD.out]; rfl, HB.out.trans (hb2.mono HB.out.size)⟩
  · have hd := Lib.hid (depthB_not ht)
    obtain ⟨a, cap, rfl, _⟩ := h
    go_enter Try.func20, Try.ntmps20
    go_wp2_with fail
    refine C.mono ?_
    rintro e w1 ⟨rfl, hb⟩
    rw [ht]
    have HB := Lib.hid hb
    clear hb C
    go_wp2
    go_ret
    exact ⟨by rw [hd.out]; rfl, HB.out⟩

set_option maxRecDepth 100000 in
set_option maxHeartbeats 4000000 in
theorem impl_depth_not (v : Value) (l : List ND) (w : World) (h : NSl w v l) (hl : l.length ≤ 1048576) (ht : treeB l = false) : Calls Try.prog 21 #[v] w (SaysD l w) := by
  have C := impl_TreeOk v l w h hl
  have hd := Lib.hid (depthB_not ht)
  obtain ⟨a, cap, rfl, _⟩ := h
  go_enter Try.func21, Try.ntmps21
  go_wp2_with fail
  refine C.mono ?_
  rintro e w1 ⟨rfl, hb⟩
  rw [ht]
  have HB := Lib.hid hb
  clear hb C
  go_wp2
  go_ret
  exact ⟨by rw [hd.out]; rfl, HB.out⟩

set_option maxRecDepth 100000 in
set_option maxHeartbeats 4000000 in
theorem impl_depth_go (v : Value) (l : List ND) (w : World) (h : NSl w v l) (ht : treeB l = true) : Calls Try.prog 21 #[v] w (SaysD l w) := by
  obtain ⟨n, hr0, hn⟩ := tree_at ht
  obtain ⟨hL, hr, hrt, c', gs, wk, hup⟩ := walk_at hr0 hn
  obtain ⟨xs, hh, t, -, -, hh30⟩ := tree_of ht
  have C := impl_TreeOk v l w h (by have := hL.1; omega)
  have hd : depthB l = (((gs.map Prod.snd).foldl max 0 : Nat) : Int) := by
    have h1 := (t.walk wk (Nat.le_refl _) (fun x hx h => by cases h)).2 0
    rw [depthB, ht, if_pos rfl, IsT.hF t (by omega)]
    omega
  obtain ⟨b, off, cap, rfl, k1, m1, s1, H1⟩ := h.at (by intro e; rw [e] at hr0; simp at hr0)
  refine (callsIn_wide (n := 0)).1 ?_
  refine callsIn_of_wp_marks Try.func21 rfl trivial ?_ rfl
  simp only [Try.ntmps21, List.size_toArray, List.length_cons, List.length_nil, Nat.reduceAdd, Nat.reduceSub, Array.replicate_succ, Array.replicate_zero, List.push_toArray, List.append_toArray, List.nil_append, List.cons_append]
  gi_wp2_with fail
  refine ⟨trivial, rfl, ?_⟩
  refine (callsIn_wide.2 C).mono ?_
  rintro e W1 ⟨rfl, hb1⟩
  rw [ht]
  have H0 := Lib.hid (And.intro H1 (And.intro hd (And.intro hr (And.intro hb1 hup))))
  clear hb1 hup H1 hr hd C
  gi_wp2_with fail
  refine ⟨trivial, rfl, ?_⟩
  refine (callsIn_wide.2 (walked_at _ _ _ _)).mono ?_
  rintro e W2 ⟨rfl, hW2⟩
  have HW2 := Lib.hid hW2
  clear hW2
  gi_wp2_with fail
  obtain ⟨H1, hd, hr, hb1, hup⟩ := H0.out
  have hW2 := HW2.out
  obtain ⟨z, hz⟩ : ∃ z, z = W1.heap.size := ⟨_, rfl⟩
  have hzw : w.heap.size ≤ z := by rw [hz]; exact hb1.size
  have hs2 : W2.heap.size = z + 2 := by rw [hW2, hz]; simp
  have hb12 : Below W1.heap.size W1 W2 := by rw [hW2]; exact ((Below.refl _ _).alloc (Nat.le_refl _) _).alloc (by simp) _
  have hla : Blk W2 z 2 [.int .i64 0] := by
    rw [hW2, hz]
    exact (Below.heap_alloc _ _ _ (by simp)).trans (World.alloc_heap_new W1 _)
  have hbx : Blk W2 (z + 1) 25 [.slice (some ⟨b, off, none⟩) l.length cap] := by
    have := World.alloc_heap_new (W1.alloc (.cells #[.int .i64 0] 2)) (.cells #[.slice (some ⟨b, off, none⟩) l.length cap] 25)
    rw [World.size_alloc, ← hW2, ← hz] at this
    exact this
  have hb2 := hb1.trans (hb12.mono hb1.size)
  have hN0 : NAt w.heap.size w b off l := ⟨s1, H1⟩
  rw [← hz]
  clear H0 HW2 H1 hz hW2 hb12
  refine range_walk (S₀ := fun k => k = z) rfl rfl w.heap.size b off cap l hL (hN0.below hb2) (by rw [hbx.cell]; rfl) n (rootR l) c' gs hr0 hr wk
    (fun pre S W => (∀ k, S k ↔ k = z) ∧ Blk W z 2 [.int .i64 (((pre.map Prod.snd).foldl max 0 : Nat) : Int)] ∧ Below w.heap.size w W)
    (fun q W => False)
    ?hI ?hIs ?hIx
    ⟨fun k => Iff.rfl, hla, hb2⟩
    (fun x => { tmps := #[.slice (some ⟨b, off, none⟩) l.length cap, undef, .int .i64 0, .pointer (some ⟨z, 0, none⟩), undef, .int .i64 x.2,
      .slice (some ⟨b, off, none⟩) l.length cap, .bool true, .bool false, .slice (some ⟨b, off, none⟩) l.length cap, .func (.func 37) #[] #[.pointer (some ⟨z + 1, 0, none⟩)], .int .i64 x.1, .int .i64 x.2,
      undef, undef, undef, undef], defers := [] }) ?assign ?body ?done ?stop
  case hI =>
    rintro pre S W W' ⟨hS, h1, h4⟩ hsep
    exact ⟨hS, (hsep.same _ h1.lt ((hS _).2 rfl)).trans h1, h4.trans hsep.below⟩
  case hIs =>
    rintro pre S W ⟨hS, h1, h4⟩
    refine ⟨h4.size, fun k hk => ?_⟩
    obtain rfl := (hS k).1 hk
    exact h1.lt
  case hIx =>
    rintro q W o h
    exact h
  case assign =>
    intro l' x W K hK
    dsimp only [enc2]
    gi_wp2
    exact hK
  case body =>
    rintro l' pre S x W ⟨hS, h1, h4⟩ hx1 hx2 _
    obtain ⟨d0, hd0⟩ : ∃ d0, d0 = (pre.map Prod.snd).foldl max 0 := ⟨_, rfl⟩
    rw [← hd0] at h1
    have c2 : W.cell? ⟨z, 0, none⟩ = some (.int .i64 d0) := by rw [h1.cell]; rfl
    have c3 : W.frozen? ⟨z, 0, none⟩ = false := h1.free _
    have Nor := Lib.hid (show ∃ S', ((∀ k, S' k ↔ k = z) ∧ Blk (W.setCell ⟨z, 0, none⟩ (.int .i64 ((max d0 x.2 : Nat) : Int))) z 2 [.int .i64 ((((pre ++ [x]).map Prod.snd).foldl max 0 : Nat) : Int)] ∧ Below w.heap.size w (W.setCell ⟨z, 0, none⟩ (.int .i64 ((max d0 x.2 : Nat) : Int)))) ∧ Mine w.heap.size S S' W (W.setCell ⟨z, 0, none⟩ (.int .i64 ((max d0 x.2 : Nat) : Int))) from
      ⟨S, ⟨hS, by rw [List.map_append, List.map_singleton, List.foldl_append, ← hd0]; exact h1.set 0 _, h4.setCell (p := ⟨z, 0, none⟩) hzw _⟩,
        (Below.refl _ _).setCell (p := ⟨z, 0, none⟩) hzw _, fun k hk hs => Below.heap_setCell _ ⟨z, 0, none⟩ _ k (fun e => hs ((hS k).2 e)), fun k _ h => h⟩)
    clear hS h1 h4 hd0 hd hup hL hrt wk hr hr0 hla hbx hb2 hN0 hx1 t hb1
    gi_wp2_with fail
    all_goals
      first
        | (have q := Nor.out; rw [show max d0 x.2 = d0 by omega] at q; exact q)
        | (have q := Nor.out; rw [show max d0 x.2 = x.2 by omega] at q; exact q)
  case done =>
    rintro D S W hD ⟨hS, h1, h4⟩ hSD hK
    rw [← hd] at h1
    have c4 : W.cell? ⟨z, 0, none⟩ = some (.int .i64 (depthB l)) := by rw [h1.cell]; rfl
    have hE := Lib.hid (h4.grown (grownBy_putObj' _ D (.deferred none)) h4.size (fun j e => by cases e; omega))
    clear h1 h4 hS hSD hup hd
    gi_wp2
    refine ⟨by simp, .inl ⟨_, _, rfl, run_takeDeferred hK, ?_⟩⟩
    exact ⟨.int .i64 (depthB l), by simp [results, Try.f21, go_sem], rfl, hE.out⟩
  case stop =>
    rintro D q W hD hq h hK
    exact h.elim
theorem impl_DepthOf (v : Value) (l : List ND) (w : World) (h : NSl w v l) (hl : l.length ≤ 1048576) : Calls Try.prog 21 #[v] w (SaysD l w) := by
  rcases Bool.eq_false_or_eq_true (treeB l) with ht | ht
  · exact impl_depth_go v l w h ht
  · exact impl_depth_not v l w h hl ht
end Go.Proofs.Ytbbpnmdnnjbakaa
