/- TreeOk of the program: it answers 'treeB' of the nodes. -/
import Derived.Test.YtbbpnmdnnjbakaaRange
import Derived.RangeFuncBox
namespace Go.Proofs.Ytbbpnmdnnjbakaa
open Go.ChangeShapes Go.WideShapes Go.ChangeAt Go.RowKit Go.Shelf
attribute [local go_sem] Oper.semAt_some
set_option linter.unusedVariables false
set_option linter.unusedSimpArgs false

theorem walk_at {l : List ND} {n : ND} (h0 : l[0]? = some n) (h : nodesB l = true) : Links l ∧ n.r = ((rootR l : Nat) : Int) ∧ rootR l < l.length ∧ ∃ c gs, Wk l [] (rootR l) 1 c gs ∧ upB l (-1) (gs.map Prod.fst) = (trav l).2 := by
  cases l with
  | nil => simp at h0
  | cons m r =>
    simp at h0
    subst h0
    exact walk_of h
def SaysT (l : List ND) (w : World) (e : Ending) (w' : World) : Prop := e = .returned (.bool (treeB l)) ∧ Below w.heap.size w w'

set_option maxRecDepth 100000 in
set_option maxHeartbeats 4000000 in
theorem impl_treeOk_not (v : Value) (l : List ND) (w : World) (h : NSl w v l) (hl : l.length ≤ 1048576) (hn : nodesB l = false) : Calls Try.prog 10 #[v] w (SaysT l w) := by
  have ht : treeB l = false := by simp [treeB, hn]
  have hN : ∀ W, Below w.heap.size w W → Calls Try.prog 24 #[v] W (fun e W' => e = .returned (.bool false) ∧ Below W.heap.size W W') := fun W hb =>
    (impl_NodesOk v l W (Sl.below (by omega) h hb) hl).mono fun e W' ⟨he, hb'⟩ => ⟨by rw [he, hn], hb'⟩
  obtain ⟨a, cap, rfl, _⟩ := h
  refine (callsIn_wide (n := 0)).1 ?_
  refine callsIn_of_wp_marks Try.func10 rfl trivial ?_ rfl
  simp only [Try.ntmps10, List.size_toArray, List.length_cons, List.length_nil, Nat.reduceAdd, Nat.reduceSub, Array.replicate_succ, Array.replicate_zero, List.push_toArray, List.append_toArray, List.nil_append, List.cons_append]
  gi_wp2_with fail
  obtain ⟨W0, hW0⟩ : ∃ x, x = (w.alloc (.cells #[.slice a l.length cap] 25)).alloc (.cells #[.bool false] 4) := ⟨_, rfl⟩
  rw [← hW0]
  have hb0 : Below w.heap.size w W0 := by rw [hW0]; exact ((Below.refl _ w).alloc (Nat.le_refl _) _).alloc (by simp) _
  have hr0 : Blk W0 (w.heap.size + 1) 4 [.bool false] := by
    have := World.alloc_heap_new (w.alloc (.cells #[.slice a l.length cap] 25)) (.cells #[.bool false] 4)
    rw [World.size_alloc, ← hW0] at this
    exact this
  refine ⟨trivial, rfl, ?_⟩
  refine (callsIn_wide.2 (hN W0 hb0)).mono ?_
  rintro e W1 ⟨rfl, hB1⟩
  have hr1 := hr0.below hB1 hr0.lt
  have c1 : W1.cell? ⟨w.heap.size + 1, 0, none⟩ = some (.bool false) := by rw [hr1.cell]; rfl
  have c2 : W1.frozen? ⟨w.heap.size + 1, 0, none⟩ = false := hr1.free _
  have hE := Lib.hid (show Below w.heap.size w (W1.setCell ⟨w.heap.size + 1, 0, none⟩ (.bool false)) ∧ (W1.setCell ⟨w.heap.size + 1, 0, none⟩ (.bool false)).cell? ⟨w.heap.size + 1, 0, none⟩ = some (.bool false) from
    ⟨(hb0.trans (hB1.mono hb0.size)).setCell (p := ⟨w.heap.size + 1, 0, none⟩) (by simp) _, by rw [(hr1.set 0 (.bool false)).cell]; rfl⟩)
  clear hW0 hb0 hr0 hB1 hr1 hN
  gi_wp2_with fail
  exact ⟨.bool false, by simp [results, Try.f10, go_sem, hE.out.2], by rw [ht], hE.out.1⟩

set_option maxRecDepth 100000 in
set_option maxHeartbeats 4000000 in
theorem impl_treeOk_go (v : Value) (l : List ND) (n : ND) (w : World) (h : NSl w v l) (hr0 : l[0]? = some n) (hn : nodesB l = true) : Calls Try.prog 10 #[v] w (SaysT l w) := by
  have hl : l.length ≤ 1048576 := by have := (nodesB_links hn).1; omega
  have hN : ∀ W, Below w.heap.size w W → Calls Try.prog 24 #[v] W (fun e W' => e = .returned (.bool true) ∧ Below W.heap.size W W') := fun W hb =>
    (impl_NodesOk v l W (Sl.below (by omega) h hb) hl).mono fun e W' ⟨he, hb'⟩ => ⟨by rw [he, hn], hb'⟩
  obtain ⟨hL, hr, hrt, c', gs, wk, hup⟩ := walk_at hr0 hn
  obtain ⟨b, off, cap, rfl, k1, m1, s1, H1⟩ := h.at (by intro e; rw [e] at hr0; simp at hr0)
  refine (callsIn_wide (n := 0)).1 ?_
  refine callsIn_of_wp_marks Try.func10 rfl trivial ?_ rfl
  simp only [Try.ntmps10, List.size_toArray, List.length_cons, List.length_nil, Nat.reduceAdd, Nat.reduceSub, Array.replicate_succ, Array.replicate_zero, List.push_toArray, List.append_toArray, List.nil_append, List.cons_append]
  gi_wp2_with fail
  obtain ⟨s, hs⟩ : ∃ s, s = w.heap.size := ⟨_, rfl⟩
  obtain ⟨W0, hW0⟩ : ∃ x, x = (w.alloc (.cells #[.slice (some ⟨b, off, none⟩) l.length cap] 25)).alloc (.cells #[.bool false] 4) := ⟨_, rfl⟩
  rw [← hW0]
  have hb0 : Below w.heap.size w W0 := by rw [hW0]; exact ((Below.refl _ w).alloc (Nat.le_refl _) _).alloc (by simp) _
  have hq0 : Blk W0 (w.heap.size + 1) 4 [.bool false] := by
    have := World.alloc_heap_new (w.alloc (.cells #[.slice (some ⟨b, off, none⟩) l.length cap] 25)) (.cells #[.bool false] 4)
    rw [World.size_alloc, ← hW0] at this
    exact this
  have hx0 : Blk W0 w.heap.size 25 [.slice (some ⟨b, off, none⟩) l.length cap] := by
    have := World.alloc_heap_new w (.cells #[.slice (some ⟨b, off, none⟩) l.length cap] 25)
    rw [hW0]
    exact (Below.heap_alloc _ _ _ (by simp)).trans this
  refine ⟨trivial, rfl, ?_⟩
  refine (callsIn_wide.2 (hN W0 hb0)).mono ?_
  rintro e W1 ⟨rfl, hB1⟩
  have hq1 := hq0.below hB1 hq0.lt
  have hx1 := hx0.below hB1 hx0.lt
  have hb1 := hb0.trans (hB1.mono hb0.size)
  have hz1 := hq1.lt
  have c1 : ∀ o, (W1.alloc o).cell? ⟨w.heap.size, 0, none⟩ = some (.slice (some ⟨b, off, none⟩) l.length cap) := fun o => by
    rw [((Below.refl W1.heap.size W1).alloc (Nat.le_refl _) o).cell (p := ⟨w.heap.size, 0, none⟩) hx1.lt, hx1.cell]; rfl
  have H0 := Lib.hid (And.intro H1 (And.intro hup (And.intro hr (And.intro hb1 (And.intro hq1 (And.intro hx1 (And.intro hN hb0)))))))
  clear hN hb0 hq0 hx0 hB1 hW0 hq1 hx1 hb1 hup H1 hr
  gi_wp2_with fail
  refine ⟨trivial, rfl, ?_⟩
  refine (callsIn_wide.2 (walked_at _ _ _ _)).mono ?_
  rintro e W2 ⟨rfl, hW2⟩
  have HW2 := Lib.hid hW2
  clear hW2 c1
  gi_wp2_with fail
  obtain ⟨H1, hup, hr, hb1, hq1, hx1, -, -⟩ := H0.out
  have hW2 := HW2.out
  obtain ⟨z, hz⟩ : ∃ z, z = W1.heap.size := ⟨_, rfl⟩
  have hzw : w.heap.size + 1 < z := by rw [hz]; exact hz1
  have hs2 : W2.heap.size = z + 2 := by rw [hW2, hz]; simp
  have hb12 : Below W1.heap.size W1 W2 := by rw [hW2]; exact ((Below.refl _ _).alloc (Nat.le_refl _) _).alloc (by simp) _
  have hla : Blk W2 z 2 [.int .i64 (-1)] := by
    rw [hW2, hz]
    exact (Below.heap_alloc _ _ _ (by simp)).trans (World.alloc_heap_new W1 _)
  have hbx : Blk W2 (z + 1) 25 [.slice (some ⟨b, off, none⟩) l.length cap] := by
    have := World.alloc_heap_new (W1.alloc (.cells #[.int .i64 (-1)] 2)) (.cells #[.slice (some ⟨b, off, none⟩) l.length cap] 25)
    rw [World.size_alloc, ← hW2, ← hz] at this
    exact this
  have hb2 := hb1.trans (hb12.mono hb1.size)
  have hx2 := hx1.below hb12 hx1.lt
  have hq2 := hq1.below hb12 hq1.lt
  have hN0 : NAt w.heap.size w b off l := ⟨s1, H1⟩
  rw [← hz]
  clear H0 HW2 H1 hz hW2 hb12
  refine range_walk (S₀ := fun k => k = w.heap.size ∨ k = w.heap.size + 1 ∨ k = z) rfl rfl w.heap.size b off cap l hL (hN0.below hb2) (by rw [hbx.cell]; rfl) n (rootR l) c' gs hr0 hr wk
    (fun pre S W => (∀ k, S k ↔ k = w.heap.size ∨ k = w.heap.size + 1 ∨ k = z) ∧ Blk W w.heap.size 25 [.slice (some ⟨b, off, none⟩) l.length cap] ∧ Blk W (w.heap.size + 1) 4 [.bool false] ∧
      Blk W z 2 [.int .i64 (lastK l (-1) (pre.map Prod.fst))] ∧ Below w.heap.size w W ∧ upB l (-1) (pre.map Prod.fst) = true)
    (fun q W => Blk W (w.heap.size + 1) 4 [.bool false] ∧ Below w.heap.size w W ∧ upB l (-1) (q.map Prod.fst) = false)
    ?hI ?hIs ?hIx
    ⟨fun k => Iff.rfl, hx2, hq2, hla, hb2, rfl⟩
    (fun x => { tmps := #[.slice (some ⟨b, off, none⟩) l.length cap, .pointer (some ⟨w.heap.size, 0, none⟩), .pointer (some ⟨w.heap.size + 1, 0, none⟩), .pointer (some ⟨z, 0, none⟩), .int .i64 x.1, undef,
      .slice (some ⟨b, off, none⟩) l.length cap, .bool true, .bool false, .slice (some ⟨b, off, none⟩) l.length cap, .func (.func 37) #[] #[.pointer (some ⟨z + 1, 0, none⟩)], .int .i64 x.1, .int .i64 x.2,
      undef, undef, undef, undef, undef, undef, undef, undef, undef, undef, undef, undef, undef, undef], defers := [] }) ?assign ?body ?done ?stop
  case hI =>
    rintro pre S W W' ⟨hS, h1, h2, h3, h4, h5⟩ hsep
    exact ⟨hS, (hsep.same _ h1.lt ((hS _).2 (.inl rfl))).trans h1, (hsep.same _ h2.lt ((hS _).2 (.inr (.inl rfl)))).trans h2, (hsep.same _ h3.lt ((hS _).2 (.inr (.inr rfl)))).trans h3, h4.trans hsep.below, h5⟩
  case hIs =>
    rintro pre S W ⟨hS, h1, h2, h3, h4, h5⟩
    refine ⟨h4.size, fun k hk => ?_⟩
    rcases (hS k).1 hk with rfl | rfl | rfl
    · exact h1.lt
    · exact h2.lt
    · exact h3.lt
  case hIx =>
    rintro q W o ⟨h1, h2, h3⟩
    exact ⟨(World.putObj_heap_other (by omega)).trans h1, h2.grown (grownBy_putObj' W _ o) h2.size (fun j e => by cases e; omega), h3⟩
  case assign =>
    intro l' x W K hK
    dsimp only [enc2]
    gi_wp2
    exact hK
  case body =>
    rintro l' pre S x W ⟨hS, h1, h2, h3, h4, h5⟩ hx1 hx2 _
    obtain ⟨m, hm⟩ : ∃ m, l[x.1]? = some m := ⟨_, List.getElem?_eq_getElem hx1⟩
    have A1 := (hN0.below h4).2 x.1 m hm
    simp only [At8] at A1
    have i0 : (0 : Int) ≤ (x.1 : Int) := by omega
    have i1 : (x.1 : Int) < (l.length : Int) := by omega
    have c1 : W.cell? ⟨w.heap.size, 0, none⟩ = some (.slice (some ⟨b, off, none⟩) l.length cap) := by rw [h1.cell]; rfl
    obtain ⟨lv, hlv⟩ : ∃ lv, lv = lastK l (-1) (pre.map Prod.fst) := ⟨_, rfl⟩
    rw [← hlv] at h3
    have c2 : W.cell? ⟨z, 0, none⟩ = some (.int .i64 lv) := by rw [h3.cell]; rfl
    have c3 : W.frozen? ⟨z, 0, none⟩ = false := h3.free _
    have c4 : W.cell? ⟨w.heap.size + 1, 0, none⟩ = some (.bool false) := by rw [h2.cell]; rfl
    have c5 : W.frozen? ⟨w.heap.size + 1, 0, none⟩ = false := h2.free _
    have hup' := upB_snoc hm (pre.map Prod.fst) (-1)
    rw [h5, Bool.true_and, ← hlv] at hup'
    have hlast := lastK_snoc hm (pre.map Prod.fst) (-1)
    have n1 : w.heap.size ≠ W.heap.size := by have := h1.lt; omega
    have n2 : w.heap.size + 1 ≠ W.heap.size := by have := h2.lt; omega
    have n3 : z ≠ W.heap.size := by have := h3.lt; omega
    have ha : ∀ o, Below W.heap.size W (W.alloc o) := fun o => (Below.refl _ _).alloc (Nat.le_refl _) o
    have d2 : ∀ o, (W.alloc o).cell? ⟨z, 0, none⟩ = some (.int .i64 lv) := fun o => by rw [(ha o).cell (p := ⟨z, 0, none⟩) h3.lt, c2]
    have d3 : ∀ o, (W.alloc o).frozen? ⟨z, 0, none⟩ = false := fun o => by rw [(ha o).frozen (p := ⟨z, 0, none⟩) h3.lt, c3]
    have d4 : ∀ o, (W.alloc o).cell? ⟨w.heap.size + 1, 0, none⟩ = some (.bool false) := fun o => by rw [(ha o).cell (p := ⟨w.heap.size + 1, 0, none⟩) h2.lt, c4]
    have d5 : ∀ o, (W.alloc o).frozen? ⟨w.heap.size + 1, 0, none⟩ = false := fun o => by rw [(ha o).frozen (p := ⟨w.heap.size + 1, 0, none⟩) h2.lt, c5]
    have Ret := Lib.hid (show ∀ o, (!m.g && decide (lv < m.k)) = false → (Blk ((W.alloc o).setCell ⟨w.heap.size + 1, 0, none⟩ (.bool false)) (w.heap.size + 1) 4 [.bool false] ∧ Below w.heap.size w ((W.alloc o).setCell ⟨w.heap.size + 1, 0, none⟩ (.bool false)) ∧ upB l (-1) ((pre ++ [x]).map Prod.fst) = false) ∧
        W.heap.size ≤ ((W.alloc o).setCell ⟨w.heap.size + 1, 0, none⟩ (.bool false)).heap.size ∧ ∀ k, k < W.heap.size → ¬ S k → ((W.alloc o).setCell ⟨w.heap.size + 1, 0, none⟩ (.bool false)).heap[k]? = W.heap[k]? from fun o ht =>
      ⟨⟨(h2.below (ha o) h2.lt).set 0 (.bool false), (h4.trans ((ha o).mono h4.size)).setCell (p := ⟨w.heap.size + 1, 0, none⟩) (by simp) _, by rw [List.map_append, List.map_singleton, hup', ht]⟩, by simp, fun k hk hs => by
        have hne : k ≠ w.heap.size + 1 := fun e => hs ((hS k).2 (.inr (.inl e)))
        exact (Below.heap_setCell _ ⟨w.heap.size + 1, 0, none⟩ _ k hne).trans ((ha o).block k hk)⟩)
    have Nor := Lib.hid (show ∀ o, (!m.g && decide (lv < m.k)) = true → ∃ S', ((∀ k, S' k ↔ k = w.heap.size ∨ k = w.heap.size + 1 ∨ k = z) ∧ Blk ((W.alloc o).setCell ⟨z, 0, none⟩ (.int .i64 m.k)) w.heap.size 25 [.slice (some ⟨b, off, none⟩) l.length cap] ∧ Blk ((W.alloc o).setCell ⟨z, 0, none⟩ (.int .i64 m.k)) (w.heap.size + 1) 4 [.bool false] ∧
        Blk ((W.alloc o).setCell ⟨z, 0, none⟩ (.int .i64 m.k)) z 2 [.int .i64 (lastK l (-1) ((pre ++ [x]).map Prod.fst))] ∧ Below w.heap.size w ((W.alloc o).setCell ⟨z, 0, none⟩ (.int .i64 m.k)) ∧ upB l (-1) ((pre ++ [x]).map Prod.fst) = true) ∧ Mine w.heap.size S S' W ((W.alloc o).setCell ⟨z, 0, none⟩ (.int .i64 m.k)) from fun o ht =>
      ⟨S, ⟨hS, (Below.heap_setCell _ ⟨z, 0, none⟩ _ _ (by simp; omega)).trans (h1.below (ha o) h1.lt), (Below.heap_setCell _ ⟨z, 0, none⟩ _ _ (by simp; omega)).trans (h2.below (ha o) h2.lt),
        by rw [List.map_append, List.map_singleton, hlast]; exact (h3.below (ha o) h3.lt).set 0 (.int .i64 m.k),
        (h4.trans ((ha o).mono h4.size)).setCell (p := ⟨z, 0, none⟩) (by simp; omega) _, by rw [List.map_append, List.map_singleton, hup', ht]⟩,
        ((ha o).mono h4.size).setCell (p := ⟨z, 0, none⟩) (by simp; omega) _, fun k hk hs => by
          have hne : k ≠ z := fun e => hs ((hS k).2 (.inr (.inr e)))
          exact (Below.heap_setCell _ ⟨z, 0, none⟩ _ k hne).trans ((ha o).block k hk), fun k _ h => h⟩)
    clear ha c2 c3 c4 c5 hS h1 h2 h3 h4 hup' hlast h5 hlv hup hL hrt wk hr hr0 hm hx2 hq2 hla hbx hb2 hN0 hx1 hq1
    rcases Bool.eq_false_or_eq_true m.g with g0 | g0
    · have G := Lib.hid g0
      gi_wp2_with fail
      all_goals
        have q := Ret.out (.cells #[.int .i64 m.k, .int .i64 m.v, .int .i64 m.l, .int .i64 m.r, .int .i64 m.o, .bool m.g, .int .i64 m.lt, .int .i64 m.rt] 41) (by rw [G.out]; rfl)
        rw [G.out] at q
        exact q
    · rcases Bool.eq_false_or_eq_true (decide (m.k ≤ lv)) with g1 | g1
      · have G := Lib.hid (And.intro g0 g1)
        gi_wp2_with fail
        all_goals
          have q := Ret.out (.cells #[.int .i64 m.k, .int .i64 m.v, .int .i64 m.l, .int .i64 m.r, .int .i64 m.o, .bool m.g, .int .i64 m.lt, .int .i64 m.rt] 41) (by have := of_decide_eq_true G.out.2; rw [G.out.1, decide_eq_false (by omega)]; rfl)
          rw [G.out.1] at q
          exact q
      · have G := Lib.hid (And.intro g0 g1)
        gi_wp2_with fail
        all_goals
          have q := Nor.out (.cells #[.int .i64 m.k, .int .i64 m.v, .int .i64 m.l, .int .i64 m.r, .int .i64 m.o, .bool m.g, .int .i64 m.lt, .int .i64 m.rt] 41) (by have := of_decide_eq_false G.out.2; rw [G.out.1, decide_eq_true (by omega)]; rfl)
          rw [G.out.1] at q
          exact q
  case done =>
    rintro D S W hD ⟨hS, h1, h2, h3, h4, h5⟩ hSD hK
    have hD' : D ≠ w.heap.size + 1 := by omega
    have ht : treeB l = true := by rw [treeB, hn, ← hup, h5]; rfl
    have c4 : W.cell? ⟨w.heap.size + 1, 0, none⟩ = some (.bool false) := by rw [h2.cell]; rfl
    have c5 : W.frozen? ⟨w.heap.size + 1, 0, none⟩ = false := h2.free _
    have hK' : (W.setCell ⟨w.heap.size + 1, 0, none⟩ (.bool true)).heap[D]? = some (.deferred (some [])) := (Below.heap_setCell W ⟨w.heap.size + 1, 0, none⟩ _ D hD').trans hK
    have hr' : Blk ((W.setCell ⟨w.heap.size + 1, 0, none⟩ (.bool true)).putObj D (.deferred none)) (w.heap.size + 1) 4 [.bool true] := (World.putObj_heap_other (Ne.symm hD')).trans (h2.set 0 (.bool true))
    have c6 : ((W.setCell ⟨w.heap.size + 1, 0, none⟩ (.bool true)).putObj D (.deferred none)).cell? ⟨w.heap.size + 1, 0, none⟩ = some (.bool true) := by rw [hr'.cell]; rfl
    have hB := h4.setCell (p := ⟨w.heap.size + 1, 0, none⟩) (by simp) (.bool true)
    have hE := Lib.hid (hB.grown (grownBy_putObj' _ D (.deferred none)) hB.size (fun j e => by cases e; omega))
    have HT := Lib.hid ht
    clear hr' h1 h2 h3 h4 h5 ht hB hS hSD hup
    gi_wp2
    refine ⟨by simp, .inl ⟨_, _, rfl, run_takeDeferred hK', ?_⟩⟩
    exact ⟨.bool true, by simp [results, Try.f10, go_sem, c6], by rw [HT.out], hE.out⟩
  case stop =>
    rintro D q W hD hq ⟨h1, h2, h3⟩ hK
    have hD' : w.heap.size + 1 ≠ D := by omega
    have ht : treeB l = false := by simp [treeB, hn, ← hup, upB_prefix (List.IsPrefix.map Prod.fst hq) h3]
    have hr' : Blk (W.putObj D (.deferred none)) (w.heap.size + 1) 4 [.bool false] := (World.putObj_heap_other hD').trans h1
    have c5 : (W.putObj D (.deferred none)).cell? ⟨w.heap.size + 1, 0, none⟩ = some (.bool false) := by rw [hr'.cell]; rfl
    have hE := Lib.hid (h2.grown (grownBy_putObj' W D (.deferred none)) h2.size (fun j e => by cases e; omega))
    have HT := Lib.hid ht
    clear hr' h1 h2 h3 ht hD'
    gi_wp2
    refine ⟨by simp, .inl ⟨_, _, rfl, run_takeDeferred hK, ?_⟩⟩
    exact ⟨.bool false, by simp [results, Try.f10, go_sem, c5], by rw [HT.out], hE.out⟩

theorem impl_TreeOk (v : Value) (l : List ND) (w : World) (h : NSl w v l) (hl : l.length ≤ 1048576) : Calls Try.prog 10 #[v] w (SaysT l w) := by
  rcases Bool.eq_false_or_eq_true (nodesB l) with hn | hn
  · cases l with
    | nil => simp [nodesB] at hn
    | cons n r => exact impl_treeOk_go v _ n w h rfl hn
  · exact impl_treeOk_not v l w h hl hn
end Go.Proofs.Ytbbpnmdnnjbakaa
