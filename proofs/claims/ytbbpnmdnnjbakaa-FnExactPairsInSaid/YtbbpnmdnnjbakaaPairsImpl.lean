/- PairsIn of the program: it answers 'pairsB' of the nodes, in memory of its own. -/
import Derived.Test.YtbbpnmdnnjbakaaPairs
import Derived.Test.YtbbpnmdnnjbakaaRound
namespace Go.Proofs.Ytbbpnmdnnjbakaa
open Go.ChangeShapes Go.WideShapes Go.ChangeAt Go.RowKit Go.Shelf
attribute [local go_sem] Oper.semAt_some
set_option linter.unusedVariables false
set_option linter.unusedSimpArgs false

set_option maxRecDepth 100000 in
set_option maxHeartbeats 4000000 in
theorem impl_pairs_not (v : Value) (l : List ND) (w : World) (h : NSl w v l) (hl : l.length ≤ 1048576) (ht : treeB l = false) : Calls Try.prog 13 #[v] w (SaysP l w) := by
  have hba : ∀ o, Below w.heap.size w (w.alloc o) := fun o => (Below.refl _ _).alloc (Nat.le_refl _) o
  have C := fun o => impl_TreeOk v l _ (h.below (hba o)) hl
  have hd := Lib.hid (pairs_not ht)
  obtain ⟨a, cap, rfl, _⟩ := h
  go_enter Try.func13, Try.ntmps13
  go_wp2_with fail
  refine (C _).mono ?_
  rintro e w1 ⟨rfl, hb⟩
  rw [ht]
  have HB := Lib.hid ((hba _).trans (hb.mono (hba _).size))
  clear hb C hba
  go_wp2
  go_ret
  rw [SaysP, hd.out]
  exact ⟨none, 0, rfl, ⟨rfl, .inl ⟨rfl, rfl⟩⟩, HB.out⟩

/-- What the loop's owner has: the box of the nodes, the box of the pairs, and their row. -/
def PI (w : World) (z : Nat) (nv : Value) (l : List ND) (pre : List (Nat × Nat)) (S : Nat → Prop) (W : World) : Prop :=
  ∃ oa oc, (∀ k, S k ↔ k = w.heap.size ∨ k = z ∨ (Value.slice oa pre.length oc).ownBlock = some k) ∧ Blk W w.heap.size 25 [nv] ∧ Blk W z 29 [.slice oa pre.length oc] ∧
    W.ownsRow w.heap.size 49 2 (.slice oa pre.length oc) pre.length (cellsP ((pre.map Prod.fst).map (pairAt l))) ∧ (Value.slice oa pre.length oc).ownBlock ≠ some w.heap.size ∧ (Value.slice oa pre.length oc).ownBlock ≠ some z ∧ Below w.heap.size w W
theorem row_lt {w : World} {B : Nat} {e : TypeId} {sz n : Nat} {v : Value} {cs : List Value} (h : w.ownsRow B e sz v n cs) {k : Nat} (hk : v.ownBlock = some k) : B ≤ k ∧ k < w.heap.size := by
  rcases h.2 with ⟨h, -⟩ | ⟨g, cap, cur, hv, hb, hg, -⟩
  · rw [h] at hk; cases hk
  · rw [hv] at hk
    obtain rfl : g = k := by simpa [Value.ownBlock] using hk
    exact ⟨hb, (Array.getElem?_eq_some_iff.1 hg).1⟩
theorem row_same {w w' : World} {B : Nat} {e : TypeId} {sz n : Nat} {v : Value} {cs : List Value} (h : w.ownsRow B e sz v n cs) (hs : ∀ k, v.ownBlock = some k → w'.heap[k]? = w.heap[k]?) : w'.ownsRow B e sz v n cs := by
  rcases h with ⟨h1, h2 | ⟨g, cap, cur, hv, hg, hh, r⟩⟩
  · exact ⟨h1, .inl h2⟩
  · exact ⟨h1, .inr ⟨g, cap, cur, hv, hg, (hs g (by rw [hv]; rfl)).trans hh, r⟩⟩

set_option maxRecDepth 100000 in
set_option maxHeartbeats 4000000 in
theorem impl_pairs_go (v : Value) (l : List ND) (w : World) (h : NSl w v l) (ht : treeB l = true) : Calls Try.prog 13 #[v] w (SaysP l w) := by
  obtain ⟨n, hr0, hn⟩ := tree_at ht
  obtain ⟨hL, hr, hrt, c', gs, wk, hup⟩ := walk_at hr0 hn
  obtain ⟨xs, hh, t, htr, hxs, hh30⟩ := tree_of ht
  have hgx : gs.map Prod.fst = xs := (t.walk wk (Nat.le_refl _) (fun x hx h => by cases h)).1
  have hglen : gs.length ≤ 30 := by rw [← hgx, List.length_map] at hxs; exact hxs
  have hf : pairsB l = (gs.map Prod.fst).map (pairAt l) := by rw [pairsB, ht, if_pos rfl, htr, hgx]
  have hba : ∀ o, Below w.heap.size w (w.alloc o) := fun o => (Below.refl _ _).alloc (Nat.le_refl _) o
  have C := fun o => impl_TreeOk v l _ (h.below (hba o)) (by have := hL.1; omega)
  obtain ⟨b, off, cap, rfl, k1, m1, s1, H1⟩ := h.at (by intro e; rw [e] at hr0; simp at hr0)
  refine (callsIn_wide (n := 0)).1 ?_
  refine callsIn_of_wp_marks Try.func13 rfl trivial ?_ rfl
  simp only [Try.ntmps13, List.size_toArray, List.length_cons, List.length_nil, Nat.reduceAdd, Nat.reduceSub, Array.replicate_succ, Array.replicate_zero, List.push_toArray, List.append_toArray, List.nil_append, List.cons_append]
  gi_wp2_with fail
  refine ⟨trivial, rfl, ?_⟩
  refine (callsIn_wide.2 (C _)).mono ?_
  rintro e W1 ⟨rfl, hb⟩
  rw [ht]
  have hx1 : Blk W1 w.heap.size 25 [.slice (some ⟨b, off, none⟩) l.length cap] := (hb.block _ (by simp)).trans (World.alloc_heap_new w _)
  have hb1 := (hba (.cells #[.slice (some ⟨b, off, none⟩) l.length cap] 25)).trans (hb.mono (hba _).size)
  have hz1 : w.heap.size < W1.heap.size := hx1.lt
  have c1 : ∀ o, (W1.alloc o).cell? ⟨w.heap.size, 0, none⟩ = some (.slice (some ⟨b, off, none⟩) l.length cap) := fun o => by
    rw [((Below.refl W1.heap.size W1).alloc (Nat.le_refl _) o).cell (p := ⟨w.heap.size, 0, none⟩) hx1.lt, hx1.cell]; rfl
  have H0 := Lib.hid (And.intro H1 (And.intro hf (And.intro hr (And.intro hb1 (And.intro hx1 (And.intro hup (And.intro hgx hba)))))))
  clear hb hb1 hx1 H1 hr hf C hup hgx hba
  gi_wp2_with fail
  refine ⟨trivial, rfl, ?_⟩
  refine (callsIn_wide.2 (walked_at _ _ _ _)).mono ?_
  rintro e W2 ⟨rfl, hW2⟩
  have HW2 := Lib.hid hW2
  clear hW2 c1
  gi_wp2_with fail
  obtain ⟨H1, hf, hr, hb1, hx1, hup, hgx, hba⟩ := H0.out
  have hW2 := HW2.out
  obtain ⟨z, hz⟩ : ∃ z, z = W1.heap.size := ⟨_, rfl⟩
  have hzw : w.heap.size < z := by rw [hz]; exact hz1
  have hs2 : W2.heap.size = z + 2 := by rw [hW2, hz]; simp
  have hb12 : Below W1.heap.size W1 W2 := by rw [hW2]; exact ((Below.refl _ _).alloc (Nat.le_refl _) _).alloc (by simp) _
  have hla : Blk W2 z 29 [.slice none 0 0] := by
    rw [hW2, hz]
    exact (Below.heap_alloc _ _ _ (by simp)).trans (World.alloc_heap_new W1 _)
  have hbx : Blk W2 (z + 1) 25 [.slice (some ⟨b, off, none⟩) l.length cap] := by
    have := World.alloc_heap_new (W1.alloc (.cells #[.slice none 0 0] 29)) (.cells #[.slice (some ⟨b, off, none⟩) l.length cap] 25)
    rw [World.size_alloc, ← hW2, ← hz] at this
    exact this
  have hb2 := hb1.trans (hb12.mono hb1.size)
  have hx2 := hx1.below hb12 hx1.lt
  have hN0 : NAt w.heap.size w b off l := ⟨s1, H1⟩
  rw [← hz]
  clear H0 HW2 H1 hz hW2 hb12
  refine range_walk (S₀ := fun k => k = w.heap.size ∨ k = z ∨ (Value.slice none 0 0).ownBlock = some k) rfl rfl w.heap.size b off cap l hL (hN0.below hb2) (by rw [hbx.cell]; rfl) n (rootR l) c' gs hr0 hr wk
    (PI w z (.slice (some ⟨b, off, none⟩) l.length cap) l)
    (fun q W => False)
    ?hI ?hIs ?hIx
    ⟨none, 0, fun k => Iff.rfl, hx2, hla, ⟨rfl, .inl ⟨rfl, rfl⟩⟩, by simp [Value.ownBlock], by simp [Value.ownBlock], hb2⟩
    (fun x => { tmps := #[.slice (some ⟨b, off, none⟩) l.length cap, .pointer (some ⟨w.heap.size, 0, none⟩), .slice none 0 0, .pointer (some ⟨z, 0, none⟩), .int .i64 x.1,
      .slice (some ⟨b, off, none⟩) l.length cap, .bool true, .bool false, .slice (some ⟨b, off, none⟩) l.length cap, .func (.func 37) #[] #[.pointer (some ⟨z + 1, 0, none⟩)], .int .i64 x.1, .int .i64 x.2,
      undef, undef, undef, undef, undef, undef, undef, undef, undef, undef, undef, undef, undef, undef, undef], defers := [] }) ?assign ?body ?done ?stop
  case hI =>
    rintro pre S W W' ⟨oa, oc, hS, h1, h2, h3, h5, h6, h4⟩ hsep
    exact ⟨oa, oc, hS, (hsep.same _ h1.lt ((hS _).2 (.inl rfl))).trans h1, (hsep.same _ h2.lt ((hS _).2 (.inr (.inl rfl)))).trans h2, row_same h3 (fun k hk => hsep.same _ (row_lt h3 hk).2 ((hS _).2 (.inr (.inr hk)))), h5, h6, h4.trans hsep.below⟩
  case hIs =>
    rintro pre S W ⟨oa, oc, hS, h1, h2, h3, h5, h6, h4⟩
    refine ⟨h4.size, fun k hk => ?_⟩
    rcases (hS k).1 hk with rfl | rfl | hk
    · exact h1.lt
    · exact h2.lt
    · exact (row_lt h3 hk).2
  case hIx =>
    rintro q W o h
    exact h
  case assign =>
    intro l' x W K hK
    dsimp only [enc2]
    gi_wp2
    exact hK
  case body =>
    rintro l' pre S x W ⟨oa, oc, hS, h1, h2, h3, h5, h6, h4⟩ hx1 hx2 hpre
    obtain ⟨m, hm⟩ : ∃ m, l[x.1]? = some m := ⟨_, List.getElem?_eq_getElem hx1⟩
    have A1 := (hN0.below h4).2 x.1 m hm
    simp only [At8] at A1
    obtain ⟨A1, A2, -⟩ := A1
    have i0 : (0 : Int) ≤ (x.1 : Int) := by omega
    have i1 : (x.1 : Int) < (l.length : Int) := by omega
    have c1 : W.cell? ⟨w.heap.size, 0, none⟩ = some (.slice (some ⟨b, off, none⟩) l.length cap) := by rw [h1.cell]; rfl
    have c2 : W.cell? ⟨z, 0, none⟩ = some (.slice oa pre.length oc) := by rw [h2.cell]; rfl
    have c3 : W.frozen? ⟨z, 0, none⟩ = false := h2.free _
    gi_wp2_with fail
    have hba : Below W.heap.size W (W.alloc (.cells #[.int .i64 m.k, .int .i64 m.v] 49)).drew := ((Below.refl _ _).alloc (Nat.le_refl _) _).drew
    have hbz : b ≠ z := by omega
    have hwz : w.heap.size ≠ z := by omega
    have hzl := h2.lt
    have hsl := h1.lt
    have hbl : b < W.heap.size := Nat.lt_of_lt_of_le s1 h4.size
    obtain ⟨ip, hi0, hz0, hz1', hz2⟩ := info_parts infoPair
    have hbrow : (Value.slice oa pre.length oc).ownBlock ≠ some b := fun e => by have := (row_lt h3 e).1; omega
    have c2a : (W.alloc (.cells #[.int .i64 m.k, .int .i64 m.v] 49)).cell? ⟨z, 0, none⟩ = some (.slice oa pre.length oc) := (hba.cell (p := ⟨z, 0, none⟩) hzl).trans c2
    have fin : ∀ (gg cap4 : Nat) (W4 : World), W4.ownsRow w.heap.size 49 2 (.slice (some ⟨gg, 0, none⟩) (pre.length + 1) cap4) (pre.length + 1) (cellsP ((pre.map Prod.fst).map (pairAt l)) ++ [.int .i64 m.k, .int .i64 m.v]) →
        (W.alloc (.cells #[.int .i64 m.k, .int .i64 m.v] 49)).drew.grownBy W4 (Value.slice oa pre.length oc).ownBlock → ((Value.slice oa pre.length oc).ownBlock = some gg ∨ gg = W.heap.size + 1) →
        ∃ S', PI w z (.slice (some ⟨b, off, none⟩) l.length cap) l (pre ++ [x]) S' (W4.setCell ⟨z, 0, none⟩ (.slice (some ⟨gg, 0, none⟩) (pre.length + 1) cap4)) ∧ Mine w.heap.size S S' W (W4.setCell ⟨z, 0, none⟩ (.slice (some ⟨gg, 0, none⟩) (pre.length + 1) cap4)) := by
      intro gg cap4 W4 hown4 hgrow hat
      have hs4 := hgrow.size
      simp at hs4
      have far : ∀ k, k < W.heap.size → (Value.slice oa pre.length oc).ownBlock ≠ some k → W4.heap[k]? = W.heap[k]? := fun k hk hne => (hgrow.block k (by simp; omega) (Ne.symm hne)).trans (hba.block k hk)
      have q2 : Blk W4 z 29 [.slice oa pre.length oc] := (far z hzl h6).trans h2
      have q1 : Blk W4 w.heap.size 25 [.slice (some ⟨b, off, none⟩) l.length cap] := (far _ hsl h5).trans h1
      have hne : ∀ k, k ≠ z → (W4.setCell ⟨z, 0, none⟩ (.slice (some ⟨gg, 0, none⟩) (pre.length + 1) cap4)).heap[k]? = W4.heap[k]? := fun k hk => Below.heap_setCell W4 ⟨z, 0, none⟩ _ k hk
      have hgz : gg ≠ z := fun e => hat.elim (fun h => h6 (by rw [h, e])) (fun h => by omega)
      have hgw : gg ≠ w.heap.size := fun e => hat.elim (fun h => h5 (by rw [h, e])) (fun h => by omega)
      have hB4 : Below w.heap.size w W4 := Below.grown (h4.trans (hba.mono h4.size)) hgrow (by have := h4.size; simp; omega) (fun k e => (row_lt h3 e).1)
      have hlen : (pre ++ [x]).length = pre.length + 1 := by simp
      have hcs : cellsP (((pre ++ [x]).map Prod.fst).map (pairAt l)) = cellsP ((pre.map Prod.fst).map (pairAt l)) ++ [.int .i64 m.k, .int .i64 m.v] := by
        rw [List.map_append, List.map_append, List.map_singleton, List.map_singleton, cellsP_snoc']
        simp [pairAt, hm, RP.cells]
      refine ⟨fun k => k = w.heap.size ∨ k = z ∨ k = gg, ⟨some ⟨gg, 0, none⟩, cap4, ?_, (hne _ (by omega)).trans q1, ?_, ?_, by simpa [Value.ownBlock] using hgw, by simpa [Value.ownBlock] using hgz, hB4.setCell (p := ⟨z, 0, none⟩) (Nat.le_of_lt hzw) _⟩, ?_⟩
      · intro k
        simp [Value.ownBlock, eq_comm]
      · rw [hlen]; exact q2.set 0 _
      · rw [hlen, hcs]
        exact row_same hown4 (fun k hk => hne k (fun e => hgz (by have : gg = k := by simpa [Value.ownBlock] using hk
                                                                  omega)))
      · refine ⟨((hba.mono h4.size).grown hgrow (by have := h4.size; simp; omega) (fun k e => (row_lt h3 e).1)).setCell (p := ⟨z, 0, none⟩) (Nat.le_of_lt hzw) _, fun k hk hs => ?_, fun k hk hs => ?_⟩
        · have hkz : k ≠ z := fun e => hs ((hS k).2 (.inr (.inl e)))
          exact (hne k hkz).trans (far k hk (fun e => hs ((hS k).2 (.inr (.inr e)))))
        · rcases hs with hs | hs | hs
          · exact (hS k).2 (.inl hs)
          · exact (hS k).2 (.inr (.inl hs))
          · subst hs
            rcases hat with h | h
            · exact (hS k).2 (.inr (.inr h))
            · omega
    refine region_in (S := fun w' => w'.cell? ⟨w.heap.size, 0, none⟩ = some (.slice (some ⟨b, off, none⟩) l.length cap) ∧ w'.cell? ⟨b, off + x.1 * 8, none⟩ = some (.int .i64 m.k) ∧ w'.cell? ⟨b, off + x.1 * 8 + 1, none⟩ = some (.int .i64 m.v)) (by kernel_rfl) (by kernel_rfl) (fun ⟨_, _, h⟩ => h) ⟨c1, A1, A2⟩ (fun hHeld => ?_)
    refine wpAnyH_take (i := 1) (v := ?_) rfl (by kernel_rfl) (by kernel_rfl) (by kernel_rfl) (fun _ _ _ h => h) (Or.inl ⟨by rfl, ?_⟩) (by assumption) ?_
    rotate_left
    · intro w' hSw
      (try dsimp only at hSw)
      go_simp
      (try with_reducible rfl)
    simp only [Act.put, List.setIfInBounds_toArray, List.set_cons_zero, List.set_cons_succ, List.getElem_toArray, List.getElem_cons_zero, List.getElem_cons_succ]
    refine wpAnyH_take (i := 2) (v := ?_) rfl (by kernel_rfl) (by kernel_rfl) (by kernel_rfl) (fun _ _ _ h => h) (Or.inl ⟨by rfl, ?_⟩) (by assumption) ?_
    rotate_left
    · intro w' hSw
      (try dsimp only at hSw)
      go_simp
      (try with_reducible rfl)
    simp only [Act.put, List.setIfInBounds_toArray, List.set_cons_zero, List.set_cons_succ, List.getElem_toArray, List.getElem_cons_zero, List.getElem_cons_succ]
    refine wpAnyH_take (i := 3) (v := ?_) rfl (by kernel_rfl) (by kernel_rfl) (by kernel_rfl) (fun _ _ _ h => h) (Or.inl ⟨by rfl, ?_⟩) (by assumption) ?_
    rotate_left
    · intro w' hSw
      (try dsimp only at hSw)
      go_simp
      (try with_reducible rfl)
    simp only [Act.put, List.setIfInBounds_toArray, List.set_cons_zero, List.set_cons_succ, List.getElem_toArray, List.getElem_cons_zero, List.getElem_cons_succ]
    refine wpAnyH_take (i := 4) (v := ?_) rfl (by kernel_rfl) (by kernel_rfl) (by kernel_rfl) (fun _ _ _ h => h) (Or.inl ⟨by rfl, ?_⟩) (by assumption) ?_
    rotate_left
    · intro w' hSw
      (try dsimp only at hSw)
      go_simp
      (try with_reducible rfl)
    simp only [Act.put, List.setIfInBounds_toArray, List.set_cons_zero, List.set_cons_succ, List.getElem_toArray, List.getElem_cons_zero, List.getElem_cons_succ]
    refine wpAnyH_take (i := 5) (v := ?_) rfl (by kernel_rfl) (by kernel_rfl) (by kernel_rfl) (fun _ _ _ h => h) (Or.inl ⟨by rfl, ?_⟩) (by assumption) ?_
    rotate_left
    · intro w' hSw
      (try dsimp only at hSw)
      go_simp
      (try with_reducible rfl)
    simp only [Act.put, List.setIfInBounds_toArray, List.set_cons_zero, List.set_cons_succ, List.getElem_toArray, List.getElem_cons_zero, List.getElem_cons_succ]
    refine wpAnyH_take (i := 6) (v := ?_) rfl (by kernel_rfl) (by kernel_rfl) (by kernel_rfl) (fun _ _ _ h => h) (Or.inl ⟨by rfl, ?_⟩) (by assumption) ?_
    rotate_left
    · intro w' hSw
      (try dsimp only at hSw)
      go_simp
      (try with_reducible rfl)
    simp only [Act.put, List.setIfInBounds_toArray, List.set_cons_zero, List.set_cons_succ, List.getElem_toArray, List.getElem_cons_zero, List.getElem_cons_succ]
    refine wpAnyH_take (i := 7) (v := ?_) rfl (by kernel_rfl) (by kernel_rfl) (by kernel_rfl) (fun _ _ _ h => h) (Or.inl ⟨by rfl, ?_⟩) (by assumption) ?_
    rotate_left
    · intro w' hSw
      (try dsimp only at hSw)
      go_simp
      (try with_reducible rfl)
    simp only [Act.put, List.setIfInBounds_toArray, List.set_cons_zero, List.set_cons_succ, List.getElem_toArray, List.getElem_cons_zero, List.getElem_cons_succ]
    refine wpAnyH_take (i := 8) (v := ?_) rfl (by kernel_rfl) (by kernel_rfl) (by kernel_rfl) (fun _ _ _ h => h) (Or.inl ⟨by rfl, ?_⟩) (by assumption) ?_
    rotate_left
    · intro w' hSw
      (try dsimp only at hSw)
      go_simp
      (try with_reducible rfl)
    simp only [Act.put, List.setIfInBounds_toArray, List.set_cons_zero, List.set_cons_succ, List.getElem_toArray, List.getElem_cons_zero, List.getElem_cons_succ]
    refine wpAnyH_take (i := 9) (v := ?_) rfl (by kernel_rfl) (by kernel_rfl) (by kernel_rfl) (fun _ _ _ h => h) (Or.inl ⟨by rfl, ?_⟩) (by assumption) ?_
    rotate_left
    · intro w' hSw
      (try dsimp only at hSw)
      go_simp
      (try with_reducible rfl)
    simp only [Act.put, List.setIfInBounds_toArray, List.set_cons_zero, List.set_cons_succ, List.getElem_toArray, List.getElem_cons_zero, List.getElem_cons_succ]
    refine wpAnyH_take (i := 10) (v := ?_) rfl (by kernel_rfl) (by kernel_rfl) (by kernel_rfl) (fun _ _ _ h => h) (Or.inl ⟨by rfl, ?_⟩) (by assumption) ?_
    rotate_left
    · intro w' hSw
      (try dsimp only at hSw)
      go_simp
      (try with_reducible rfl)
    simp only [Act.put, List.setIfInBounds_toArray, List.set_cons_zero, List.set_cons_succ, List.getElem_toArray, List.getElem_cons_zero, List.getElem_cons_succ]
    refine wpAnyH_take (i := 11) (v := ?_) rfl (by kernel_rfl) (by kernel_rfl) (by kernel_rfl) (fun _ _ _ h => h) (Or.inl ⟨by rfl, ?_⟩) (by assumption) ?_
    rotate_left
    · intro w' hSw
      (try dsimp only at hSw)
      go_simp
      (try with_reducible rfl)
    simp only [Act.put, List.setIfInBounds_toArray, List.set_cons_zero, List.set_cons_succ, List.getElem_toArray, List.getElem_cons_zero, List.getElem_cons_succ]
    refine wpAnyH_ready (rs := [0, 12]) (by kernel_rfl) (by simp) ?_
    refine AllReadyH.cons rfl (fun K hK => ?_) (AllReadyH.cons rfl (fun K hK => ?_) AllReadyH.nil)
    · go_simp
      refine hK.out _ _ ⟨c1, A1, A2⟩ (fun hHeld2 => ?_)
      clear hK K
      try simp only [Act.put, List.setIfInBounds_toArray, List.set_cons_zero, List.set_cons_succ, List.getElem_toArray, List.getElem_cons_zero, List.getElem_cons_succ]
      refine wpAnyH_ready (rs := [12]) (by kernel_rfl) (by simp) ?_
      refine AllReadyH.cons rfl (fun K hK => ?_) AllReadyH.nil
      go_simp
      refine hK.out _ _ ⟨(hba.cell (p := ⟨w.heap.size, 0, none⟩) hsl).trans c1, (hba.cell (p := ⟨b, off + x.1 * 8, none⟩) hbl).trans A1, (hba.cell (p := ⟨b, off + x.1 * 8 + 1, none⟩) hbl).trans A2⟩ (fun hHeld2 => ?_)
      clear hK K
      try simp only [Act.put, List.setIfInBounds_toArray, List.set_cons_zero, List.set_cons_succ, List.getElem_toArray, List.getElem_cons_zero, List.getElem_cons_succ]
      refine wpAnyH_ready (rs := [13]) (by kernel_rfl) (by simp) ?_
      refine AllReadyH.cons rfl (fun K hK => ?_) AllReadyH.nil
      refine step_append_lies _ (by rfl) _ _ _ (by rfl) w.heap.size 49 ip _ 2 16 Try.underlying29 hi0 hz0 hz1' hz2 rfl (by omega) (.slice oa pre.length oc) pre.length (cellsP ((pre.map Prod.fst).map (pairAt l))) (by rfl) ((h3.alloc _).drew) ⟨W.heap.size, 0, none⟩ 1 1 [.int .i64 m.k, .int .i64 m.v] (by rfl) (by rfl) (World.news_of_block (cs := #[.int .i64 m.k, .int .i64 m.v]) (t := 49) (fr := (0, 0)) (heap_alloc_new W _)) (by simp [Value.oneCell']) (by omega) (by simp [maxLen]; omega) (by omega) (by have := h4.size; simp; omega) (W.heap.size + 1) (by simp) ?_
      intro gg cap4 W4 hown4 hgrow hat hlt4
      have hs4 := hgrow.size
      simp at hs4
      have far : ∀ k, k < W.heap.size → (Value.slice oa pre.length oc).ownBlock ≠ some k → W4.heap[k]? = W.heap[k]? := fun k hk hne => (hgrow.block k (by simp; omega) (Ne.symm hne)).trans (hba.block k hk)
      have q2 : Blk W4 z 29 [.slice oa pre.length oc] := (far z hzl h6).trans h2
      have q1 : Blk W4 w.heap.size 25 [.slice (some ⟨b, off, none⟩) l.length cap] := (far _ hsl h5).trans h1
      have q3 : ∀ o, W4.cell? ⟨b, o, none⟩ = W.cell? ⟨b, o, none⟩ := fun o => World.cell?_of_block (far b hbl hbrow)
      have d2 : W4.cell? ⟨z, 0, none⟩ = some (.slice oa pre.length oc) := by rw [q2.cell]; rfl
      have d1 : W4.cell? ⟨w.heap.size, 0, none⟩ = some (.slice (some ⟨b, off, none⟩) l.length cap) := by rw [q1.cell]; rfl
      have d3 : W4.frozen? ⟨z, 0, none⟩ = false := q2.free _
      refine hK.out _ _ ⟨d1, (q3 _).trans A1, (q3 _).trans A2⟩ (fun hHeld3 => ?_)
      clear hK K
      try simp only [Act.put, List.setIfInBounds_toArray, List.set_cons_zero, List.set_cons_succ, List.getElem_toArray, List.getElem_cons_zero, List.getElem_cons_succ]
      refine wpAnyH_ready (rs := [14]) (by kernel_rfl) (by simp) ?_
      refine AllReadyH.cons rfl (fun K hK => ?_) AllReadyH.nil
      go_simp
      have hne : ∀ k, k ≠ z → (W4.setCell ⟨z, 0, none⟩ (.slice (some ⟨gg, 0, none⟩) (pre.length + 1) cap4)).heap[k]? = W4.heap[k]? := fun k hk => Below.heap_setCell W4 ⟨z, 0, none⟩ _ k hk
      have e1 : (W4.setCell ⟨z, 0, none⟩ (.slice (some ⟨gg, 0, none⟩) (pre.length + 1) cap4)).cell? ⟨w.heap.size, 0, none⟩ = some (.slice (some ⟨b, off, none⟩) l.length cap) := (World.cell?_of_block (hne _ hwz)).trans d1
      have e2 : ∀ o, (W4.setCell ⟨z, 0, none⟩ (.slice (some ⟨gg, 0, none⟩) (pre.length + 1) cap4)).cell? ⟨b, o, none⟩ = W.cell? ⟨b, o, none⟩ := fun o => (World.cell?_of_block (hne b (by omega))).trans (q3 o)
      refine hK.out _ _ ⟨e1, (e2 _).trans A1, (e2 _).trans A2⟩ (fun hHeld4 => ?_)
      clear hK K
      try simp only [Act.put, List.setIfInBounds_toArray, List.set_cons_zero, List.set_cons_succ, List.getElem_toArray, List.getElem_cons_zero, List.getElem_cons_succ]
      refine wpAnyH_done (by kernel_rfl) ?_ _
      exact fin gg cap4 W4 hown4 hgrow hat
    · go_simp
      refine hK.out _ _ ⟨(hba.cell (p := ⟨w.heap.size, 0, none⟩) hsl).trans c1, (hba.cell (p := ⟨b, off + x.1 * 8, none⟩) hbl).trans A1, (hba.cell (p := ⟨b, off + x.1 * 8 + 1, none⟩) hbl).trans A2⟩ (fun hHeld2 => ?_)
      clear hK K
      try simp only [Act.put, List.setIfInBounds_toArray, List.set_cons_zero, List.set_cons_succ, List.getElem_toArray, List.getElem_cons_zero, List.getElem_cons_succ]
      refine wpAnyH_ready (rs := [0]) (by kernel_rfl) (by simp) ?_
      refine AllReadyH.cons rfl (fun K hK => ?_) AllReadyH.nil
      go_simp
      refine hK.out _ _ ⟨(hba.cell (p := ⟨w.heap.size, 0, none⟩) hsl).trans c1, (hba.cell (p := ⟨b, off + x.1 * 8, none⟩) hbl).trans A1, (hba.cell (p := ⟨b, off + x.1 * 8 + 1, none⟩) hbl).trans A2⟩ (fun hHeld2 => ?_)
      clear hK K
      try simp only [Act.put, List.setIfInBounds_toArray, List.set_cons_zero, List.set_cons_succ, List.getElem_toArray, List.getElem_cons_zero, List.getElem_cons_succ]
      refine wpAnyH_ready (rs := [13]) (by kernel_rfl) (by simp) ?_
      refine AllReadyH.cons rfl (fun K hK => ?_) AllReadyH.nil
      refine step_append_lies _ (by rfl) _ _ _ (by rfl) w.heap.size 49 ip _ 2 16 Try.underlying29 hi0 hz0 hz1' hz2 rfl (by omega) (.slice oa pre.length oc) pre.length (cellsP ((pre.map Prod.fst).map (pairAt l))) (by rfl) ((h3.alloc _).drew) ⟨W.heap.size, 0, none⟩ 1 1 [.int .i64 m.k, .int .i64 m.v] (by rfl) (by rfl) (World.news_of_block (cs := #[.int .i64 m.k, .int .i64 m.v]) (t := 49) (fr := (0, 0)) (heap_alloc_new W _)) (by simp [Value.oneCell']) (by omega) (by simp [maxLen]; omega) (by omega) (by have := h4.size; simp; omega) (W.heap.size + 1) (by simp) ?_
      intro gg cap4 W4 hown4 hgrow hat hlt4
      have hs4 := hgrow.size
      simp at hs4
      have far : ∀ k, k < W.heap.size → (Value.slice oa pre.length oc).ownBlock ≠ some k → W4.heap[k]? = W.heap[k]? := fun k hk hne => (hgrow.block k (by simp; omega) (Ne.symm hne)).trans (hba.block k hk)
      have q2 : Blk W4 z 29 [.slice oa pre.length oc] := (far z hzl h6).trans h2
      have q1 : Blk W4 w.heap.size 25 [.slice (some ⟨b, off, none⟩) l.length cap] := (far _ hsl h5).trans h1
      have q3 : ∀ o, W4.cell? ⟨b, o, none⟩ = W.cell? ⟨b, o, none⟩ := fun o => World.cell?_of_block (far b hbl hbrow)
      have d2 : W4.cell? ⟨z, 0, none⟩ = some (.slice oa pre.length oc) := by rw [q2.cell]; rfl
      have d1 : W4.cell? ⟨w.heap.size, 0, none⟩ = some (.slice (some ⟨b, off, none⟩) l.length cap) := by rw [q1.cell]; rfl
      have d3 : W4.frozen? ⟨z, 0, none⟩ = false := q2.free _
      refine hK.out _ _ ⟨d1, (q3 _).trans A1, (q3 _).trans A2⟩ (fun hHeld3 => ?_)
      clear hK K
      try simp only [Act.put, List.setIfInBounds_toArray, List.set_cons_zero, List.set_cons_succ, List.getElem_toArray, List.getElem_cons_zero, List.getElem_cons_succ]
      refine wpAnyH_ready (rs := [14]) (by kernel_rfl) (by simp) ?_
      refine AllReadyH.cons rfl (fun K hK => ?_) AllReadyH.nil
      go_simp
      have hne : ∀ k, k ≠ z → (W4.setCell ⟨z, 0, none⟩ (.slice (some ⟨gg, 0, none⟩) (pre.length + 1) cap4)).heap[k]? = W4.heap[k]? := fun k hk => Below.heap_setCell W4 ⟨z, 0, none⟩ _ k hk
      have e1 : (W4.setCell ⟨z, 0, none⟩ (.slice (some ⟨gg, 0, none⟩) (pre.length + 1) cap4)).cell? ⟨w.heap.size, 0, none⟩ = some (.slice (some ⟨b, off, none⟩) l.length cap) := (World.cell?_of_block (hne _ hwz)).trans d1
      have e2 : ∀ o, (W4.setCell ⟨z, 0, none⟩ (.slice (some ⟨gg, 0, none⟩) (pre.length + 1) cap4)).cell? ⟨b, o, none⟩ = W.cell? ⟨b, o, none⟩ := fun o => (World.cell?_of_block (hne b (by omega))).trans (q3 o)
      refine hK.out _ _ ⟨e1, (e2 _).trans A1, (e2 _).trans A2⟩ (fun hHeld4 => ?_)
      clear hK K
      try simp only [Act.put, List.setIfInBounds_toArray, List.set_cons_zero, List.set_cons_succ, List.getElem_toArray, List.getElem_cons_zero, List.getElem_cons_succ]
      refine wpAnyH_done (by kernel_rfl) ?_ _
      exact fin gg cap4 W4 hown4 hgrow hat
  case done =>
    rintro D S W hD ⟨oa, oc, hS, h1, h2, h3, h5, h6, h4⟩ hSD hK
    have c4 : W.cell? ⟨z, 0, none⟩ = some (.slice oa gs.length oc) := by rw [h2.cell]; rfl
    have hE := Lib.hid (show (W.putObj D (.deferred none)).ownsRow w.heap.size 49 2 (.slice oa gs.length oc) gs.length (cellsP ((gs.map Prod.fst).map (pairAt l))) ∧ Below w.heap.size w (W.putObj D (.deferred none)) from
      ⟨row_same h3 (fun k hk => World.putObj_heap_other (fun e => hSD ((hS D).2 (.inr (.inr (e ▸ hk)))))), h4.grown (grownBy_putObj' W D (.deferred none)) h4.size (fun j e => by cases e; omega)⟩)
    have HF := Lib.hid hf
    clear h1 h2 h3 h4 h5 h6 hS hSD hup hf
    gi_wp2
    refine ⟨by simp, .inl ⟨_, _, rfl, run_takeDeferred hK, ?_⟩⟩
    refine ⟨.slice oa gs.length oc, by simp [results, Try.f13, go_sem], ?_⟩
    rw [SaysP, HF.out, List.length_map, List.length_map]
    exact ⟨oa, oc, rfl, hE.out.1, hE.out.2⟩
  case stop =>
    rintro D q W hD hq h hK
    exact h.elim
theorem impl_PairsIn (v : Value) (l : List ND) (w : World) (h : NSl w v l) (hl : l.length ≤ 1048576) : Calls Try.prog 13 #[v] w (SaysP l w) := by
  rcases Bool.eq_false_or_eq_true (treeB l) with ht | ht
  · exact impl_pairs_go v l w h ht
  · exact impl_pairs_not v l w h hl ht
end Go.Proofs.Ytbbpnmdnnjbakaa
