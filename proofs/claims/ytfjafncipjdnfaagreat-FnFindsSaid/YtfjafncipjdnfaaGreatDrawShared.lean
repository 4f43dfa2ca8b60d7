import Derived.Test.YtfjafncipjdnfaaGreatDrawNode
namespace Go.Proofs.YtfjafncipjdnfaaGreat
open Go.ChangeShapes Go.WideShapes Go.ChangeAt Go.RowKit
set_option linter.unusedVariables false
set_option linter.unusedSimpArgs false
theorem But.grown {g : Nat} {w wr w5 : World} {o : Option Nat} (h : But g w wr) (hg : wr.grownBy w5 o) (ho : ∀ j, o = some j → w.heap.size ≤ j) : But g w w5 :=
  ⟨hg.os.trans h.os, hg.tape.trans h.tape, hg.output.trans h.output, Nat.le_trans h.size hg.size, fun k hk hne => (hg.block k (Nat.lt_of_lt_of_le hk h.size) (fun e => by have := ho k e.symm; omega)).trans (h.block k hk hne)⟩
theorem CurAt.grown {B g : Nat} {v : Value} {l : List Int} {w w' : World} {o : Option Nat} (h : CurAt B g v l w) (hg : w.grownBy w' o) (ho : ∀ j, o = some j → g < j) : CurAt B g v l w' := by
  have hB := h.1
  cases o with
  | none => exact h.below ((Below.refl _ _).grown hg (Nat.le_refl _) (fun j hj => by cases hj))
  | some j =>
    have hj := ho j rfl
    exact h.but (k := j) ⟨hg.os, hg.tape, hg.output, hg.size, fun k hk hne => hg.block k hk (fun e => hne (by cases e; rfl))⟩ (by omega) (by omega)
theorem XM {w1 w2 : World} {B g : Nat} {e : TypeId} {sz n : Nat} {v : Value} {cs : List Value} (h : w1.ownsRow B e sz v n cs) (hb : But g w1 w2) (hg : g < B) : w2.ownsRow B e sz v n cs := by
  rcases h with ⟨h1, h2 | ⟨k, cap, cur, hv, hk, hh, r⟩⟩
  · exact ⟨h1, .inl h2⟩
  · exact ⟨h1, .inr ⟨k, cap, cur, hv, hk, (hb.block k (Array.getElem?_eq_some_iff.1 hh).1 (by omega)).trans hh, r⟩⟩
def DrewI (B g D : Nat) (v : Value) (l : List Int) (w : World) (e : Ending) (w' : World) : Prop := ∃ (u : Value) (r : List Int), e = .returned u ∧ SlI w' u r ∧ r.length ≤ 16 ∧ (∀ k, u.ownBlock = some k → D ≤ k) ∧ CurAt B g v l w' ∧ But g w w'
theorem lP {w : World} {B n oc : Nat} {t : TypeId} {oa : Option Addr} {sz : Nat} {cs : List Value} (h : w.ownsRow B t sz (.slice oa n oc) n cs) (hn : 0 < n) : ∃ k, oa = some ⟨k, 0, none⟩ ∧ B ≤ k ∧ Own w (.slice (some ⟨k, 0, none⟩) n oc) k t sz n cs := by
  rcases id h with ⟨-, ⟨-, hv⟩ | ⟨k, cap, cur, hv, hb, -⟩⟩
  · omega
  · cases hv
    exact ⟨k, rfl, hb, iD h⟩
theorem aK (n : Nat) : (madeCells (Value.int .i64 0).cells (n * 1)).toList = AA (List.replicate n 0) := by
  have e : (Value.int .i64 0).cells = #[Value.int .i64 0] := rfl
  rw [e]
  apply List.ext_getElem
  · simp [madeCells, AA]
  · intro i h1 h2
    simp [madeCells, AA, Nat.mod_one]
theorem DrewI.mk' {B g D k : Nat} {v u : Value} {l r : List Int} {w w' : World} (hO : Own w' u k 2 1 r.length (AA r)) (hl : r.length ≤ 16) (hk : D ≤ k) (hc : CurAt B g v l w' ∧ But g w w') : DrewI B g D v l w (.returned u) w' := by
  refine ⟨u, r, rfl, hO.sl, hl, ?_, hc.1, hc.2⟩
  obtain ⟨cap, sp, rfl, -⟩ := hO
  intro j hj
  simp [Value.ownBlock] at hj
  omega
def DrewM (B g D : Nat) (v : Value) (l : List Int) (w : World) (e : Ending) (w' : World) : Prop := ∃ (k : Nat) (u : Value) (r : List Int), e = .returned u ∧ Own w' u k 2 1 r.length (AA r) ∧ r.length ≤ 16 ∧ D ≤ k ∧ CurAt B g v l w' ∧ But g w w'
theorem DrewM.mk' {B g D k : Nat} {v u : Value} {l r : List Int} {w w' : World} (hO : Own w' u k 2 1 r.length (AA r)) (hl : r.length ≤ 16) (hk : D ≤ k) (hc : CurAt B g v l w' ∧ But g w w') : DrewM B g D v l w (.returned u) w' := ⟨k, u, r, rfl, hO, hl, hk, hc.1, hc.2⟩
set_option maxRecDepth 100000 in
set_option maxHeartbeats 8000000 in
theorem ZI (B g : Nat) (v : Value) (l : List Int) (w : World) (h : CurAt B g v l w) :
    Calls Tryz.prog 59 #[.pointer (some ⟨g, 0, none⟩)] w (DrewM B g w.heap.size v l w) := by
  obtain ⟨i0, hi0, hz0, hz1, hz2⟩ := info_parts zH
  have hg := h.lt
  have H := Lib.hid h
  clear h
  go_enter Tryz.func59, Tryz.ntmps59
  go_wp2_with fail
  have hc0 := H.out.below ((Below.refl _ _).alloc (Nat.le_refl _) (.cells #[] 2))
  refine (KA B g v l 5 _ hc0 (by omega)).mono ?_
  rintro e w1 ⟨n, rfl, ⟨p0, p1⟩, hc1, hb1⟩
  have z0 : n + 1 ≤ 5 := by omega
  have hS1 : Hid (w1.ownsRow w.heap.size 2 1 (.slice (some ⟨w.heap.size, 0, none⟩) 0 0) 0 []) := Lib.hid (XM (lE _ _ (Below.refl _ _)) hb1 hg)
  have HC := Lib.hid (And.intro hc1 (((But.refl g w).alloc (.cells #[] 2)).trans hb1))
  clear hc0 hc1 hb1
  go_wp2
  go_loopw [3, 4] (fun u i wr => ∃ (oa : Option Addr) (oc : Nat) (r : List Int) (m : Int), u = .slice oa r.length oc ∧ i = iJ m ∧ 0 ≤ m ∧ m + r.length ≤ 5 ∧ 1 ≤ m + r.length ∧ Hid (wr.ownsRow w.heap.size 2 1 (.slice oa r.length oc) r.length (AA r)) ∧ Hid (CurAt B g v l wr ∧ But g w wr)) (fun _ i _ => (intOf i).toNat)
  case atStart => exact ⟨_, _, [], 1 + n, rfl, rfl, by omega, by simp; omega, by simp; omega, hS1, HC⟩
  case round =>
    obtain ⟨oa, oc, r, m, rfl, rfl, m0, m1, m2, hrow, hcc⟩ := hrel
    by_cases hm : 0 < m
    · have hm' : m > 0 := hm
      go_wp2_with fail
      refine (KA B g v l 9 _ hcc.out.1 (by omega)).mono ?_
      rintro e w2 ⟨x, rfl, ⟨q0, q1⟩, hc2, hb2⟩
      have hrow2 := Lib.hid (XM hrow.out hb2 hg)
      have hcc2 := Lib.hid (And.intro hc2 (hcc.out.2.trans hb2))
      have hz := hcc2.out.2.size
      clear hc2 hb2 hcc hrow
      go_wp2_with (first
        | (at_builtin; refine wpList_append_lies _ rfl _ _ 39 rfl w.heap.size 2 i0 (iJ 0) 1 8 GA hi0 hz0 hz1 hz2 rfl (by decide) (.slice oa r.length oc) r.length (AA r) rfl (hrow2.out.alloc _) ⟨w2.heap.size, 0, none⟩ 1 1 [iJ x] rfl rfl (cell_one_new _ _ _) (by simp [Value.oneCell']) (by omega) (by unfold maxLen; omega) (by omega) (by simp; omega) (w2.heap.size + 1) (by simp) ?_; intro g' cap' w5 hown' hg5 hat5 hgl5; go_frame)
        | go_in)
      refine ⟨⟨some ⟨g', 0, none⟩, cap', r ++ [x], m - 1, by simp, rfl, by omega, by simp; omega, by simp; omega, Lib.hid ?_, Lib.hid ⟨?_, ?_⟩⟩, by simp [intOf]; omega⟩
      · rw [zG]
        simpa using hown'
      · exact (hcc2.out.1.below ((Below.refl _ _).alloc (Nat.le_refl _) _)).grown hg5 (fun j hj => by have := (hrow2.out.lt j hj).1; omega)
      · exact (hcc2.out.2.alloc _).grown hg5 (fun j hj => (hrow2.out.lt j hj).1)
    · obtain rfl : m = 0 := by omega
      have hr : 0 < r.length := by omega
      obtain ⟨k, rfl, hk, hO⟩ := lP hrow.out hr
      have hlt := hO.lt
      have HO := Lib.hid hO
      clear hO hrow H HC hS1
      go_wp2_with fail
      refine (QC B g v l 8 _ hcc.out.1 (by omega)).mono ?_
      rintro e w2 ⟨b, rfl, hc2, hb2⟩
      have hO2 := HO.out.but hb2 (show k ≠ g by omega)
      have hB2 := hcc.out.2.trans hb2
      clear hcc HO
      cases b
      · go_wp2_with fail
        refine (QC B g v l 12 _ hc2 (by omega)).mono ?_
        rintro e w3 ⟨b, rfl, hc3, hb3⟩
        have hO3 := hO2.but hb3 (show k ≠ g by omega)
        have hB3 := hB2.trans hb3
        have HH := Lib.hid (And.intro hO3 (And.intro hc3 hB3))
        clear hO2 hB2 hb2 hc2 hb3
        cases b
        · go_wp2
          go_ret
          exact DrewM.mk' HH.out.1 (by omega) hk HH.out.2
        · go_wp2_with fail
          refine (KA B g v l 9 _ hc3 (by omega)).mono ?_
          rintro e w4 ⟨x, rfl, ⟨q0, q1⟩, hc4, hb4⟩
          obtain ⟨n, rfl⟩ := Int.eq_ofNat_of_zero_le q0
          have n9 : n ≤ 9 := by omega
          have hz := (HH.out.2.2.trans hb4).size
          have HH2 := Lib.hid (And.intro hc4 (HH.out.2.2.trans hb4))
          clear hc3 hO3 hB3 hc4 hb4
          go_wp2_with (first
            | (at_make; refine wpList_make_full _ rfl _ _ 39 rfl w.heap.size 2 i0 _ 1 GA hi0 hz0 hz1 _ _ _ _ n rfl rfl rfl rfl (by rw [hz2]; omega) (by unfold maxLen; omega) hz ?_; intro w5 hown hgrow)
            | go_in)
          go_ret
          rw [aK] at hown
          have hO5 : Own w5 (.slice (some ⟨w4.heap.size, 0, none⟩) n n) w4.heap.size 2 1 (List.replicate n (0 : Int)).length (AA (List.replicate n 0)) := by simpa using iD hown
          exact DrewM.mk' hO5 (by simp; omega) hz ⟨HH2.out.1.grown hgrow (fun j hj => by cases hj), HH2.out.2.grown hgrow (fun j hj => by cases hj)⟩
      · go_wp2_with fail
        refine (IG B g v l 100000 _ hc2 (by omega) (by omega)).mono ?_
        rintro e w3 ⟨x, rfl, hx, hc3, hb3⟩
        have hO3 := hO2.but hb3 (show k ≠ g by omega)
        have hB3 := hB2.trans hb3
        obtain ⟨A5, A6⟩ := aQ hO3 hr
        have hO4 := nP hO3 hr x
        have hs := But.set k 0 w3 (iJ x)
        have hc4 := hc3.but hs (by omega) (by have := hc3.1; omega)
        have hB4 : But g w (w3.setCell ⟨k, 0, none⟩ (iJ x)) := ⟨hs.os.trans hB3.os, hs.tape.trans hB3.tape, hs.output.trans hB3.output, Nat.le_trans hB3.size hs.size, fun j hj hne => (hs.block j (Nat.lt_of_lt_of_le hj hB3.size) (by omega)).trans (hB3.block j hj hne)⟩
        have HH := Lib.hid (And.intro hO4 (And.intro hc4 hB4))
        clear hO2 hB2 hb2 hc2 hb3 hO3 hB3 hO4 hs hc4 hB4 hc3
        have i1 : (0 : Int) < (r.length : Int) := by omega
        go_wp2_with fail
        refine (QC B g v l 12 _ HH.out.2.1 (by omega)).mono ?_
        rintro e w4 ⟨b, rfl, hc4, hb4⟩
        have hO5 := HH.out.1.but hb4 (show k ≠ g by omega)
        have HH := Lib.hid (And.intro hO5 (And.intro hc4 (HH.out.2.2.trans hb4)))
        clear hO5 hb4
        cases b
        · go_wp2
          go_ret
          exact DrewM.mk' HH.out.1 (by simp; omega) hk HH.out.2
        · go_wp2_with fail
          refine (KA B g v l 9 _ hc4 (by omega)).mono ?_
          rintro e w5 ⟨x, rfl, ⟨q0, q1⟩, hc5, hb5⟩
          obtain ⟨n, rfl⟩ := Int.eq_ofNat_of_zero_le q0
          have n9 : n ≤ 9 := by omega
          have hz := (HH.out.2.2.trans hb5).size
          have HH2 := Lib.hid (And.intro hc5 (HH.out.2.2.trans hb5))
          clear hc4 hc5 hb5
          go_wp2_with (first
            | (at_make; refine wpList_make_full _ rfl _ _ 39 rfl w.heap.size 2 i0 _ 1 GA hi0 hz0 hz1 _ _ _ _ n rfl rfl rfl rfl (by rw [hz2]; omega) (by unfold maxLen; omega) hz ?_; intro w6 hown hgrow)
            | go_in)
          go_ret
          rw [aK] at hown
          have hO5 : Own w6 (.slice (some ⟨w5.heap.size, 0, none⟩) n n) w5.heap.size 2 1 (List.replicate n (0 : Int)).length (AA (List.replicate n 0)) := by simpa using iD hown
          exact DrewM.mk' hO5 (by simp; omega) hz ⟨HH2.out.1.grown hgrow (fun j hj => by cases hj), HH2.out.2.grown hgrow (fun j hj => by cases hj)⟩
set_option maxRecDepth 100000
set_option maxHeartbeats 16000000
theorem Mem.nil' {w0 w : World} {L : List Bk} (h : Mem w0 w L) : Mem w0 w (L ++ []) := by rw [List.append_nil]; exact h
theorem Mem.adoptC {w00 w W : World} {L : List Bk} {i gc k : Nat} {t0 t : TypeId} {cs cs' c : List Value} (hM : Mem w00 w L) (hi : L[i]? = some (gc, t0, cs)) (h3 : Mem w00 W (L.set i (gc, t0, cs'))) (hk : w.heap.size ≤ k) (hb : Blk W k t c) : Mem w00 W ((k, t, c) :: L.set i (gc, t0, cs')) :=
  h3.adopt hk hb hM.size (fun b hb' => by
    rcases List.mem_or_eq_of_mem_set hb' with h | h
    · obtain ⟨j, hj, e⟩ := List.getElem_of_mem h
      obtain ⟨g', t', cs2⟩ := b;exact hM.lt j (by rw [List.getElem?_eq_getElem hj, e])
    · subst h
      exact hM.lt i hi)
theorem qH (va : Option Addr) (vc : Nat) (lb : List Int) (w0 : World) (hb0 : Bts w0.heap.size w0 (.slice va lb.length vc) lb) (hl4 : lb.length ≤ 4096) :
    Calls Tryz.prog 22 #[(.slice va lb.length vc)] w0 fun e w' => ∃ (l : List ND) (c : List Int) (a1 : Option Addr) (i1 : Nat) (a2 : Option Addr) (i2 : Nat) (E : List Bk), e = .returned (.agg #[.slice a1 l.length i1, .slice a2 c.length i2]) ∧ l.length ≤ 1048576 ∧ c.length ≤ 1048576 ∧ Mem w0 w' (E ++ []) ∧ ∀ W : World, (∀ b ∈ E, Blk W b.1 b.2.1 b.2.2) → NSl W (.slice a1 l.length i1) l ∧ SlI W (.slice a2 c.length i2) c := by
  obtain ⟨B, hcur⟩ : ∃ B, mM w0 B (.slice va lb.length vc) lb := ⟨_, Nat.le_refl _, hl4, hb0⟩;have hM := Mem.start w0
  go_enter Tryz.func22, Tryz.ntmps22
  refine sr fun _ cn1 => ?_;refine na hM [sZ, sZ] kA ?_;clear hM;intro g1 W1 hM;go_frame;refine wz cn1 ?_;clear cn1;refine sr fun _ cn2 => ?_;refine np (.slice va lb.length vc) ?_;refine nc (dK B (.slice va lb.length vc) lb _ (hcur.2.2.below hM.below) hcur.2.1 (Nat.le_trans hcur.1 hM.size)) ?_;rintro e W2 ⟨gc, rfl, hcg, hcA, hcb⟩;obtain ⟨-, -, -, ci0, ch0, hi0, hi1, hcB⟩ := hcA;have hci0 : UE lb ci0 ch0 := ⟨hi0, hi1⟩;replace hM := hM.got hcb hcg hcB;refine ⟨_, rfl, ?_⟩;go_frame;refine np (pt gc 0) ?_;go_frame;refine wz cn2 ?_;clear cn2;refine sr fun _ cn3 => ?_;refine np (pt gc 0) ?_;go_frame;refine nC #[pt gc 0] (mH B gc va vc lb ci0 ch0 _ _ _ hM hcur hci0) ?_;rintro e W3 ⟨dj, Ed, ua, xa, ya, za, cw, hw_, rfl, hWB, hWI, hcw, hM2⟩;clear hM;have hM := Mem.mid (A := (gc, 105, [.slice va lb.length vc, iJ (cw : Int), iJ hw_]) :: Ed) (B := [(g1, 41, [sZ, sZ])]) (C := []) hM2;clear hM2;obtain ⟨a1e, k1e, rfl⟩ := hWI.1.slice;obtain ⟨a2e, k2e, rfl⟩ := hWI.2.1.slice;obtain ⟨a3e, k3e, rfl⟩ := hWI.2.2.1.slice;obtain ⟨a4e, k4e, rfl⟩ := hWI.2.2.2.slice;have hRm := XA hWB;unfold xE at hRm;refine ⟨_, rfl, ?_⟩;go_frame;refine np (.agg #[.slice a1e dj.l.length k1e, .slice a2e dj.c.length k2e]) ?_;refine na hM [sZ, sZ] kA ?_;clear hM;intro g2 W4 hM;refine nS hM 0 rfl [.slice a1e dj.l.length k1e, .slice a2e dj.c.length k2e] cA rfl ?_;clear hM;intro W5 hM;refine wz cn3 ?_;clear cn3;refine wp_seq_k fun Kn4 cn4 => ?_;refine sr fun _ cn5 => ?_;refine np (pt gc 0) ?_;refine nc (QC B gc (.slice va lb.length vc) lb 4 _ (eB hM (i := 2) rfl hcur hcw) (by omega)) ?_;rintro e W6 ⟨bb'1, rfl, hcA, hcB⟩;obtain ⟨ci'2, ch'3, hc'4, hM3⟩ := OA hM (i := 2) rfl hcA hcB;clear hM hcA hcB; have hM := hM3; clear hM3;refine ⟨_, rfl, ?_⟩;go_frame;refine wz cn5 ?_;clear cn5;rcases tf (bb'1) with hx1 | hx1;rw [hx1];refine wp_cond_true rfl ?_;refine uA ?_;refine np (pt gc 0) ?_;go_frame;replace hM := hM.pull 2 rfl;refine nC #[pt gc 0] (OI B gc va vc lb ci'2 ch'3 _ _ _ hM hcur hc'4) ?_;rintro e W7 ⟨ln, bn, on, kn, En, cn, hn_, rfl, hln, hcn, hM2, hRd⟩;clear hM;have hM := Mem.mid (A := (gc, 105, [.slice va lb.length vc, iJ (cn : Int), iJ hn_]) :: En) (B := [(g2, 41, [.slice a1e dj.l.length k1e, .slice a2e dj.c.length k2e]), (g1, 41, [sZ, sZ])]) (C := (Ed ++ [])) hM2;clear hM2;refine ⟨_, rfl, ?_⟩;go_frame;refine np (pt g2 0) ?_;refine nk hM 0 rfl 0 (.slice (some ⟨bn, on, none⟩) ln.length kn) FE (by first | (simp; done) | exact Nat.le_of_ble_eq_true (by kernel_rfl)) ?_;clear hM;intro W8 hM;refine wz cn4 ?_;clear cn4;refine wp_seq_k fun Kn6 cn6 => ?_;refine sr fun _ cn7 => ?_;refine np (pt gc 0) ?_;refine nc (QC B gc (.slice va lb.length vc) lb 4 _ (eB hM (i := 2) rfl hcur hcn) (by omega)) ?_;rintro e W9 ⟨bb'5, rfl, hcA, hcB⟩;obtain ⟨ci'6, ch'7, hc'8, hM3⟩ := OA hM (i := 2) rfl hcA hcB;clear hM hcA hcB; have hM := hM3; clear hM3;refine ⟨_, rfl, ?_⟩;go_frame;refine wz cn7 ?_;clear cn7;rcases tf (bb'5) with hx2 | hx2;rw [hx2];refine wp_cond_true rfl ?_;refine uA ?_;refine np (pt gc 0) ?_;refine nc (ZI B gc (.slice va lb.length vc) lb _ (eB hM (i := 2) rfl hcur hc'8)) ?_;rintro e W10 ⟨kI, uI, rI, rfl, hOI, hlI, hkI, hcA, hcB⟩;obtain ⟨cI, spI, rfl, hI1, hI2, ⟨hI3, hI4⟩, hIb⟩ := hOI;obtain ⟨ci'9, ch'10, hc'11, hM3⟩ := OA hM (i := 2) rfl hcA hcB;replace hM3 := hM.adoptC (i := 2) rfl hM3 hkI hIb;clear hM hcA hcB; have hM := hM3; clear hM3;refine ⟨_, rfl, ?_⟩;go_frame;refine np (pt g2 1) ?_;refine nk hM 1 rfl 1 (sa kI rI.length cI) nK (by first | (simp; done) | exact Nat.le_of_ble_eq_true (by kernel_rfl)) ?_;clear hM;intro W11 hM;refine wz cn6 ?_;clear cn6;refine sr fun _ cn8 => ?_;refine nl hM 1 rfl eA cA ?_;refine nS hM 2 rfl [.slice (some ⟨bn, on, none⟩) ln.length kn, sa kI rI.length cI] cA rfl ?_
  clear hM;intro W12 hM;refine wz cn8 ?_;clear cn8;refine wp_ret ?_;exact bodyPost_ret (lB rfl hM 2 rfl rfl eA cA) rfl ⟨ln, rI, _, _, _, _, _, rfl, by omega, by omega, hM.nil', fun W hW => ⟨(hRd W (fun b hb => hW b (List.mem_append_right [_, _, _, _] (List.mem_append_left _ hb)))), (kB (hW _ (List.mem_of_getElem? (i := 0) rfl)) hI1 hI2)⟩⟩;rw [hx2];refine wp_cond_false rfl ?_;refine wp_skip ?_;refine cn6 _ _ ?_;clear cn6;refine sr fun _ cn8 => ?_;refine nl hM 0 rfl eA cA ?_;refine nS hM 1 rfl [.slice (some ⟨bn, on, none⟩) ln.length kn, .slice a2e dj.c.length k2e] cA rfl ?_;clear hM;intro W10 hM;refine wz cn8 ?_;clear cn8;refine wp_ret ?_;exact bodyPost_ret (lB rfl hM 1 rfl rfl eA cA) rfl ⟨ln, dj.c, _, _, _, _, _, rfl, by omega, by omega, hM.nil', fun W hW => ⟨(hRd W (fun b hb => hW b (List.mem_append_right [_, _, _] (List.mem_append_left _ hb)))), (hWI.2.1.sl (w0 := w0) (fun b hb => ⟨(hM.mem (List.mem_append_right [_, _, _] (List.mem_append_right _ (List.mem_append_left _ hb)))).1, hW b (List.mem_append_right [_, _, _] (List.mem_append_right _ (List.mem_append_left _ hb)))⟩))⟩⟩;rw [hx1];refine wp_cond_false rfl ?_;refine wp_skip ?_;refine cn4 _ _ ?_;clear cn4;refine wp_seq_k fun Kn6 cn6 => ?_;refine sr fun _ cn7 => ?_;refine np (pt gc 0) ?_;refine nc (QC B gc (.slice va lb.length vc) lb 4 _ (eB hM (i := 2) rfl hcur hc'4) (by omega)) ?_;rintro e W7 ⟨bb'5, rfl, hcA, hcB⟩;obtain ⟨ci'6, ch'7, hc'8, hM3⟩ := OA hM (i := 2) rfl hcA hcB;clear hM hcA hcB; have hM := hM3; clear hM3;refine ⟨_, rfl, ?_⟩;go_frame;refine wz cn7 ?_;clear cn7;rcases tf (bb'5) with hx3 | hx3;rw [hx3];refine wp_cond_true rfl ?_;refine uA ?_;refine np (pt gc 0) ?_;refine nc (ZI B gc (.slice va lb.length vc) lb _ (eB hM (i := 2) rfl hcur hc'8)) ?_;rintro e W8 ⟨kI, uI, rI, rfl, hOI, hlI, hkI, hcA, hcB⟩;obtain ⟨cI, spI, rfl, hI1, hI2, ⟨hI3, hI4⟩, hIb⟩ := hOI;obtain ⟨ci'9, ch'10, hc'11, hM3⟩ := OA hM (i := 2) rfl hcA hcB;replace hM3 := hM.adoptC (i := 2) rfl hM3 hkI hIb;clear hM hcA hcB; have hM := hM3; clear hM3;refine ⟨_, rfl, ?_⟩;go_frame;refine np (pt g2 1) ?_;refine nk hM 1 rfl 1 (sa kI rI.length cI) nK (by first | (simp; done) | exact Nat.le_of_ble_eq_true (by kernel_rfl)) ?_;clear hM;intro W9 hM;refine wz cn6 ?_;clear cn6;refine sr fun _ cn8 => ?_;refine nl hM 1 rfl eA cA ?_;refine nS hM 2 rfl [.slice a1e dj.l.length k1e, sa kI rI.length cI] cA rfl ?_;clear hM;intro W10 hM;refine wz cn8 ?_;clear cn8;refine wp_ret ?_;exact bodyPost_ret (lB rfl hM 2 rfl rfl eA cA) rfl ⟨dj.l, rI, _, _, _, _, _, rfl, by omega, by omega, hM.nil', fun W hW => ⟨(hWI.1.sl (w0 := w0) (fun b hb => ⟨(hM.mem (List.mem_append_right [_, _, _, _] (List.mem_append_left _ hb))).1, hW b (List.mem_append_right [_, _, _, _] (List.mem_append_left _ hb))⟩)), (kB (hW _ (List.mem_of_getElem? (i := 0) rfl)) hI1 hI2)⟩⟩;rw [hx3];refine wp_cond_false rfl ?_;refine wp_skip ?_;refine cn6 _ _ ?_;clear cn6;refine sr fun _ cn8 => ?_;refine nl hM 0 rfl eA cA ?_;refine nS hM 1 rfl [.slice a1e dj.l.length k1e, .slice a2e dj.c.length k2e] cA rfl ?_;clear hM;intro W8 hM;refine wz cn8 ?_;clear cn8;refine wp_ret ?_;exact bodyPost_ret (lB rfl hM 1 rfl rfl eA cA) rfl ⟨dj.l, dj.c, _, _, _, _, _, rfl, by omega, by omega, hM.nil', fun W hW => ⟨(hWI.1.sl (w0 := w0) (fun b hb => ⟨(hM.mem (List.mem_append_right [_, _, _] (List.mem_append_left _ hb))).1, hW b (List.mem_append_right [_, _, _] (List.mem_append_left _ hb))⟩)), (hWI.2.1.sl (w0 := w0) (fun b hb => ⟨(hM.mem (List.mem_append_right [_, _, _] (List.mem_append_left _ hb))).1, hW b (List.mem_append_right [_, _, _] (List.mem_append_left _ hb))⟩))⟩⟩
end Go.Proofs.YtfjafncipjdnfaaGreat
