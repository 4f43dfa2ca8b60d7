/- A drawn world: the model. -/
import Derived.Test.YtbfndoajchibbaaGreatShort
import Derived.Test.YtbfndoajchibbaaGreatShort2
import Derived.Test.YtbfndoajchibbaaGreatNewW
import Derived.Test.YtbfndoajchibbaaGreatDraw5b
namespace Go.Proofs.YtbfndoajchibbaaGreat
open Go.ChangeShapes Go.WideShapes Go.ChangeAt Go.RowKit
set_option linter.unusedVariables false
set_option maxRecDepth 100000
set_option maxHeartbeats 16000000
set_option linter.unusedSimpArgs false

/-- A cursor's cells: where it stands, what it has mixed. -/
def CurI (lb : List Int) (ci : Nat) (ch : Int) : Prop := ci ≤ lb.length ∧ In64 ch
/-- The bytes that a cursor reads lie in memory that came in. -/
def CurW (w00 : World) (B : Nat) (v : Value) (lb : List Int) : Prop := B ≤ w00.heap.size ∧ lb.length ≤ 4096 ∧ Bts B w00 v lb
theorem cur_at {w00 w : World} {L : List Bk} {B gc i ci : Nat} {v : Value} {lb : List Int} {ch : Int} (hM : Mem w00 w L) (hi : L[i]? = some (gc, 53, [v, .int .i64 (ci : Int), .int .i64 ch])) (h : CurW w00 B v lb) (hc : CurI lb ci ch) : CurAt B gc v lb w :=
  ⟨Nat.le_trans h.1 (hM.base i hi), h.2.1, h.2.2.below hM.below, ci, ch, hc.1, hc.2, hM.blk i hi⟩
theorem cur_back {w00 w W : World} {L : List Bk} {B gc i : Nat} {v : Value} {lb : List Int} {cs : List Value} (hM : Mem w00 w L) (hi : L[i]? = some (gc, 53, cs)) (hA : CurAt B gc v lb W) (hB : But gc w W) : ∃ (ci : Nat) (ch : Int), CurI lb ci ch ∧ Mem w00 W (L.set i (gc, 53, [v, .int .i64 (ci : Int), .int .i64 ch])) := by
  obtain ⟨-, -, -, ci, ch, h1, h2, h3⟩ := hA
  exact ⟨ci, ch, ⟨h1, h2⟩, hM.but i hi hB h3⟩
theorem soft_cell {w : World} {g : Nat} {t : TypeId} {v : Value} (h : ∃ (i k : Int), Blk w g t [v, .int .i64 i, .int .i64 k]) : w.cell? ⟨g, 0, none⟩ = some v := by
  obtain ⟨i, k, h⟩ := h
  exact h.cell 0
theorem Mem.dropM {w0 w : World} {A B C D : List Bk} (h : Mem w0 w (B ++ (A ++ (C ++ D)))) : Mem w0 w (B ++ (A ++ D)) := by
  have h1 : Mem w0 w ((B ++ A) ++ (C ++ D)) := by rw [List.append_assoc]; exact h
  have h2 := (Mem.mid (A := B ++ A) (B := C) (C := D) h1).tail
  rw [← List.append_assoc]
  exact h2
/-- A world that is drawn, right. -/
def DrewW (w00 : World) (gc : Nat) (v : Value) (lb : List Int) (L : List Bk) (e : Ending) (w' : World) : Prop :=
  ∃ (d : WD) (E : List Bk) (u x y z : Value) (ci : Nat) (ch : Int), e = .returned (.agg #[u, x, y, z, .int .i64 d.now]) ∧ worldB d = true ∧ WorldIn E d u x y z ∧ CurI lb ci ch ∧ Mem w00 w' ((gc, 53, [v, .int .i64 (ci : Int), .int .i64 ch]) :: (E ++ L))
theorem Mem.keep1 {w0 w : World} {A C : List Bk} {b : Bk} (h : Mem w0 w (b :: (A ++ C))) : Mem w0 w (b :: C) := Mem.tail (E := A) (Mem.mid (A := [b]) (B := A) (C := C) h)

theorem spec_l13Draw (B gc : Nat) (va : Option Addr) (vc : Nat) (lb : List Int) (ci0 : Nat) (ch0 : Int) (L : List Bk) (w00 w0 : World) (hM0 : Mem w00 w0 ((gc, 53, [(.slice va lb.length vc), .int .i64 (ci0 : Int), .int .i64 ch0]) :: L)) (hcur : CurW w00 B (.slice va lb.length vc) lb) (hci0 : CurI lb ci0 ch0) :
    Calls Tryz.prog 30 #[.pointer (some ⟨gc, 0, none⟩)] w0 (DrewW w00 gc (.slice va lb.length vc) lb L) := by
  have hlb := hcur.2.1
  have hM := hM0
  go_enter Tryz.func30, Tryz.ntmps30
  refine wp_seq_k fun _ cn1 => wl_region ?_
  refine na hM [.slice none 0 0, .slice none 0 0, .slice none 0 0, .slice none 0 0, .int .i64 0] Z_impl_World ?_
  clear hM; intro g1 W1 hM
  go_frame
  refine wl_nil (cn1 _ _ ?_)
  clear cn1
  refine wp_seq_k fun _ cn2 => wl_region ?_
  refine np (.pointer (some ⟨gc, 0, none⟩)) ?_
  refine nc (l1Below_any B gc (.slice va lb.length vc) lb 4 _ (cur_at hM (i := 1) rfl hcur hci0) (by omega)) ?_
  rintro e W2 ⟨rr'1, rfl, hr'2, hcA, hcB⟩
  obtain ⟨ci'3, ch'4, hc'5, hM3⟩ := cur_back hM (i := 1) rfl hcA hcB
  clear hM hcA hcB; have hM := hM3; clear hM3
  replace hr'2 : (0 ≤ rr'1 ∧ (rr'1 < 4 ∨ rr'1 = 0)) := hr'2
  refine ⟨_, rfl, ?_⟩
  go_frame
  refine nI (1 + rr'1) ?_
  refine nc (spec_NewWorldS (1 + rr'1) (by omega) (by omega) _) ?_
  rintro e W3 ⟨Ew_6, uw_6, xw_6, yw_6, zw_6, rfl, hWw_6, hM2⟩
  replace hM := Mem.mid (B := [(g1, 59, [.slice none 0 0, .slice none 0 0, .slice none 0 0, .slice none 0 0, .int .i64 0]), (gc, 53, [.slice va lb.length vc, .int .i64 (ci'3 : Int), .int .i64 ch'4])]) (hM.join hM2)
  clear hM2
  obtain ⟨b0w_6, c0w_6, rfl⟩ := hWw_6.1.slice
  obtain ⟨b1w_6, c1w_6, rfl⟩ := hWw_6.2.1.slice
  obtain ⟨b2w_6, c2w_6, rfl⟩ := hWw_6.2.2.1.slice
  obtain ⟨b3w_6, c3w_6, rfl⟩ := hWw_6.2.2.2.slice
  refine ⟨_, rfl, ?_⟩
  go_frame
  refine np (.tuple #[.agg #[.slice b0w_6 ((newW ((1 + rr'1)).toNat).l.length) c0w_6, .slice b1w_6 ((newW ((1 + rr'1)).toNat).c.length) c1w_6, .slice b2w_6 ((newW ((1 + rr'1)).toNat).hs.length) c2w_6, .slice b3w_6 ((newW ((1 + rr'1)).toNat).ds.length) c3w_6, .int .i64 ((newW ((1 + rr'1)).toNat).now)], .bool true]) ?_
  refine np (.agg #[.slice b0w_6 ((newW ((1 + rr'1)).toNat).l.length) c0w_6, .slice b1w_6 ((newW ((1 + rr'1)).toNat).c.length) c1w_6, .slice b2w_6 ((newW ((1 + rr'1)).toNat).hs.length) c2w_6, .slice b3w_6 ((newW ((1 + rr'1)).toNat).ds.length) c3w_6, .int .i64 ((newW ((1 + rr'1)).toNat).now)]) ?_
  refine np (.bool true) ?_
  refine na hM [.slice none 0 0, .slice none 0 0, .slice none 0 0, .slice none 0 0, .int .i64 0] Z_impl_World ?_
  clear hM; intro g2 W4 hM
  refine nS hM 0 rfl [.slice b0w_6 ((newW ((1 + rr'1)).toNat).l.length) c0w_6, .slice b1w_6 ((newW ((1 + rr'1)).toNat).c.length) c1w_6, .slice b2w_6 ((newW ((1 + rr'1)).toNat).hs.length) c2w_6, .slice b3w_6 ((newW ((1 + rr'1)).toNat).ds.length) c3w_6, .int .i64 ((newW ((1 + rr'1)).toNat).now)] I_impl_World rfl ?_
  clear hM; intro W5 hM
  refine np (.bool true) ?_
  go_frame
  refine wl_nil (cn2 _ _ ?_)
  clear cn2
  refine wp_seq_k fun Kn3 cn3 => ?_
  refine wp_seq_k fun Kn4 cn4 => ?_
  refine wa_start (fun w => Below w00.heap.size w00 w ∧ (∃ (i h : Int), Blk w gc 53 [(.slice va lb.length vc), .int .i64 i, .int .i64 h])) 11 rfl (by kernel_rfl) ?_
  replace hM := hM.drew
  refine wt 0 (some 15) (.pointer (some ⟨gc, 0, none⟩)) ⟨hM.below, ⟨_, _, hM.blk 2 rfl⟩⟩ ?_
  refine wt 1 (some 16) (.pointer (some ⟨gc, 0, none⟩)) ⟨hM.below, ⟨_, _, hM.blk 2 rfl⟩⟩ ?_
  refine wt 2 (some 17) (.pointer (some ⟨gc, 0, none⟩)) ⟨hM.below, ⟨_, _, hM.blk 2 rfl⟩⟩ ?_
  go_frame
  refine wq 3 (some 18) (.slice va lb.length vc) ⟨hM.below, ⟨_, _, hM.blk 2 rfl⟩⟩ rfl (fun w hS => r_cell 22 _ rfl ⟨gc, 0, none⟩ rfl Tryz.underlying22 rfl (soft_cell hS.2)) ?_
  refine wt 4 (some 19) (.int .i64 (lb.length : Int)) ⟨hM.below, ⟨_, _, hM.blk 2 rfl⟩⟩ ?_
  go_frame
  refine wq 5 (some 20) (.int .i64 (3 + (lb.length : Int))) ⟨hM.below, ⟨_, _, hM.blk 2 rfl⟩⟩ rfl (fun w hS => r_int (n := 3 + (lb.length : Int)) (by kernel_rfl) (by omega) (by omega)) ?_
  refine wt 6 (some 21) (.pointer (some ⟨gc, 0, none⟩)) ⟨hM.below, ⟨_, _, hM.blk 2 rfl⟩⟩ ?_
  go_frame
  refine wn 7 ?_
  refine oc (some 22) (l1Below_any B gc (.slice va lb.length vc) lb 40 _ (cur_at hM (i := 2) rfl hcur hc'5) (by omega)) ?_
  rintro e W6 ⟨rr'7, rfl, hr'8, hcA, hcB⟩
  obtain ⟨ci'9, ch'10, hc'11, hM3⟩ := cur_back hM (i := 2) rfl hcA hcB
  clear hM hcA hcB; have hM := hM3; clear hM3
  replace hr'8 : (0 ≤ rr'7 ∧ (rr'7 < 40 ∨ rr'7 = 0)) := hr'8
  refine ⟨_, rfl, wk ⟨hM.below, ⟨_, _, hM.blk 2 rfl⟩⟩ fun hs => ?_⟩
  go_frame
  refine wq 8 (some 23) (.int .i64 (10 + rr'7)) hs rfl (fun w hS => r_int (n := 10 + rr'7) (by kernel_rfl) (by omega) (by omega)) ?_
  go_frame
  refine wn 9 ?_
  refine oc (some 24) (l1Min_any (3 + (lb.length : Int)) (10 + rr'7) _) ?_
  rintro e W7 ⟨rfl, rfl⟩
  refine ⟨_, rfl, wk ⟨hM.below, ⟨_, _, hM.blk 2 rfl⟩⟩ fun hs => ?_⟩
  go_frame
  refine wt 10 (some 5) (.int .i64 (min (3 + (lb.length : Int)) (10 + rr'7))) hs ?_
  go_frame
  refine wa_done (by kernel_rfl) ?_
  refine cn4 _ _ ?_
  clear cn4
  refine wp_block ?_
  refine wp_loop (fun act w => ∃ (nn : Int) (dj : WD) (E : List Bk) (ua xa ya za : Value) (ci : Nat) (ch : Int) (U1 : Nat → Value), act = ⟨#[.pointer (some ⟨gc, 0, none⟩), undef, .pointer (some ⟨g1, 0, none⟩), .pointer (some ⟨g2, 0, none⟩), .bool true, .int .i64 nn, (U1 0), (U1 1), .tuple #[.agg #[.slice b0w_6 ((newW ((1 + rr'1)).toNat).l.length) c0w_6, .slice b1w_6 ((newW ((1 + rr'1)).toNat).c.length) c1w_6, .slice b2w_6 ((newW ((1 + rr'1)).toNat).hs.length) c2w_6, .slice b3w_6 ((newW ((1 + rr'1)).toNat).ds.length) c3w_6, .int .i64 ((newW ((1 + rr'1)).toNat).now)], .bool true], .pointer (some ⟨gc, 0, none⟩), .int .i64 rr'1, .int .i64 (1 + rr'1), .tuple #[.agg #[.slice b0w_6 ((newW ((1 + rr'1)).toNat).l.length) c0w_6, .slice b1w_6 ((newW ((1 + rr'1)).toNat).c.length) c1w_6, .slice b2w_6 ((newW ((1 + rr'1)).toNat).hs.length) c2w_6, .slice b3w_6 ((newW ((1 + rr'1)).toNat).ds.length) c3w_6, .int .i64 ((newW ((1 + rr'1)).toNat).now)], .bool true], .agg #[.slice b0w_6 ((newW ((1 + rr'1)).toNat).l.length) c0w_6, .slice b1w_6 ((newW ((1 + rr'1)).toNat).c.length) c1w_6, .slice b2w_6 ((newW ((1 + rr'1)).toNat).hs.length) c2w_6, .slice b3w_6 ((newW ((1 + rr'1)).toNat).ds.length) c3w_6, .int .i64 ((newW ((1 + rr'1)).toNat).now)], .bool true, .pointer (some ⟨gc, 0, none⟩), .pointer (some ⟨gc, 0, none⟩), .pointer (some ⟨gc, 0, none⟩), .slice va lb.length vc, .int .i64 (lb.length : Int), .int .i64 (3 + (lb.length : Int)), .pointer (some ⟨gc, 0, none⟩), .int .i64 rr'7, .int .i64 (10 + rr'7), .int .i64 (min (3 + (lb.length : Int)) (10 + rr'7)), (U1 2), (U1 3), (U1 4), (U1 5), (U1 6), (U1 7), (U1 8), (U1 9), (U1 10), (U1 11), (U1 12), (U1 13), (U1 14), (U1 15), (U1 16), (U1 17), (U1 18), (U1 19), (U1 20), (U1 21), (U1 22), (U1 23), (U1 24), (U1 25), (U1 26), (U1 27), (U1 28), (U1 29), (U1 30), (U1 31), (U1 32), (U1 33), (U1 34), (U1 35), (U1 36), (U1 37), undef], []⟩ ∧ Mem w00 w ((g2, 59, [ua, xa, ya, za, .int .i64 dj.now]) :: (g1, 59, [.slice none 0 0, .slice none 0 0, .slice none 0 0, .slice none 0 0, .int .i64 0]) :: (gc, 53, [.slice va lb.length vc, .int .i64 (ci : Int), .int .i64 ch]) :: (E ++ L)) ∧ (worldB dj = true ∧ WorldIn E dj ua xa ya za ∧ CurI lb ci ch ∧ nn ≤ 100000)) (fun act _ => (intOf (act.tmps.getD 5 undef)).toNat) ?_ ?_
  exact ⟨(min (3 + (lb.length : Int)) (10 + rr'7)), (newW ((1 + rr'1)).toNat), Ew_6, .slice b0w_6 ((newW ((1 + rr'1)).toNat).l.length) c0w_6, .slice b1w_6 ((newW ((1 + rr'1)).toNat).c.length) c1w_6, .slice b2w_6 ((newW ((1 + rr'1)).toNat).hs.length) c2w_6, .slice b3w_6 ((newW ((1 + rr'1)).toNat).ds.length) c3w_6, ci'9, ch'10, (fun i => [undef, undef, undef, undef, undef, undef, undef, undef, undef, undef, undef, undef, undef, undef, undef, undef, undef, undef, undef, undef, undef, undef, undef, undef, undef, undef, undef, undef, undef, undef, undef, undef, undef, undef, undef, undef, undef, undef].getD i undef), rfl, hM, newW_world (by omega) (by omega), hWw_6, hc'11, by omega⟩
  clear hM
  rintro act w ⟨nn, dj, E, ua, xa, ya, za, ci, ch, U1, rfl, hM, hWB, hWI, hci, hnn⟩
  refine wp_seq_k fun Kn5 cn5 => ?_
  refine wp_seq_k fun Kn6 cn6 => ?_
  obtain ⟨hLj, hCj, hHj, hnj⟩ := world_ne hWB
  have hHp : 0 < dj.hs.length := List.length_pos_iff.2 hHj
  have hRm := worldB_room hWB
  unfold Room at hRm
  obtain ⟨g3e, k3e, p3e, rfl, c3a, c3b, hE3⟩ := hWI.2.2.1.open hHp
  obtain ⟨a1e, k1e, rfl⟩ := hWI.1.slice
  obtain ⟨a2e, k2e, rfl⟩ := hWI.2.1.slice
  obtain ⟨a4e, k4e, rfl⟩ := hWI.2.2.2.slice
  refine wl_region ?_
  refine np (.int .i64 nn) ?_
  refine np (.bool (decide (nn > 0))) ?_
  go_frame
  refine wl_nil (cn6 _ _ ?_)
  clear cn6
  rcases tf (decide (nn > 0)) with hx1 | hx1
  rw [hx1]
  have hn0 : nn > 0 := of_decide_eq_true hx1
  refine wp_cond_true rfl ?_
  refine wp_skip ?_
  refine cn5 _ _ ?_
  clear cn5
  refine wp_seq_k fun Kn7 cn7 => ?_
  refine wp_block ?_
  refine wp_seq_k fun _ cn8 => wl_region ?_
  refine np (.pointer (some ⟨gc, 0, none⟩)) ?_
  refine np (.pointer (some ⟨g2, 2, none⟩)) ?_
  refine ng hM 0 rfl 2 Tryz.underlying56 rfl ?_
  refine np (.int .i64 (dj.hs.length : Int)) ?_
  refine nc (l1Below_any B gc (.slice va lb.length vc) lb (dj.hs.length : Int) _ (cur_at hM (i := 2) rfl hcur hci) (by omega)) ?_
  rintro e W8 ⟨rr'12, rfl, hr'13, hcA, hcB⟩
  obtain ⟨ci'14, ch'15, hc'16, hM3⟩ := cur_back hM (i := 2) rfl hcA hcB
  clear hM hcA hcB; have hM := hM3; clear hM3
  replace hr'13 : (0 ≤ rr'12 ∧ (rr'12 < (dj.hs.length : Int) ∨ rr'12 = 0)) := hr'13
  refine ⟨_, rfl, ?_⟩
  go_frame
  refine np (.int .i64 rr'12) ?_
  go_frame
  refine wl_nil (cn8 _ _ ?_)
  clear cn8
  refine wp_seq_k fun Kn9 cn9 => ?_
  refine wp_seq_k fun Kn10 cn10 => ?_
  obtain ⟨kr_17, hkkr_17, hlkr_17⟩ : ∃ k : Nat, rr'12 = (k : Int) ∧ k < dj.hs.length := ⟨(rr'12).toNat, by omega, by omega⟩
  obtain ⟨hkr_17, hhkr_17⟩ : ∃ h, dj.hs[kr_17]? = some h := ⟨_, List.getElem?_eq_getElem hlkr_17⟩
  refine wl_region ?_
  refine np (.pointer (some ⟨g2, 2, none⟩)) ?_
  refine ng hM 0 rfl 2 Tryz.underlying56 rfl ?_
  refine np (.int .i64 rr'12) ?_
  go_frame
  refine wl_index (by kernel_rfl) 56 73 _ _ rfl g3e 0 dj.hs.length k3e 17 kr_17 rfl rfl hkkr_17 (by omega) Tryz.underlying56 I_impl_Hand ?_
  go_frame
  refine np (.pointer (some ⟨g3e, 0 + kr_17 * 17, none⟩)) ?_
  go_frame
  refine wl_cell (by kernel_rfl) 2 _ rfl ⟨g3e, 0 + kr_17 * 17, none⟩ rfl Tryz.underlying2 rfl (e_row hM (List.mem_append_right [_, _, _] (List.mem_append_left _ hE3)) hhkr_17 0 _ rfl) ?_
  go_frame
  refine np (.bool (hkr_17.at_ == 0)) ?_
  go_frame
  refine wl_nil (cn10 _ _ ?_)
  clear cn10
  rcases tf ((hkr_17.at_ == 0)) with hx2 | hx2
  rw [hx2]
  refine wp_cond_true rfl ?_
  refine wp_seq_k fun Kn11 cn11 => ?_
  refine wa_join (fun act W => ∃ (jj : Nat) (ci'22 : Nat) (ch'23 : Int) (cc'18 : Int) (kk'19 : Int) (yy'20 : Int) (Ew_25 : List Bk) (b0w_25 : Option Addr) (b1w_25 : Option Addr) (b2w_25 : Option Addr) (b3w_25 : Option Addr) (c0w_25 : Nat) (c1w_25 : Nat) (c2w_25 : Nat) (c3w_25 : Nat), act = ⟨#[.pointer (some ⟨gc, 0, none⟩), undef, .pointer (some ⟨g1, 0, none⟩), .pointer (some ⟨g2, 0, none⟩), .bool true, .int .i64 nn, .int .i64 rr'12, (U1 1), .tuple #[.agg #[.slice b0w_6 ((newW ((1 + rr'1)).toNat).l.length) c0w_6, .slice b1w_6 ((newW ((1 + rr'1)).toNat).c.length) c1w_6, .slice b2w_6 ((newW ((1 + rr'1)).toNat).hs.length) c2w_6, .slice b3w_6 ((newW ((1 + rr'1)).toNat).ds.length) c3w_6, .int .i64 ((newW ((1 + rr'1)).toNat).now)], .bool true], .pointer (some ⟨gc, 0, none⟩), .int .i64 rr'1, .int .i64 (1 + rr'1), .tuple #[.agg #[.slice b0w_6 ((newW ((1 + rr'1)).toNat).l.length) c0w_6, .slice b1w_6 ((newW ((1 + rr'1)).toNat).c.length) c1w_6, .slice b2w_6 ((newW ((1 + rr'1)).toNat).hs.length) c2w_6, .slice b3w_6 ((newW ((1 + rr'1)).toNat).ds.length) c3w_6, .int .i64 ((newW ((1 + rr'1)).toNat).now)], .bool true], .agg #[.slice b0w_6 ((newW ((1 + rr'1)).toNat).l.length) c0w_6, .slice b1w_6 ((newW ((1 + rr'1)).toNat).c.length) c1w_6, .slice b2w_6 ((newW ((1 + rr'1)).toNat).hs.length) c2w_6, .slice b3w_6 ((newW ((1 + rr'1)).toNat).ds.length) c3w_6, .int .i64 ((newW ((1 + rr'1)).toNat).now)], .bool true, .pointer (some ⟨gc, 0, none⟩), .pointer (some ⟨gc, 0, none⟩), .pointer (some ⟨gc, 0, none⟩), .slice va lb.length vc, .int .i64 (lb.length : Int), .int .i64 (3 + (lb.length : Int)), .pointer (some ⟨gc, 0, none⟩), .int .i64 rr'7, .int .i64 (10 + rr'7), .int .i64 (min (3 + (lb.length : Int)) (10 + rr'7)), .int .i64 nn, .bool true, (U1 4), (U1 5), .pointer (some ⟨gc, 0, none⟩), .pointer (some ⟨g2, 2, none⟩), .slice (some ⟨g3e, 0, none⟩) dj.hs.length k3e, .int .i64 (dj.hs.length : Int), .int .i64 rr'12, .pointer (some ⟨g2, 2, none⟩), .slice (some ⟨g3e, 0, none⟩) dj.hs.length k3e, .int .i64 rr'12, .pointer (some ⟨g3e, 0 + kr_17 * 17, none⟩), .pointer (some ⟨g3e, 0 + kr_17 * 17, none⟩), .int .i64 hkr_17.at_, .bool true, .tuple #[.agg #[.slice b0w_25 (((askedR dj rr'12 cc'18 kk'19 yy'20).1).l.length) c0w_25, .slice b1w_25 (((askedR dj rr'12 cc'18 kk'19 yy'20).1).c.length) c1w_25, .slice b2w_25 (((askedR dj rr'12 cc'18 kk'19 yy'20).1).hs.length) c2w_25, .slice b3w_25 (((askedR dj rr'12 cc'18 kk'19 yy'20).1).ds.length) c3w_25, .int .i64 (((askedR dj rr'12 cc'18 kk'19 yy'20).1).now)], .int .i64 ((askedR dj rr'12 cc'18 kk'19 yy'20).2)], .agg #[.slice a1e dj.l.length k1e, .slice a2e dj.c.length k2e, .slice (some ⟨g3e, 0, none⟩) dj.hs.length k3e, .slice a4e dj.ds.length k4e, .int .i64 dj.now], .int .i64 rr'12, .pointer (some ⟨gc, 0, none⟩), .agg #[.int .i64 cc'18, .int .i64 kk'19, .int .i64 yy'20], .tuple #[.agg #[.slice b0w_25 (((askedR dj rr'12 cc'18 kk'19 yy'20).1).l.length) c0w_25, .slice b1w_25 (((askedR dj rr'12 cc'18 kk'19 yy'20).1).c.length) c1w_25, .slice b2w_25 (((askedR dj rr'12 cc'18 kk'19 yy'20).1).hs.length) c2w_25, .slice b3w_25 (((askedR dj rr'12 cc'18 kk'19 yy'20).1).ds.length) c3w_25, .int .i64 (((askedR dj rr'12 cc'18 kk'19 yy'20).1).now)], .int .i64 ((askedR dj rr'12 cc'18 kk'19 yy'20).2)], .agg #[.slice b0w_25 (((askedR dj rr'12 cc'18 kk'19 yy'20).1).l.length) c0w_25, .slice b1w_25 (((askedR dj rr'12 cc'18 kk'19 yy'20).1).c.length) c1w_25, .slice b2w_25 (((askedR dj rr'12 cc'18 kk'19 yy'20).1).hs.length) c2w_25, .slice b3w_25 (((askedR dj rr'12 cc'18 kk'19 yy'20).1).ds.length) c3w_25, .int .i64 (((askedR dj rr'12 cc'18 kk'19 yy'20).1).now)], .int .i64 ((askedR dj rr'12 cc'18 kk'19 yy'20).2), (U1 26), (U1 27), (U1 28), (U1 29), (U1 30), (U1 31), (U1 32), (U1 33), (U1 34), (U1 35), (U1 36), (U1 37), undef], []⟩ ∧ Mem w00 W ((g2, 59, [.slice b0w_25 (((askedR dj rr'12 cc'18 kk'19 yy'20).1).l.length) c0w_25, .slice b1w_25 (((askedR dj rr'12 cc'18 kk'19 yy'20).1).c.length) c1w_25, .slice b2w_25 (((askedR dj rr'12 cc'18 kk'19 yy'20).1).hs.length) c2w_25, .slice b3w_25 (((askedR dj rr'12 cc'18 kk'19 yy'20).1).ds.length) c3w_25, .int .i64 (((askedR dj rr'12 cc'18 kk'19 yy'20).1).now)]) :: (g1, 59, [.slice none 0 0, .slice none 0 0, .slice none 0 0, .slice none 0 0, .int .i64 0]) :: (gc, 53, [.slice va lb.length vc, .int .i64 (ci'22 : Int), .int .i64 ch'23]) :: (Ew_25 ++ (E ++ L))) ∧ CurI lb ci'22 ch'23 ∧ callB cc'18 kk'19 yy'20 = true ∧ WorldIn Ew_25 ((askedR dj rr'12 cc'18 kk'19 yy'20).1) (.slice b0w_25 ((askedR dj rr'12 cc'18 kk'19 yy'20).1).l.length c0w_25) (.slice b1w_25 ((askedR dj rr'12 cc'18 kk'19 yy'20).1).c.length c1w_25) (.slice b2w_25 ((askedR dj rr'12 cc'18 kk'19 yy'20).1).hs.length c2w_25) (.slice b3w_25 ((askedR dj rr'12 cc'18 kk'19 yy'20).1).ds.length c3w_25)) ?_ ?_
  clear hM
  rintro act W12 ⟨jj, ci'22, ch'23, cc'18, kk'19, yy'20, Ew_25, b0w_25, b1w_25, b2w_25, b3w_25, c0w_25, c1w_25, c2w_25, c3w_25, rfl, hM, hc'24, hp'21, hWw_25⟩
  refine cn11 _ _ ?_
  clear cn11
  refine wp_exit ?_
  refine cn7 _ _ ?_
  clear cn7
  refine wl_region ?_
  refine np (.int .i64 nn) ?_
  refine nI (nn - 1) ?_
  refine np (.int .i64 (nn - 1)) ?_
  go_frame
  refine wl_nil ?_
  replace hM := Mem.dropM (B := [(g2, 59, [.slice b0w_25 (((askedR dj rr'12 cc'18 kk'19 yy'20).1).l.length) c0w_25, .slice b1w_25 (((askedR dj rr'12 cc'18 kk'19 yy'20).1).c.length) c1w_25, .slice b2w_25 (((askedR dj rr'12 cc'18 kk'19 yy'20).1).hs.length) c2w_25, .slice b3w_25 (((askedR dj rr'12 cc'18 kk'19 yy'20).1).ds.length) c3w_25, .int .i64 (((askedR dj rr'12 cc'18 kk'19 yy'20).1).now)]), (g1, 59, [.slice none 0 0, .slice none 0 0, .slice none 0 0, .slice none 0 0, .int .i64 0]), (gc, 53, [.slice va lb.length vc, .int .i64 (ci'22 : Int), .int .i64 ch'23])]) (A := Ew_25) (C := E) (D := L) hM
  have hWn : worldB (askedR dj rr'12 cc'18 kk'19 yy'20).1 = true := (askedR_world hWB (by omega)).1
  exact ⟨⟨(nn - 1), (askedR dj rr'12 cc'18 kk'19 yy'20).1, Ew_25, _, _, _, _, ci'22, ch'23, (fun i => [.int .i64 rr'12, (U1 1), .int .i64 nn, .bool true, .int .i64 nn, .int .i64 (nn - 1), .pointer (some ⟨gc, 0, none⟩), .pointer (some ⟨g2, 2, none⟩), .slice (some ⟨g3e, 0, none⟩) dj.hs.length k3e, .int .i64 (dj.hs.length : Int), .int .i64 rr'12, .pointer (some ⟨g2, 2, none⟩), .slice (some ⟨g3e, 0, none⟩) dj.hs.length k3e, .int .i64 rr'12, .pointer (some ⟨g3e, 0 + kr_17 * 17, none⟩), .pointer (some ⟨g3e, 0 + kr_17 * 17, none⟩), .int .i64 hkr_17.at_, .bool true, .tuple #[.agg #[.slice b0w_25 (((askedR dj rr'12 cc'18 kk'19 yy'20).1).l.length) c0w_25, .slice b1w_25 (((askedR dj rr'12 cc'18 kk'19 yy'20).1).c.length) c1w_25, .slice b2w_25 (((askedR dj rr'12 cc'18 kk'19 yy'20).1).hs.length) c2w_25, .slice b3w_25 (((askedR dj rr'12 cc'18 kk'19 yy'20).1).ds.length) c3w_25, .int .i64 (((askedR dj rr'12 cc'18 kk'19 yy'20).1).now)], .int .i64 ((askedR dj rr'12 cc'18 kk'19 yy'20).2)], .agg #[.slice a1e dj.l.length k1e, .slice a2e dj.c.length k2e, .slice (some ⟨g3e, 0, none⟩) dj.hs.length k3e, .slice a4e dj.ds.length k4e, .int .i64 dj.now], .int .i64 rr'12, .pointer (some ⟨gc, 0, none⟩), .agg #[.int .i64 cc'18, .int .i64 kk'19, .int .i64 yy'20], .tuple #[.agg #[.slice b0w_25 (((askedR dj rr'12 cc'18 kk'19 yy'20).1).l.length) c0w_25, .slice b1w_25 (((askedR dj rr'12 cc'18 kk'19 yy'20).1).c.length) c1w_25, .slice b2w_25 (((askedR dj rr'12 cc'18 kk'19 yy'20).1).hs.length) c2w_25, .slice b3w_25 (((askedR dj rr'12 cc'18 kk'19 yy'20).1).ds.length) c3w_25, .int .i64 (((askedR dj rr'12 cc'18 kk'19 yy'20).1).now)], .int .i64 ((askedR dj rr'12 cc'18 kk'19 yy'20).2)], .agg #[.slice b0w_25 (((askedR dj rr'12 cc'18 kk'19 yy'20).1).l.length) c0w_25, .slice b1w_25 (((askedR dj rr'12 cc'18 kk'19 yy'20).1).c.length) c1w_25, .slice b2w_25 (((askedR dj rr'12 cc'18 kk'19 yy'20).1).hs.length) c2w_25, .slice b3w_25 (((askedR dj rr'12 cc'18 kk'19 yy'20).1).ds.length) c3w_25, .int .i64 (((askedR dj rr'12 cc'18 kk'19 yy'20).1).now)], .int .i64 ((askedR dj rr'12 cc'18 kk'19 yy'20).2), (U1 26), (U1 27), (U1 28), (U1 29), (U1 30), (U1 31), (U1 32), (U1 33), (U1 34), (U1 35), (U1 36), (U1 37)].getD i undef), rfl, hM, hWn, hWw_25, hc'24, by omega⟩, by simp [intOf]; omega⟩
  refine wa_start (fun w => Below w00.heap.size w00 w ∧ True) 9 rfl (by kernel_rfl) ?_
  replace hM := hM.drew
  refine wt 1 (some 43) (.int .i64 rr'12) ⟨hM.below, trivial⟩ ?_
  refine wt 2 (some 44) (.pointer (some ⟨gc, 0, none⟩)) ⟨hM.below, trivial⟩ ?_
  go_frame
  refine w2 0 3 ?_ ?_
  refine oq (some 42) (.agg #[.slice a1e dj.l.length k1e, .slice a2e dj.c.length k2e, .slice (some ⟨g3e, 0, none⟩) dj.hs.length k3e, .slice a4e dj.ds.length k4e, .int .i64 dj.now]) ⟨hM.below, trivial⟩ rfl (r_load (hM.blk 0 rfl) 59 _ rfl rfl Tryz.underlying59 I_impl_World) ?_
  go_frame
  refine wn 3 ?_
  refine oc (some 45) (l5Draw_any B gc (.slice va lb.length vc) lb _ (cur_at hM (i := 2) rfl hcur hc'16)) ?_
  rintro e W9 ⟨cc'18, kk'19, yy'20, rfl, hp'21, hcA, hcB⟩
  obtain ⟨ci'22, ch'23, hc'24, hM3⟩ := cur_back hM (i := 2) rfl hcA hcB
  clear hM hcA hcB; have hM := hM3; clear hM3
  refine ⟨_, rfl, ⟨hM.below, trivial⟩, ?_⟩
  go_frame
  refine wn 4 ?_
  refine oc (some 46) (spec_Asked (.slice a1e dj.l.length k1e) (.slice a2e dj.c.length k2e) (.slice (some ⟨g3e, 0, none⟩) dj.hs.length k3e) (.slice a4e dj.ds.length k4e) dj rr'12 cc'18 kk'19 yy'20 _ (hWI.sl hM (fun b hb => (List.mem_append_right [_, _, _] (List.mem_append_left _ hb)))) (worldB_room hWB)) ?_
  rintro e W10 ⟨Ew_25, uw_25, xw_25, yw_25, zw_25, rfl, hWw_25, hM2⟩
  replace hM := Mem.mid (B := [(g2, 59, [.slice a1e dj.l.length k1e, .slice a2e dj.c.length k2e, .slice (some ⟨g3e, 0, none⟩) dj.hs.length k3e, .slice a4e dj.ds.length k4e, .int .i64 dj.now]), (g1, 59, [.slice none 0 0, .slice none 0 0, .slice none 0 0, .slice none 0 0, .int .i64 0]), (gc, 53, [.slice va lb.length vc, .int .i64 (ci'22 : Int), .int .i64 ch'23])]) (hM.join hM2)
  clear hM2
  obtain ⟨b0w_25, c0w_25, rfl⟩ := hWw_25.1.slice
  obtain ⟨b1w_25, c1w_25, rfl⟩ := hWw_25.2.1.slice
  obtain ⟨b2w_25, c2w_25, rfl⟩ := hWw_25.2.2.1.slice
  obtain ⟨b3w_25, c3w_25, rfl⟩ := hWw_25.2.2.2.slice
  refine ⟨_, rfl, wk ⟨hM.below, trivial⟩ fun hs => ?_⟩
  go_frame
  refine wt 5 (some 41) (.tuple #[.agg #[.slice b0w_25 (((askedR dj rr'12 cc'18 kk'19 yy'20).1).l.length) c0w_25, .slice b1w_25 (((askedR dj rr'12 cc'18 kk'19 yy'20).1).c.length) c1w_25, .slice b2w_25 (((askedR dj rr'12 cc'18 kk'19 yy'20).1).hs.length) c2w_25, .slice b3w_25 (((askedR dj rr'12 cc'18 kk'19 yy'20).1).ds.length) c3w_25, .int .i64 (((askedR dj rr'12 cc'18 kk'19 yy'20).1).now)], .int .i64 ((askedR dj rr'12 cc'18 kk'19 yy'20).2)]) hs ?_
  refine wt 6 (some 47) (.agg #[.slice b0w_25 (((askedR dj rr'12 cc'18 kk'19 yy'20).1).l.length) c0w_25, .slice b1w_25 (((askedR dj rr'12 cc'18 kk'19 yy'20).1).c.length) c1w_25, .slice b2w_25 (((askedR dj rr'12 cc'18 kk'19 yy'20).1).hs.length) c2w_25, .slice b3w_25 (((askedR dj rr'12 cc'18 kk'19 yy'20).1).ds.length) c3w_25, .int .i64 (((askedR dj rr'12 cc'18 kk'19 yy'20).1).now)]) hs ?_
  refine wt 7 (some 48) (.int .i64 ((askedR dj rr'12 cc'18 kk'19 yy'20).2)) hs ?_
  go_frame
  refine wn 8 ?_
  refine oS hM 0 rfl [.slice b0w_25 (((askedR dj rr'12 cc'18 kk'19 yy'20).1).l.length) c0w_25, .slice b1w_25 (((askedR dj rr'12 cc'18 kk'19 yy'20).1).c.length) c1w_25, .slice b2w_25 (((askedR dj rr'12 cc'18 kk'19 yy'20).1).hs.length) c2w_25, .slice b3w_25 (((askedR dj rr'12 cc'18 kk'19 yy'20).1).ds.length) c3w_25, .int .i64 (((askedR dj rr'12 cc'18 kk'19 yy'20).1).now)] I_impl_World rfl ?_
  clear hM; intro W11 hM
  refine ⟨⟨hM.below, trivial⟩, ?_⟩
  refine wJ ?_
  exact ⟨0, ci'22, ch'23, cc'18, kk'19, yy'20, Ew_25, b0w_25, b1w_25, b2w_25, b3w_25, c0w_25, c1w_25, c2w_25, c3w_25, rfl, hM, hc'24, hp'21, hWw_25⟩
  refine oc (some 45) (l5Draw_any B gc (.slice va lb.length vc) lb _ (cur_at hM (i := 2) rfl hcur hc'16)) ?_
  rintro e W9 ⟨cc'18, kk'19, yy'20, rfl, hp'21, hcA, hcB⟩
  obtain ⟨ci'22, ch'23, hc'24, hM3⟩ := cur_back hM (i := 2) rfl hcA hcB
  clear hM hcA hcB; have hM := hM3; clear hM3
  refine ⟨_, rfl, wk ⟨hM.below, trivial⟩ fun hs => ?_⟩
  go_frame
  refine wn 0 ?_
  refine oq (some 42) (.agg #[.slice a1e dj.l.length k1e, .slice a2e dj.c.length k2e, .slice (some ⟨g3e, 0, none⟩) dj.hs.length k3e, .slice a4e dj.ds.length k4e, .int .i64 dj.now]) hs rfl (r_load (hM.blk 0 rfl) 59 _ rfl rfl Tryz.underlying59 I_impl_World) ?_
  go_frame
  refine wn 4 ?_
  refine oc (some 46) (spec_Asked (.slice a1e dj.l.length k1e) (.slice a2e dj.c.length k2e) (.slice (some ⟨g3e, 0, none⟩) dj.hs.length k3e) (.slice a4e dj.ds.length k4e) dj rr'12 cc'18 kk'19 yy'20 _ (hWI.sl hM (fun b hb => (List.mem_append_right [_, _, _] (List.mem_append_left _ hb)))) (worldB_room hWB)) ?_
  rintro e W10 ⟨Ew_25, uw_25, xw_25, yw_25, zw_25, rfl, hWw_25, hM2⟩
  replace hM := Mem.mid (B := [(g2, 59, [.slice a1e dj.l.length k1e, .slice a2e dj.c.length k2e, .slice (some ⟨g3e, 0, none⟩) dj.hs.length k3e, .slice a4e dj.ds.length k4e, .int .i64 dj.now]), (g1, 59, [.slice none 0 0, .slice none 0 0, .slice none 0 0, .slice none 0 0, .int .i64 0]), (gc, 53, [.slice va lb.length vc, .int .i64 (ci'22 : Int), .int .i64 ch'23])]) (hM.join hM2)
  clear hM2
  obtain ⟨b0w_25, c0w_25, rfl⟩ := hWw_25.1.slice
  obtain ⟨b1w_25, c1w_25, rfl⟩ := hWw_25.2.1.slice
  obtain ⟨b2w_25, c2w_25, rfl⟩ := hWw_25.2.2.1.slice
  obtain ⟨b3w_25, c3w_25, rfl⟩ := hWw_25.2.2.2.slice
  refine ⟨_, rfl, wk ⟨hM.below, trivial⟩ fun hs => ?_⟩
  go_frame
  refine wt 5 (some 41) (.tuple #[.agg #[.slice b0w_25 (((askedR dj rr'12 cc'18 kk'19 yy'20).1).l.length) c0w_25, .slice b1w_25 (((askedR dj rr'12 cc'18 kk'19 yy'20).1).c.length) c1w_25, .slice b2w_25 (((askedR dj rr'12 cc'18 kk'19 yy'20).1).hs.length) c2w_25, .slice b3w_25 (((askedR dj rr'12 cc'18 kk'19 yy'20).1).ds.length) c3w_25, .int .i64 (((askedR dj rr'12 cc'18 kk'19 yy'20).1).now)], .int .i64 ((askedR dj rr'12 cc'18 kk'19 yy'20).2)]) hs ?_
  refine wt 6 (some 47) (.agg #[.slice b0w_25 (((askedR dj rr'12 cc'18 kk'19 yy'20).1).l.length) c0w_25, .slice b1w_25 (((askedR dj rr'12 cc'18 kk'19 yy'20).1).c.length) c1w_25, .slice b2w_25 (((askedR dj rr'12 cc'18 kk'19 yy'20).1).hs.length) c2w_25, .slice b3w_25 (((askedR dj rr'12 cc'18 kk'19 yy'20).1).ds.length) c3w_25, .int .i64 (((askedR dj rr'12 cc'18 kk'19 yy'20).1).now)]) hs ?_
  refine wt 7 (some 48) (.int .i64 ((askedR dj rr'12 cc'18 kk'19 yy'20).2)) hs ?_
  go_frame
  refine wn 8 ?_
  refine oS hM 0 rfl [.slice b0w_25 (((askedR dj rr'12 cc'18 kk'19 yy'20).1).l.length) c0w_25, .slice b1w_25 (((askedR dj rr'12 cc'18 kk'19 yy'20).1).c.length) c1w_25, .slice b2w_25 (((askedR dj rr'12 cc'18 kk'19 yy'20).1).hs.length) c2w_25, .slice b3w_25 (((askedR dj rr'12 cc'18 kk'19 yy'20).1).ds.length) c3w_25, .int .i64 (((askedR dj rr'12 cc'18 kk'19 yy'20).1).now)] I_impl_World rfl ?_
  clear hM; intro W11 hM
  refine ⟨⟨hM.below, trivial⟩, ?_⟩
  refine wJ ?_
  exact ⟨0, ci'22, ch'23, cc'18, kk'19, yy'20, Ew_25, b0w_25, b1w_25, b2w_25, b3w_25, c0w_25, c1w_25, c2w_25, c3w_25, rfl, hM, hc'24, hp'21, hWw_25⟩
  rw [hx2]
  refine wp_cond_false rfl ?_
  refine wp_skip ?_
  refine cn9 _ _ ?_
  clear cn9
  refine wp_seq_k fun _ cn11 => wl_region ?_
  refine np (.pointer (some ⟨gc, 0, none⟩)) ?_
  refine nc (l1Below_any B gc (.slice va lb.length vc) lb 5 _ (cur_at hM (i := 2) rfl hcur hc'16) (by omega)) ?_
  rintro e W9 ⟨rr'18, rfl, hr'19, hcA, hcB⟩
  obtain ⟨ci'20, ch'21, hc'22, hM3⟩ := cur_back hM (i := 2) rfl hcA hcB
  clear hM hcA hcB; have hM := hM3; clear hM3
  replace hr'19 : (0 ≤ rr'18 ∧ (rr'18 < 5 ∨ rr'18 = 0)) := hr'19
  refine ⟨_, rfl, ?_⟩
  go_frame
  refine nI (1 + rr'18) ?_
  refine np (.int .i64 (1 + rr'18)) ?_
  go_frame
  refine wl_nil (cn11 _ _ ?_)
  clear cn11
  refine wp_seq_k fun Kn12 cn12 => ?_
  refine wp_seq_k fun _ cn13 => wl_region ?_
  refine np (.pointer (some ⟨gc, 0, none⟩)) ?_
  refine nc (l1Once_any B gc (.slice va lb.length vc) lb 3 _ (cur_at hM (i := 2) rfl hcur hc'22) (by omega)) ?_
  rintro e W10 ⟨bb'23, rfl, hcA, hcB⟩
  obtain ⟨ci'24, ch'25, hc'26, hM3⟩ := cur_back hM (i := 2) rfl hcA hcB
  clear hM hcA hcB; have hM := hM3; clear hM3
  refine ⟨_, rfl, ?_⟩
  go_frame
  refine wl_nil (cn13 _ _ ?_)
  clear cn13
  rcases tf (bb'23) with hx3 | hx3
  rw [hx3]
  refine wp_cond_true rfl ?_
  refine wl_region ?_
  refine np (.int .i64 60) ?_
  go_frame
  refine wl_nil (cn12 _ _ ?_)
  clear cn12
  refine wl_region ?_
  refine nl hM 0 rfl Tryz.underlying59 I_impl_World ?_
  refine np (.int .i64 rr'12) ?_
  refine np (.int .i64 60) ?_
  refine nc (spec_Alone (.slice a1e dj.l.length k1e) (.slice a2e dj.c.length k2e) (.slice (some ⟨g3e, 0, none⟩) dj.hs.length k3e) (.slice a4e dj.ds.length k4e) dj rr'12 60 _ (hWI.sl hM (fun b hb => (List.mem_append_right [_, _, _] (List.mem_append_left _ hb)))) (worldB_room hWB)) ?_
  rintro e W11 ⟨Ew_27, uw_27, xw_27, yw_27, zw_27, rfl, hWw_27, hM2⟩
  replace hM := Mem.mid (B := [(g2, 59, [.slice a1e dj.l.length k1e, .slice a2e dj.c.length k2e, .slice (some ⟨g3e, 0, none⟩) dj.hs.length k3e, .slice a4e dj.ds.length k4e, .int .i64 dj.now]), (g1, 59, [.slice none 0 0, .slice none 0 0, .slice none 0 0, .slice none 0 0, .int .i64 0]), (gc, 53, [.slice va lb.length vc, .int .i64 (ci'24 : Int), .int .i64 ch'25])]) (hM.join hM2)
  clear hM2
  obtain ⟨b0w_27, c0w_27, rfl⟩ := hWw_27.1.slice
  obtain ⟨b1w_27, c1w_27, rfl⟩ := hWw_27.2.1.slice
  obtain ⟨b2w_27, c2w_27, rfl⟩ := hWw_27.2.2.1.slice
  obtain ⟨b3w_27, c3w_27, rfl⟩ := hWw_27.2.2.2.slice
  refine ⟨_, rfl, ?_⟩
  go_frame
  refine np (.tuple #[.agg #[.slice b0w_27 (((aloneR dj rr'12 60).1).l.length) c0w_27, .slice b1w_27 (((aloneR dj rr'12 60).1).c.length) c1w_27, .slice b2w_27 (((aloneR dj rr'12 60).1).hs.length) c2w_27, .slice b3w_27 (((aloneR dj rr'12 60).1).ds.length) c3w_27, .int .i64 (((aloneR dj rr'12 60).1).now)], .int .i64 ((aloneR dj rr'12 60).2)]) ?_
  refine np (.agg #[.slice b0w_27 (((aloneR dj rr'12 60).1).l.length) c0w_27, .slice b1w_27 (((aloneR dj rr'12 60).1).c.length) c1w_27, .slice b2w_27 (((aloneR dj rr'12 60).1).hs.length) c2w_27, .slice b3w_27 (((aloneR dj rr'12 60).1).ds.length) c3w_27, .int .i64 (((aloneR dj rr'12 60).1).now)]) ?_
  refine np (.int .i64 ((aloneR dj rr'12 60).2)) ?_
  refine nS hM 0 rfl [.slice b0w_27 (((aloneR dj rr'12 60).1).l.length) c0w_27, .slice b1w_27 (((aloneR dj rr'12 60).1).c.length) c1w_27, .slice b2w_27 (((aloneR dj rr'12 60).1).hs.length) c2w_27, .slice b3w_27 (((aloneR dj rr'12 60).1).ds.length) c3w_27, .int .i64 (((aloneR dj rr'12 60).1).now)] I_impl_World rfl ?_
  clear hM; intro W12 hM
  refine wl_nil (cn7 _ _ ?_)
  clear cn7
  refine wl_region ?_
  refine np (.int .i64 nn) ?_
  refine nI (nn - 1) ?_
  refine np (.int .i64 (nn - 1)) ?_
  go_frame
  refine wl_nil ?_
  replace hM := Mem.dropM (B := [(g2, 59, [.slice b0w_27 (((aloneR dj rr'12 60).1).l.length) c0w_27, .slice b1w_27 (((aloneR dj rr'12 60).1).c.length) c1w_27, .slice b2w_27 (((aloneR dj rr'12 60).1).hs.length) c2w_27, .slice b3w_27 (((aloneR dj rr'12 60).1).ds.length) c3w_27, .int .i64 (((aloneR dj rr'12 60).1).now)]), (g1, 59, [.slice none 0 0, .slice none 0 0, .slice none 0 0, .slice none 0 0, .int .i64 0]), (gc, 53, [.slice va lb.length vc, .int .i64 (ci'24 : Int), .int .i64 ch'25])]) (A := Ew_27) (C := E) (D := L) hM
  have hWn : worldB (aloneR dj rr'12 60).1 = true := (aloneR_world hWB (by omega)).1
  exact ⟨⟨(nn - 1), (aloneR dj rr'12 60).1, Ew_27, _, _, _, _, ci'24, ch'25, (fun i => [.int .i64 rr'12, .int .i64 60, .int .i64 nn, .bool true, .int .i64 nn, .int .i64 (nn - 1), .pointer (some ⟨gc, 0, none⟩), .pointer (some ⟨g2, 2, none⟩), .slice (some ⟨g3e, 0, none⟩) dj.hs.length k3e, .int .i64 (dj.hs.length : Int), .int .i64 rr'12, .pointer (some ⟨g2, 2, none⟩), .slice (some ⟨g3e, 0, none⟩) dj.hs.length k3e, .int .i64 rr'12, .pointer (some ⟨g3e, 0 + kr_17 * 17, none⟩), .pointer (some ⟨g3e, 0 + kr_17 * 17, none⟩), .int .i64 hkr_17.at_, .bool false, (U1 18), (U1 19), (U1 20), (U1 21), (U1 22), (U1 23), (U1 24), (U1 25), .pointer (some ⟨gc, 0, none⟩), .int .i64 rr'18, .int .i64 (1 + rr'18), .pointer (some ⟨gc, 0, none⟩), .bool true, .tuple #[.agg #[.slice b0w_27 (((aloneR dj rr'12 60).1).l.length) c0w_27, .slice b1w_27 (((aloneR dj rr'12 60).1).c.length) c1w_27, .slice b2w_27 (((aloneR dj rr'12 60).1).hs.length) c2w_27, .slice b3w_27 (((aloneR dj rr'12 60).1).ds.length) c3w_27, .int .i64 (((aloneR dj rr'12 60).1).now)], .int .i64 ((aloneR dj rr'12 60).2)], .agg #[.slice a1e dj.l.length k1e, .slice a2e dj.c.length k2e, .slice (some ⟨g3e, 0, none⟩) dj.hs.length k3e, .slice a4e dj.ds.length k4e, .int .i64 dj.now], .int .i64 rr'12, .int .i64 60, .tuple #[.agg #[.slice b0w_27 (((aloneR dj rr'12 60).1).l.length) c0w_27, .slice b1w_27 (((aloneR dj rr'12 60).1).c.length) c1w_27, .slice b2w_27 (((aloneR dj rr'12 60).1).hs.length) c2w_27, .slice b3w_27 (((aloneR dj rr'12 60).1).ds.length) c3w_27, .int .i64 (((aloneR dj rr'12 60).1).now)], .int .i64 ((aloneR dj rr'12 60).2)], .agg #[.slice b0w_27 (((aloneR dj rr'12 60).1).l.length) c0w_27, .slice b1w_27 (((aloneR dj rr'12 60).1).c.length) c1w_27, .slice b2w_27 (((aloneR dj rr'12 60).1).hs.length) c2w_27, .slice b3w_27 (((aloneR dj rr'12 60).1).ds.length) c3w_27, .int .i64 (((aloneR dj rr'12 60).1).now)], .int .i64 ((aloneR dj rr'12 60).2)].getD i undef), rfl, hM, hWn, hWw_27, hc'26, by omega⟩, by simp [intOf]; omega⟩
  rw [hx3]
  refine wp_cond_false rfl ?_
  refine wp_skip ?_
  refine cn12 _ _ ?_
  clear cn12
  refine wl_region ?_
  refine nl hM 0 rfl Tryz.underlying59 I_impl_World ?_
  refine np (.int .i64 rr'12) ?_
  refine np (.int .i64 (1 + rr'18)) ?_
  refine nc (spec_Alone (.slice a1e dj.l.length k1e) (.slice a2e dj.c.length k2e) (.slice (some ⟨g3e, 0, none⟩) dj.hs.length k3e) (.slice a4e dj.ds.length k4e) dj rr'12 (1 + rr'18) _ (hWI.sl hM (fun b hb => (List.mem_append_right [_, _, _] (List.mem_append_left _ hb)))) (worldB_room hWB)) ?_
  rintro e W11 ⟨Ew_27, uw_27, xw_27, yw_27, zw_27, rfl, hWw_27, hM2⟩
  replace hM := Mem.mid (B := [(g2, 59, [.slice a1e dj.l.length k1e, .slice a2e dj.c.length k2e, .slice (some ⟨g3e, 0, none⟩) dj.hs.length k3e, .slice a4e dj.ds.length k4e, .int .i64 dj.now]), (g1, 59, [.slice none 0 0, .slice none 0 0, .slice none 0 0, .slice none 0 0, .int .i64 0]), (gc, 53, [.slice va lb.length vc, .int .i64 (ci'24 : Int), .int .i64 ch'25])]) (hM.join hM2)
  clear hM2
  obtain ⟨b0w_27, c0w_27, rfl⟩ := hWw_27.1.slice
  obtain ⟨b1w_27, c1w_27, rfl⟩ := hWw_27.2.1.slice
  obtain ⟨b2w_27, c2w_27, rfl⟩ := hWw_27.2.2.1.slice
  obtain ⟨b3w_27, c3w_27, rfl⟩ := hWw_27.2.2.2.slice
  refine ⟨_, rfl, ?_⟩
  go_frame
  refine np (.tuple #[.agg #[.slice b0w_27 (((aloneR dj rr'12 (1 + rr'18)).1).l.length) c0w_27, .slice b1w_27 (((aloneR dj rr'12 (1 + rr'18)).1).c.length) c1w_27, .slice b2w_27 (((aloneR dj rr'12 (1 + rr'18)).1).hs.length) c2w_27, .slice b3w_27 (((aloneR dj rr'12 (1 + rr'18)).1).ds.length) c3w_27, .int .i64 (((aloneR dj rr'12 (1 + rr'18)).1).now)], .int .i64 ((aloneR dj rr'12 (1 + rr'18)).2)]) ?_
  refine np (.agg #[.slice b0w_27 (((aloneR dj rr'12 (1 + rr'18)).1).l.length) c0w_27, .slice b1w_27 (((aloneR dj rr'12 (1 + rr'18)).1).c.length) c1w_27, .slice b2w_27 (((aloneR dj rr'12 (1 + rr'18)).1).hs.length) c2w_27, .slice b3w_27 (((aloneR dj rr'12 (1 + rr'18)).1).ds.length) c3w_27, .int .i64 (((aloneR dj rr'12 (1 + rr'18)).1).now)]) ?_
  refine np (.int .i64 ((aloneR dj rr'12 (1 + rr'18)).2)) ?_
  refine nS hM 0 rfl [.slice b0w_27 (((aloneR dj rr'12 (1 + rr'18)).1).l.length) c0w_27, .slice b1w_27 (((aloneR dj rr'12 (1 + rr'18)).1).c.length) c1w_27, .slice b2w_27 (((aloneR dj rr'12 (1 + rr'18)).1).hs.length) c2w_27, .slice b3w_27 (((aloneR dj rr'12 (1 + rr'18)).1).ds.length) c3w_27, .int .i64 (((aloneR dj rr'12 (1 + rr'18)).1).now)] I_impl_World rfl ?_
  clear hM; intro W12 hM
  refine wl_nil (cn7 _ _ ?_)
  clear cn7
  refine wl_region ?_
  refine np (.int .i64 nn) ?_
  refine nI (nn - 1) ?_
  refine np (.int .i64 (nn - 1)) ?_
  go_frame
  refine wl_nil ?_
  replace hM := Mem.dropM (B := [(g2, 59, [.slice b0w_27 (((aloneR dj rr'12 (1 + rr'18)).1).l.length) c0w_27, .slice b1w_27 (((aloneR dj rr'12 (1 + rr'18)).1).c.length) c1w_27, .slice b2w_27 (((aloneR dj rr'12 (1 + rr'18)).1).hs.length) c2w_27, .slice b3w_27 (((aloneR dj rr'12 (1 + rr'18)).1).ds.length) c3w_27, .int .i64 (((aloneR dj rr'12 (1 + rr'18)).1).now)]), (g1, 59, [.slice none 0 0, .slice none 0 0, .slice none 0 0, .slice none 0 0, .int .i64 0]), (gc, 53, [.slice va lb.length vc, .int .i64 (ci'24 : Int), .int .i64 ch'25])]) (A := Ew_27) (C := E) (D := L) hM
  have hWn : worldB (aloneR dj rr'12 (1 + rr'18)).1 = true := (aloneR_world hWB (by omega)).1
  exact ⟨⟨(nn - 1), (aloneR dj rr'12 (1 + rr'18)).1, Ew_27, _, _, _, _, ci'24, ch'25, (fun i => [.int .i64 rr'12, .int .i64 (1 + rr'18), .int .i64 nn, .bool true, .int .i64 nn, .int .i64 (nn - 1), .pointer (some ⟨gc, 0, none⟩), .pointer (some ⟨g2, 2, none⟩), .slice (some ⟨g3e, 0, none⟩) dj.hs.length k3e, .int .i64 (dj.hs.length : Int), .int .i64 rr'12, .pointer (some ⟨g2, 2, none⟩), .slice (some ⟨g3e, 0, none⟩) dj.hs.length k3e, .int .i64 rr'12, .pointer (some ⟨g3e, 0 + kr_17 * 17, none⟩), .pointer (some ⟨g3e, 0 + kr_17 * 17, none⟩), .int .i64 hkr_17.at_, .bool false, (U1 18), (U1 19), (U1 20), (U1 21), (U1 22), (U1 23), (U1 24), (U1 25), .pointer (some ⟨gc, 0, none⟩), .int .i64 rr'18, .int .i64 (1 + rr'18), .pointer (some ⟨gc, 0, none⟩), .bool false, .tuple #[.agg #[.slice b0w_27 (((aloneR dj rr'12 (1 + rr'18)).1).l.length) c0w_27, .slice b1w_27 (((aloneR dj rr'12 (1 + rr'18)).1).c.length) c1w_27, .slice b2w_27 (((aloneR dj rr'12 (1 + rr'18)).1).hs.length) c2w_27, .slice b3w_27 (((aloneR dj rr'12 (1 + rr'18)).1).ds.length) c3w_27, .int .i64 (((aloneR dj rr'12 (1 + rr'18)).1).now)], .int .i64 ((aloneR dj rr'12 (1 + rr'18)).2)], .agg #[.slice a1e dj.l.length k1e, .slice a2e dj.c.length k2e, .slice (some ⟨g3e, 0, none⟩) dj.hs.length k3e, .slice a4e dj.ds.length k4e, .int .i64 dj.now], .int .i64 rr'12, .int .i64 (1 + rr'18), .tuple #[.agg #[.slice b0w_27 (((aloneR dj rr'12 (1 + rr'18)).1).l.length) c0w_27, .slice b1w_27 (((aloneR dj rr'12 (1 + rr'18)).1).c.length) c1w_27, .slice b2w_27 (((aloneR dj rr'12 (1 + rr'18)).1).hs.length) c2w_27, .slice b3w_27 (((aloneR dj rr'12 (1 + rr'18)).1).ds.length) c3w_27, .int .i64 (((aloneR dj rr'12 (1 + rr'18)).1).now)], .int .i64 ((aloneR dj rr'12 (1 + rr'18)).2)], .agg #[.slice b0w_27 (((aloneR dj rr'12 (1 + rr'18)).1).l.length) c0w_27, .slice b1w_27 (((aloneR dj rr'12 (1 + rr'18)).1).c.length) c1w_27, .slice b2w_27 (((aloneR dj rr'12 (1 + rr'18)).1).hs.length) c2w_27, .slice b3w_27 (((aloneR dj rr'12 (1 + rr'18)).1).ds.length) c3w_27, .int .i64 (((aloneR dj rr'12 (1 + rr'18)).1).now)], .int .i64 ((aloneR dj rr'12 (1 + rr'18)).2)].getD i undef), rfl, hM, hWn, hWw_27, hc'26, by omega⟩, by simp [intOf]; omega⟩
  rw [hx1]
  refine wp_cond_false rfl ?_
  refine wp_exit ?_
  refine cn3 _ _ ?_
  clear cn3
  refine wp_seq_k fun _ cn7 => wl_region ?_
  refine nl hM 0 rfl Tryz.underlying59 I_impl_World ?_
  refine nS hM 1 rfl [.slice a1e dj.l.length k1e, .slice a2e dj.c.length k2e, .slice (some ⟨g3e, 0, none⟩) dj.hs.length k3e, .slice a4e dj.ds.length k4e, .int .i64 dj.now] I_impl_World rfl ?_
  clear hM; intro W8 hM
  refine wl_nil (cn7 _ _ ?_)
  clear cn7
  refine wp_ret ?_
  refine bodyPost_ret (ret_row rfl hM 1 rfl rfl Tryz.underlying59 I_impl_World) rfl ⟨dj, E, _, _, _, _, ci, ch, rfl, hWB, hWI, hci, ?_⟩
  replace hM := hM.pull 2 rfl
  exact Mem.keep1 (A := [(g2, 59, [.slice a1e dj.l.length k1e, .slice a2e dj.c.length k2e, .slice (some ⟨g3e, 0, none⟩) dj.hs.length k3e, .slice a4e dj.ds.length k4e, .int .i64 dj.now]), (g1, 59, [.slice a1e dj.l.length k1e, .slice a2e dj.c.length k2e, .slice (some ⟨g3e, 0, none⟩) dj.hs.length k3e, .slice a4e dj.ds.length k4e, .int .i64 dj.now])]) hM
end Go.Proofs.YtbfndoajchibbaaGreat
