/- A task alone in a world: the model. -/
import Derived.Test.YtbfndoajchibbaaGreatShort
import Derived.Test.YtbfndoajchibbaaGreatShort2
import Derived.Test.YtbfndoajchibbaaGreatWorldMath
namespace Go.Proofs.YtbfndoajchibbaaGreat
open Go.ChangeShapes Go.WideShapes Go.ChangeAt Go.RowKit
set_option linter.unusedVariables false
set_option maxRecDepth 100000
set_option maxHeartbeats 16000000
set_option linter.unusedSimpArgs false

theorem Mem.left {w0 w : World} {A B : List Bk} (h : Mem w0 w (A ++ B)) : Mem w0 w A :=
  h.sub (fun i => i) (fun i b hb => by rw [List.getElem?_append_left (List.getElem?_eq_some_iff.1 hb).1]; exact hb) (fun i j _ _ e => e)
theorem Mem.mid {w0 w : World} {A B C : List Bk} (h : Mem w0 w (A ++ (B ++ C))) : Mem w0 w (B ++ (A ++ C)) :=
  h.sub (fun i => if i < B.length then A.length + i else if i < B.length + A.length then i - B.length else i) (fun i b hb => by
    try simp only []
    split
    · rename_i h1
      rw [List.getElem?_append_left h1] at hb
      rw [List.getElem?_append_right (by omega), Nat.add_sub_cancel_left, List.getElem?_append_left h1]
      exact hb
    · rename_i h1
      rw [List.getElem?_append_right (by omega)] at hb
      split
      · rename_i h2
        rw [List.getElem?_append_left (by omega)] at hb
        rw [List.getElem?_append_left (by omega)]
        exact hb
      · rename_i h2
        rw [List.getElem?_append_right (by omega)] at hb
        rw [List.getElem?_append_right (by omega), List.getElem?_append_right (by omega)]
        rw [← hb]
        congr 1
        omega) (fun i j _ _ e => by
    try simp only [] at e
    split at e <;> split at e <;> (try split at e) <;> (try split at e) <;> omega)
theorem Mem.dropE {w0 w : World} {A B C : List Bk} (h : Mem w0 w (B ++ (A ++ C))) : Mem w0 w (B ++ A) := by
  rw [← List.append_assoc] at h
  exact h.left
theorem e_cell {w0 w : World} {L : List Bk} (hM : Mem w0 w L) {g k : Nat} {t : TypeId} {cs : List Value} {v : Value} (h : (g, t, cs) ∈ L) (hv : cs[k]? = some v) : w.cell? ⟨g, k, none⟩ = some v := by
  rw [(hM.mem h).2.cell]
  exact hv
theorem e_row {w0 w : World} {L : List Bk} (hM : Mem w0 w L) {g k : Nat} {t : TypeId} {l : List HD} {p : List Value} {h : HD} (hE : (g, t, cellsH l ++ p) ∈ L) (hh : l[k]? = some h) : ∀ j v, h.cells[j]? = some v → w.cell? ⟨g, 0 + k * 17 + j, none⟩ = some v := fun j v hv => e_cell hM hE (hand_cell hh hv)
theorem RowIn.slice {E : List Bk} {t : TypeId} {sz n : Nat} {cs : List Value} {v : Value} (h : RowIn E t sz n cs v) : ∃ a k, v = .slice a n k := by
  rcases h with ⟨rfl, -, a, k, rfl, -⟩ | ⟨-, -, g, k, p, rfl, -⟩
  · exact ⟨_, _, rfl⟩
  · exact ⟨_, _, rfl⟩
theorem RowIn.open {E : List Bk} {t : TypeId} {sz n : Nat} {cs : List Value} {v : Value} (h : RowIn E t sz n cs v) (h0 : 0 < n) : ∃ (g k : Nat) (p : List Value), v = .slice (some ⟨g, 0, none⟩) n k ∧ n ≤ k ∧ k ≤ maxLen ∧ (g, t, cs ++ p) ∈ E := by
  rcases h with ⟨h1, -⟩ | ⟨-, -, g, k, p, e, h1, h2, h3⟩
  · omega
  · exact ⟨g, k, p, e, h1, h2.1, h3⟩
theorem RowIn.openX {E : List Bk} {t : TypeId} {sz n : Nat} {cs : List Value} {v : Value} (h : RowIn E t sz n cs v) (h0 : 0 < n) : ∃ (g k : Nat) (p : List Value), v = .slice (some ⟨g, 0, none⟩) n k ∧ n ≤ k ∧ (k ≤ maxLen ∧ (cs ++ p).length = k * sz) ∧ (g, t, cs ++ p) ∈ E := by
  rcases h with ⟨h1, -⟩ | ⟨-, -, h⟩
  · omega
  · exact h
def aloneF (who : Int) : Nat → WD → Int → WD × Int
  | 0, d, n => (d, n)
  | f + 1, d, n => if (handAt d who).at_ == 0 then (d, n) else if (l13R d who).2 then aloneF who f (l13R d who).1 (n + 1) else (d, n)
def aloneR (d : WD) (who most : Int) : WD × Int :=
  if !worldB d || !inB who 0 ((d.hs.length : Int) - 1) then (WD.zero, -1) else if !inB most 0 20000 then (d, -1) else aloneF who most.toNat d 0
theorem aloneF_rest {who : Int} {f : Nat} {d : WD} {n : Int} {h : HD} (hn : (h.at_ != 0) = false) (ha : handAt d who = h) : aloneF who f d n = (d, n) := by
  cases f with
  | zero => rfl
  | succ f =>
    rw [aloneF, ha, if_pos]
    simpa using hn
theorem aloneF_stuck {who : Int} {f : Nat} {d : WD} {n : Int} (hs : (l13R d who).2 = false) : aloneF who f d n = (d, n) := by
  cases f with
  | zero => rfl
  | succ f =>
    rw [aloneF]
    split
    · rfl
    · rw [if_neg (by simp [hs])]
theorem aloneF_step {who : Int} {m j : Nat} {d : WD} {h : HD} (hj : j < m) (hn : (h.at_ != 0) = true) (hs : (l13R d who).2 = true) (ha : handAt d who = h) : aloneF who (m - j) d (j : Int) = aloneF who (m - (j + 1)) (l13R d who).1 ((j + 1 : Nat) : Int) := by
  obtain ⟨f, hf⟩ : ∃ f, m - j = f + 1 := ⟨m - j - 1, by omega⟩
  have hf' : m - (j + 1) = f := by omega
  rw [hf, hf', aloneF, ha, if_neg (by simpa using hn), if_pos hs]
  congr 1

theorem spec_Alone1 (u x y z : Value) (d : WD) (who most : Int) (w0 : World) (hw : SlW w0 u x y z d) (hr : Room d) (hH : d.hs ≠ []) :
    Calls Tryz.prog 45 #[.agg #[u, x, y, z, .int .i64 d.now], .int .i64 who, .int .i64 most] w0 (SaysW (fun w => .tuple #[w, .int .i64 (aloneR d who most).2]) (aloneR d who most).1 w0) := by
  have HW := hw
  obtain ⟨h1, h2, h3, h4⟩ := hw
  have H1 := h1
  have H2 := h2
  have H3 := h3
  have H4 := h4
  obtain ⟨r1, r2, r3, r4⟩ := id hr
  obtain ⟨a1, i1, rfl, -⟩ := h1
  obtain ⟨a2, i2, rfl, -⟩ := h2
  obtain ⟨b3, off3, i3, rfl, kk3, mm3, s3, G3, A3⟩ := SlR.all hd_len (by omega) h3 hH
  obtain ⟨a4, i4, rfl, -⟩ := h4
  have hM := Mem.start w0
  go_enter Tryz.func45, Tryz.ntmps45
  refine wp_seq_k fun _ cn1 => wl_region ?_
  refine nx hM 59 [.slice a1 d.l.length i1, .slice a2 d.c.length i2, .slice (some ⟨b3, off3, none⟩) d.hs.length i3, .slice a4 d.ds.length i4, .int .i64 d.now] ?_
  clear hM; intro g1 W1 hM
  refine na hM [.slice none 0 0, .slice none 0 0, .slice none 0 0, .slice none 0 0, .int .i64 0] Z_impl_World ?_
  clear hM; intro g2 W2 hM
  refine np (.int .i64 0) ?_
  go_frame
  refine wl_nil (cn1 _ _ ?_)
  clear cn1
  refine wp_seq_k fun Kn2 cn2 => ?_
  refine wp_seq_k fun _ cn3 => wl_region ?_
  refine nl hM 1 rfl Tryz.underlying59 I_impl_World ?_
  refine nc (spec_WorldOk (.slice a1 d.l.length i1) (.slice a2 d.c.length i2) (.slice (some ⟨b3, off3, none⟩) d.hs.length i3) (.slice a4 d.ds.length i4) d _ (HW.below hM.below) hr) ?_
  rintro e W3 ⟨rfl, hb⟩
  refine ⟨_, rfl, ?_⟩
  replace hM := hM.call hb
  go_frame
  rcases tf ((worldB d)) with hx3 | hx3
  rw [hx3]
  obtain ⟨hL, hC, -, hnow⟩ := world_ne hx3
  refine np (.bool false) ?_
  refine np (.bool false) ?_
  refine nl hM 1 rfl Tryz.underlying59 I_impl_World ?_
  refine np (.int .i64 who) ?_
  go_frame
  refine nC #[.agg #[.slice a1 d.l.length i1, .slice a2 d.c.length i2, .slice (some ⟨b3, off3, none⟩) d.hs.length i3, .slice a4 d.ds.length i4, .int .i64 d.now], .int .i64 who] (spec_l13Task (.slice a1 d.l.length i1) (.slice a2 d.c.length i2) _ d.hs.length _ _ d.now who _ (by omega)) ?_
  rintro e W4 ⟨rfl, hb⟩
  refine ⟨_, rfl, ?_⟩
  replace hM := hM.call hb
  go_frame
  rcases tf ((inB who 0 ((d.hs.length : Int) - 1))) with hx4 | hx4
  rw [hx4]
  have hwho : 0 ≤ who ∧ who < d.hs.length := by have := inB_t hx4; omega
  obtain ⟨kw, hkw, hkl⟩ : ∃ k : Nat, who = (k : Int) ∧ k < d.hs.length := ⟨who.toNat, by omega, by omega⟩
  obtain ⟨hh, hhw⟩ : ∃ h, d.hs[kw]? = some h := ⟨_, List.getElem?_eq_getElem hkl⟩
  have tkw : who.toNat = kw := by omega
  have hat : handAt d who = hh := by simp [handAt, tkw, hhw]
  refine np (.bool false) ?_
  refine np (.bool false) ?_
  go_frame
  refine wl_nil (cn3 _ _ ?_)
  clear cn3
  refine wp_cond_false rfl ?_
  refine wp_skip ?_
  refine cn2 _ _ ?_
  clear cn2
  refine wp_seq_k fun _ cn4 => wl_region ?_
  refine nl hM 1 rfl Tryz.underlying59 I_impl_World ?_
  refine nc (spec_l13Copy (.slice a1 d.l.length i1) (.slice a2 d.c.length i2) (.slice (some ⟨b3, off3, none⟩) d.hs.length i3) (.slice a4 d.ds.length i4) d _ (HW.below hM.below) hr hL hC hH) ?_
  rintro e W5 ⟨m1, m2, m3, m4, k1, k2, k3, k4, p1, p2, p3, p4, rfl, ⟨q1, q2, q3, q4, q5, qC⟩, ⟨q6, q7, q8⟩, ⟨q9, qA, qB⟩, hMc⟩
  refine ⟨_, rfl, ?_⟩
  replace hM := hM.join hMc
  go_frame
  refine na hM [.slice none 0 0, .slice none 0 0, .slice none 0 0, .slice none 0 0, .int .i64 0] Z_impl_World ?_
  clear hM; intro g3 W6 hM
  refine nS hM 0 rfl [.slice (some ⟨m1, 0, none⟩) d.l.length k1, .slice (some ⟨m2, 0, none⟩) d.c.length k2, .slice (some ⟨m3, 0, none⟩) d.hs.length k3, .slice (some ⟨m4, 0, none⟩) d.ds.length k4, .int .i64 d.now] I_impl_World rfl ?_
  clear hM; intro W7 hM
  refine wl_nil (cn4 _ _ ?_)
  clear cn4
  refine wp_seq_k fun Kn5 cn5 => ?_
  refine wp_seq_k fun _ cn6 => wl_region ?_
  refine np (.int .i64 most) ?_
  refine nc (spec_l13Now most _) ?_
  rintro e W8 ⟨rfl, hb⟩
  refine ⟨_, rfl, ?_⟩
  replace hM := hM.call hb
  go_frame
  rcases tf ((inB most 0 20000)) with hx6 | hx6
  rw [hx6]
  have hmo := inB_t hx6
  refine np (.bool false) ?_
  go_frame
  refine wl_nil (cn6 _ _ ?_)
  clear cn6
  refine wp_cond_false rfl ?_
  refine wp_skip ?_
  refine cn5 _ _ ?_
  clear cn5
  refine wp_seq_k fun _ cn7 => wl_region ?_
  refine np (.int .i64 0) ?_
  go_frame
  refine wl_nil (cn7 _ _ ?_)
  clear cn7
  refine wp_seq_k fun Kn8 cn8 => ?_
  refine wp_block ?_
  replace hM := hM.pull 4 rfl
  replace hM := hM.pull 4 rfl
  replace hM := hM.pull 4 rfl
  replace hM := hM.pull 4 rfl
  replace hM := hM.pull 6 rfl
  replace hM := hM.pull 6 rfl
  replace hM := hM.pull 6 rfl
  refine wp_loop (fun act w => ∃ (j : Nat) (dj : WD) (E : List Bk) (ua xa ya za : Value) (U1 : Nat → Value), act = ⟨#[.agg #[.slice a1 d.l.length i1, .slice a2 d.c.length i2, .slice (some ⟨b3, off3, none⟩) d.hs.length i3, .slice a4 d.ds.length i4, .int .i64 d.now], .int .i64 who, .int .i64 most, .pointer (some ⟨g1, 0, none⟩), undef, undef, .pointer (some ⟨g2, 0, none⟩), (U1 0), .pointer (some ⟨g3, 0, none⟩), .int .i64 (j : Int), (U1 1), (U1 2), .agg #[.slice a1 d.l.length i1, .slice a2 d.c.length i2, .slice (some ⟨b3, off3, none⟩) d.hs.length i3, .slice a4 d.ds.length i4, .int .i64 d.now], .bool true, .bool false, .bool false, .agg #[.slice a1 d.l.length i1, .slice a2 d.c.length i2, .slice (some ⟨b3, off3, none⟩) d.hs.length i3, .slice a4 d.ds.length i4, .int .i64 d.now], .int .i64 who, .bool true, .bool false, .bool false, undef, .agg #[.slice a1 d.l.length i1, .slice a2 d.c.length i2, .slice (some ⟨b3, off3, none⟩) d.hs.length i3, .slice a4 d.ds.length i4, .int .i64 d.now], .agg #[.slice (some ⟨m1, 0, none⟩) d.l.length k1, .slice (some ⟨m2, 0, none⟩) d.c.length k2, .slice (some ⟨m3, 0, none⟩) d.hs.length k3, .slice (some ⟨m4, 0, none⟩) d.ds.length k4, .int .i64 d.now], .int .i64 most, .bool true, .bool false, undef, (U1 3), (U1 4), (U1 5), (U1 6), (U1 7), (U1 8), (U1 9), (U1 10), (U1 11), (U1 12), (U1 13), (U1 14), (U1 15), (U1 16), (U1 17), (U1 18), (U1 19), (U1 20), (U1 21), (U1 22), (U1 23), (U1 24), (U1 25), (U1 26), (U1 27), undef, undef], []⟩ ∧ Mem w0 w ((g3, 59, [ua, xa, ya, za, .int .i64 dj.now]) :: (g2, 59, [.slice none 0 0, .slice none 0 0, .slice none 0 0, .slice none 0 0, .int .i64 0]) :: (g1, 59, [.slice a1 d.l.length i1, .slice a2 d.c.length i2, .slice (some ⟨b3, off3, none⟩) d.hs.length i3, .slice a4 d.ds.length i4, .int .i64 d.now]) :: E) ∧ (worldB dj = true ∧ dj.hs.length = d.hs.length ∧ WorldIn E dj ua xa ya za ∧ aloneF who most.toNat d 0 = aloneF who (most.toNat - j) dj (j : Int) ∧ j ≤ most.toNat)) (fun act _ => most.toNat - (intOf (act.tmps.getD 9 undef)).toNat) ?_ ?_
  exact ⟨0, d, [(m1, 49, (cellsOf d.l ++ p1)), (m2, 2, (cellsI d.c ++ p2)), (m3, 73, (cellsH d.hs ++ p3)), (m4, 113, (cellsD d.ds ++ p4))], .slice (some ⟨m1, 0, none⟩) d.l.length k1, .slice (some ⟨m2, 0, none⟩) d.c.length k2, .slice (some ⟨m3, 0, none⟩) d.hs.length k3, .slice (some ⟨m4, 0, none⟩) d.ds.length k4, (fun i => [.int .i64 0, undef, undef, undef, undef, undef, undef, undef, undef, undef, undef, undef, undef, undef, undef, undef, undef, undef, undef, undef, undef, undef, undef, undef, undef, undef, undef, undef].getD i undef), rfl, hM, hx3, rfl, ⟨RowIn.mk rfl (cellsOf_len _) q1 q2 q5 (List.mem_of_getElem? (i := 0) rfl), RowIn.mk rfl (cellsI_len1 _) q3 q4 qC (List.mem_of_getElem? (i := 1) rfl), RowIn.mk rfl (cellsH_len _) q6 q7 q8 (List.mem_of_getElem? (i := 2) rfl), RowIn.mk rfl (cellsD_len _) q9 qA qB (List.mem_of_getElem? (i := 3) rfl)⟩, by simp, by omega⟩
  clear hM
  rintro act w ⟨j, dj, E, ua, xa, ya, za, U1, rfl, hM, hWB, hlj, hWI, heq, hjl⟩
  refine wp_seq_k fun Kn9 cn9 => ?_
  refine wp_seq_k fun Kn10 cn10 => ?_
  obtain ⟨hLj, hCj, hHj, hnj⟩ := world_ne hWB
  have hwj : 0 ≤ who ∧ who < dj.hs.length := by omega
  have hkj : kw < dj.hs.length := by omega
  obtain ⟨hj, hhj⟩ : ∃ h, dj.hs[kw]? = some h := ⟨_, List.getElem?_eq_getElem hkj⟩
  have hatj : handAt dj who = hj := by simp [handAt, tkw, hhj]
  obtain ⟨g3e, k3e, p3e, rfl, c3a, c3b, hE3⟩ := hWI.2.2.1.open (by omega)
  obtain ⟨a1e, k1e, rfl⟩ := hWI.1.slice
  obtain ⟨a2e, k2e, rfl⟩ := hWI.2.1.slice
  obtain ⟨a4e, k4e, rfl⟩ := hWI.2.2.2.slice
  refine wl_region ?_
  refine np (.int .i64 (j : Int)) ?_
  refine np (.int .i64 most) ?_
  refine np (.bool (decide ((j : Int) < most))) ?_
  refine np (.bool (decide ((j : Int) < most))) ?_
  go_frame
  rcases tf (decide ((j : Int) < most)) with hx8 | hx8
  rw [hx8]
  have hjm : j < most.toNat := by simp at hx8; omega
  refine np (.pointer (some ⟨g3, 2, none⟩)) ?_
  refine ng hM 0 rfl 2 Tryz.underlying56 rfl ?_
  refine np (.int .i64 who) ?_
  go_frame
  refine wl_index (by kernel_rfl) 56 73 _ _ rfl g3e 0 dj.hs.length k3e 17 kw rfl rfl hkw (by omega) Tryz.underlying56 I_impl_Hand ?_
  go_frame
  refine np (.pointer (some ⟨g3e, 0 + kw * 17, none⟩)) ?_
  go_frame
  refine wl_cell (by kernel_rfl) 2 _ rfl ⟨g3e, 0 + kw * 17, none⟩ rfl Tryz.underlying2 rfl (e_row hM (List.mem_append_right [_, _, _] hE3) hhj 0 _ rfl) ?_
  go_frame
  refine np (.bool (hj.at_ != 0)) ?_
  refine np (.bool (hj.at_ != 0)) ?_
  go_frame
  refine wl_nil (cn10 _ _ ?_)
  clear cn10
  rcases tf ((hj.at_ != 0)) with hx9 | hx9
  rw [hx9]
  refine wp_cond_true rfl ?_
  refine wp_skip ?_
  refine cn9 _ _ ?_
  clear cn9
  refine wp_block ?_
  refine wp_seq_k fun _ cn11 => wl_region ?_
  refine nl hM 0 rfl Tryz.underlying59 I_impl_World ?_
  refine np (.int .i64 who) ?_
  refine nc (spec_l13Step (.slice a1e dj.l.length k1e) (.slice a2e dj.c.length k2e) (.slice (some ⟨g3e, 0, none⟩) dj.hs.length k3e) (.slice a4e dj.ds.length k4e) dj who _ (hWI.sl hM (fun b hb => (List.mem_append_right [_, _, _] hb))) (worldB_room hWB) hLj hCj hHj hwj hnj) ?_
  rintro e W9 ⟨E2, u2, x2, y2, z2, rfl, hWI2, hM2⟩
  replace hM := Mem.mid (B := [(g3, 59, [.slice a1e dj.l.length k1e, .slice a2e dj.c.length k2e, .slice (some ⟨g3e, 0, none⟩) dj.hs.length k3e, .slice a4e dj.ds.length k4e, .int .i64 dj.now]), (g2, 59, [.slice none 0 0, .slice none 0 0, .slice none 0 0, .slice none 0 0, .int .i64 0]), (g1, 59, [.slice a1 d.l.length i1, .slice a2 d.c.length i2, .slice (some ⟨b3, off3, none⟩) d.hs.length i3, .slice a4 d.ds.length i4, .int .i64 d.now])]) (hM.join hM2)
  clear hM2
  obtain ⟨b1s, c1s, rfl⟩ := hWI2.1.slice
  obtain ⟨b2s, c2s, rfl⟩ := hWI2.2.1.slice
  obtain ⟨b3s, c3s, rfl⟩ := hWI2.2.2.1.slice
  obtain ⟨b4s, c4s, rfl⟩ := hWI2.2.2.2.slice
  refine ⟨_, rfl, ?_⟩
  go_frame
  refine np (.tuple #[.agg #[.slice b1s ((l13R dj who).1.l.length) c1s, .slice b2s ((l13R dj who).1.c.length) c2s, .slice b3s ((l13R dj who).1.hs.length) c3s, .slice b4s ((l13R dj who).1.ds.length) c4s, .int .i64 ((l13R dj who).1.now)], .bool ((l13R dj who).2)]) ?_
  refine np (.agg #[.slice b1s ((l13R dj who).1.l.length) c1s, .slice b2s ((l13R dj who).1.c.length) c2s, .slice b3s ((l13R dj who).1.hs.length) c3s, .slice b4s ((l13R dj who).1.ds.length) c4s, .int .i64 ((l13R dj who).1.now)]) ?_
  refine np (.bool ((l13R dj who).2)) ?_
  refine na hM [.slice none 0 0, .slice none 0 0, .slice none 0 0, .slice none 0 0, .int .i64 0] Z_impl_World ?_
  clear hM; intro g4 W10 hM
  refine nS hM 0 rfl [.slice b1s ((l13R dj who).1.l.length) c1s, .slice b2s ((l13R dj who).1.c.length) c2s, .slice b3s ((l13R dj who).1.hs.length) c3s, .slice b4s ((l13R dj who).1.ds.length) c4s, .int .i64 ((l13R dj who).1.now)] I_impl_World rfl ?_
  clear hM; intro W11 hM
  refine np (.bool ((l13R dj who).2)) ?_
  go_frame
  refine wl_nil (cn11 _ _ ?_)
  clear cn11
  refine wp_seq_k fun Kn12 cn12 => ?_
  refine wp_seq_k fun _ cn13 => wl_region ?_
  refine np (.bool ((l13R dj who).2)) ?_
  go_frame
  rcases tf ((l13R dj who).2) with hx11 | hx11
  rw [hx11]
  refine np (.bool false) ?_
  go_frame
  refine wl_nil (cn13 _ _ ?_)
  clear cn13
  refine wp_cond_false rfl ?_
  refine wp_skip ?_
  refine cn12 _ _ ?_
  clear cn12
  refine wp_seq_k fun _ cn14 => wl_region ?_
  refine nl hM 0 rfl Tryz.underlying59 I_impl_World ?_
  refine nS hM 1 rfl [.slice b1s ((l13R dj who).1.l.length) c1s, .slice b2s ((l13R dj who).1.c.length) c2s, .slice b3s ((l13R dj who).1.hs.length) c3s, .slice b4s ((l13R dj who).1.ds.length) c4s, .int .i64 ((l13R dj who).1.now)] I_impl_World rfl ?_
  clear hM; intro W12 hM
  refine wl_nil (cn14 _ _ ?_)
  clear cn14
  refine wl_region ?_
  refine np (.int .i64 (j : Int)) ?_
  refine nI ((j : Int) + 1) ?_
  refine np (.int .i64 ((j : Int) + 1)) ?_
  go_frame
  refine wl_nil ?_
  replace hM := Mem.dropE (B := [(g4, 59, [.slice b1s ((l13R dj who).1.l.length) c1s, .slice b2s ((l13R dj who).1.c.length) c2s, .slice b3s ((l13R dj who).1.hs.length) c3s, .slice b4s ((l13R dj who).1.ds.length) c4s, .int .i64 ((l13R dj who).1.now)]), (g3, 59, [.slice b1s ((l13R dj who).1.l.length) c1s, .slice b2s ((l13R dj who).1.c.length) c2s, .slice b3s ((l13R dj who).1.hs.length) c3s, .slice b4s ((l13R dj who).1.ds.length) c4s, .int .i64 ((l13R dj who).1.now)]), (g2, 59, [.slice none 0 0, .slice none 0 0, .slice none 0 0, .slice none 0 0, .int .i64 0]), (g1, 59, [.slice a1 d.l.length i1, .slice a2 d.c.length i2, .slice (some ⟨b3, off3, none⟩) d.hs.length i3, .slice a4 d.ds.length i4, .int .i64 d.now])]) hM
  replace hM := hM.rest
  have hW2 := l13R_world hWB hwj
  rw [show ((j : Int) + 1) = ((j + 1 : Nat) : Int) by omega]
  exact ⟨⟨j + 1, (l13R dj who).1, E2, _, _, _, _, (fun i => [(U1 0), .pointer (some ⟨g4, 0, none⟩), .bool true, .int .i64 (j : Int), .int .i64 most, .bool true, .bool true, .pointer (some ⟨g3, 2, none⟩), .slice (some ⟨g3e, 0, none⟩) dj.hs.length k3e, .int .i64 who, .pointer (some ⟨g3e, 0 + kw * 17, none⟩), .pointer (some ⟨g3e, 0 + kw * 17, none⟩), .int .i64 hj.at_, .bool true, .bool true, .tuple #[.agg #[.slice b1s ((l13R dj who).1.l.length) c1s, .slice b2s ((l13R dj who).1.c.length) c2s, .slice b3s ((l13R dj who).1.hs.length) c3s, .slice b4s ((l13R dj who).1.ds.length) c4s, .int .i64 ((l13R dj who).1.now)], .bool true], .agg #[.slice a1e dj.l.length k1e, .slice a2e dj.c.length k2e, .slice (some ⟨g3e, 0, none⟩) dj.hs.length k3e, .slice a4e dj.ds.length k4e, .int .i64 dj.now], .int .i64 who, .tuple #[.agg #[.slice b1s ((l13R dj who).1.l.length) c1s, .slice b2s ((l13R dj who).1.c.length) c2s, .slice b3s ((l13R dj who).1.hs.length) c3s, .slice b4s ((l13R dj who).1.ds.length) c4s, .int .i64 ((l13R dj who).1.now)], .bool true], .agg #[.slice b1s ((l13R dj who).1.l.length) c1s, .slice b2s ((l13R dj who).1.c.length) c2s, .slice b3s ((l13R dj who).1.hs.length) c3s, .slice b4s ((l13R dj who).1.ds.length) c4s, .int .i64 ((l13R dj who).1.now)], .bool true, .bool true, .bool false, (U1 23), (U1 24), .agg #[.slice b1s ((l13R dj who).1.l.length) c1s, .slice b2s ((l13R dj who).1.c.length) c2s, .slice b3s ((l13R dj who).1.hs.length) c3s, .slice b4s ((l13R dj who).1.ds.length) c4s, .int .i64 ((l13R dj who).1.now)], .int .i64 (j : Int), .int .i64 ((j : Int) + 1)].getD i undef), rfl, hM, hW2.1, hW2.2.trans hlj, hWI2, by rw [heq]; exact aloneF_step hjm hx9 hx11 hatj, by omega⟩, by simp [intOf]; omega⟩
  rw [hx11]
  refine np (.bool true) ?_
  go_frame
  refine wl_nil (cn13 _ _ ?_)
  clear cn13
  refine wp_cond_true rfl ?_
  refine wp_seq_k fun _ cn14 => wl_region ?_
  refine nl hM 1 rfl Tryz.underlying59 I_impl_World ?_
  refine np (.int .i64 (j : Int)) ?_
  refine nS hM 2 rfl [.slice a1e dj.l.length k1e, .slice a2e dj.c.length k2e, .slice (some ⟨g3e, 0, none⟩) dj.hs.length k3e, .slice a4e dj.ds.length k4e, .int .i64 dj.now] I_impl_World rfl ?_
  clear hM; intro W12 hM
  refine np (.int .i64 (j : Int)) ?_
  go_frame
  refine wl_nil (cn14 _ _ ?_)
  clear cn14
  refine wp_ret ?_
  simp only [Exit.then, Exit.inBlock]
  have hF : aloneF who most.toNat d 0 = (dj, (j : Int)) := by rw [heq]; exact aloneF_stuck hx11
  have hR : aloneR d who most = (dj, (j : Int)) := by simp [aloneR, hx3, hx4, hx6, hF]
  rw [hR]
  exact bodyPost_ret (ret_two (p := 6) (u := 7) (v := .int .i64 (j : Int)) rfl hM 2 rfl rfl rfl Tryz.underlying59 I_impl_World) rfl ⟨E, _, _, _, _, rfl, hWI, Mem.tail (E := E2) (Mem.tail (E := [(g4, 59, [.slice b1s ((l13R dj who).1.l.length) c1s, .slice b2s ((l13R dj who).1.c.length) c2s, .slice b3s ((l13R dj who).1.hs.length) c3s, .slice b4s ((l13R dj who).1.ds.length) c4s, .int .i64 ((l13R dj who).1.now)]), (g3, 59, [.slice a1e dj.l.length k1e, .slice a2e dj.c.length k2e, .slice (some ⟨g3e, 0, none⟩) dj.hs.length k3e, .slice a4e dj.ds.length k4e, .int .i64 dj.now]), (g2, 59, [.slice a1e dj.l.length k1e, .slice a2e dj.c.length k2e, .slice (some ⟨g3e, 0, none⟩) dj.hs.length k3e, .slice a4e dj.ds.length k4e, .int .i64 dj.now]), (g1, 59, [.slice a1 d.l.length i1, .slice a2 d.c.length i2, .slice (some ⟨b3, off3, none⟩) d.hs.length i3, .slice a4 d.ds.length i4, .int .i64 d.now])]) hM)⟩
  rw [hx9]
  refine wp_cond_false rfl ?_
  refine wp_exit ?_
  refine cn8 _ _ ?_
  clear cn8
  refine wp_seq_k fun _ cn11 => wl_region ?_
  refine nl hM 0 rfl Tryz.underlying59 I_impl_World ?_
  refine np (.int .i64 (j : Int)) ?_
  refine nS hM 1 rfl [.slice a1e dj.l.length k1e, .slice a2e dj.c.length k2e, .slice (some ⟨g3e, 0, none⟩) dj.hs.length k3e, .slice a4e dj.ds.length k4e, .int .i64 dj.now] I_impl_World rfl ?_
  clear hM; intro W9 hM
  refine np (.int .i64 (j : Int)) ?_
  go_frame
  refine wl_nil (cn11 _ _ ?_)
  clear cn11
  refine wp_ret ?_
  have hF : aloneF who most.toNat d 0 = (dj, (j : Int)) := by rw [heq]; exact aloneF_rest hx9 hatj
  have hR : aloneR d who most = (dj, (j : Int)) := by simp [aloneR, hx3, hx4, hx6, hF]
  rw [hR]
  exact bodyPost_ret (ret_two (p := 6) (u := 7) (v := .int .i64 (j : Int)) rfl hM 1 rfl rfl rfl Tryz.underlying59 I_impl_World) rfl ⟨E, _, _, _, _, rfl, hWI, (Mem.tail (E := [(g3, 59, [.slice a1e dj.l.length k1e, .slice a2e dj.c.length k2e, .slice (some ⟨g3e, 0, none⟩) dj.hs.length k3e, .slice a4e dj.ds.length k4e, .int .i64 dj.now]), (g2, 59, [.slice a1e dj.l.length k1e, .slice a2e dj.c.length k2e, .slice (some ⟨g3e, 0, none⟩) dj.hs.length k3e, .slice a4e dj.ds.length k4e, .int .i64 dj.now]), (g1, 59, [.slice a1 d.l.length i1, .slice a2 d.c.length i2, .slice (some ⟨b3, off3, none⟩) d.hs.length i3, .slice a4 d.ds.length i4, .int .i64 d.now])]) hM)⟩
  rw [hx8]
  have hje : most.toNat - j = 0 := by simp at hx8; omega
  iterate 7 refine ns ?_
  refine np (.bool false) ?_
  go_frame
  refine wl_nil (cn10 _ _ ?_)
  clear cn10
  refine wp_cond_false rfl ?_
  refine wp_exit ?_
  refine cn8 _ _ ?_
  clear cn8
  refine wp_seq_k fun _ cn11 => wl_region ?_
  refine nl hM 0 rfl Tryz.underlying59 I_impl_World ?_
  refine np (.int .i64 (j : Int)) ?_
  refine nS hM 1 rfl [.slice a1e dj.l.length k1e, .slice a2e dj.c.length k2e, .slice (some ⟨g3e, 0, none⟩) dj.hs.length k3e, .slice a4e dj.ds.length k4e, .int .i64 dj.now] I_impl_World rfl ?_
  clear hM; intro W9 hM
  refine np (.int .i64 (j : Int)) ?_
  go_frame
  refine wl_nil (cn11 _ _ ?_)
  clear cn11
  refine wp_ret ?_
  have hF : aloneF who most.toNat d 0 = (dj, (j : Int)) := by rw [heq, hje]; rfl
  have hR : aloneR d who most = (dj, (j : Int)) := by simp [aloneR, hx3, hx4, hx6, hF]
  rw [hR]
  exact bodyPost_ret (ret_two (p := 6) (u := 7) (v := .int .i64 (j : Int)) rfl hM 1 rfl rfl rfl Tryz.underlying59 I_impl_World) rfl ⟨E, _, _, _, _, rfl, hWI, (Mem.tail (E := [(g3, 59, [.slice a1e dj.l.length k1e, .slice a2e dj.c.length k2e, .slice (some ⟨g3e, 0, none⟩) dj.hs.length k3e, .slice a4e dj.ds.length k4e, .int .i64 dj.now]), (g2, 59, [.slice a1e dj.l.length k1e, .slice a2e dj.c.length k2e, .slice (some ⟨g3e, 0, none⟩) dj.hs.length k3e, .slice a4e dj.ds.length k4e, .int .i64 dj.now]), (g1, 59, [.slice a1 d.l.length i1, .slice a2 d.c.length i2, .slice (some ⟨b3, off3, none⟩) d.hs.length i3, .slice a4 d.ds.length i4, .int .i64 d.now])]) hM)⟩
  rw [hx6]
  refine np (.bool true) ?_
  go_frame
  refine wl_nil (cn6 _ _ ?_)
  clear cn6
  refine wp_cond_true rfl ?_
  refine wp_seq_k fun _ cn7 => wl_region ?_
  refine nl hM 0 rfl Tryz.underlying59 I_impl_World ?_
  refine nS hM 5 rfl [.slice (some ⟨m1, 0, none⟩) d.l.length k1, .slice (some ⟨m2, 0, none⟩) d.c.length k2, .slice (some ⟨m3, 0, none⟩) d.hs.length k3, .slice (some ⟨m4, 0, none⟩) d.ds.length k4, .int .i64 d.now] I_impl_World rfl ?_
  clear hM; intro W9 hM
  refine np (.int .i64 (-1)) ?_
  go_frame
  refine wl_nil (cn7 _ _ ?_)
  clear cn7
  refine wp_ret ?_
  simp only [Exit.then, Exit.inBlock]
  have hR : aloneR d who most = (⟨d.l, d.c, d.hs, d.ds, d.now⟩, (-1)) := by simp [aloneR, hx3, hx4, hx6, hat, tkw]
  rw [hR]
  refine bodyPost_ret (ret_two (p := 6) (u := 7) (v := .int .i64 (-1)) rfl hM 5 rfl rfl rfl Tryz.underlying59 I_impl_World) rfl ⟨[(m1, 49, (cellsOf d.l ++ p1)), (m2, 2, (cellsI d.c ++ p2)), (m3, 73, (cellsH d.hs ++ p3)), (m4, 113, (cellsD d.ds ++ p4))], _, _, _, _, rfl, ⟨RowIn.mk (by first | rfl | (simp; done)) (cellsOf_len _) q1 q2 (by first | exact q5 | (simpa [cellsOf_len, cellsI_len, cellsH_len, cellsD_len] using q5)) (List.mem_of_getElem? (i := 0) rfl), RowIn.mk (by first | rfl | (simp; done)) (cellsI_len1 _) q3 q4 (by first | exact qC | (simpa [cellsOf_len, cellsI_len, cellsH_len, cellsD_len] using qC)) (List.mem_of_getElem? (i := 1) rfl), RowIn.mk (by first | rfl | (simp; done)) (cellsH_len _) q6 q7 (by first | exact q8 | (simpa [cellsOf_len, cellsI_len, cellsH_len, cellsD_len] using q8)) (List.mem_of_getElem? (i := 2) rfl), RowIn.mk (by first | rfl | (simp; done)) (cellsD_len _) q9 qA (by first | exact qB | (simpa [cellsOf_len, cellsI_len, cellsH_len, cellsD_len] using qB)) (List.mem_of_getElem? (i := 3) rfl)⟩, ?_⟩
  replace hM := hM.pull 4 rfl
  replace hM := hM.pull 4 rfl
  replace hM := hM.pull 4 rfl
  replace hM := hM.pull 4 rfl
  exact hM.four
  rw [hx4]
  refine np (.bool true) ?_
  refine np (.bool true) ?_
  go_frame
  refine wl_nil (cn3 _ _ ?_)
  clear cn3
  refine wp_cond_true rfl ?_
  refine wp_seq_k fun _ cn4 => wl_region ?_
  refine np (.agg #[.slice none 0 0, .slice none 0 0, .slice none 0 0, .slice none 0 0, .int .i64 0]) ?_
  refine nS hM 0 rfl [.slice none 0 0, .slice none 0 0, .slice none 0 0, .slice none 0 0, .int .i64 0] I_impl_World rfl ?_
  clear hM; intro W5 hM
  refine np (.int .i64 (-1)) ?_
  go_frame
  refine wl_nil (cn4 _ _ ?_)
  clear cn4
  refine wp_ret ?_
  simp only [Exit.then, Exit.inBlock]
  have hR : aloneR d who most = (WD.zero, (-1)) := by simp [aloneR, hx3, hx4]
  rw [hR]
  exact bodyPost_ret (ret_two (p := 6) (u := 7) (v := .int .i64 (-1)) rfl hM 0 rfl rfl rfl Tryz.underlying59 I_impl_World) rfl ⟨[], _, _, _, _, rfl, ⟨RowIn.nil, RowIn.nil, RowIn.nil, RowIn.nil⟩, hM.only⟩
  rw [hx3]
  refine np (.bool true) ?_
  refine np (.bool true) ?_
  iterate 4 refine ns ?_
  refine np (.bool true) ?_
  go_frame
  refine wl_nil (cn3 _ _ ?_)
  clear cn3
  refine wp_cond_true rfl ?_
  refine wp_seq_k fun _ cn4 => wl_region ?_
  refine np (.agg #[.slice none 0 0, .slice none 0 0, .slice none 0 0, .slice none 0 0, .int .i64 0]) ?_
  refine nS hM 0 rfl [.slice none 0 0, .slice none 0 0, .slice none 0 0, .slice none 0 0, .int .i64 0] I_impl_World rfl ?_
  clear hM; intro W4 hM
  refine np (.int .i64 (-1)) ?_
  go_frame
  refine wl_nil (cn4 _ _ ?_)
  clear cn4
  refine wp_ret ?_
  simp only [Exit.then, Exit.inBlock]
  have hR : aloneR d who most = (WD.zero, (-1)) := by simp [aloneR, hx3]
  rw [hR]
  exact bodyPost_ret (ret_two (p := 6) (u := 7) (v := .int .i64 (-1)) rfl hM 0 rfl rfl rfl Tryz.underlying59 I_impl_World) rfl ⟨[], _, _, _, _, rfl, ⟨RowIn.nil, RowIn.nil, RowIn.nil, RowIn.nil⟩, hM.only⟩

theorem spec_Alone0 (u x y z : Value) (d : WD) (who most : Int) (w0 : World) (hw : SlW w0 u x y z d) (hr : Room d) (hH : d.hs = []) :
    Calls Tryz.prog 45 #[.agg #[u, x, y, z, .int .i64 d.now], .int .i64 who, .int .i64 most] w0 (SaysW (fun w => .tuple #[w, .int .i64 (aloneR d who most).2]) (aloneR d who most).1 w0) := by
  have hwf : worldB d = false := by
    rcases tf (worldB d) with e | e
    · exact absurd hH (world_ne e).2.2.1
    · exact e
  have HW := hw
  obtain ⟨h1, h2, h3, h4⟩ := hw
  have H1 := h1
  have H2 := h2
  have H3 := h3
  have H4 := h4
  obtain ⟨r1, r2, r3, r4⟩ := id hr
  obtain ⟨a1, i1, rfl, -⟩ := h1
  obtain ⟨a2, i2, rfl, -⟩ := h2
  obtain ⟨a3, i3, rfl, -⟩ := h3
  obtain ⟨a4, i4, rfl, -⟩ := h4
  have hM := Mem.start w0
  go_enter Tryz.func45, Tryz.ntmps45
  refine wp_seq_k fun _ cn1 => wl_region ?_
  refine nx hM 59 [.slice a1 d.l.length i1, .slice a2 d.c.length i2, .slice a3 d.hs.length i3, .slice a4 d.ds.length i4, .int .i64 d.now] ?_
  clear hM; intro g1 W1 hM
  refine na hM [.slice none 0 0, .slice none 0 0, .slice none 0 0, .slice none 0 0, .int .i64 0] Z_impl_World ?_
  clear hM; intro g2 W2 hM
  refine np (.int .i64 0) ?_
  go_frame
  refine wl_nil (cn1 _ _ ?_)
  clear cn1
  refine wp_seq_k fun Kn2 cn2 => ?_
  refine wp_seq_k fun _ cn3 => wl_region ?_
  refine nl hM 1 rfl Tryz.underlying59 I_impl_World ?_
  refine nc (spec_WorldOk (.slice a1 d.l.length i1) (.slice a2 d.c.length i2) (.slice a3 d.hs.length i3) (.slice a4 d.ds.length i4) d _ (HW.below hM.below) hr) ?_
  rintro e W3 ⟨rfl, hb⟩
  refine ⟨.bool false, rb hwf, ?_⟩
  replace hM := hM.call hb
  go_frame
  refine np (.bool true) ?_
  refine np (.bool true) ?_
  iterate 4 refine ns ?_
  refine np (.bool true) ?_
  go_frame
  refine wl_nil (cn3 _ _ ?_)
  clear cn3
  refine wp_cond_true rfl ?_
  refine wp_seq_k fun _ cn4 => wl_region ?_
  refine np (.agg #[.slice none 0 0, .slice none 0 0, .slice none 0 0, .slice none 0 0, .int .i64 0]) ?_
  refine nS hM 0 rfl [.slice none 0 0, .slice none 0 0, .slice none 0 0, .slice none 0 0, .int .i64 0] I_impl_World rfl ?_
  clear hM; intro W4 hM
  refine np (.int .i64 (-1)) ?_
  go_frame
  refine wl_nil (cn4 _ _ ?_)
  clear cn4
  refine wp_ret ?_
  simp only [Exit.then, Exit.inBlock]
  have hR : aloneR d who most = (WD.zero, (-1)) := by simp [aloneR, hwf]
  rw [hR]
  exact bodyPost_ret (ret_two (p := 6) (u := 7) (v := .int .i64 (-1)) rfl hM 0 rfl rfl rfl Tryz.underlying59 I_impl_World) rfl ⟨[], _, _, _, _, rfl, ⟨RowIn.nil, RowIn.nil, RowIn.nil, RowIn.nil⟩, hM.only⟩
theorem spec_Alone (u x y z : Value) (d : WD) (who most : Int) (w0 : World) (hw : SlW w0 u x y z d) (hr : Room d) :
    Calls Tryz.prog 45 #[.agg #[u, x, y, z, .int .i64 d.now], .int .i64 who, .int .i64 most] w0 (SaysW (fun w => .tuple #[w, .int .i64 (aloneR d who most).2]) (aloneR d who most).1 w0) := by
  by_cases hH : d.hs = []
  · exact spec_Alone0 u x y z d who most w0 hw hr hH
  · exact spec_Alone1 u x y z d who most w0 hw hr hH
end Go.Proofs.YtbfndoajchibbaaGreat
