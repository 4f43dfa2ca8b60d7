import Derived.Test.YtfjafncipjdnfaaGreatWorldMath
namespace Go.Proofs.YtfjafncipjdnfaaGreat
open Go.ChangeShapes Go.WideShapes Go.ChangeAt Go.RowKit
set_option linter.unusedVariables false
set_option maxRecDepth 100000
set_option maxHeartbeats 16000000
set_option linter.unusedSimpArgs false
theorem Mem.left {w0 w : World} {A B : List Bk} (h : Mem w0 w (A ++ B)) : Mem w0 w A :=
  h.sub (fun i => i) (fun i b hb => by rw [List.getElem?_append_left (List.getElem?_eq_some_iff.1 hb).1]; exact hb) (fun i j _ _ e => e)
theorem Mem.mid {w0 w : World} {A B C : List Bk} (h : Mem w0 w (A ++ (B ++ C))) : Mem w0 w (B ++ (A ++ C)) :=
  h.sub (fun i => if i < B.length then A.length + i else if i < B.length + A.length then i - B.length else i) (fun i b hb => by
    try simp only []
    split
    · rename_i h1
      rw [List.getElem?_append_left h1] at hb;rw [List.getElem?_append_right (by omega), Nat.add_sub_cancel_left, List.getElem?_append_left h1];exact hb
    · rename_i h1
      rw [List.getElem?_append_right (by omega)] at hb
      split
      · rename_i h2
        rw [List.getElem?_append_left (by omega)] at hb;rw [List.getElem?_append_left (by omega)];exact hb
      · rename_i h2
        rw [List.getElem?_append_right (by omega)] at hb;rw [List.getElem?_append_right (by omega), List.getElem?_append_right (by omega)];rw [← hb]
        congr 1
        omega) (fun i j _ _ e => by
    try simp only [] at e
    split at e <;> split at e <;> (try split at e) <;> (try split at e) <;> omega)
theorem Mem.dropE {w0 w : World} {A B C : List Bk} (h : Mem w0 w (B ++ (A ++ C))) : Mem w0 w (B ++ A) := by
  rw [← List.append_assoc] at h;exact h.left
theorem QO {w0 w : World} {L : List Bk} (hM : Mem w0 w L) {g k : Nat} {t : TypeId} {cs : List Value} {v : Value} (h : (g, t, cs) ∈ L) (hv : cs[k]? = some v) : w.cell? ⟨g, k, none⟩ = some v := by
  rw [(hM.mem h).2.cell];exact hv
theorem zO {w0 w : World} {L : List Bk} (hM : Mem w0 w L) {g k : Nat} {t : TypeId} {l : List HD} {p : List Value} {h : HD} (hE : (g, t, LA l ++ p) ∈ L) (hh : l[k]? = some h) : ∀ j v, h.cells[j]? = some v → w.cell? ⟨g, 0 + k * 17 + j, none⟩ = some v := fun j v hv => QO hM hE (KM hh hv)
theorem RowIn.slice {E : List Bk} {t : TypeId} {sz n : Nat} {cs : List Value} {v : Value} (h : RowIn E t sz n cs v) : ∃ a k, v = .slice a n k := by
  rcases h with ⟨rfl, -, a, k, rfl, -⟩ | ⟨-, -, g, k, p, rfl, -⟩
  · exact ⟨_, _, rfl⟩
  · exact ⟨_, _, rfl⟩
theorem RowIn.open {E : List Bk} {t : TypeId} {sz n : Nat} {cs : List Value} {v : Value} (h : RowIn E t sz n cs v) (h0 : 0 < n) : ∃ (g k : Nat) (p : List Value), v = .slice (some ⟨g, 0, none⟩) n k ∧ n ≤ k ∧ k ≤ maxLen ∧ (g, t, cs ++ p) ∈ E := by
  rcases h with ⟨h1, -⟩ | ⟨-, -, g, k, p, e, h1, h2, h3⟩
  · omega
  · exact ⟨g, k, p, e, h1, h2.1, h3⟩
theorem RowIn.openX {E : List Bk} {t : TypeId} {sz n : Nat} {cs : List Value} {v : Value} (h : RowIn E t sz n cs v) (h0 : 0 < n) : ∃ (g k : Nat) (p : List Value), v = .slice (some ⟨g, 0, none⟩) n k ∧ n ≤ k ∧ (k ≤ maxLen ∧ (cs ++ p).length = k * sz) ∧ (g, t, cs ++ p) ∈ E := by
  rcases h with ⟨h1, -⟩ | ⟨-, -, h⟩
  · omega
  · exact h
def lD (who : Int) : Nat → WD → Int → WD × Int
  | 0, d, n => (d, n)
  | f + 1, d, n => if (jB d who).at_ == 0 then (d, n) else if (IC d who).2 then lD who f (IC d who).1 (n + 1) else (d, n)
def BB (d : WD) (who most : Int) : WD × Int :=
  if !JA d || !ZA who 0 ((d.hs.length : Int) - 1) then (WD.zero, -1) else if !ZA most 0 20000 then (d, -1) else lD who most.toNat d 0
theorem WK {who : Int} {f : Nat} {d : WD} {n : Int} {h : HD} (hn : (h.at_ != 0) = false) (ha : jB d who = h) : lD who f d n = (d, n) := by
  cases f with
  | zero => rfl
  | succ f =>
    rw [lD, ha, if_pos]
    simpa using hn
theorem SJ {who : Int} {f : Nat} {d : WD} {n : Int} (hs : (IC d who).2 = false) : lD who f d n = (d, n) := by
  cases f with
  | zero => rfl
  | succ f =>
    rw [lD]
    split
    · rfl
    · rw [if_neg (by simp [hs])]
theorem VK {who : Int} {m j : Nat} {d : WD} {h : HD} (hj : j < m) (hn : (h.at_ != 0) = true) (hs : (IC d who).2 = true) (ha : jB d who = h) : lD who (m - j) d (j : Int) = lD who (m - (j + 1)) (IC d who).1 ((j + 1 : Nat) : Int) := by
  obtain ⟨f, hf⟩ : ∃ f, m - j = f + 1 := ⟨m - j - 1, by omega⟩;have hf' : m - (j + 1) = f := by omega
  rw [hf, hf', lD, ha, if_neg (by simpa using hn), if_pos hs]
  congr 1
theorem kK (u x y z : Value) (d : WD) (who most : Int) (w0 : World) (hw : SlW w0 u x y z d) (hr : nF d) (hH : d.hs ≠ []) :
    Calls Tryz.prog 107 #[.agg #[u, x, y, z, iJ d.now], iJ who, iJ most] w0 (mF (fun w => .tuple #[w, iJ (BB d who most).2]) (BB d who most).1 w0) := by
  have HW := hw;obtain ⟨h1, h2, h3, h4⟩ := hw;have H1 := h1;have H2 := h2;have H3 := h3;have H4 := h4;obtain ⟨r1, r2, r3, r4⟩ := id hr;obtain ⟨a1, i1, rfl, -⟩ := h1;obtain ⟨a2, i2, rfl, -⟩ := h2;obtain ⟨b3, off3, i3, rfl, kk3, mm3, s3, G3, A3⟩ := SlR.all fE (by omega) h3 hH;obtain ⟨a4, i4, rfl, -⟩ := h4;have hM := Mem.start w0
  go_enter Tryz.func107, Tryz.ntmps107
  refine sr fun _ cn1 => ?_;refine nx hM 86 (wv a1 i1 a2 i2 (some ⟨b3, off3, none⟩) i3 a4 i4 d) ?_;clear hM;intro g1 W1 hM;refine na hM [sZ, sZ, sZ, sZ, iJ 0] xB ?_;clear hM;intro g2 W2 hM;refine np (iJ 0) ?_;go_frame;refine wz cn1 ?_;clear cn1;refine wp_seq_k fun Kn2 cn2 => ?_;refine sr fun _ cn3 => ?_;refine nl hM 1 rfl nA gA ?_;refine nc (kE (.slice a1 d.l.length i1) (.slice a2 d.c.length i2) (.slice (some ⟨b3, off3, none⟩) d.hs.length i3) (.slice a4 d.ds.length i4) d _ (HW.below hM.below) hr) ?_;rintro e W3 ⟨rfl, hb⟩;refine ⟨_, rfl, ?_⟩;replace hM := hM.call hb;go_frame;rcases tf ((JA d)) with hx3 | hx3;rw [hx3];obtain ⟨hL, hC, -, hnow⟩ := rE hx3;refine np (.bool false) <| np (.bool false) <| nl hM 1 rfl nA gA <| np (iJ who) ?_;go_frame;refine nC #[.agg (wv a1 i1 a2 i2 (some ⟨b3, off3, none⟩) i3 a4 i4 d).toArray, iJ who] (YE (.slice a1 d.l.length i1) (.slice a2 d.c.length i2) _ d.hs.length _ _ d.now who _ (by omega)) ?_;rintro e W4 ⟨rfl, hb⟩;refine ⟨_, rfl, ?_⟩;replace hM := hM.call hb;go_frame;rcases tf ((ZA who 0 ((d.hs.length : Int) - 1))) with hx4 | hx4;rw [hx4];have hwho : 0 ≤ who ∧ who < d.hs.length := by have := QC hx4; omega
  obtain ⟨kw, hkw, hkl⟩ : ∃ k : Nat, who = (k : Int) ∧ k < d.hs.length := ⟨who.toNat, by omega, by omega⟩;obtain ⟨hh, hhw⟩ : ∃ h, d.hs[kw]? = some h := ⟨_, List.getElem?_eq_getElem hkl⟩;have tkw : who.toNat = kw := by omega
  have hat : jB d who = hh := by simp [jB, tkw, hhw]
  refine np (.bool false) <| np (.bool false) ?_;go_frame;refine wz cn3 ?_;clear cn3;refine wp_cond_false rfl ?_;refine wp_skip ?_;refine cn2 _ _ ?_;clear cn2;refine sr fun _ cn4 => ?_;refine nl hM 1 rfl nA gA ?_;refine nc (xC (.slice a1 d.l.length i1) (.slice a2 d.c.length i2) (.slice (some ⟨b3, off3, none⟩) d.hs.length i3) (.slice a4 d.ds.length i4) d _ (HW.below hM.below) hr hL hC hH) ?_;rintro e W5 ⟨m1, m2, m3, m4, k1, k2, k3, k4, p1, p2, p3, p4, rfl, ⟨q1, q2, q3, q4, q5, qC⟩, ⟨q6, q7, q8⟩, ⟨q9, qA, qB⟩, hMc⟩;refine ⟨_, rfl, ?_⟩;replace hM := hM.join hMc;go_frame;refine na hM [sZ, sZ, sZ, sZ, iJ 0] xB ?_;clear hM;intro g3 W6 hM;refine nS hM 0 rfl (wv (some ⟨m1, 0, none⟩) k1 (some ⟨m2, 0, none⟩) k2 (some ⟨m3, 0, none⟩) k3 (some ⟨m4, 0, none⟩) k4 d) gA rfl ?_;clear hM;intro W7 hM;refine wz cn4 ?_;clear cn4;refine wp_seq_k fun Kn5 cn5 => ?_;refine sr fun _ cn6 => ?_;refine np (iJ most) ?_;refine nc (sF most _) ?_;rintro e W8 ⟨rfl, hb⟩;refine ⟨_, rfl, ?_⟩;replace hM := hM.call hb;go_frame;rcases tf ((ZA most 0 20000)) with hx6 | hx6;rw [hx6];have hmo := QC hx6;refine np (.bool false) ?_;go_frame;refine wz cn6 ?_;clear cn6;refine wp_cond_false rfl ?_;refine wp_skip ?_;refine cn5 _ _ ?_;clear cn5;refine sr fun _ cn7 => ?_;refine np (iJ 0) ?_;go_frame;refine wz cn7 ?_;clear cn7;refine wp_seq_k fun Kn8 cn8 => ?_;refine wp_block ?_;replace hM := hM.pull 4 rfl;replace hM := hM.pull 4 rfl;replace hM := hM.pull 4 rfl;replace hM := hM.pull 4 rfl;replace hM := hM.pull 6 rfl;replace hM := hM.pull 6 rfl;replace hM := hM.pull 6 rfl;refine wp_loop (fun act w => ∃ (j : Nat) (dj : WD) (E : List Bk) (ua xa ya za : Value) (U1 : Nat → Value), act = ⟨#[.agg (wv a1 i1 a2 i2 (some ⟨b3, off3, none⟩) i3 a4 i4 d).toArray, iJ who, iJ most, pt g1 0, uD, uD, pt g2 0, (U1 0), pt g3 0, iJ (j : Int), (U1 1), (U1 2), .agg (wv a1 i1 a2 i2 (some ⟨b3, off3, none⟩) i3 a4 i4 d).toArray, .bool true, .bool false, .bool false, .agg (wv a1 i1 a2 i2 (some ⟨b3, off3, none⟩) i3 a4 i4 d).toArray, iJ who, .bool true, .bool false, .bool false, uD, .agg (wv a1 i1 a2 i2 (some ⟨b3, off3, none⟩) i3 a4 i4 d).toArray, .agg (wv (some ⟨m1, 0, none⟩) k1 (some ⟨m2, 0, none⟩) k2 (some ⟨m3, 0, none⟩) k3 (some ⟨m4, 0, none⟩) k4 d).toArray, iJ most, .bool true, .bool false, uD, (U1 3), (U1 4), (U1 5), (U1 6), (U1 7), (U1 8), (U1 9), (U1 10), (U1 11), (U1 12), (U1 13), (U1 14), (U1 15), (U1 16), (U1 17), (U1 18), (U1 19), (U1 20), (U1 21), (U1 22), (U1 23), (U1 24), (U1 25), (U1 26), (U1 27), uD, uD], []⟩ ∧ Mem w0 w ((g3, 86, [ua, xa, ya, za, iJ dj.now]) :: (g2, 86, [sZ, sZ, sZ, sZ, iJ 0]) :: (g1, 86, (wv a1 i1 a2 i2 (some ⟨b3, off3, none⟩) i3 a4 i4 d)) :: E) ∧ (JA dj = true ∧ dj.hs.length = d.hs.length ∧ WorldIn E dj ua xa ya za ∧ lD who most.toNat d 0 = lD who (most.toNat - j) dj (j : Int) ∧ j ≤ most.toNat)) (fun act _ => most.toNat - (intOf (act.tmps.getD 9 undef)).toNat) ?_ ?_;exact ⟨0, d, [(m1, 37, (cellsOf d.l ++ p1)), (m2, 2, (CA d.c ++ p2)), (m3, 45, (LA d.hs ++ p3)), (m4, 156, (mB d.ds ++ p4))], sa m1 d.l.length k1, sa m2 d.c.length k2, sa m3 d.hs.length k3, sa m4 d.ds.length k4, exU (7 :: 10 :: 11 :: List.range' 28 25) ⟨hM, hx3, rfl, ⟨RowIn.mk rfl (iA _) q1 q2 q5 (List.mem_of_getElem? (i := 0) rfl), RowIn.mk rfl (OB _) q3 q4 qC (List.mem_of_getElem? (i := 1) rfl), RowIn.mk rfl (uA _) q6 q7 q8 (List.mem_of_getElem? (i := 2) rfl), RowIn.mk rfl (zA _) q9 qA qB (List.mem_of_getElem? (i := 3) rfl)⟩, by simp, by omega⟩⟩;clear hM;rintro act w ⟨j, dj, E, ua, xa, ya, za, U1, rfl, hM, hWB, hlj, hWI, heq, hjl⟩;refine wp_seq_k fun Kn9 cn9 => ?_;refine wp_seq_k fun Kn10 cn10 => ?_;obtain ⟨hLj, hCj, hHj, hnj⟩ := rE hWB;have hwj : 0 ≤ who ∧ who < dj.hs.length := by omega
  have hkj : kw < dj.hs.length := by omega
  obtain ⟨hj, hhj⟩ : ∃ h, dj.hs[kw]? = some h := ⟨_, List.getElem?_eq_getElem hkj⟩;have hatj : jB dj who = hj := by simp [jB, tkw, hhj]
  obtain ⟨g3e, k3e, p3e, rfl, c3a, c3b, hE3⟩ := hWI.2.2.1.open (by omega);obtain ⟨a1e, k1e, rfl⟩ := hWI.1.slice;obtain ⟨a2e, k2e, rfl⟩ := hWI.2.1.slice;obtain ⟨a4e, k4e, rfl⟩ := hWI.2.2.2.slice;refine wA ?_;refine np (iJ (j : Int)) <| np (iJ most) <| np (.bool (decide ((j : Int) < most))) <| np (.bool (decide ((j : Int) < most))) ?_;go_frame;rcases tf (decide ((j : Int) < most)) with hx8 | hx8;rw [hx8];have hjm : j < most.toNat := by simp at hx8; omega
  refine np (pt g3 2) <| ng hM 0 rfl 2 tA rfl <| np (iJ who) ?_;go_frame;refine MA (by kernel_rfl) 83 45 _ _ rfl g3e 0 dj.hs.length k3e 17 kw rfl rfl hkw (by omega) tA aA ?_;go_frame;refine np (pt g3e (0 + kw * 17)) ?_;go_frame;refine AE (by kernel_rfl) 2 _ rfl ⟨g3e, 0 + kw * 17, none⟩ rfl bA rfl (zO hM (List.mem_append_right [_, _, _] hE3) hhj 0 _ rfl) ?_;go_frame;refine np (.bool (hj.at_ != 0)) <| np (.bool (hj.at_ != 0)) ?_;go_frame;refine wz cn10 ?_;clear cn10;rcases tf ((hj.at_ != 0)) with hx9 | hx9;rw [hx9];refine wp_cond_true rfl ?_;refine wp_skip ?_;refine cn9 _ _ ?_;clear cn9;refine wp_block ?_;refine sr fun _ cn11 => ?_;refine nl hM 0 rfl nA gA <| np (iJ who) ?_;refine nc (fJ (.slice a1e dj.l.length k1e) (.slice a2e dj.c.length k2e) (sa g3e dj.hs.length k3e) (.slice a4e dj.ds.length k4e) dj who _ (hWI.sl hM (fun b hb => (List.mem_append_right [_, _, _] hb))) (wD hWB) hLj hCj hHj hwj hnj) ?_;rintro e W9 ⟨E2, u2, x2, y2, z2, rfl, hWI2, hM2⟩;replace hM := Mem.mid (B := [(g3, 86, (wv a1e k1e a2e k2e (some ⟨g3e, 0, none⟩) k3e a4e k4e dj)), (g2, 86, [sZ, sZ, sZ, sZ, iJ 0]), (g1, 86, (wv a1 i1 a2 i2 (some ⟨b3, off3, none⟩) i3 a4 i4 d))]) (hM.join hM2);clear hM2;obtain ⟨b1s, c1s, rfl⟩ := hWI2.1.slice;obtain ⟨b2s, c2s, rfl⟩ := hWI2.2.1.slice;obtain ⟨b3s, c3s, rfl⟩ := hWI2.2.2.1.slice;obtain ⟨b4s, c4s, rfl⟩ := hWI2.2.2.2.slice;refine ⟨_, rfl, ?_⟩;go_frame;refine np (.tuple #[.agg (wv b1s c1s b2s c2s b3s c3s b4s c4s ((IC dj who).1)).toArray, .bool ((IC dj who).2)]) <| np (.agg (wv b1s c1s b2s c2s b3s c3s b4s c4s ((IC dj who).1)).toArray) <| np (.bool ((IC dj who).2)) ?_;refine na hM [sZ, sZ, sZ, sZ, iJ 0] xB ?_;clear hM;intro g4 W10 hM;refine nS hM 0 rfl (wv b1s c1s b2s c2s b3s c3s b4s c4s ((IC dj who).1)) gA rfl ?_;clear hM;intro W11 hM;refine np (.bool ((IC dj who).2)) ?_;go_frame;refine wz cn11 ?_;clear cn11;refine wp_seq_k fun Kn12 cn12 => ?_;refine sr fun _ cn13 => ?_;refine np (.bool ((IC dj who).2)) ?_;go_frame;rcases tf ((IC dj who).2) with hx11 | hx11;rw [hx11];refine np (.bool false) ?_;go_frame;refine wz cn13 ?_;clear cn13;refine wp_cond_false rfl ?_;refine wp_skip ?_;refine cn12 _ _ ?_;clear cn12;refine sr fun _ cn14 => ?_;refine nl hM 0 rfl nA gA ?_;refine nS hM 1 rfl (wv b1s c1s b2s c2s b3s c3s b4s c4s ((IC dj who).1)) gA rfl ?_;clear hM;intro W12 hM;refine wz cn14 ?_;clear cn14;refine wA ?_;refine np (iJ (j : Int)) <| nI ((j : Int) + 1) <| np (iJ ((j : Int) + 1)) ?_;go_frame;refine CB ?_;replace hM := Mem.dropE (B := [(g4, 86, (wv b1s c1s b2s c2s b3s c3s b4s c4s ((IC dj who).1))), (g3, 86, (wv b1s c1s b2s c2s b3s c3s b4s c4s ((IC dj who).1))), (g2, 86, [sZ, sZ, sZ, sZ, iJ 0]), (g1, 86, (wv a1 i1 a2 i2 (some ⟨b3, off3, none⟩) i3 a4 i4 d))]) hM;replace hM := hM.rest;have hW2 := RH hWB hwj;rw [show ((j : Int) + 1) = ((j + 1 : Nat) : Int) by omega];exact ⟨⟨j + 1, (IC dj who).1, E2, _, _, _, _, exU (7 :: 10 :: 11 :: List.range' 28 25) ⟨hM, hW2.1, hW2.2.trans hlj, hWI2, by rw [heq]; exact VK hjm hx9 hx11 hatj, by omega⟩⟩, by simp [intOf]; omega⟩;rw [hx11];refine np (.bool true) ?_;go_frame;refine wz cn13 ?_;clear cn13;refine wp_cond_true rfl ?_;refine sr fun _ cn14 => ?_;refine nl hM 1 rfl nA gA <| np (iJ (j : Int)) ?_;refine nS hM 2 rfl (wv a1e k1e a2e k2e (some ⟨g3e, 0, none⟩) k3e a4e k4e dj) gA rfl ?_;clear hM;intro W12 hM;refine np (iJ (j : Int)) ?_;go_frame;refine wz cn14 ?_;clear cn14;refine wp_ret ?_;simp only [Exit.then, Exit.inBlock];have hF : lD who most.toNat d 0 = (dj, (j : Int)) := by rw [heq]; exact SJ hx11
  have hR : BB d who most = (dj, (j : Int)) := by simp [BB, hx3, hx4, hx6, hF]
  rw [hR];exact bodyPost_ret (zB (p := 6) (u := 7) (v := iJ (j : Int)) rfl hM 2 rfl rfl rfl nA gA) rfl ⟨E, _, _, _, _, rfl, hWI, Mem.tail (E := E2) (Mem.tail (E := [(g4, 86, (wv b1s c1s b2s c2s b3s c3s b4s c4s ((IC dj who).1))), (g3, 86, (wv a1e k1e a2e k2e (some ⟨g3e, 0, none⟩) k3e a4e k4e dj)), (g2, 86, (wv a1e k1e a2e k2e (some ⟨g3e, 0, none⟩) k3e a4e k4e dj)), (g1, 86, (wv a1 i1 a2 i2 (some ⟨b3, off3, none⟩) i3 a4 i4 d))]) hM)⟩;rw [hx9];refine wp_cond_false rfl ?_;refine wp_exit ?_;refine cn8 _ _ ?_;clear cn8;refine sr fun _ cn11 => ?_;refine nl hM 0 rfl nA gA <| np (iJ (j : Int)) ?_;refine nS hM 1 rfl (wv a1e k1e a2e k2e (some ⟨g3e, 0, none⟩) k3e a4e k4e dj) gA rfl ?_;clear hM;intro W9 hM;refine np (iJ (j : Int)) ?_;go_frame;refine wz cn11 ?_;clear cn11;refine wp_ret ?_;have hF : lD who most.toNat d 0 = (dj, (j : Int)) := by rw [heq]; exact WK hx9 hatj
  have hR : BB d who most = (dj, (j : Int)) := by simp [BB, hx3, hx4, hx6, hF]
  rw [hR];exact bodyPost_ret (zB (p := 6) (u := 7) (v := iJ (j : Int)) rfl hM 1 rfl rfl rfl nA gA) rfl ⟨E, _, _, _, _, rfl, hWI, (Mem.tail (E := [(g3, 86, (wv a1e k1e a2e k2e (some ⟨g3e, 0, none⟩) k3e a4e k4e dj)), (g2, 86, (wv a1e k1e a2e k2e (some ⟨g3e, 0, none⟩) k3e a4e k4e dj)), (g1, 86, (wv a1 i1 a2 i2 (some ⟨b3, off3, none⟩) i3 a4 i4 d))]) hM)⟩;rw [hx8];have hje : most.toNat - j = 0 := by simp at hx8; omega
  iterate 7 refine ns ?_
  refine np (.bool false) ?_;go_frame;refine wz cn10 ?_;clear cn10;refine wp_cond_false rfl ?_;refine wp_exit ?_;refine cn8 _ _ ?_;clear cn8;refine sr fun _ cn11 => ?_;refine nl hM 0 rfl nA gA <| np (iJ (j : Int)) ?_;refine nS hM 1 rfl (wv a1e k1e a2e k2e (some ⟨g3e, 0, none⟩) k3e a4e k4e dj) gA rfl ?_;clear hM;intro W9 hM;refine np (iJ (j : Int)) ?_;go_frame;refine wz cn11 ?_;clear cn11;refine wp_ret ?_;have hF : lD who most.toNat d 0 = (dj, (j : Int)) := by rw [heq, hje]; rfl
  have hR : BB d who most = (dj, (j : Int)) := by simp [BB, hx3, hx4, hx6, hF]
  rw [hR];exact bodyPost_ret (zB (p := 6) (u := 7) (v := iJ (j : Int)) rfl hM 1 rfl rfl rfl nA gA) rfl ⟨E, _, _, _, _, rfl, hWI, (Mem.tail (E := [(g3, 86, (wv a1e k1e a2e k2e (some ⟨g3e, 0, none⟩) k3e a4e k4e dj)), (g2, 86, (wv a1e k1e a2e k2e (some ⟨g3e, 0, none⟩) k3e a4e k4e dj)), (g1, 86, (wv a1 i1 a2 i2 (some ⟨b3, off3, none⟩) i3 a4 i4 d))]) hM)⟩;rw [hx6];refine np (.bool true) ?_;go_frame;refine wz cn6 ?_;clear cn6;refine wp_cond_true rfl ?_;refine sr fun _ cn7 => ?_;refine nl hM 0 rfl nA gA ?_;refine nS hM 5 rfl (wv (some ⟨m1, 0, none⟩) k1 (some ⟨m2, 0, none⟩) k2 (some ⟨m3, 0, none⟩) k3 (some ⟨m4, 0, none⟩) k4 d) gA rfl ?_;clear hM;intro W9 hM;refine np (iJ (-1)) ?_;go_frame;refine wz cn7 ?_;clear cn7;refine wp_ret ?_;simp only [Exit.then, Exit.inBlock];have hR : BB d who most = (⟨d.l, d.c, d.hs, d.ds, d.now⟩, (-1)) := by simp [BB, hx3, hx4, hx6, hat, tkw]
  rw [hR];refine bodyPost_ret (zB (p := 6) (u := 7) (v := iJ (-1)) rfl hM 5 rfl rfl rfl nA gA) rfl ⟨[(m1, 37, (cellsOf d.l ++ p1)), (m2, 2, (CA d.c ++ p2)), (m3, 45, (LA d.hs ++ p3)), (m4, 156, (mB d.ds ++ p4))], _, _, _, _, rfl, ⟨RowIn.mk (by first | rfl | (simp; done)) (iA _) q1 q2 (by first | exact q5 | (simpa [iA, BA, uA, zA] using q5)) (List.mem_of_getElem? (i := 0) rfl), RowIn.mk (by first | rfl | (simp; done)) (OB _) q3 q4 (by first | exact qC | (simpa [iA, BA, uA, zA] using qC)) (List.mem_of_getElem? (i := 1) rfl), RowIn.mk (by first | rfl | (simp; done)) (uA _) q6 q7 (by first | exact q8 | (simpa [iA, BA, uA, zA] using q8)) (List.mem_of_getElem? (i := 2) rfl), RowIn.mk (by first | rfl | (simp; done)) (zA _) q9 qA (by first | exact qB | (simpa [iA, BA, uA, zA] using qB)) (List.mem_of_getElem? (i := 3) rfl)⟩, ?_⟩;replace hM := hM.pull 4 rfl;replace hM := hM.pull 4 rfl;replace hM := hM.pull 4 rfl;replace hM := hM.pull 4 rfl;exact hM.four;rw [hx4];refine np (.bool true) <| np (.bool true) ?_;go_frame;refine wz cn3 ?_;clear cn3;refine wp_cond_true rfl ?_;refine sr fun _ cn4 => ?_;refine np (.agg #[sZ, sZ, sZ, sZ, iJ 0]) ?_;refine nS hM 0 rfl [sZ, sZ, sZ, sZ, iJ 0] gA rfl ?_;clear hM;intro W5 hM;refine np (iJ (-1)) ?_;go_frame;refine wz cn4 ?_;clear cn4;refine wp_ret ?_;simp only [Exit.then, Exit.inBlock];have hR : BB d who most = (WD.zero, (-1)) := by simp [BB, hx3, hx4]
  rw [hR];exact bodyPost_ret (zB (p := 6) (u := 7) (v := iJ (-1)) rfl hM 0 rfl rfl rfl nA gA) rfl ⟨[], _, _, _, _, rfl, ⟨RowIn.nil, RowIn.nil, RowIn.nil, RowIn.nil⟩, hM.only⟩;rw [hx3];refine np (.bool true) <| np (.bool true) ?_
  iterate 4 refine ns ?_
  refine np (.bool true) ?_;go_frame;refine wz cn3 ?_;clear cn3;refine wp_cond_true rfl ?_;refine sr fun _ cn4 => ?_;refine np (.agg #[sZ, sZ, sZ, sZ, iJ 0]) ?_;refine nS hM 0 rfl [sZ, sZ, sZ, sZ, iJ 0] gA rfl ?_;clear hM;intro W4 hM;refine np (iJ (-1)) ?_;go_frame;refine wz cn4 ?_;clear cn4;refine wp_ret ?_;simp only [Exit.then, Exit.inBlock];have hR : BB d who most = (WD.zero, (-1)) := by simp [BB, hx3]
  rw [hR];exact bodyPost_ret (zB (p := 6) (u := 7) (v := iJ (-1)) rfl hM 0 rfl rfl rfl nA gA) rfl ⟨[], _, _, _, _, rfl, ⟨RowIn.nil, RowIn.nil, RowIn.nil, RowIn.nil⟩, hM.only⟩
theorem lK (u x y z : Value) (d : WD) (who most : Int) (w0 : World) (hw : SlW w0 u x y z d) (hr : nF d) (hH : d.hs = []) :
    Calls Tryz.prog 107 #[.agg #[u, x, y, z, iJ d.now], iJ who, iJ most] w0 (mF (fun w => .tuple #[w, iJ (BB d who most).2]) (BB d who most).1 w0) := by
  have hwf : JA d = false := by
    rcases tf (JA d) with e | e
    · exact absurd hH (rE e).2.2.1
    · exact e
  have HW := hw;obtain ⟨h1, h2, h3, h4⟩ := hw;have H1 := h1;have H2 := h2;have H3 := h3;have H4 := h4;obtain ⟨r1, r2, r3, r4⟩ := id hr;obtain ⟨a1, i1, rfl, -⟩ := h1;obtain ⟨a2, i2, rfl, -⟩ := h2;obtain ⟨a3, i3, rfl, -⟩ := h3;obtain ⟨a4, i4, rfl, -⟩ := h4;have hM := Mem.start w0
  go_enter Tryz.func107, Tryz.ntmps107
  refine sr fun _ cn1 => ?_;refine nx hM 86 (wv a1 i1 a2 i2 a3 i3 a4 i4 d) ?_;clear hM;intro g1 W1 hM;refine na hM [sZ, sZ, sZ, sZ, iJ 0] xB ?_;clear hM;intro g2 W2 hM;refine np (iJ 0) ?_;go_frame;refine wz cn1 ?_;clear cn1;refine wp_seq_k fun Kn2 cn2 => ?_;refine sr fun _ cn3 => ?_;refine nl hM 1 rfl nA gA ?_;refine nc (kE (.slice a1 d.l.length i1) (.slice a2 d.c.length i2) (.slice a3 d.hs.length i3) (.slice a4 d.ds.length i4) d _ (HW.below hM.below) hr) ?_;rintro e W3 ⟨rfl, hb⟩;refine ⟨.bool false, rb hwf, ?_⟩;replace hM := hM.call hb;go_frame;refine np (.bool true) <| np (.bool true) ?_
  iterate 4 refine ns ?_
  refine np (.bool true) ?_;go_frame;refine wz cn3 ?_;clear cn3;refine wp_cond_true rfl ?_;refine sr fun _ cn4 => ?_;refine np (.agg #[sZ, sZ, sZ, sZ, iJ 0]) ?_;refine nS hM 0 rfl [sZ, sZ, sZ, sZ, iJ 0] gA rfl ?_;clear hM;intro W4 hM;refine np (iJ (-1)) ?_;go_frame;refine wz cn4 ?_;clear cn4;refine wp_ret ?_;simp only [Exit.then, Exit.inBlock];have hR : BB d who most = (WD.zero, (-1)) := by simp [BB, hwf]
  rw [hR];exact bodyPost_ret (zB (p := 6) (u := 7) (v := iJ (-1)) rfl hM 0 rfl rfl rfl nA gA) rfl ⟨[], _, _, _, _, rfl, ⟨RowIn.nil, RowIn.nil, RowIn.nil, RowIn.nil⟩, hM.only⟩
theorem IH (u x y z : Value) (d : WD) (who most : Int) (w0 : World) (hw : SlW w0 u x y z d) (hr : nF d) :
    Calls Tryz.prog 107 #[.agg #[u, x, y, z, iJ d.now], iJ who, iJ most] w0 (mF (fun w => .tuple #[w, iJ (BB d who most).2]) (BB d who most).1 w0) := by
  by_cases hH : d.hs = []
  · exact lK u x y z d who most w0 hw hr hH
  · exact kK u x y z d who most w0 hw hr hH
end Go.Proofs.YtfjafncipjdnfaaGreat
