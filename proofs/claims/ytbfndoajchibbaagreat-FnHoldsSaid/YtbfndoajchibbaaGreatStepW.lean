/- A world among blocks of one's own; a step in it, a call in it: the model. -/
import Derived.Test.YtbfndoajchibbaaGreatShort
import Derived.Test.YtbfndoajchibbaaGreatShort2
import Derived.Test.YtbfndoajchibbaaGreatCopyW
import Derived.Test.YtbfndoajchibbaaGreatHand3
namespace Go.Proofs.YtbfndoajchibbaaGreat
open Go.ChangeShapes Go.WideShapes Go.ChangeAt Go.RowKit
set_option linter.unusedVariables false
set_option maxRecDepth 100000
set_option maxHeartbeats 16000000
set_option linter.unusedSimpArgs false

/-- A row that lies in one of some blocks, or has nothing in it. -/
def RowIn (E : List Bk) (t : TypeId) (sz n : Nat) (cs : List Value) (v : Value) : Prop :=
  (n = 0 ∧ cs = [] ∧ ∃ a k, v = .slice a 0 k ∧ k ≤ maxLen) ∨ (0 < n ∧ cs.length = n * sz ∧ ∃ (g k : Nat) (p : List Value), v = .slice (some ⟨g, 0, none⟩) n k ∧ n ≤ k ∧ (k ≤ maxLen ∧ (cs ++ p).length = k * sz) ∧ (g, t, cs ++ p) ∈ E)
theorem RowIn.mk {E : List Bk} {t : TypeId} {sz n m g k : Nat} {cs p : List Value} (hn : n = m) (hl : cs.length = m * sz) (h1 : n ≤ k) (h2 : k ≤ maxLen) (hx : (cs ++ p).length = k * sz) (hE : (g, t, cs ++ p) ∈ E) : RowIn E t sz m cs (.slice (some ⟨g, 0, none⟩) n k) := by
  subst hn
  rcases Nat.eq_zero_or_pos n with h0 | h0
  · subst h0
    exact .inl ⟨rfl, List.length_eq_zero_iff.1 (by simpa using hl), _, _, rfl, h2⟩
  · exact .inr ⟨h0, hl, g, k, p, rfl, h1, ⟨h2, hx⟩, hE⟩
theorem RowIn.nil {E : List Bk} {t : TypeId} {sz : Nat} : RowIn E t sz 0 [] (.slice none 0 0) := .inl ⟨rfl, rfl, _, _, rfl, by simp [maxLen]⟩
theorem RowIn.sl {E : List Bk} {t : TypeId} {sz n : Nat} {cs : List Value} {v : Value} {w0 w : World} (h : RowIn E t sz n cs v) (hM : ∀ b ∈ E, w0.heap.size ≤ b.1 ∧ Blk w b.1 b.2.1 b.2.2) : Sl w v sz n cs := by
  rcases h with ⟨rfl, rfl, a, k, rfl, hk⟩ | ⟨h0, hl, g, k, p, rfl, h1, h2, hE⟩
  · exact ⟨a, k, rfl, Nat.zero_le _, hk, by simp, .inl rfl⟩
  · refine ⟨_, k, rfl, h1, h2.1, hl, .inr ⟨g, 0, rfl, fun i hi => ?_⟩⟩
    rw [Nat.zero_add, (hM _ hE).2.cell, List.getElem?_append_left hi]
theorem RowIn.own {E : List Bk} {t : TypeId} {sz n : Nat} {cs : List Value} {v : Value} {w0 w : World} (h : RowIn E t sz n cs v) (hM : ∀ b ∈ E, w0.heap.size ≤ b.1 ∧ Blk w b.1 b.2.1 b.2.2) : OwnR w w0.heap.size w.heap.size t sz n cs v := by
  rcases h with ⟨rfl, rfl, a, k, rfl, hk⟩ | ⟨h0, hl, g, k, p, rfl, h1, h2, hE⟩
  · exact OwnR.nil _ _ _ _ _ _ _ hk
  · exact OwnR.of_own ⟨k, p, rfl, h1, h2.1, ⟨hl, h2.2⟩, (hM _ hE).2⟩ (hM _ hE).1 h0
theorem RowIn.mono {E E' : List Bk} {t : TypeId} {sz n : Nat} {cs : List Value} {v : Value} (h : RowIn E t sz n cs v) (hE : ∀ b ∈ E, b ∈ E') : RowIn E' t sz n cs v := by
  rcases h with h | ⟨h0, hl, g, k, p, e, h1, h2, h3⟩
  · exact .inl h
  · exact .inr ⟨h0, hl, g, k, p, e, h1, h2, hE _ h3⟩
def WorldIn (E : List Bk) (d : WD) (u x y z : Value) : Prop := RowIn E 49 8 d.l.length (cellsOf d.l) u ∧ RowIn E 2 1 d.c.length (cellsI d.c) x ∧ RowIn E 73 17 d.hs.length (cellsH d.hs) y ∧ RowIn E 113 8 d.ds.length (cellsD d.ds) z
/-- A world that a call hands back in memory of its own. -/
def SaysW (f : Value → Value) (R : WD) (w : World) (e : Ending) (w' : World) : Prop :=
  ∃ (E : List Bk) (u x y z : Value), e = .returned (f (.agg #[u, x, y, z, .int .i64 R.now])) ∧ WorldIn E R u x y z ∧ Mem w w' E
theorem WorldIn.sl {E : List Bk} {d : WD} {u x y z : Value} {w0 w : World} {L : List Bk} (h : WorldIn E d u x y z) (hM : Mem w0 w L) (hE : ∀ b ∈ E, b ∈ L) : SlW w u x y z d := by
  have hm : ∀ b ∈ E, w0.heap.size ≤ b.1 ∧ Blk w b.1 b.2.1 b.2.2 := fun b hb => hM.mem (hE b hb)
  exact ⟨h.1.sl hm, h.2.1.sl hm, h.2.2.1.sl hm, h.2.2.2.sl hm⟩
theorem SlW.below {w w' : World} {u x y z : Value} {d : WD} (h : SlW w u x y z d) (hb : Below w.heap.size w w') : SlW w' u x y z d := ⟨h.1.below hb, h.2.1.below hb, h.2.2.1.below hb, h.2.2.2.below hb⟩
def WD.zero : WD := ⟨[], [], [], [], 0⟩
theorem cellsI_len1 (l : List Int) : (cellsI l).length = l.length * 1 := by rw [cellsI_len, Nat.mul_one]
def handAt (d : WD) (who : Int) : HD := (d.hs[who.toNat]?).getD HD.zero
theorem noR_none : noR.1.length = 0 ∧ noR.2.1.length = 0 ∧ noR.2.2.2 = false := ⟨rfl, rfl, rfl⟩
/-- Either nothing is answered, and false; or nodes and counts. -/
def Both2 (R : StepR) : Prop := (R.1.length = 0 ∧ R.2.1.length = 0 ∧ R.2.2.2 = false) ∨ (0 < R.1.length ∧ 0 < R.2.1.length)
theorem doneR_both2 (l : List ND) (c : List Int) (h : HD) : Both2 (doneR l c h) := by
  unfold doneR
  split
  · rename_i hk
    simp only [sharedB, Bool.and_eq_true] at hk
    exact .inr ⟨(nodes_some hk.1.1).1, (countsB_some hk.1.2).1⟩
  · exact .inl noR_none
theorem lockR_both2 {l : List ND} {c : List Int} {task : Int} {h : HD} {a b at' then' : Int} (hk : l7okB l c task h a b = true) : Both2 (lockR l c task h at' then') := by
  obtain ⟨hl, hc, -⟩ := ok_facts hk
  exact .inr (lockR_pos hl hc)
theorem stepR_both2 (l : List ND) (c : List Int) (task : Int) (h : HD) : Both2 (stepR l c task h) := by
  have noB := (Or.inl noR_none : Both2 noR)
  unfold stepR
  split
  · unfold findR
    repeat' split
    all_goals first | exact noB | exact doneR_both2 _ _ _
  · split
    · unfold addR
      split
      · exact noB
      · rename_i hk
        have hk' : l7okB l c task h 5 8 = true := by simp at hk; exact hk.1.1
        repeat' split
        all_goals first | exact doneR_both2 _ _ _ | exact lockR_both2 hk'
    · split
      · unfold cutR
        split
        · exact noB
        · rename_i hk
          have hk' : l7okB l c task h 9 13 = true := by simp at hk; exact hk.1.1
          repeat' split
          all_goals first | exact doneR_both2 _ _ _ | exact lockR_both2 hk'
      · split
        · unfold waitR
          split
          · exact noB
          · rename_i hk
            have hk' : l7okB l c task h 22 26 = true := by simp at hk; exact hk.1
            obtain ⟨hl, hc, hl1, hc1, -⟩ := ok_facts hk'
            repeat' split
            all_goals first | exact doneR_both2 _ _ _ | exact .inr ⟨hl1, hc1⟩
        · unfold mvR
          split
          · exact noB
          · rename_i hk
            have hk' : l7okB l c task h 14 25 = true := by simp at hk; exact hk.1.1.1.1.1
            repeat' split
            all_goals first | exact doneR_both2 _ _ _ | exact lockR_both2 hk'

/-- A step of a task in a right world; whether there was one. -/
def l13R (d : WD) (who : Int) : WD × Bool :=
  if !(stepR d.l d.c who (handAt d who)).2.2.2 || d.now == 20000 then (d, false)
  else if (stepR d.l d.c who (handAt d who)).2.2.1.at_ != 0 then (⟨(stepR d.l d.c who (handAt d who)).1, (stepR d.l d.c who (handAt d who)).2.1, d.hs.set who.toNat (stepR d.l d.c who (handAt d who)).2.2.1, d.ds, d.now + 1⟩, true)
  else if decide ((d.ds.length : Int) ≥ 1000) || !replyB (handAt d who).c (handAt d who).k (handAt d who).v (stepR d.l d.c who (handAt d who)).2.2.1.reply then (d, false)
  else (⟨(stepR d.l d.c who (handAt d who)).1, (stepR d.l d.c who (handAt d who)).2.1, d.hs.set who.toNat (stepR d.l d.c who (handAt d who)).2.2.1, d.ds ++ [⟨who, (handAt d who).c, (handAt d who).k, (handAt d who).v, (handAt d who).begin_, d.now + 1, (stepR d.l d.c who (handAt d who)).2.2.1.reply, (stepR d.l d.c who (handAt d who)).2.2.1.out⟩], d.now + 1⟩, true)

theorem spec_l13Step0 (u x y z : Value) (d : WD) (who : Int) (w0 : World) (hw : SlW w0 u x y z d) (hr : Room d) (hL : d.l ≠ []) (hC : d.c ≠ []) (hH : d.hs ≠ []) (hwho : 0 ≤ who ∧ who < d.hs.length) (hnow : 0 ≤ d.now ∧ d.now ≤ 20000) (hz : (stepR d.l d.c who (handAt d who)).1.length = 0 ∧ (stepR d.l d.c who (handAt d who)).2.1.length = 0 ∧ (stepR d.l d.c who (handAt d who)).2.2.2 = false) :
    Calls Tryz.prog 70 #[.agg #[u, x, y, z, .int .i64 d.now], .int .i64 who] w0 (SaysW (fun v => .tuple #[v, .bool (l13R d who).2]) (l13R d who).1 w0) := by
  obtain ⟨kw, hkw, hkl⟩ : ∃ k : Nat, who = (k : Int) ∧ k < d.hs.length := ⟨who.toNat, by omega, by omega⟩
  obtain ⟨hh, hhw⟩ : ∃ h, d.hs[kw]? = some h := ⟨_, List.getElem?_eq_getElem hkl⟩
  have tkw : who.toNat = kw := by omega
  have hat : handAt d who = hh := by simp [handAt, tkw, hhw]
  rw [hat] at hz
  have hzf := hz.2.2
  have HW := hw
  obtain ⟨h1, h2, h3, h4⟩ := hw
  have H1 := h1
  have H2 := h2
  have H3 := h3
  have H4 := h4
  obtain ⟨r1, r2, r3, r4⟩ := id hr
  obtain ⟨a1, i1, rfl, -⟩ := h1
  obtain ⟨a2, i2, rfl, -⟩ := h2
  obtain ⟨b3, off3, i3, rfl, kk3, mm3, s3, G3, A3⟩ := SlR.all hd_len (by omega) h3 hH
  obtain ⟨a4, i4, rfl, -⟩ := h4
  have hM := Mem.start w0
  go_enter Tryz.func70, Tryz.ntmps70
  refine wp_seq_k fun _ cn1 => wl_region ?_
  refine nx hM 59 [.slice a1 d.l.length i1, .slice a2 d.c.length i2, .slice (some ⟨b3, off3, none⟩) d.hs.length i3, .slice a4 d.ds.length i4, .int .i64 d.now] ?_
  clear hM; intro g1 W1 hM
  refine na hM [.slice none 0 0, .slice none 0 0, .slice none 0 0, .slice none 0 0, .int .i64 0] Z_impl_World ?_
  clear hM; intro g2 W2 hM
  refine np (.bool false) ?_
  go_frame
  refine wl_nil (cn1 _ _ ?_)
  clear cn1
  refine wp_seq_k fun _ cn2 => wl_region ?_
  refine np (.pointer (some ⟨g1, 2, none⟩)) ?_
  refine ng hM 1 rfl 2 Tryz.underlying56 rfl ?_
  refine np (.int .i64 who) ?_
  go_frame
  refine wl_index (by kernel_rfl) 56 73 _ _ rfl b3 off3 d.hs.length i3 17 kw rfl rfl hkw (by omega) Tryz.underlying56 I_impl_Hand ?_
  go_frame
  refine wl_cells (by kernel_rfl) 73 _ rfl b3 (off3 + kw * 17) rfl Tryz.underlying73 (HD.cells hh) I_impl_Hand (row_far hM s3 (G3 kw hh hhw)) ?_
  go_frame
  refine na hM (HD.cells HD.zero) Z_impl_Hand ?_
  clear hM; intro g3 W3 hM
  refine nS hM 0 rfl (HD.cells hh) I_impl_Hand (hd_one' _) ?_
  clear hM; intro W4 hM
  refine wl_nil (cn2 _ _ ?_)
  clear cn2
  refine wp_seq_k fun _ cn3 => wl_region ?_
  refine np (.pointer (some ⟨g1, 0, none⟩)) ?_
  go_frame
  refine wl_part (by kernel_rfl) hM 2 rfl 55 _ rfl 0 rfl Tryz.underlying55 [.slice a1 d.l.length i1, .slice a2 d.c.length i2] I_impl_Shared rfl ?_
  go_frame
  refine np (.int .i64 who) ?_
  refine nl hM 0 rfl Tryz.underlying73 I_impl_Hand ?_
  refine nc (spec_Step (.slice a1 d.l.length i1) (.slice a2 d.c.length i2) d.l d.c who hh _ (H1.below hM.below) (H2.below hM.below) r1 r2) ?_
  rintro e W5 ⟨u', x', rfl, hO1, hO2, hb⟩
  obtain ⟨a1', j1', rfl, y1⟩ := own_zero hO1 hz.1
  obtain ⟨a2', j2', rfl, y2⟩ := own_zero hO2 hz.2.1
  replace hM := hM.call hb
  rw [hzf]
  refine ⟨_, rfl, ?_⟩
  go_frame
  refine np (.tuple #[.agg #[.slice a1' 0 j1', .slice a2' 0 j2'], .agg (HD.cells ((stepR d.l d.c who hh).2.2.1)).toArray, .bool false]) ?_
  refine np (.agg #[.slice a1' 0 j1', .slice a2' 0 j2']) ?_
  refine np (.agg (HD.cells ((stepR d.l d.c who hh).2.2.1)).toArray) ?_
  refine np (.bool false) ?_
  refine na hM [.slice none 0 0, .slice none 0 0] Z_impl_Shared ?_
  clear hM; intro g4 W6 hM
  refine na hM (HD.cells HD.zero) Z_impl_Hand ?_
  clear hM; intro g5 W7 hM
  refine nS hM 1 rfl [.slice a1' 0 j1', .slice a2' 0 j2'] I_impl_Shared rfl ?_
  clear hM; intro W8 hM
  refine nS hM 0 rfl (HD.cells ((stepR d.l d.c who hh).2.2.1)) I_impl_Hand (hd_one' _) ?_
  clear hM; intro W9 hM
  refine np (.bool false) ?_
  go_frame
  refine wl_nil (cn3 _ _ ?_)
  clear cn3
  refine wp_seq_k fun Kn4 cn4 => ?_
  refine wp_seq_k fun _ cn5 => wl_region ?_
  refine np (.bool false) ?_
  refine np (.bool true) ?_
  refine np (.bool true) ?_
  iterate 3 refine ns ?_
  refine np (.bool true) ?_
  go_frame
  refine wl_nil (cn5 _ _ ?_)
  clear cn5
  refine wp_cond_true rfl ?_
  refine wp_seq_k fun _ cn6 => wl_region ?_
  refine nl hM 4 rfl Tryz.underlying59 I_impl_World ?_
  refine nc (spec_l13Copy (.slice a1 d.l.length i1) (.slice a2 d.c.length i2) (.slice (some ⟨b3, off3, none⟩) d.hs.length i3) (.slice a4 d.ds.length i4) d _ (HW.below hM.below) hr hL hC hH) ?_
  rintro e W10 ⟨m1, m2, m3, m4, k1, k2, k3, k4, p1, p2, p3, p4, rfl, ⟨q1, q2, q3, q4, q5, qC⟩, ⟨q6, q7, q8⟩, ⟨q9, qA, qB⟩, hMc⟩
  refine ⟨_, rfl, ?_⟩
  replace hM := hM.join hMc
  go_frame
  refine nS hM 7 rfl [.slice (some ⟨m1, 0, none⟩) d.l.length k1, .slice (some ⟨m2, 0, none⟩) d.c.length k2, .slice (some ⟨m3, 0, none⟩) d.hs.length k3, .slice (some ⟨m4, 0, none⟩) d.ds.length k4, .int .i64 d.now] I_impl_World rfl ?_
  clear hM; intro W11 hM
  refine np (.bool false) ?_
  go_frame
  refine wl_nil (cn6 _ _ ?_)
  clear cn6
  refine wp_ret ?_
  simp only [Exit.then, Exit.inBlock]
  have hR : l13R d who = (⟨d.l, d.c, d.hs, d.ds, d.now⟩, false) := by simp [l13R, hzf, hat, tkw]
  rw [hR]
  refine bodyPost_ret (ret_two (p := 4) (u := 5) (v := .bool false) rfl hM 7 rfl rfl rfl Tryz.underlying59 I_impl_World) rfl ⟨[(m1, 49, (cellsOf d.l ++ p1)), (m2, 2, (cellsI d.c ++ p2)), (m3, 73, (cellsH d.hs ++ p3)), (m4, 113, (cellsD d.ds ++ p4))], _, _, _, _, rfl, ⟨RowIn.mk (by first | rfl | (simp; done)) (cellsOf_len _) q1 q2 (by first | exact q5 | (simpa [cellsOf_len, cellsI_len, cellsH_len, cellsD_len] using q5)) (List.mem_of_getElem? (i := 0) rfl), RowIn.mk (by first | rfl | (simp; done)) (cellsI_len1 _) q3 q4 (by first | exact qC | (simpa [cellsOf_len, cellsI_len, cellsH_len, cellsD_len] using qC)) (List.mem_of_getElem? (i := 1) rfl), RowIn.mk (by first | rfl | (simp; done)) (cellsH_len _) q6 q7 (by first | exact q8 | (simpa [cellsOf_len, cellsI_len, cellsH_len, cellsD_len] using q8)) (List.mem_of_getElem? (i := 2) rfl), RowIn.mk (by first | rfl | (simp; done)) (cellsD_len _) q9 qA (by first | exact qB | (simpa [cellsOf_len, cellsI_len, cellsH_len, cellsD_len] using qB)) (List.mem_of_getElem? (i := 3) rfl)⟩, ?_⟩
  replace hM := hM.pull 3 rfl
  replace hM := hM.pull 3 rfl
  replace hM := hM.pull 3 rfl
  replace hM := hM.pull 3 rfl
  exact hM.four

theorem spec_l13Step1 (u x y z : Value) (d : WD) (who : Int) (w0 : World) (hw : SlW w0 u x y z d) (hr : Room d) (hL : d.l ≠ []) (hC : d.c ≠ []) (hH : d.hs ≠ []) (hwho : 0 ≤ who ∧ who < d.hs.length) (hnow : 0 ≤ d.now ∧ d.now ≤ 20000) (hz : 0 < (stepR d.l d.c who (handAt d who)).1.length ∧ 0 < (stepR d.l d.c who (handAt d who)).2.1.length) :
    Calls Tryz.prog 70 #[.agg #[u, x, y, z, .int .i64 d.now], .int .i64 who] w0 (SaysW (fun v => .tuple #[v, .bool (l13R d who).2]) (l13R d who).1 w0) := by
  obtain ⟨kw, hkw, hkl⟩ : ∃ k : Nat, who = (k : Int) ∧ k < d.hs.length := ⟨who.toNat, by omega, by omega⟩
  obtain ⟨hh, hhw⟩ : ∃ h, d.hs[kw]? = some h := ⟨_, List.getElem?_eq_getElem hkl⟩
  have tkw : who.toNat = kw := by omega
  have hat : handAt d who = hh := by simp [handAt, tkw, hhw]
  rw [hat] at hz
  have HW := hw
  obtain ⟨h1, h2, h3, h4⟩ := hw
  have H1 := h1
  have H2 := h2
  have H3 := h3
  have H4 := h4
  obtain ⟨r1, r2, r3, r4⟩ := id hr
  obtain ⟨a1, i1, rfl, -⟩ := h1
  obtain ⟨a2, i2, rfl, -⟩ := h2
  obtain ⟨b3, off3, i3, rfl, kk3, mm3, s3, G3, A3⟩ := SlR.all hd_len (by omega) h3 hH
  obtain ⟨a4, i4, rfl, -⟩ := h4
  have hM := Mem.start w0
  go_enter Tryz.func70, Tryz.ntmps70
  refine wp_seq_k fun _ cn1 => wl_region ?_
  refine nx hM 59 [.slice a1 d.l.length i1, .slice a2 d.c.length i2, .slice (some ⟨b3, off3, none⟩) d.hs.length i3, .slice a4 d.ds.length i4, .int .i64 d.now] ?_
  clear hM; intro g1 W1 hM
  refine na hM [.slice none 0 0, .slice none 0 0, .slice none 0 0, .slice none 0 0, .int .i64 0] Z_impl_World ?_
  clear hM; intro g2 W2 hM
  refine np (.bool false) ?_
  go_frame
  refine wl_nil (cn1 _ _ ?_)
  clear cn1
  refine wp_seq_k fun _ cn2 => wl_region ?_
  refine np (.pointer (some ⟨g1, 2, none⟩)) ?_
  refine ng hM 1 rfl 2 Tryz.underlying56 rfl ?_
  refine np (.int .i64 who) ?_
  go_frame
  refine wl_index (by kernel_rfl) 56 73 _ _ rfl b3 off3 d.hs.length i3 17 kw rfl rfl hkw (by omega) Tryz.underlying56 I_impl_Hand ?_
  go_frame
  refine wl_cells (by kernel_rfl) 73 _ rfl b3 (off3 + kw * 17) rfl Tryz.underlying73 (HD.cells hh) I_impl_Hand (row_far hM s3 (G3 kw hh hhw)) ?_
  go_frame
  refine na hM (HD.cells HD.zero) Z_impl_Hand ?_
  clear hM; intro g3 W3 hM
  refine nS hM 0 rfl (HD.cells hh) I_impl_Hand (hd_one' _) ?_
  clear hM; intro W4 hM
  refine wl_nil (cn2 _ _ ?_)
  clear cn2
  refine wp_seq_k fun _ cn3 => wl_region ?_
  refine np (.pointer (some ⟨g1, 0, none⟩)) ?_
  go_frame
  refine wl_part (by kernel_rfl) hM 2 rfl 55 _ rfl 0 rfl Tryz.underlying55 [.slice a1 d.l.length i1, .slice a2 d.c.length i2] I_impl_Shared rfl ?_
  go_frame
  refine np (.int .i64 who) ?_
  refine nl hM 0 rfl Tryz.underlying73 I_impl_Hand ?_
  refine nc (spec_Step (.slice a1 d.l.length i1) (.slice a2 d.c.length i2) d.l d.c who hh _ (H1.below hM.below) (H2.below hM.below) r1 r2) ?_
  rintro e W5 ⟨u', x', rfl, hO1, hO2, hb⟩
  obtain ⟨v1, j1, r1', rfl, s1', s2', s3', s4', s9'⟩ := own_blk hO1 hz.1
  obtain ⟨v2, j2, r2', rfl, s5', s6', s7', s8', s0'⟩ := own_blk hO2 hz.2
  replace hM := hM.join (Mem.two hb s4' s8' s3' s7' ne_types)
  refine ⟨_, rfl, ?_⟩
  go_frame
  refine np (.tuple #[.agg #[.slice (some ⟨v1, 0, none⟩) ((stepR d.l d.c who hh).1.length) j1, .slice (some ⟨v2, 0, none⟩) ((stepR d.l d.c who hh).2.1.length) j2], .agg (HD.cells ((stepR d.l d.c who hh).2.2.1)).toArray, .bool ((stepR d.l d.c who hh).2.2.2)]) ?_
  refine np (.agg #[.slice (some ⟨v1, 0, none⟩) ((stepR d.l d.c who hh).1.length) j1, .slice (some ⟨v2, 0, none⟩) ((stepR d.l d.c who hh).2.1.length) j2]) ?_
  refine np (.agg (HD.cells ((stepR d.l d.c who hh).2.2.1)).toArray) ?_
  refine np (.bool ((stepR d.l d.c who hh).2.2.2)) ?_
  refine na hM [.slice none 0 0, .slice none 0 0] Z_impl_Shared ?_
  clear hM; intro g4 W6 hM
  refine na hM (HD.cells HD.zero) Z_impl_Hand ?_
  clear hM; intro g5 W7 hM
  refine nS hM 1 rfl [.slice (some ⟨v1, 0, none⟩) ((stepR d.l d.c who hh).1.length) j1, .slice (some ⟨v2, 0, none⟩) ((stepR d.l d.c who hh).2.1.length) j2] I_impl_Shared rfl ?_
  clear hM; intro W8 hM
  refine nS hM 0 rfl (HD.cells ((stepR d.l d.c who hh).2.2.1)) I_impl_Hand (hd_one' _) ?_
  clear hM; intro W9 hM
  refine np (.bool ((stepR d.l d.c who hh).2.2.2)) ?_
  go_frame
  refine wl_nil (cn3 _ _ ?_)
  clear cn3
  refine wp_seq_k fun Kn4 cn4 => ?_
  refine wp_seq_k fun _ cn5 => wl_region ?_
  refine np (.bool ((stepR d.l d.c who hh).2.2.2)) ?_
  go_frame
  rcases tf ((stepR d.l d.c who hh).2.2.2) with hx2 | hx2
  rw [hx2]
  refine np (.bool false) ?_
  refine np (.bool false) ?_
  refine np (.pointer (some ⟨g1, 4, none⟩)) ?_
  refine ng hM 6 rfl 4 Tryz.underlying2 rfl ?_
  refine np (.bool (d.now == 20000)) ?_
  refine np (.bool (d.now == 20000)) ?_
  go_frame
  refine wl_nil (cn5 _ _ ?_)
  clear cn5
  rcases tf ((d.now == 20000)) with hx3 | hx3
  rw [hx3]
  refine wp_cond_true rfl ?_
  refine wp_seq_k fun _ cn6 => wl_region ?_
  refine nl hM 6 rfl Tryz.underlying59 I_impl_World ?_
  refine nc (spec_l13Copy (.slice a1 d.l.length i1) (.slice a2 d.c.length i2) (.slice (some ⟨b3, off3, none⟩) d.hs.length i3) (.slice a4 d.ds.length i4) d _ (HW.below hM.below) hr hL hC hH) ?_
  rintro e W10 ⟨m1, m2, m3, m4, k1, k2, k3, k4, p1, p2, p3, p4, rfl, ⟨q1, q2, q3, q4, q5, qC⟩, ⟨q6, q7, q8⟩, ⟨q9, qA, qB⟩, hMc⟩
  refine ⟨_, rfl, ?_⟩
  replace hM := hM.join hMc
  go_frame
  refine nS hM 9 rfl [.slice (some ⟨m1, 0, none⟩) d.l.length k1, .slice (some ⟨m2, 0, none⟩) d.c.length k2, .slice (some ⟨m3, 0, none⟩) d.hs.length k3, .slice (some ⟨m4, 0, none⟩) d.ds.length k4, .int .i64 d.now] I_impl_World rfl ?_
  clear hM; intro W11 hM
  refine np (.bool false) ?_
  go_frame
  refine wl_nil (cn6 _ _ ?_)
  clear cn6
  refine wp_ret ?_
  simp only [Exit.then, Exit.inBlock]
  have hR : l13R d who = (⟨d.l, d.c, d.hs, d.ds, d.now⟩, false) := by simp [l13R, hx2, hx3, hat, tkw]
  rw [hR]
  refine bodyPost_ret (ret_two (p := 4) (u := 5) (v := .bool false) rfl hM 9 rfl rfl rfl Tryz.underlying59 I_impl_World) rfl ⟨[(m1, 49, (cellsOf d.l ++ p1)), (m2, 2, (cellsI d.c ++ p2)), (m3, 73, (cellsH d.hs ++ p3)), (m4, 113, (cellsD d.ds ++ p4))], _, _, _, _, rfl, ⟨RowIn.mk (by first | rfl | (simp; done)) (cellsOf_len _) q1 q2 (by first | exact q5 | (simpa [cellsOf_len, cellsI_len, cellsH_len, cellsD_len] using q5)) (List.mem_of_getElem? (i := 0) rfl), RowIn.mk (by first | rfl | (simp; done)) (cellsI_len1 _) q3 q4 (by first | exact qC | (simpa [cellsOf_len, cellsI_len, cellsH_len, cellsD_len] using qC)) (List.mem_of_getElem? (i := 1) rfl), RowIn.mk (by first | rfl | (simp; done)) (cellsH_len _) q6 q7 (by first | exact q8 | (simpa [cellsOf_len, cellsI_len, cellsH_len, cellsD_len] using q8)) (List.mem_of_getElem? (i := 2) rfl), RowIn.mk (by first | rfl | (simp; done)) (cellsD_len _) q9 qA (by first | exact qB | (simpa [cellsOf_len, cellsI_len, cellsH_len, cellsD_len] using qB)) (List.mem_of_getElem? (i := 3) rfl)⟩, ?_⟩
  replace hM := hM.pull 3 rfl
  replace hM := hM.pull 3 rfl
  replace hM := hM.pull 3 rfl
  replace hM := hM.pull 3 rfl
  exact hM.four
  rw [hx3]
  refine wp_cond_false rfl ?_
  refine wp_skip ?_
  refine cn4 _ _ ?_
  clear cn4
  refine wp_seq_k fun _ cn6 => wl_region ?_
  refine nl hM 6 rfl Tryz.underlying59 I_impl_World ?_
  refine nc (spec_l13Copy (.slice a1 d.l.length i1) (.slice a2 d.c.length i2) (.slice (some ⟨b3, off3, none⟩) d.hs.length i3) (.slice a4 d.ds.length i4) d _ (HW.below hM.below) hr hL hC hH) ?_
  rintro e W10 ⟨m1, m2, m3, m4, k1, k2, k3, k4, p1, p2, p3, p4, rfl, ⟨q1, q2, q3, q4, q5, qC⟩, ⟨q6, q7, q8⟩, ⟨q9, qA, qB⟩, hMc⟩
  refine ⟨_, rfl, ?_⟩
  replace hM := hM.join hMc
  go_frame
  refine na hM [.slice none 0 0, .slice none 0 0, .slice none 0 0, .slice none 0 0, .int .i64 0] Z_impl_World ?_
  clear hM; intro g6 W11 hM
  refine nS hM 0 rfl [.slice (some ⟨m1, 0, none⟩) d.l.length k1, .slice (some ⟨m2, 0, none⟩) d.c.length k2, .slice (some ⟨m3, 0, none⟩) d.hs.length k3, .slice (some ⟨m4, 0, none⟩) d.ds.length k4, .int .i64 d.now] I_impl_World rfl ?_
  clear hM; intro W12 hM
  refine wl_nil (cn6 _ _ ?_)
  clear cn6
  refine wp_seq_k fun _ cn7 => wl_region ?_
  refine np (.pointer (some ⟨g1, 4, none⟩)) ?_
  refine ng hM 11 rfl 4 Tryz.underlying2 rfl ?_
  refine nI (d.now + 1) ?_
  refine np (.pointer (some ⟨g6, 4, none⟩)) ?_
  refine nk hM 0 rfl 4 (.int .i64 (d.now + 1)) I_int64 (by first | (simp; done) | exact Nat.le_of_ble_eq_true (by kernel_rfl)) ?_
  clear hM; intro W13 hM
  refine wl_nil (cn7 _ _ ?_)
  clear cn7
  refine wp_seq_k fun _ cn8 => wl_region ?_
  refine nl hM 6 rfl Tryz.underlying55 I_impl_Shared ?_
  refine np (.pointer (some ⟨g6, 0, none⟩)) ?_
  go_frame
  refine wl_storep (by kernel_rfl) hM 0 rfl 55 _ _ rfl rfl 0 rfl [.slice (some ⟨v1, 0, none⟩) ((stepR d.l d.c who hh).1.length) j1, .slice (some ⟨v2, 0, none⟩) ((stepR d.l d.c who hh).2.1.length) j2] rfl I_impl_Shared (by simp) rfl ?_
  clear hM; intro W14 hM
  refine wl_nil (cn8 _ _ ?_)
  clear cn8
  refine wp_seq_k fun _ cn9 => wl_region ?_
  refine np (.pointer (some ⟨g6, 2, none⟩)) ?_
  refine ng hM 0 rfl 2 Tryz.underlying56 rfl ?_
  refine np (.int .i64 who) ?_
  refine nl hM 5 rfl Tryz.underlying73 I_impl_Hand ?_
  go_frame
  refine wl_index (by kernel_rfl) 56 73 _ _ rfl m3 0 d.hs.length k3 17 kw rfl rfl hkw (by omega) Tryz.underlying56 I_impl_Hand ?_
  go_frame
  refine wl_storep (by kernel_rfl) hM 3 rfl 73 _ _ rfl rfl (0 + kw * 17) rfl (HD.cells ((stepR d.l d.c who hh).2.2.1)) rfl I_impl_Hand (hand_room hkl) (hd_one' _) ?_
  clear hM; intro W15 hM; rw [splice_hand hkl] at hM
  refine wl_nil (cn9 _ _ ?_)
  clear cn9
  refine wp_seq_k fun Kn10 cn10 => ?_
  refine wp_seq_k fun _ cn11 => wl_region ?_
  refine np (.pointer (some ⟨g5, 0, none⟩)) ?_
  refine ng hM 5 rfl 0 Tryz.underlying2 rfl ?_
  refine np (.bool (((stepR d.l d.c who hh).2.2.1).at_ != 0)) ?_
  go_frame
  refine wl_nil (cn11 _ _ ?_)
  clear cn11
  rcases tf ((((stepR d.l d.c who hh).2.2.1).at_ != 0)) with hx4 | hx4
  rw [hx4]
  refine wp_cond_true rfl ?_
  refine wp_seq_k fun _ cn12 => wl_region ?_
  refine nl hM 0 rfl Tryz.underlying59 I_impl_World ?_
  refine nS hM 10 rfl [.slice (some ⟨v1, 0, none⟩) ((stepR d.l d.c who hh).1.length) j1, .slice (some ⟨v2, 0, none⟩) ((stepR d.l d.c who hh).2.1.length) j2, .slice (some ⟨m3, 0, none⟩) d.hs.length k3, .slice (some ⟨m4, 0, none⟩) d.ds.length k4, .int .i64 (d.now + 1)] I_impl_World rfl ?_
  clear hM; intro W16 hM
  refine np (.bool true) ?_
  go_frame
  refine wl_nil (cn12 _ _ ?_)
  clear cn12
  refine wp_ret ?_
  simp only [Exit.then, Exit.inBlock]
  have hR : l13R d who = (⟨(stepR d.l d.c who hh).1, (stepR d.l d.c who hh).2.1, (d.hs.set kw ((stepR d.l d.c who hh).2.2.1)), d.ds, (d.now + 1)⟩, true) := by simp [l13R, hx2, hx3, hx4, hat, tkw]
  rw [hR]
  refine bodyPost_ret (ret_two (p := 4) (u := 5) (v := .bool true) rfl hM 10 rfl rfl rfl Tryz.underlying59 I_impl_World) rfl ⟨[(v1, 49, (cellsOf ((stepR d.l d.c who hh).1) ++ r1')), (v2, 2, (cellsI (stepR d.l d.c who hh).2.1 ++ r2')), (m3, 73, (cellsH (d.hs.set kw ((stepR d.l d.c who hh).2.2.1)) ++ p3)), (m4, 113, (cellsD d.ds ++ p4))], _, _, _, _, rfl, ⟨RowIn.mk (by first | rfl | (simp; done)) (cellsOf_len _) s1' s2' (by first | exact s9' | (simpa [cellsOf_len, cellsI_len, cellsH_len, cellsD_len] using s9')) (List.mem_of_getElem? (i := 0) rfl), RowIn.mk (by first | rfl | (simp; done)) (cellsI_len1 _) s5' s6' (by first | exact s0' | (simpa [cellsOf_len, cellsI_len, cellsH_len, cellsD_len] using s0')) (List.mem_of_getElem? (i := 1) rfl), RowIn.mk (by first | rfl | (simp; done)) (cellsH_len _) q6 q7 (by first | exact q8 | (simpa [cellsOf_len, cellsI_len, cellsH_len, cellsD_len] using q8)) (List.mem_of_getElem? (i := 2) rfl), RowIn.mk (by first | rfl | (simp; done)) (cellsD_len _) q9 qA (by first | exact qB | (simpa [cellsOf_len, cellsI_len, cellsH_len, cellsD_len] using qB)) (List.mem_of_getElem? (i := 3) rfl)⟩, ?_⟩
  replace hM := hM.pull 4 rfl
  replace hM := hM.pull 4 rfl
  replace hM := hM.pull 8 rfl
  replace hM := hM.pull 8 rfl
  exact hM.four
  rw [hx4]
  refine wp_cond_false rfl ?_
  refine wp_skip ?_
  refine cn10 _ _ ?_
  clear cn10
  refine wp_seq_k fun Kn12 cn12 => ?_
  refine wp_seq_k fun _ cn13 => wl_region ?_
  refine np (.pointer (some ⟨g1, 3, none⟩)) ?_
  refine ng hM 11 rfl 3 Tryz.underlying57 rfl ?_
  refine np (.int .i64 (d.ds.length : Int)) ?_
  refine np (.bool (decide ((d.ds.length : Int) ≥ 1000))) ?_
  refine np (.bool (decide ((d.ds.length : Int) ≥ 1000))) ?_
  go_frame
  rcases tf (decide ((d.ds.length : Int) ≥ 1000)) with hx7 | hx7
  rw [hx7]
  iterate 6 refine ns ?_
  refine np (.bool true) ?_
  go_frame
  refine wl_nil (cn13 _ _ ?_)
  clear cn13
  refine wp_cond_true rfl ?_
  refine wp_seq_k fun _ cn14 => wl_region ?_
  refine nl hM 11 rfl Tryz.underlying59 I_impl_World ?_
  refine nc (spec_l13Copy (.slice a1 d.l.length i1) (.slice a2 d.c.length i2) (.slice (some ⟨b3, off3, none⟩) d.hs.length i3) (.slice a4 d.ds.length i4) d _ (HW.below hM.below) hr hL hC hH) ?_
  rintro e W16 ⟨m1_2, m2_2, m3_2, m4_2, k1_2, k2_2, k3_2, k4_2, p1_2, p2_2, p3_2, p4_2, rfl, ⟨q1_2, q2_2, q3_2, q4_2, q5_2, qC_2⟩, ⟨q6_2, q7_2, q8_2⟩, ⟨q9_2, qA_2, qB_2⟩, hMc⟩
  refine ⟨_, rfl, ?_⟩
  replace hM := hM.join hMc
  go_frame
  refine nS hM 14 rfl [.slice (some ⟨m1_2, 0, none⟩) d.l.length k1_2, .slice (some ⟨m2_2, 0, none⟩) d.c.length k2_2, .slice (some ⟨m3_2, 0, none⟩) d.hs.length k3_2, .slice (some ⟨m4_2, 0, none⟩) d.ds.length k4_2, .int .i64 d.now] I_impl_World rfl ?_
  clear hM; intro W17 hM
  refine np (.bool false) ?_
  go_frame
  refine wl_nil (cn14 _ _ ?_)
  clear cn14
  refine wp_ret ?_
  simp only [Exit.then, Exit.inBlock]
  have hR : l13R d who = (⟨d.l, d.c, d.hs, d.ds, d.now⟩, false) := by simp [l13R, hx2, hx3, hx4, hx7, hat, tkw]
  rw [hR]
  refine bodyPost_ret (ret_two (p := 4) (u := 5) (v := .bool false) rfl hM 14 rfl rfl rfl Tryz.underlying59 I_impl_World) rfl ⟨[(m1_2, 49, (cellsOf d.l ++ p1_2)), (m2_2, 2, (cellsI d.c ++ p2_2)), (m3_2, 73, (cellsH d.hs ++ p3_2)), (m4_2, 113, (cellsD d.ds ++ p4_2))], _, _, _, _, rfl, ⟨RowIn.mk (by first | rfl | (simp; done)) (cellsOf_len _) q1_2 q2_2 (by first | exact q5_2 | (simpa [cellsOf_len, cellsI_len, cellsH_len, cellsD_len] using q5_2)) (List.mem_of_getElem? (i := 0) rfl), RowIn.mk (by first | rfl | (simp; done)) (cellsI_len1 _) q3_2 q4_2 (by first | exact qC_2 | (simpa [cellsOf_len, cellsI_len, cellsH_len, cellsD_len] using qC_2)) (List.mem_of_getElem? (i := 1) rfl), RowIn.mk (by first | rfl | (simp; done)) (cellsH_len _) q6_2 q7_2 (by first | exact q8_2 | (simpa [cellsOf_len, cellsI_len, cellsH_len, cellsD_len] using q8_2)) (List.mem_of_getElem? (i := 2) rfl), RowIn.mk (by first | rfl | (simp; done)) (cellsD_len _) q9_2 qA_2 (by first | exact qB_2 | (simpa [cellsOf_len, cellsI_len, cellsH_len, cellsD_len] using qB_2)) (List.mem_of_getElem? (i := 3) rfl)⟩, ?_⟩
  replace hM := hM.pull 3 rfl
  replace hM := hM.pull 3 rfl
  replace hM := hM.pull 3 rfl
  replace hM := hM.pull 3 rfl
  exact hM.four
  rw [hx7]
  refine np (.pointer (some ⟨g3, 1, none⟩)) ?_
  go_frame
  refine wl_part (by kernel_rfl) hM 9 rfl 71 _ rfl 1 rfl Tryz.underlying71 [.int .i64 hh.c, .int .i64 hh.k, .int .i64 hh.v] I_impl_Call rfl ?_
  go_frame
  refine np (.pointer (some ⟨g5, 15, none⟩)) ?_
  refine ng hM 5 rfl 15 Tryz.underlying2 rfl ?_
  refine nc (spec_ReplyOk hh.c hh.k hh.v (((stepR d.l d.c who hh).2.2.1).reply) _) ?_
  rintro e W16 ⟨rfl, hb⟩
  refine ⟨_, rfl, ?_⟩
  replace hM := hM.call hb
  go_frame
  rcases tf ((replyB hh.c hh.k hh.v (((stepR d.l d.c who hh).2.2.1).reply))) with hx8 | hx8
  rw [hx8]
  refine np (.bool false) ?_
  refine np (.bool false) ?_
  go_frame
  refine wl_nil (cn13 _ _ ?_)
  clear cn13
  refine wp_cond_false rfl ?_
  refine wp_skip ?_
  refine cn12 _ _ ?_
  clear cn12
  refine wp_seq_k fun _ cn14 => wl_region ?_
  refine np (.pointer (some ⟨g6, 3, none⟩)) ?_
  refine ng hM 0 rfl 3 Tryz.underlying57 rfl ?_
  refine np (.int .i64 who) ?_
  refine np (.pointer (some ⟨g3, 1, none⟩)) ?_
  go_frame
  refine wl_part (by kernel_rfl) hM 9 rfl 71 _ rfl 1 rfl Tryz.underlying71 [.int .i64 hh.c, .int .i64 hh.k, .int .i64 hh.v] I_impl_Call rfl ?_
  go_frame
  refine np (.pointer (some ⟨g3, 14, none⟩)) ?_
  refine ng hM 9 rfl 14 Tryz.underlying2 rfl ?_
  refine np (.pointer (some ⟨g6, 4, none⟩)) ?_
  refine ng hM 0 rfl 4 Tryz.underlying2 rfl ?_
  refine np (.pointer (some ⟨g5, 15, none⟩)) ?_
  refine ng hM 5 rfl 15 Tryz.underlying2 rfl ?_
  refine np (.pointer (some ⟨g5, 16, none⟩)) ?_
  refine ng hM 5 rfl 16 Tryz.underlying2 rfl ?_
  refine np (.agg (DD.cells ⟨who, hh.c, hh.k, hh.v, hh.begin_, (d.now + 1), (((stepR d.l d.c who hh).2.2.1).reply), (((stepR d.l d.c who hh).2.2.1).out)⟩).toArray) ?_
  go_frame
  refine wl_buildSlice (by kernel_rfl) hM 113 1 (DD.cells ⟨who, hh.c, hh.k, hh.v, hh.begin_, (d.now + 1), (((stepR d.l d.c who hh).2.2.1).reply), (((stepR d.l d.c who hh).2.2.1).out)⟩) (fun w => by kernel_rfl) ?_
  clear hM; intro g7 W17 hM
  go_frame
  refine wl_append (by kernel_rfl) hM 5 rfl 0 rfl _ _ 57 rfl Tryz.underlying57 infoDeal rfl (by decide) d.ds.length k4 1 1 rfl q9 qA (cellsD_len _) qB rfl rfl (dd_one _) (by decide) (by (try unfold maxLen); omega) (by (try unfold maxLen); omega) ?_
  clear hM; intro ga'1 ka'2 pa'3 W18 qa'4 qb'5 qe'6 hM
  rw [deal_snoc _ (⟨who, hh.c, hh.k, hh.v, hh.begin_, (d.now + 1), (((stepR d.l d.c who hh).2.2.1).reply), (((stepR d.l d.c who hh).2.2.1).out)⟩) _] at hM qe'6
  go_frame
  refine np (.pointer (some ⟨g6, 3, none⟩)) ?_
  refine nk hM 1 rfl 3 (.slice (some ⟨ga'1, 0, none⟩) (d.ds.length + 1) ka'2) I_S_impl_Deal (by first | (simp; done) | exact Nat.le_of_ble_eq_true (by kernel_rfl)) ?_
  clear hM; intro W19 hM
  refine wl_nil (cn14 _ _ ?_)
  clear cn14
  refine wp_seq_k fun _ cn15 => wl_region ?_
  refine nl hM 1 rfl Tryz.underlying59 I_impl_World ?_
  refine nS hM 11 rfl [.slice (some ⟨v1, 0, none⟩) ((stepR d.l d.c who hh).1.length) j1, .slice (some ⟨v2, 0, none⟩) ((stepR d.l d.c who hh).2.1.length) j2, .slice (some ⟨m3, 0, none⟩) d.hs.length k3, .slice (some ⟨ga'1, 0, none⟩) (d.ds.length + 1) ka'2, .int .i64 (d.now + 1)] I_impl_World rfl ?_
  clear hM; intro W20 hM
  refine np (.bool true) ?_
  go_frame
  refine wl_nil (cn15 _ _ ?_)
  clear cn15
  refine wp_ret ?_
  have hR : l13R d who = (⟨(stepR d.l d.c who hh).1, (stepR d.l d.c who hh).2.1, (d.hs.set kw ((stepR d.l d.c who hh).2.2.1)), (d.ds ++ [⟨who, hh.c, hh.k, hh.v, hh.begin_, (d.now + 1), (((stepR d.l d.c who hh).2.2.1).reply), (((stepR d.l d.c who hh).2.2.1).out)⟩]), (d.now + 1)⟩, true) := by simp [l13R, hx2, hx3, hx4, hx7, hx8, hat, tkw]
  rw [hR]
  refine bodyPost_ret (ret_two (p := 4) (u := 5) (v := .bool true) rfl hM 11 rfl rfl rfl Tryz.underlying59 I_impl_World) rfl ⟨[(v1, 49, (cellsOf ((stepR d.l d.c who hh).1) ++ r1')), (v2, 2, (cellsI (stepR d.l d.c who hh).2.1 ++ r2')), (m3, 73, (cellsH (d.hs.set kw ((stepR d.l d.c who hh).2.2.1)) ++ p3)), (ga'1, 113, (cellsD (d.ds ++ [⟨who, hh.c, hh.k, hh.v, hh.begin_, (d.now + 1), (((stepR d.l d.c who hh).2.2.1).reply), (((stepR d.l d.c who hh).2.2.1).out)⟩]) ++ pa'3))], _, _, _, _, rfl, ⟨RowIn.mk (by first | rfl | (simp; done)) (cellsOf_len _) s1' s2' (by first | exact s9' | (simpa [cellsOf_len, cellsI_len, cellsH_len, cellsD_len] using s9')) (List.mem_of_getElem? (i := 0) rfl), RowIn.mk (by first | rfl | (simp; done)) (cellsI_len1 _) s5' s6' (by first | exact s0' | (simpa [cellsOf_len, cellsI_len, cellsH_len, cellsD_len] using s0')) (List.mem_of_getElem? (i := 1) rfl), RowIn.mk (by first | rfl | (simp; done)) (cellsH_len _) q6 q7 (by first | exact q8 | (simpa [cellsOf_len, cellsI_len, cellsH_len, cellsD_len] using q8)) (List.mem_of_getElem? (i := 2) rfl), RowIn.mk (by first | rfl | (simp; done)) (cellsD_len _) qa'4 qb'5 (by first | exact qe'6 | (simpa [cellsOf_len, cellsI_len, cellsH_len, cellsD_len] using qe'6)) (List.mem_of_getElem? (i := 3) rfl)⟩, ?_⟩
  replace hM := hM.pull 5 rfl
  replace hM := hM.pull 5 rfl
  replace hM := hM.pull 9 rfl
  replace hM := hM.pull 9 rfl
  exact hM.four
  rw [hx8]
  refine np (.bool true) ?_
  refine np (.bool true) ?_
  go_frame
  refine wl_nil (cn13 _ _ ?_)
  clear cn13
  refine wp_cond_true rfl ?_
  refine wp_seq_k fun _ cn14 => wl_region ?_
  refine nl hM 11 rfl Tryz.underlying59 I_impl_World ?_
  refine nc (spec_l13Copy (.slice a1 d.l.length i1) (.slice a2 d.c.length i2) (.slice (some ⟨b3, off3, none⟩) d.hs.length i3) (.slice a4 d.ds.length i4) d _ (HW.below hM.below) hr hL hC hH) ?_
  rintro e W17 ⟨m1_2, m2_2, m3_2, m4_2, k1_2, k2_2, k3_2, k4_2, p1_2, p2_2, p3_2, p4_2, rfl, ⟨q1_2, q2_2, q3_2, q4_2, q5_2, qC_2⟩, ⟨q6_2, q7_2, q8_2⟩, ⟨q9_2, qA_2, qB_2⟩, hMc⟩
  refine ⟨_, rfl, ?_⟩
  replace hM := hM.join hMc
  go_frame
  refine nS hM 14 rfl [.slice (some ⟨m1_2, 0, none⟩) d.l.length k1_2, .slice (some ⟨m2_2, 0, none⟩) d.c.length k2_2, .slice (some ⟨m3_2, 0, none⟩) d.hs.length k3_2, .slice (some ⟨m4_2, 0, none⟩) d.ds.length k4_2, .int .i64 d.now] I_impl_World rfl ?_
  clear hM; intro W18 hM
  refine np (.bool false) ?_
  go_frame
  refine wl_nil (cn14 _ _ ?_)
  clear cn14
  refine wp_ret ?_
  simp only [Exit.then, Exit.inBlock]
  have hR : l13R d who = (⟨d.l, d.c, d.hs, d.ds, d.now⟩, false) := by simp [l13R, hx2, hx3, hx4, hx7, hx8, hat, tkw]
  rw [hR]
  refine bodyPost_ret (ret_two (p := 4) (u := 5) (v := .bool false) rfl hM 14 rfl rfl rfl Tryz.underlying59 I_impl_World) rfl ⟨[(m1_2, 49, (cellsOf d.l ++ p1_2)), (m2_2, 2, (cellsI d.c ++ p2_2)), (m3_2, 73, (cellsH d.hs ++ p3_2)), (m4_2, 113, (cellsD d.ds ++ p4_2))], _, _, _, _, rfl, ⟨RowIn.mk (by first | rfl | (simp; done)) (cellsOf_len _) q1_2 q2_2 (by first | exact q5_2 | (simpa [cellsOf_len, cellsI_len, cellsH_len, cellsD_len] using q5_2)) (List.mem_of_getElem? (i := 0) rfl), RowIn.mk (by first | rfl | (simp; done)) (cellsI_len1 _) q3_2 q4_2 (by first | exact qC_2 | (simpa [cellsOf_len, cellsI_len, cellsH_len, cellsD_len] using qC_2)) (List.mem_of_getElem? (i := 1) rfl), RowIn.mk (by first | rfl | (simp; done)) (cellsH_len _) q6_2 q7_2 (by first | exact q8_2 | (simpa [cellsOf_len, cellsI_len, cellsH_len, cellsD_len] using q8_2)) (List.mem_of_getElem? (i := 2) rfl), RowIn.mk (by first | rfl | (simp; done)) (cellsD_len _) q9_2 qA_2 (by first | exact qB_2 | (simpa [cellsOf_len, cellsI_len, cellsH_len, cellsD_len] using qB_2)) (List.mem_of_getElem? (i := 3) rfl)⟩, ?_⟩
  replace hM := hM.pull 3 rfl
  replace hM := hM.pull 3 rfl
  replace hM := hM.pull 3 rfl
  replace hM := hM.pull 3 rfl
  exact hM.four
  rw [hx2]
  refine np (.bool true) ?_
  refine np (.bool true) ?_
  iterate 3 refine ns ?_
  refine np (.bool true) ?_
  go_frame
  refine wl_nil (cn5 _ _ ?_)
  clear cn5
  refine wp_cond_true rfl ?_
  refine wp_seq_k fun _ cn6 => wl_region ?_
  refine nl hM 6 rfl Tryz.underlying59 I_impl_World ?_
  refine nc (spec_l13Copy (.slice a1 d.l.length i1) (.slice a2 d.c.length i2) (.slice (some ⟨b3, off3, none⟩) d.hs.length i3) (.slice a4 d.ds.length i4) d _ (HW.below hM.below) hr hL hC hH) ?_
  rintro e W10 ⟨m1, m2, m3, m4, k1, k2, k3, k4, p1, p2, p3, p4, rfl, ⟨q1, q2, q3, q4, q5, qC⟩, ⟨q6, q7, q8⟩, ⟨q9, qA, qB⟩, hMc⟩
  refine ⟨_, rfl, ?_⟩
  replace hM := hM.join hMc
  go_frame
  refine nS hM 9 rfl [.slice (some ⟨m1, 0, none⟩) d.l.length k1, .slice (some ⟨m2, 0, none⟩) d.c.length k2, .slice (some ⟨m3, 0, none⟩) d.hs.length k3, .slice (some ⟨m4, 0, none⟩) d.ds.length k4, .int .i64 d.now] I_impl_World rfl ?_
  clear hM; intro W11 hM
  refine np (.bool false) ?_
  go_frame
  refine wl_nil (cn6 _ _ ?_)
  clear cn6
  refine wp_ret ?_
  simp only [Exit.then, Exit.inBlock]
  have hR : l13R d who = (⟨d.l, d.c, d.hs, d.ds, d.now⟩, false) := by simp [l13R, hx2, hat, tkw]
  rw [hR]
  refine bodyPost_ret (ret_two (p := 4) (u := 5) (v := .bool false) rfl hM 9 rfl rfl rfl Tryz.underlying59 I_impl_World) rfl ⟨[(m1, 49, (cellsOf d.l ++ p1)), (m2, 2, (cellsI d.c ++ p2)), (m3, 73, (cellsH d.hs ++ p3)), (m4, 113, (cellsD d.ds ++ p4))], _, _, _, _, rfl, ⟨RowIn.mk (by first | rfl | (simp; done)) (cellsOf_len _) q1 q2 (by first | exact q5 | (simpa [cellsOf_len, cellsI_len, cellsH_len, cellsD_len] using q5)) (List.mem_of_getElem? (i := 0) rfl), RowIn.mk (by first | rfl | (simp; done)) (cellsI_len1 _) q3 q4 (by first | exact qC | (simpa [cellsOf_len, cellsI_len, cellsH_len, cellsD_len] using qC)) (List.mem_of_getElem? (i := 1) rfl), RowIn.mk (by first | rfl | (simp; done)) (cellsH_len _) q6 q7 (by first | exact q8 | (simpa [cellsOf_len, cellsI_len, cellsH_len, cellsD_len] using q8)) (List.mem_of_getElem? (i := 2) rfl), RowIn.mk (by first | rfl | (simp; done)) (cellsD_len _) q9 qA (by first | exact qB | (simpa [cellsOf_len, cellsI_len, cellsH_len, cellsD_len] using qB)) (List.mem_of_getElem? (i := 3) rfl)⟩, ?_⟩
  replace hM := hM.pull 3 rfl
  replace hM := hM.pull 3 rfl
  replace hM := hM.pull 3 rfl
  replace hM := hM.pull 3 rfl
  exact hM.four
theorem spec_l13Step (u x y z : Value) (d : WD) (who : Int) (w0 : World) (hw : SlW w0 u x y z d) (hr : Room d) (hL : d.l ≠ []) (hC : d.c ≠ []) (hH : d.hs ≠ []) (hwho : 0 ≤ who ∧ who < d.hs.length) (hnow : 0 ≤ d.now ∧ d.now ≤ 20000) :
    Calls Tryz.prog 70 #[.agg #[u, x, y, z, .int .i64 d.now], .int .i64 who] w0 (SaysW (fun v => .tuple #[v, .bool (l13R d who).2]) (l13R d who).1 w0) := by
  rcases stepR_both2 d.l d.c who (handAt d who) with hz | hz
  · exact spec_l13Step0 u x y z d who w0 hw hr hL hC hH hwho hnow hz
  · exact spec_l13Step1 u x y z d who w0 hw hr hL hC hH hwho hnow hz
end Go.Proofs.YtbfndoajchibbaaGreat
