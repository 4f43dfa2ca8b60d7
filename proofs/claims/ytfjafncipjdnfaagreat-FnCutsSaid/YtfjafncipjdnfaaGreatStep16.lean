import Derived.Test.YtfjafncipjdnfaaGreatStep15w
namespace Go.Proofs.YtfjafncipjdnfaaGreat
open Go.ChangeShapes Go.WideShapes Go.ChangeAt Go.RowKit
set_option linter.unusedVariables false
set_option maxRecDepth 100000
set_option maxHeartbeats 16000000
set_option linter.unusedSimpArgs false
def vA (l : List ND) (c : List Int) (task : Int) (h : HD) : KE :=
  if decide (h.at_ ≥ 1) && decide (h.at_ ≤ 4) then wD l c task h
  else if decide (h.at_ ≥ 5) && decide (h.at_ ≤ 8) then sD l c task h
  else if decide (h.at_ ≥ 9) && decide (h.at_ ≤ 13) then yC l c task h
  else if h.at_ == 22 || h.at_ == 26 then GD l c task h
  else vJ l c task h
theorem Says3.cast {P : Program} {f : FuncId} {args : Array Value} {w : World} {R R' : KE} (e : R = R') (h : Calls P f args w (Says3 R w)) : Calls P f args w (Says3 R' w) := e ▸ h
theorem IC {w' : World} {B E sz : Nat} {t : TypeId} {n : Nat} {cs : List Value} {u : Value} (h : OwnR w' B E t sz n cs u) (h0 : n = 0) : ∃ a k, u = .slice a 0 k ∧ k ≤ maxLen := by
  rcases h with ⟨-, -, h⟩ | ⟨h1, -⟩
  · exact h
  · omega
theorem PE {w' : World} {B E : Nat} {t : TypeId} {l : List ND} {a : Option Addr} {k : Nat} (h0 : l.length = 0) (hk : k ≤ maxLen) : OwnR w' B E t 8 l.length (cellsOf l) (.slice a 0 k) := by
  have : l = [] := List.length_eq_zero_iff.1 h0;subst this;exact OwnR.nil _ _ _ _ _ _ _ hk
theorem oE {w' : World} {B E : Nat} {t : TypeId} {l : List Int} {a : Option Addr} {k : Nat} (h0 : l.length = 0) (hk : k ≤ maxLen) : OwnR w' B E t 1 l.length (DA l) (.slice a 0 k) := by
  have : l = [] := List.length_eq_zero_iff.1 h0;subst this;exact OwnR.nil _ _ _ _ _ _ _ hk
def kP (R : KE) : Prop := (R.1.length = 0 ∧ R.2.1.length = 0) ∨ (0 < R.1.length ∧ 0 < R.2.1.length)
theorem pL : kP noR := .inl ⟨rfl, rfl⟩
theorem bF (l : List ND) (c : List Int) (h : HD) : kP (RA l c h) := by
  unfold RA
  split
  · rename_i hk
    simp only [NA, Bool.and_eq_true] at hk;exact .inr ⟨(gB hk.1.1).1, (ZB hk.1.2).1⟩
  · exact pL
theorem NG {l : List ND} {c : List Int} {task : Int} {h : HD} {a b at' then' : Int} (hk : QB l c task h a b = true) : kP (VA l c task h at' then') := by
  obtain ⟨hl, hc, -⟩ := fC hk;exact .inr (rE hl hc)
theorem dM (l : List ND) (c : List Int) (task : Int) (h : HD) : kP (vA l c task h) := by
  have noB := pL;unfold vA
  split
  · unfold wD
    repeat' split
    all_goals first | exact noB | exact bF _ _ _
  · split
    · unfold sD
      split
      · exact noB
      · rename_i hk
        have hk' : QB l c task h 5 8 = true := by simp at hk; exact hk.1.1
        repeat' split
        all_goals first | exact bF _ _ _ | exact NG hk'
    · split
      · unfold yC
        split
        · exact noB
        · rename_i hk
          have hk' : QB l c task h 9 13 = true := by simp at hk; exact hk.1.1
          repeat' split
          all_goals first | exact bF _ _ _ | exact NG hk'
      · split
        · unfold GD
          split
          · exact noB
          · rename_i hk
            have hk' : QB l c task h 22 26 = true := by simp at hk; exact hk.1
            obtain ⟨hl, hc, hl1, hc1, -⟩ := fC hk'
            repeat' split
            all_goals first | exact bF _ _ _ | exact .inr ⟨hl1, hc1⟩
        · unfold vJ
          split
          · exact noB
          · rename_i hk
            have hk' : QB l c task h 14 25 = true := by simp at hk; exact hk.1.1.1.1.1
            repeat' split
            all_goals first | exact bF _ _ _ | exact NG hk'
theorem rK (u x : Value) (l : List ND) (c : List Int) (task : Int) (h : HD) (w0 : World) (h1 : NSl w0 u l) (h2 : SlI w0 x c) (hl : l.length ≤ 1048576) (hc : c.length ≤ 1048576) (hz : (vA l c task h).1.length = 0 ∧ (vA l c task h).2.1.length = 0) (hA : 1 ≤ h.at_ ∧ h.at_ ≤ 4) :
    Calls Tryz.prog 150 #[.agg #[u, x], iJ task, h.val] w0 (Says3 (vA l c task h) w0) := by
  have H1 := h1;have H2 := h2;have f0 : decide (h.at_ ≥ 1) = true := by simp; omega
  have f1 : decide (h.at_ ≤ 4) = true := by simp; omega
  unfold HD.val;have hM := Mem.start w0;obtain ⟨a1, i1, rfl, -⟩ := h1;obtain ⟨a2, i2, rfl, -⟩ := h2
  go_enter Tryz.func150, Tryz.ntmps150
  refine sr fun _ cn1 => ?_;refine nx hM 41 [.slice a1 l.length i1, .slice a2 c.length i2] ?_;clear hM;intro g1 W1 hM;refine nx hM 45 (HD.cells h) ?_;clear hM;intro g2 W2 hM;refine na hM [sZ, sZ] iA ?_;clear hM;intro g3 W3 hM;refine na hM (HD.cells HD.zero) lA ?_;clear hM;intro g4 W4 hM;refine np (.bool false) ?_;go_frame;refine wz cn1 ?_;clear cn1;refine wp_seq_k fun Kn2 cn2 => ?_;refine wp_block ?_;refine sr fun _ cn3 => ?_;refine np (pt g2 0) <| ng hM 2 rfl 0 bA rfl <| nB (f0) <| np (.bool true) <| np (pt g2 0) <| ng hM 2 rfl 0 bA rfl ?_;refine nB (f1) <| np (.bool true) <| np (.bool true) ?_;go_frame;refine wz cn3 ?_;clear cn3;refine wp_cond_true rfl ?_;refine sr fun _ cn4 => ?_;refine nl hM 3 rfl eA cA <| np (iJ task) <| nl hM 2 rfl dA aA ?_;go_frame;have hRR : wD l c task h = vA l c task h := by simp [vA, f0, f1]
  refine nc (Says3.cast hRR (BG (.slice a1 l.length i1) (.slice a2 c.length i2) l c task h _ (H1.below hM.below) (H2.below hM.below) hl hc)) ?_;rintro e W5 ⟨u', x', rfl, hO1, hO2, hb⟩;obtain ⟨a1', j1', rfl, y1⟩ := IC hO1 hz.1;obtain ⟨a2', j2', rfl, y2⟩ := IC hO2 hz.2;replace hM := hM.call hb;refine ⟨_, rfl, ?_⟩;go_frame;refine np (.agg #[.slice a1' 0 j1', .slice a2' 0 j2']) <| np (.agg (HD.cells ((vA l c task h).2.2.1)).toArray) <| np (.bool ((vA l c task h).2.2.2)) ?_;refine nS hM 1 rfl [.slice a1' 0 j1', .slice a2' 0 j2'] cA rfl ?_;clear hM;intro W6 hM;refine nS hM 0 rfl (HD.cells ((vA l c task h).2.2.1)) aA (jA _) ?_;clear hM;intro W7 hM;refine np (.bool ((vA l c task h).2.2.2)) ?_;go_frame;refine wz cn4 ?_;clear cn4;refine wp_ret ?_;simp only [Exit.then, Exit.inBlock];exact b3 hM 1 0 rfl rfl ⟨_, _, rfl, PE hz.1 y1, oE hz.2 y2, hM.below⟩
theorem qK (u x : Value) (l : List ND) (c : List Int) (task : Int) (h : HD) (w0 : World) (h1 : NSl w0 u l) (h2 : SlI w0 x c) (hl : l.length ≤ 1048576) (hc : c.length ≤ 1048576) (hz : (vA l c task h).1.length = 0 ∧ (vA l c task h).2.1.length = 0) (hA : 5 ≤ h.at_ ∧ h.at_ ≤ 8) :
    Calls Tryz.prog 150 #[.agg #[u, x], iJ task, h.val] w0 (Says3 (vA l c task h) w0) := by
  have H1 := h1;have H2 := h2;have f0 : decide (h.at_ ≥ 1) = true := by simp; omega
  have f1 : decide (h.at_ ≤ 4) = false := by simp; omega
  have f2 : decide (h.at_ ≥ 5) = true := by simp; omega
  have f3 : decide (h.at_ ≤ 8) = true := by simp; omega
  unfold HD.val;have hM := Mem.start w0;obtain ⟨a1, i1, rfl, -⟩ := h1;obtain ⟨a2, i2, rfl, -⟩ := h2
  go_enter Tryz.func150, Tryz.ntmps150
  refine sr fun _ cn1 => ?_;refine nx hM 41 [.slice a1 l.length i1, .slice a2 c.length i2] ?_;clear hM;intro g1 W1 hM;refine nx hM 45 (HD.cells h) ?_;clear hM;intro g2 W2 hM;refine na hM [sZ, sZ] iA ?_;clear hM;intro g3 W3 hM;refine na hM (HD.cells HD.zero) lA ?_;clear hM;intro g4 W4 hM;refine np (.bool false) ?_;go_frame;refine wz cn1 ?_;clear cn1;refine wp_seq_k fun Kn2 cn2 => ?_;refine wp_block ?_;refine sr fun _ cn3 => ?_;refine np (pt g2 0) <| ng hM 2 rfl 0 bA rfl <| nB (f0) <| np (.bool true) <| np (pt g2 0) <| ng hM 2 rfl 0 bA rfl ?_;refine nB (f1) <| np (.bool false) <| np (.bool false) ?_;go_frame;refine wz cn3 ?_;clear cn3;refine wp_cond_false rfl ?_;refine sr fun _ cn4 => ?_;refine np (pt g2 0) <| ng hM 2 rfl 0 bA rfl <| nB (f2) <| np (.bool true) <| np (pt g2 0) <| ng hM 2 rfl 0 bA rfl ?_;refine nB (f3) <| np (.bool true) <| np (.bool true) ?_;go_frame;refine wz cn4 ?_;clear cn4;refine wp_cond_true rfl ?_;refine sr fun _ cn5 => ?_;refine nl hM 3 rfl eA cA <| np (iJ task) <| nl hM 2 rfl dA aA ?_;go_frame;have hRR : sD l c task h = vA l c task h := by simp [vA, f0, f1, f2, f3]
  refine nc (Says3.cast hRR (YG (.slice a1 l.length i1) (.slice a2 c.length i2) l c task h _ (H1.below hM.below) (H2.below hM.below) hl hc)) ?_;rintro e W5 ⟨u', x', rfl, hO1, hO2, hb⟩;obtain ⟨a1', j1', rfl, y1⟩ := IC hO1 hz.1;obtain ⟨a2', j2', rfl, y2⟩ := IC hO2 hz.2;replace hM := hM.call hb;refine ⟨_, rfl, ?_⟩;go_frame;refine np (.agg #[.slice a1' 0 j1', .slice a2' 0 j2']) <| np (.agg (HD.cells ((vA l c task h).2.2.1)).toArray) <| np (.bool ((vA l c task h).2.2.2)) ?_;refine nS hM 1 rfl [.slice a1' 0 j1', .slice a2' 0 j2'] cA rfl ?_;clear hM;intro W6 hM;refine nS hM 0 rfl (HD.cells ((vA l c task h).2.2.1)) aA (jA _) ?_;clear hM;intro W7 hM;refine np (.bool ((vA l c task h).2.2.2)) ?_;go_frame;refine wz cn5 ?_;clear cn5;refine wp_ret ?_;simp only [Exit.then, Exit.inBlock];exact b3 hM 1 0 rfl rfl ⟨_, _, rfl, PE hz.1 y1, oE hz.2 y2, hM.below⟩
theorem pK (u x : Value) (l : List ND) (c : List Int) (task : Int) (h : HD) (w0 : World) (h1 : NSl w0 u l) (h2 : SlI w0 x c) (hl : l.length ≤ 1048576) (hc : c.length ≤ 1048576) (hz : (vA l c task h).1.length = 0 ∧ (vA l c task h).2.1.length = 0) (hA : 9 ≤ h.at_ ∧ h.at_ ≤ 13) :
    Calls Tryz.prog 150 #[.agg #[u, x], iJ task, h.val] w0 (Says3 (vA l c task h) w0) := by
  have H1 := h1;have H2 := h2;have f0 : decide (h.at_ ≥ 1) = true := by simp; omega
  have f1 : decide (h.at_ ≤ 4) = false := by simp; omega
  have f2 : decide (h.at_ ≥ 5) = true := by simp; omega
  have f3 : decide (h.at_ ≤ 8) = false := by simp; omega
  have f4 : decide (h.at_ ≥ 9) = true := by simp; omega
  have f5 : decide (h.at_ ≤ 13) = true := by simp; omega
  unfold HD.val;have hM := Mem.start w0;obtain ⟨a1, i1, rfl, -⟩ := h1;obtain ⟨a2, i2, rfl, -⟩ := h2
  go_enter Tryz.func150, Tryz.ntmps150
  refine sr fun _ cn1 => ?_;refine nx hM 41 [.slice a1 l.length i1, .slice a2 c.length i2] ?_;clear hM;intro g1 W1 hM;refine nx hM 45 (HD.cells h) ?_;clear hM;intro g2 W2 hM;refine na hM [sZ, sZ] iA ?_;clear hM;intro g3 W3 hM;refine na hM (HD.cells HD.zero) lA ?_;clear hM;intro g4 W4 hM;refine np (.bool false) ?_;go_frame;refine wz cn1 ?_;clear cn1;refine wp_seq_k fun Kn2 cn2 => ?_;refine wp_block ?_;refine sr fun _ cn3 => ?_;refine np (pt g2 0) <| ng hM 2 rfl 0 bA rfl <| nB (f0) <| np (.bool true) <| np (pt g2 0) <| ng hM 2 rfl 0 bA rfl ?_;refine nB (f1) <| np (.bool false) <| np (.bool false) ?_;go_frame;refine wz cn3 ?_;clear cn3;refine wp_cond_false rfl ?_;refine sr fun _ cn4 => ?_;refine np (pt g2 0) <| ng hM 2 rfl 0 bA rfl <| nB (f2) <| np (.bool true) <| np (pt g2 0) <| ng hM 2 rfl 0 bA rfl ?_;refine nB (f3) <| np (.bool false) <| np (.bool false) ?_;go_frame;refine wz cn4 ?_;clear cn4;refine wp_cond_false rfl ?_;refine sr fun _ cn5 => ?_;refine np (pt g2 0) <| ng hM 2 rfl 0 bA rfl <| nB (f4) <| np (.bool true) <| np (pt g2 0) <| ng hM 2 rfl 0 bA rfl ?_;refine nB (f5) <| np (.bool true) <| np (.bool true) ?_;go_frame;refine wz cn5 ?_;clear cn5;refine wp_cond_true rfl ?_;refine sr fun _ cn6 => ?_;refine nl hM 3 rfl eA cA <| np (iJ task) <| nl hM 2 rfl dA aA ?_;go_frame;have hRR : yC l c task h = vA l c task h := by simp [vA, f0, f1, f2, f3, f4, f5]
  refine nc (Says3.cast hRR (JF (.slice a1 l.length i1) (.slice a2 c.length i2) l c task h _ (H1.below hM.below) (H2.below hM.below) hl hc)) ?_;rintro e W5 ⟨u', x', rfl, hO1, hO2, hb⟩;obtain ⟨a1', j1', rfl, y1⟩ := IC hO1 hz.1;obtain ⟨a2', j2', rfl, y2⟩ := IC hO2 hz.2;replace hM := hM.call hb;refine ⟨_, rfl, ?_⟩;go_frame;refine np (.agg #[.slice a1' 0 j1', .slice a2' 0 j2']) <| np (.agg (HD.cells ((vA l c task h).2.2.1)).toArray) <| np (.bool ((vA l c task h).2.2.2)) ?_;refine nS hM 1 rfl [.slice a1' 0 j1', .slice a2' 0 j2'] cA rfl ?_;clear hM;intro W6 hM;refine nS hM 0 rfl (HD.cells ((vA l c task h).2.2.1)) aA (jA _) ?_;clear hM;intro W7 hM;refine np (.bool ((vA l c task h).2.2.2)) ?_;go_frame;refine wz cn6 ?_;clear cn6;refine wp_ret ?_;simp only [Exit.then, Exit.inBlock];exact b3 hM 1 0 rfl rfl ⟨_, _, rfl, PE hz.1 y1, oE hz.2 y2, hM.below⟩
theorem oK (u x : Value) (l : List ND) (c : List Int) (task : Int) (h : HD) (w0 : World) (h1 : NSl w0 u l) (h2 : SlI w0 x c) (hl : l.length ≤ 1048576) (hc : c.length ≤ 1048576) (hz : (vA l c task h).1.length = 0 ∧ (vA l c task h).2.1.length = 0) (hA : h.at_ = 22) :
    Calls Tryz.prog 150 #[.agg #[u, x], iJ task, h.val] w0 (Says3 (vA l c task h) w0) := by
  have H1 := h1;have H2 := h2;have f0 : decide (h.at_ ≥ 1) = true := by simp; omega
  have f1 : decide (h.at_ ≤ 4) = false := by simp; omega
  have f2 : decide (h.at_ ≥ 5) = true := by simp; omega
  have f3 : decide (h.at_ ≤ 8) = false := by simp; omega
  have f4 : decide (h.at_ ≥ 9) = true := by simp; omega
  have f5 : decide (h.at_ ≤ 13) = false := by simp; omega
  have f6 : (h.at_ == 22) = true := by simp; omega
  unfold HD.val;have hM := Mem.start w0;obtain ⟨a1, i1, rfl, -⟩ := h1;obtain ⟨a2, i2, rfl, -⟩ := h2
  go_enter Tryz.func150, Tryz.ntmps150
  refine sr fun _ cn1 => ?_;refine nx hM 41 [.slice a1 l.length i1, .slice a2 c.length i2] ?_;clear hM;intro g1 W1 hM;refine nx hM 45 (HD.cells h) ?_;clear hM;intro g2 W2 hM;refine na hM [sZ, sZ] iA ?_;clear hM;intro g3 W3 hM;refine na hM (HD.cells HD.zero) lA ?_;clear hM;intro g4 W4 hM;refine np (.bool false) ?_;go_frame;refine wz cn1 ?_;clear cn1;refine wp_seq_k fun Kn2 cn2 => ?_;refine wp_block ?_;refine sr fun _ cn3 => ?_;refine np (pt g2 0) <| ng hM 2 rfl 0 bA rfl <| nB (f0) <| np (.bool true) <| np (pt g2 0) <| ng hM 2 rfl 0 bA rfl ?_;refine nB (f1) <| np (.bool false) <| np (.bool false) ?_;go_frame;refine wz cn3 ?_;clear cn3;refine wp_cond_false rfl ?_;refine sr fun _ cn4 => ?_;refine np (pt g2 0) <| ng hM 2 rfl 0 bA rfl <| nB (f2) <| np (.bool true) <| np (pt g2 0) <| ng hM 2 rfl 0 bA rfl ?_;refine nB (f3) <| np (.bool false) <| np (.bool false) ?_;go_frame;refine wz cn4 ?_;clear cn4;refine wp_cond_false rfl ?_;refine sr fun _ cn5 => ?_;refine np (pt g2 0) <| ng hM 2 rfl 0 bA rfl <| nB (f4) <| np (.bool true) <| np (pt g2 0) <| ng hM 2 rfl 0 bA rfl ?_;refine nB (f5) <| np (.bool false) <| np (.bool false) ?_;go_frame;refine wz cn5 ?_;clear cn5;refine wp_cond_false rfl ?_;refine sr fun _ cn6 => ?_;refine np (pt g2 0) <| ng hM 2 rfl 0 bA rfl <| nB (f6) <| np (.bool true) ?_
  iterate 3 refine ns ?_
  refine np (.bool true) <| np (.bool true) ?_;go_frame;refine wz cn6 ?_;clear cn6;refine wp_cond_true rfl ?_;refine sr fun _ cn7 => ?_;refine nl hM 3 rfl eA cA <| np (iJ task) <| nl hM 2 rfl dA aA ?_;go_frame;have hRR : GD l c task h = vA l c task h := by simp [vA, f0, f1, f2, f3, f4, f5, f6]
  refine nc (Says3.cast hRR (uE (.slice a1 l.length i1) (.slice a2 c.length i2) l c task h _ (H1.below hM.below) (H2.below hM.below) hl hc)) ?_;rintro e W5 ⟨u', x', rfl, hO1, hO2, hb⟩;obtain ⟨a1', j1', rfl, y1⟩ := IC hO1 hz.1;obtain ⟨a2', j2', rfl, y2⟩ := IC hO2 hz.2;replace hM := hM.call hb;refine ⟨_, rfl, ?_⟩;go_frame;refine np (.agg #[.slice a1' 0 j1', .slice a2' 0 j2']) <| np (.agg (HD.cells ((vA l c task h).2.2.1)).toArray) <| np (.bool ((vA l c task h).2.2.2)) ?_;refine nS hM 1 rfl [.slice a1' 0 j1', .slice a2' 0 j2'] cA rfl ?_;clear hM;intro W6 hM;refine nS hM 0 rfl (HD.cells ((vA l c task h).2.2.1)) aA (jA _) ?_;clear hM;intro W7 hM;refine np (.bool ((vA l c task h).2.2.2)) ?_;go_frame;refine wz cn7 ?_;clear cn7;refine wp_ret ?_;simp only [Exit.then, Exit.inBlock];exact b3 hM 1 0 rfl rfl ⟨_, _, rfl, PE hz.1 y1, oE hz.2 y2, hM.below⟩
theorem nK (u x : Value) (l : List ND) (c : List Int) (task : Int) (h : HD) (w0 : World) (h1 : NSl w0 u l) (h2 : SlI w0 x c) (hl : l.length ≤ 1048576) (hc : c.length ≤ 1048576) (hz : (vA l c task h).1.length = 0 ∧ (vA l c task h).2.1.length = 0) (hA : h.at_ = 26) :
    Calls Tryz.prog 150 #[.agg #[u, x], iJ task, h.val] w0 (Says3 (vA l c task h) w0) := by
  have H1 := h1;have H2 := h2;have f0 : decide (h.at_ ≥ 1) = true := by simp; omega
  have f1 : decide (h.at_ ≤ 4) = false := by simp; omega
  have f2 : decide (h.at_ ≥ 5) = true := by simp; omega
  have f3 : decide (h.at_ ≤ 8) = false := by simp; omega
  have f4 : decide (h.at_ ≥ 9) = true := by simp; omega
  have f5 : decide (h.at_ ≤ 13) = false := by simp; omega
  have f6 : (h.at_ == 22) = false := by simp; omega
  have f7 : (h.at_ == 26) = true := by simp; omega
  unfold HD.val;have hM := Mem.start w0;obtain ⟨a1, i1, rfl, -⟩ := h1;obtain ⟨a2, i2, rfl, -⟩ := h2
  go_enter Tryz.func150, Tryz.ntmps150
  refine sr fun _ cn1 => ?_;refine nx hM 41 [.slice a1 l.length i1, .slice a2 c.length i2] ?_;clear hM;intro g1 W1 hM;refine nx hM 45 (HD.cells h) ?_;clear hM;intro g2 W2 hM;refine na hM [sZ, sZ] iA ?_;clear hM;intro g3 W3 hM;refine na hM (HD.cells HD.zero) lA ?_;clear hM;intro g4 W4 hM;refine np (.bool false) ?_;go_frame;refine wz cn1 ?_;clear cn1;refine wp_seq_k fun Kn2 cn2 => ?_;refine wp_block ?_;refine sr fun _ cn3 => ?_;refine np (pt g2 0) <| ng hM 2 rfl 0 bA rfl <| nB (f0) <| np (.bool true) <| np (pt g2 0) <| ng hM 2 rfl 0 bA rfl ?_;refine nB (f1) <| np (.bool false) <| np (.bool false) ?_;go_frame;refine wz cn3 ?_;clear cn3;refine wp_cond_false rfl ?_;refine sr fun _ cn4 => ?_;refine np (pt g2 0) <| ng hM 2 rfl 0 bA rfl <| nB (f2) <| np (.bool true) <| np (pt g2 0) <| ng hM 2 rfl 0 bA rfl ?_;refine nB (f3) <| np (.bool false) <| np (.bool false) ?_;go_frame;refine wz cn4 ?_;clear cn4;refine wp_cond_false rfl ?_;refine sr fun _ cn5 => ?_;refine np (pt g2 0) <| ng hM 2 rfl 0 bA rfl <| nB (f4) <| np (.bool true) <| np (pt g2 0) <| ng hM 2 rfl 0 bA rfl ?_;refine nB (f5) <| np (.bool false) <| np (.bool false) ?_;go_frame;refine wz cn5 ?_;clear cn5;refine wp_cond_false rfl ?_;refine sr fun _ cn6 => ?_;refine np (pt g2 0) <| ng hM 2 rfl 0 bA rfl <| nB (f6) <| np (.bool false) <| np (pt g2 0) <| ng hM 2 rfl 0 bA rfl ?_;refine nB (f7) <| np (.bool true) <| np (.bool true) ?_;go_frame;refine wz cn6 ?_;clear cn6;refine wp_cond_true rfl ?_;refine sr fun _ cn7 => ?_;refine nl hM 3 rfl eA cA <| np (iJ task) <| nl hM 2 rfl dA aA ?_;go_frame;have hRR : GD l c task h = vA l c task h := by simp [vA, f0, f1, f2, f3, f4, f5, f6, f7]
  refine nc (Says3.cast hRR (uE (.slice a1 l.length i1) (.slice a2 c.length i2) l c task h _ (H1.below hM.below) (H2.below hM.below) hl hc)) ?_;rintro e W5 ⟨u', x', rfl, hO1, hO2, hb⟩;obtain ⟨a1', j1', rfl, y1⟩ := IC hO1 hz.1;obtain ⟨a2', j2', rfl, y2⟩ := IC hO2 hz.2;replace hM := hM.call hb;refine ⟨_, rfl, ?_⟩;go_frame;refine np (.agg #[.slice a1' 0 j1', .slice a2' 0 j2']) <| np (.agg (HD.cells ((vA l c task h).2.2.1)).toArray) <| np (.bool ((vA l c task h).2.2.2)) ?_;refine nS hM 1 rfl [.slice a1' 0 j1', .slice a2' 0 j2'] cA rfl ?_;clear hM;intro W6 hM;refine nS hM 0 rfl (HD.cells ((vA l c task h).2.2.1)) aA (jA _) ?_;clear hM;intro W7 hM;refine np (.bool ((vA l c task h).2.2.2)) ?_;go_frame;refine wz cn7 ?_;clear cn7;refine wp_ret ?_;simp only [Exit.then, Exit.inBlock];exact b3 hM 1 0 rfl rfl ⟨_, _, rfl, PE hz.1 y1, oE hz.2 y2, hM.below⟩
theorem mK (u x : Value) (l : List ND) (c : List Int) (task : Int) (h : HD) (w0 : World) (h1 : NSl w0 u l) (h2 : SlI w0 x c) (hl : l.length ≤ 1048576) (hc : c.length ≤ 1048576) (hz : (vA l c task h).1.length = 0 ∧ (vA l c task h).2.1.length = 0) (hA : h.at_ ≥ 14 ∧ h.at_ ≠ 22 ∧ h.at_ ≠ 26) :
    Calls Tryz.prog 150 #[.agg #[u, x], iJ task, h.val] w0 (Says3 (vA l c task h) w0) := by
  have H1 := h1;have H2 := h2;have f0 : decide (h.at_ ≥ 1) = true := by simp; omega
  have f1 : decide (h.at_ ≤ 4) = false := by simp; omega
  have f2 : decide (h.at_ ≥ 5) = true := by simp; omega
  have f3 : decide (h.at_ ≤ 8) = false := by simp; omega
  have f4 : decide (h.at_ ≥ 9) = true := by simp; omega
  have f5 : decide (h.at_ ≤ 13) = false := by simp; omega
  have f6 : (h.at_ == 22) = false := by simp; omega
  have f7 : (h.at_ == 26) = false := by simp; omega
  unfold HD.val;have hM := Mem.start w0;obtain ⟨a1, i1, rfl, -⟩ := h1;obtain ⟨a2, i2, rfl, -⟩ := h2
  go_enter Tryz.func150, Tryz.ntmps150
  refine sr fun _ cn1 => ?_;refine nx hM 41 [.slice a1 l.length i1, .slice a2 c.length i2] ?_;clear hM;intro g1 W1 hM;refine nx hM 45 (HD.cells h) ?_;clear hM;intro g2 W2 hM;refine na hM [sZ, sZ] iA ?_;clear hM;intro g3 W3 hM;refine na hM (HD.cells HD.zero) lA ?_;clear hM;intro g4 W4 hM;refine np (.bool false) ?_;go_frame;refine wz cn1 ?_;clear cn1;refine wp_seq_k fun Kn2 cn2 => ?_;refine wp_block ?_;refine sr fun _ cn3 => ?_;refine np (pt g2 0) <| ng hM 2 rfl 0 bA rfl <| nB (f0) <| np (.bool true) <| np (pt g2 0) <| ng hM 2 rfl 0 bA rfl ?_;refine nB (f1) <| np (.bool false) <| np (.bool false) ?_;go_frame;refine wz cn3 ?_;clear cn3;refine wp_cond_false rfl ?_;refine sr fun _ cn4 => ?_;refine np (pt g2 0) <| ng hM 2 rfl 0 bA rfl <| nB (f2) <| np (.bool true) <| np (pt g2 0) <| ng hM 2 rfl 0 bA rfl ?_;refine nB (f3) <| np (.bool false) <| np (.bool false) ?_;go_frame;refine wz cn4 ?_;clear cn4;refine wp_cond_false rfl ?_;refine sr fun _ cn5 => ?_;refine np (pt g2 0) <| ng hM 2 rfl 0 bA rfl <| nB (f4) <| np (.bool true) <| np (pt g2 0) <| ng hM 2 rfl 0 bA rfl ?_;refine nB (f5) <| np (.bool false) <| np (.bool false) ?_;go_frame;refine wz cn5 ?_;clear cn5;refine wp_cond_false rfl ?_;refine sr fun _ cn6 => ?_;refine np (pt g2 0) <| ng hM 2 rfl 0 bA rfl <| nB (f6) <| np (.bool false) <| np (pt g2 0) <| ng hM 2 rfl 0 bA rfl ?_;refine nB (f7) <| np (.bool false) <| np (.bool false) ?_;go_frame;refine wz cn6 ?_;clear cn6;refine wp_cond_false rfl ?_;refine wp_skip ?_;refine cn2 _ _ ?_;clear cn2;refine sr fun _ cn7 => ?_;refine nl hM 3 rfl eA cA <| np (iJ task) <| nl hM 2 rfl dA aA ?_;go_frame;have hRR : vJ l c task h = vA l c task h := by simp [vA, f0, f1, f2, f3, f4, f5, f6, f7]
  refine nc (Says3.cast hRR (vE (.slice a1 l.length i1) (.slice a2 c.length i2) l c task h _ (H1.below hM.below) (H2.below hM.below) hl hc)) ?_;rintro e W5 ⟨u', x', rfl, hO1, hO2, hb⟩;obtain ⟨a1', j1', rfl, y1⟩ := IC hO1 hz.1;obtain ⟨a2', j2', rfl, y2⟩ := IC hO2 hz.2;replace hM := hM.call hb;refine ⟨_, rfl, ?_⟩;go_frame;refine np (.agg #[.slice a1' 0 j1', .slice a2' 0 j2']) <| np (.agg (HD.cells ((vA l c task h).2.2.1)).toArray) <| np (.bool ((vA l c task h).2.2.2)) ?_;refine nS hM 1 rfl [.slice a1' 0 j1', .slice a2' 0 j2'] cA rfl ?_;clear hM;intro W6 hM;refine nS hM 0 rfl (HD.cells ((vA l c task h).2.2.1)) aA (jA _) ?_;clear hM;intro W7 hM;refine np (.bool ((vA l c task h).2.2.2)) ?_;go_frame;refine wz cn7 ?_;clear cn7;refine wp_ret ?_;exact b3 hM 1 0 rfl rfl ⟨_, _, rfl, PE hz.1 y1, oE hz.2 y2, hM.below⟩
theorem lK (u x : Value) (l : List ND) (c : List Int) (task : Int) (h : HD) (w0 : World) (h1 : NSl w0 u l) (h2 : SlI w0 x c) (hl : l.length ≤ 1048576) (hc : c.length ≤ 1048576) (hz : (vA l c task h).1.length = 0 ∧ (vA l c task h).2.1.length = 0) (hA : h.at_ < 1) :
    Calls Tryz.prog 150 #[.agg #[u, x], iJ task, h.val] w0 (Says3 (vA l c task h) w0) := by
  have H1 := h1;have H2 := h2;have f0 : decide (h.at_ ≥ 1) = false := by simp; omega
  have f1 : decide (h.at_ ≥ 5) = false := by simp; omega
  have f2 : decide (h.at_ ≥ 9) = false := by simp; omega
  have f3 : (h.at_ == 22) = false := by simp; omega
  have f4 : (h.at_ == 26) = false := by simp; omega
  unfold HD.val;have hM := Mem.start w0;obtain ⟨a1, i1, rfl, -⟩ := h1;obtain ⟨a2, i2, rfl, -⟩ := h2
  go_enter Tryz.func150, Tryz.ntmps150
  refine sr fun _ cn1 => ?_;refine nx hM 41 [.slice a1 l.length i1, .slice a2 c.length i2] ?_;clear hM;intro g1 W1 hM;refine nx hM 45 (HD.cells h) ?_;clear hM;intro g2 W2 hM;refine na hM [sZ, sZ] iA ?_;clear hM;intro g3 W3 hM;refine na hM (HD.cells HD.zero) lA ?_;clear hM;intro g4 W4 hM;refine np (.bool false) ?_;go_frame;refine wz cn1 ?_;clear cn1;refine wp_seq_k fun Kn2 cn2 => ?_;refine wp_block ?_;refine sr fun _ cn3 => ?_;refine np (pt g2 0) <| ng hM 2 rfl 0 bA rfl <| nB (f0) <| np (.bool false) ?_
  iterate 3 refine ns ?_
  refine np (.bool false) <| np (.bool false) ?_;go_frame;refine wz cn3 ?_;clear cn3;refine wp_cond_false rfl ?_;refine sr fun _ cn4 => ?_;refine np (pt g2 0) <| ng hM 2 rfl 0 bA rfl <| nB (f1) <| np (.bool false) ?_
  iterate 3 refine ns ?_
  refine np (.bool false) <| np (.bool false) ?_;go_frame;refine wz cn4 ?_;clear cn4;refine wp_cond_false rfl ?_;refine sr fun _ cn5 => ?_;refine np (pt g2 0) <| ng hM 2 rfl 0 bA rfl <| nB (f2) <| np (.bool false) ?_
  iterate 3 refine ns ?_
  refine np (.bool false) <| np (.bool false) ?_;go_frame;refine wz cn5 ?_;clear cn5;refine wp_cond_false rfl ?_;refine sr fun _ cn6 => ?_;refine np (pt g2 0) <| ng hM 2 rfl 0 bA rfl <| nB (f3) <| np (.bool false) <| np (pt g2 0) <| ng hM 2 rfl 0 bA rfl ?_;refine nB (f4) <| np (.bool false) <| np (.bool false) ?_;go_frame;refine wz cn6 ?_;clear cn6;refine wp_cond_false rfl ?_;refine wp_skip ?_;refine cn2 _ _ ?_;clear cn2;refine sr fun _ cn7 => ?_;refine nl hM 3 rfl eA cA <| np (iJ task) <| nl hM 2 rfl dA aA ?_;go_frame;have hRR : vJ l c task h = vA l c task h := by simp [vA, f0, f1, f2, f3, f4]
  refine nc (Says3.cast hRR (vE (.slice a1 l.length i1) (.slice a2 c.length i2) l c task h _ (H1.below hM.below) (H2.below hM.below) hl hc)) ?_;rintro e W5 ⟨u', x', rfl, hO1, hO2, hb⟩;obtain ⟨a1', j1', rfl, y1⟩ := IC hO1 hz.1;obtain ⟨a2', j2', rfl, y2⟩ := IC hO2 hz.2;replace hM := hM.call hb;refine ⟨_, rfl, ?_⟩;go_frame;refine np (.agg #[.slice a1' 0 j1', .slice a2' 0 j2']) <| np (.agg (HD.cells ((vA l c task h).2.2.1)).toArray) <| np (.bool ((vA l c task h).2.2.2)) ?_;refine nS hM 1 rfl [.slice a1' 0 j1', .slice a2' 0 j2'] cA rfl ?_;clear hM;intro W6 hM;refine nS hM 0 rfl (HD.cells ((vA l c task h).2.2.1)) aA (jA _) ?_;clear hM;intro W7 hM;refine np (.bool ((vA l c task h).2.2.2)) ?_;go_frame;refine wz cn7 ?_;clear cn7;refine wp_ret ?_;exact b3 hM 1 0 rfl rfl ⟨_, _, rfl, PE hz.1 y1, oE hz.2 y2, hM.below⟩
theorem kK (u x : Value) (l : List ND) (c : List Int) (task : Int) (h : HD) (w0 : World) (h1 : NSl w0 u l) (h2 : SlI w0 x c) (hl : l.length ≤ 1048576) (hc : c.length ≤ 1048576) (hz : 0 < (vA l c task h).1.length ∧ 0 < (vA l c task h).2.1.length) (hA : 1 ≤ h.at_ ∧ h.at_ ≤ 4) :
    Calls Tryz.prog 150 #[.agg #[u, x], iJ task, h.val] w0 (Says3 (vA l c task h) w0) := by
  have H1 := h1;have H2 := h2;have f0 : decide (h.at_ ≥ 1) = true := by simp; omega
  have f1 : decide (h.at_ ≤ 4) = true := by simp; omega
  unfold HD.val;have hM := Mem.start w0;obtain ⟨a1, i1, rfl, -⟩ := h1;obtain ⟨a2, i2, rfl, -⟩ := h2
  go_enter Tryz.func150, Tryz.ntmps150
  refine sr fun _ cn1 => ?_;refine nx hM 41 [.slice a1 l.length i1, .slice a2 c.length i2] ?_;clear hM;intro g1 W1 hM;refine nx hM 45 (HD.cells h) ?_;clear hM;intro g2 W2 hM;refine na hM [sZ, sZ] iA ?_;clear hM;intro g3 W3 hM;refine na hM (HD.cells HD.zero) lA ?_;clear hM;intro g4 W4 hM;refine np (.bool false) ?_;go_frame;refine wz cn1 ?_;clear cn1;refine wp_seq_k fun Kn2 cn2 => ?_;refine wp_block ?_;refine sr fun _ cn3 => ?_;refine np (pt g2 0) <| ng hM 2 rfl 0 bA rfl <| nB (f0) <| np (.bool true) <| np (pt g2 0) <| ng hM 2 rfl 0 bA rfl ?_;refine nB (f1) <| np (.bool true) <| np (.bool true) ?_;go_frame;refine wz cn3 ?_;clear cn3;refine wp_cond_true rfl ?_;refine sr fun _ cn4 => ?_;refine nl hM 3 rfl eA cA <| np (iJ task) <| nl hM 2 rfl dA aA ?_;go_frame;have hRR : wD l c task h = vA l c task h := by simp [vA, f0, f1]
  refine nc (Says3.cast hRR (BG (.slice a1 l.length i1) (.slice a2 c.length i2) l c task h _ (H1.below hM.below) (H2.below hM.below) hl hc)) ?_;rintro e W5 ⟨u', x', rfl, hO1, hO2, hb⟩;obtain ⟨v1, j1, r1, rfl, s1', s2', s3', s4', s9'⟩ := KB hO1 hz.1;obtain ⟨v2, j2, r2, rfl, s5', s6', s7', s8', s0'⟩ := KB hO2 hz.2;replace hM := hM.join (Mem.two hb s4' s8' s3' s7' YB);refine ⟨_, rfl, ?_⟩;go_frame;refine np (.agg #[sa v1 ((vA l c task h).1.length) j1, sa v2 ((vA l c task h).2.1.length) j2]) <| np (.agg (HD.cells ((vA l c task h).2.2.1)).toArray) <| np (.bool ((vA l c task h).2.2.2)) ?_;refine nS hM 3 rfl [sa v1 ((vA l c task h).1.length) j1, sa v2 ((vA l c task h).2.1.length) j2] cA rfl ?_;clear hM;intro W6 hM;refine nS hM 2 rfl (HD.cells ((vA l c task h).2.2.1)) aA (jA _) ?_;clear hM;intro W7 hM;refine np (.bool ((vA l c task h).2.2.2)) ?_;go_frame;refine wz cn4 ?_;clear cn4;refine wp_ret ?_;simp only [Exit.then, Exit.inBlock];exact b3 hM 3 2 rfl rfl ⟨_, _, rfl, dC (hM.blk 0 rfl) rfl s1' s2' (hM.base 0 rfl) hz.1 s9', YA (hM.blk 1 rfl) s5' s6' (hM.base 1 rfl) hz.2 s0', hM.below⟩
theorem jK (u x : Value) (l : List ND) (c : List Int) (task : Int) (h : HD) (w0 : World) (h1 : NSl w0 u l) (h2 : SlI w0 x c) (hl : l.length ≤ 1048576) (hc : c.length ≤ 1048576) (hz : 0 < (vA l c task h).1.length ∧ 0 < (vA l c task h).2.1.length) (hA : 5 ≤ h.at_ ∧ h.at_ ≤ 8) :
    Calls Tryz.prog 150 #[.agg #[u, x], iJ task, h.val] w0 (Says3 (vA l c task h) w0) := by
  have H1 := h1;have H2 := h2;have f0 : decide (h.at_ ≥ 1) = true := by simp; omega
  have f1 : decide (h.at_ ≤ 4) = false := by simp; omega
  have f2 : decide (h.at_ ≥ 5) = true := by simp; omega
  have f3 : decide (h.at_ ≤ 8) = true := by simp; omega
  unfold HD.val;have hM := Mem.start w0;obtain ⟨a1, i1, rfl, -⟩ := h1;obtain ⟨a2, i2, rfl, -⟩ := h2
  go_enter Tryz.func150, Tryz.ntmps150
  refine sr fun _ cn1 => ?_;refine nx hM 41 [.slice a1 l.length i1, .slice a2 c.length i2] ?_;clear hM;intro g1 W1 hM;refine nx hM 45 (HD.cells h) ?_;clear hM;intro g2 W2 hM;refine na hM [sZ, sZ] iA ?_;clear hM;intro g3 W3 hM;refine na hM (HD.cells HD.zero) lA ?_;clear hM;intro g4 W4 hM;refine np (.bool false) ?_;go_frame;refine wz cn1 ?_;clear cn1;refine wp_seq_k fun Kn2 cn2 => ?_;refine wp_block ?_;refine sr fun _ cn3 => ?_;refine np (pt g2 0) <| ng hM 2 rfl 0 bA rfl <| nB (f0) <| np (.bool true) <| np (pt g2 0) <| ng hM 2 rfl 0 bA rfl ?_;refine nB (f1) <| np (.bool false) <| np (.bool false) ?_;go_frame;refine wz cn3 ?_;clear cn3;refine wp_cond_false rfl ?_;refine sr fun _ cn4 => ?_;refine np (pt g2 0) <| ng hM 2 rfl 0 bA rfl <| nB (f2) <| np (.bool true) <| np (pt g2 0) <| ng hM 2 rfl 0 bA rfl ?_;refine nB (f3) <| np (.bool true) <| np (.bool true) ?_;go_frame;refine wz cn4 ?_;clear cn4;refine wp_cond_true rfl ?_;refine sr fun _ cn5 => ?_;refine nl hM 3 rfl eA cA <| np (iJ task) <| nl hM 2 rfl dA aA ?_;go_frame;have hRR : sD l c task h = vA l c task h := by simp [vA, f0, f1, f2, f3]
  refine nc (Says3.cast hRR (YG (.slice a1 l.length i1) (.slice a2 c.length i2) l c task h _ (H1.below hM.below) (H2.below hM.below) hl hc)) ?_;rintro e W5 ⟨u', x', rfl, hO1, hO2, hb⟩;obtain ⟨v1, j1, r1, rfl, s1', s2', s3', s4', s9'⟩ := KB hO1 hz.1;obtain ⟨v2, j2, r2, rfl, s5', s6', s7', s8', s0'⟩ := KB hO2 hz.2;replace hM := hM.join (Mem.two hb s4' s8' s3' s7' YB);refine ⟨_, rfl, ?_⟩;go_frame;refine np (.agg #[sa v1 ((vA l c task h).1.length) j1, sa v2 ((vA l c task h).2.1.length) j2]) <| np (.agg (HD.cells ((vA l c task h).2.2.1)).toArray) <| np (.bool ((vA l c task h).2.2.2)) ?_;refine nS hM 3 rfl [sa v1 ((vA l c task h).1.length) j1, sa v2 ((vA l c task h).2.1.length) j2] cA rfl ?_;clear hM;intro W6 hM;refine nS hM 2 rfl (HD.cells ((vA l c task h).2.2.1)) aA (jA _) ?_;clear hM;intro W7 hM;refine np (.bool ((vA l c task h).2.2.2)) ?_;go_frame;refine wz cn5 ?_;clear cn5;refine wp_ret ?_;simp only [Exit.then, Exit.inBlock];exact b3 hM 3 2 rfl rfl ⟨_, _, rfl, dC (hM.blk 0 rfl) rfl s1' s2' (hM.base 0 rfl) hz.1 s9', YA (hM.blk 1 rfl) s5' s6' (hM.base 1 rfl) hz.2 s0', hM.below⟩
theorem iK (u x : Value) (l : List ND) (c : List Int) (task : Int) (h : HD) (w0 : World) (h1 : NSl w0 u l) (h2 : SlI w0 x c) (hl : l.length ≤ 1048576) (hc : c.length ≤ 1048576) (hz : 0 < (vA l c task h).1.length ∧ 0 < (vA l c task h).2.1.length) (hA : 9 ≤ h.at_ ∧ h.at_ ≤ 13) :
    Calls Tryz.prog 150 #[.agg #[u, x], iJ task, h.val] w0 (Says3 (vA l c task h) w0) := by
  have H1 := h1;have H2 := h2;have f0 : decide (h.at_ ≥ 1) = true := by simp; omega
  have f1 : decide (h.at_ ≤ 4) = false := by simp; omega
  have f2 : decide (h.at_ ≥ 5) = true := by simp; omega
  have f3 : decide (h.at_ ≤ 8) = false := by simp; omega
  have f4 : decide (h.at_ ≥ 9) = true := by simp; omega
  have f5 : decide (h.at_ ≤ 13) = true := by simp; omega
  unfold HD.val;have hM := Mem.start w0;obtain ⟨a1, i1, rfl, -⟩ := h1;obtain ⟨a2, i2, rfl, -⟩ := h2
  go_enter Tryz.func150, Tryz.ntmps150
  refine sr fun _ cn1 => ?_;refine nx hM 41 [.slice a1 l.length i1, .slice a2 c.length i2] ?_;clear hM;intro g1 W1 hM;refine nx hM 45 (HD.cells h) ?_;clear hM;intro g2 W2 hM;refine na hM [sZ, sZ] iA ?_;clear hM;intro g3 W3 hM;refine na hM (HD.cells HD.zero) lA ?_;clear hM;intro g4 W4 hM;refine np (.bool false) ?_;go_frame;refine wz cn1 ?_;clear cn1;refine wp_seq_k fun Kn2 cn2 => ?_;refine wp_block ?_;refine sr fun _ cn3 => ?_;refine np (pt g2 0) <| ng hM 2 rfl 0 bA rfl <| nB (f0) <| np (.bool true) <| np (pt g2 0) <| ng hM 2 rfl 0 bA rfl ?_;refine nB (f1) <| np (.bool false) <| np (.bool false) ?_;go_frame;refine wz cn3 ?_;clear cn3;refine wp_cond_false rfl ?_;refine sr fun _ cn4 => ?_;refine np (pt g2 0) <| ng hM 2 rfl 0 bA rfl <| nB (f2) <| np (.bool true) <| np (pt g2 0) <| ng hM 2 rfl 0 bA rfl ?_;refine nB (f3) <| np (.bool false) <| np (.bool false) ?_;go_frame;refine wz cn4 ?_;clear cn4;refine wp_cond_false rfl ?_;refine sr fun _ cn5 => ?_;refine np (pt g2 0) <| ng hM 2 rfl 0 bA rfl <| nB (f4) <| np (.bool true) <| np (pt g2 0) <| ng hM 2 rfl 0 bA rfl ?_;refine nB (f5) <| np (.bool true) <| np (.bool true) ?_;go_frame;refine wz cn5 ?_;clear cn5;refine wp_cond_true rfl ?_;refine sr fun _ cn6 => ?_;refine nl hM 3 rfl eA cA <| np (iJ task) <| nl hM 2 rfl dA aA ?_;go_frame;have hRR : yC l c task h = vA l c task h := by simp [vA, f0, f1, f2, f3, f4, f5]
  refine nc (Says3.cast hRR (JF (.slice a1 l.length i1) (.slice a2 c.length i2) l c task h _ (H1.below hM.below) (H2.below hM.below) hl hc)) ?_;rintro e W5 ⟨u', x', rfl, hO1, hO2, hb⟩;obtain ⟨v1, j1, r1, rfl, s1', s2', s3', s4', s9'⟩ := KB hO1 hz.1;obtain ⟨v2, j2, r2, rfl, s5', s6', s7', s8', s0'⟩ := KB hO2 hz.2;replace hM := hM.join (Mem.two hb s4' s8' s3' s7' YB);refine ⟨_, rfl, ?_⟩;go_frame;refine np (.agg #[sa v1 ((vA l c task h).1.length) j1, sa v2 ((vA l c task h).2.1.length) j2]) <| np (.agg (HD.cells ((vA l c task h).2.2.1)).toArray) <| np (.bool ((vA l c task h).2.2.2)) ?_;refine nS hM 3 rfl [sa v1 ((vA l c task h).1.length) j1, sa v2 ((vA l c task h).2.1.length) j2] cA rfl ?_;clear hM;intro W6 hM;refine nS hM 2 rfl (HD.cells ((vA l c task h).2.2.1)) aA (jA _) ?_;clear hM;intro W7 hM;refine np (.bool ((vA l c task h).2.2.2)) ?_;go_frame;refine wz cn6 ?_;clear cn6;refine wp_ret ?_;simp only [Exit.then, Exit.inBlock];exact b3 hM 3 2 rfl rfl ⟨_, _, rfl, dC (hM.blk 0 rfl) rfl s1' s2' (hM.base 0 rfl) hz.1 s9', YA (hM.blk 1 rfl) s5' s6' (hM.base 1 rfl) hz.2 s0', hM.below⟩
theorem gK (u x : Value) (l : List ND) (c : List Int) (task : Int) (h : HD) (w0 : World) (h1 : NSl w0 u l) (h2 : SlI w0 x c) (hl : l.length ≤ 1048576) (hc : c.length ≤ 1048576) (hz : 0 < (vA l c task h).1.length ∧ 0 < (vA l c task h).2.1.length) (hA : h.at_ = 22) :
    Calls Tryz.prog 150 #[.agg #[u, x], iJ task, h.val] w0 (Says3 (vA l c task h) w0) := by
  have H1 := h1;have H2 := h2;have f0 : decide (h.at_ ≥ 1) = true := by simp; omega
  have f1 : decide (h.at_ ≤ 4) = false := by simp; omega
  have f2 : decide (h.at_ ≥ 5) = true := by simp; omega
  have f3 : decide (h.at_ ≤ 8) = false := by simp; omega
  have f4 : decide (h.at_ ≥ 9) = true := by simp; omega
  have f5 : decide (h.at_ ≤ 13) = false := by simp; omega
  have f6 : (h.at_ == 22) = true := by simp; omega
  unfold HD.val;have hM := Mem.start w0;obtain ⟨a1, i1, rfl, -⟩ := h1;obtain ⟨a2, i2, rfl, -⟩ := h2
  go_enter Tryz.func150, Tryz.ntmps150
  refine sr fun _ cn1 => ?_;refine nx hM 41 [.slice a1 l.length i1, .slice a2 c.length i2] ?_;clear hM;intro g1 W1 hM;refine nx hM 45 (HD.cells h) ?_;clear hM;intro g2 W2 hM;refine na hM [sZ, sZ] iA ?_;clear hM;intro g3 W3 hM;refine na hM (HD.cells HD.zero) lA ?_;clear hM;intro g4 W4 hM;refine np (.bool false) ?_;go_frame;refine wz cn1 ?_;clear cn1;refine wp_seq_k fun Kn2 cn2 => ?_;refine wp_block ?_;refine sr fun _ cn3 => ?_;refine np (pt g2 0) <| ng hM 2 rfl 0 bA rfl <| nB (f0) <| np (.bool true) <| np (pt g2 0) <| ng hM 2 rfl 0 bA rfl ?_;refine nB (f1) <| np (.bool false) <| np (.bool false) ?_;go_frame;refine wz cn3 ?_;clear cn3;refine wp_cond_false rfl ?_;refine sr fun _ cn4 => ?_;refine np (pt g2 0) <| ng hM 2 rfl 0 bA rfl <| nB (f2) <| np (.bool true) <| np (pt g2 0) <| ng hM 2 rfl 0 bA rfl ?_;refine nB (f3) <| np (.bool false) <| np (.bool false) ?_;go_frame;refine wz cn4 ?_;clear cn4;refine wp_cond_false rfl ?_;refine sr fun _ cn5 => ?_;refine np (pt g2 0) <| ng hM 2 rfl 0 bA rfl <| nB (f4) <| np (.bool true) <| np (pt g2 0) <| ng hM 2 rfl 0 bA rfl ?_;refine nB (f5) <| np (.bool false) <| np (.bool false) ?_;go_frame;refine wz cn5 ?_;clear cn5;refine wp_cond_false rfl ?_;refine sr fun _ cn6 => ?_;refine np (pt g2 0) <| ng hM 2 rfl 0 bA rfl <| nB (f6) <| np (.bool true) ?_
  iterate 3 refine ns ?_
  refine np (.bool true) <| np (.bool true) ?_;go_frame;refine wz cn6 ?_;clear cn6;refine wp_cond_true rfl ?_;refine sr fun _ cn7 => ?_;refine nl hM 3 rfl eA cA <| np (iJ task) <| nl hM 2 rfl dA aA ?_;go_frame;have hRR : GD l c task h = vA l c task h := by simp [vA, f0, f1, f2, f3, f4, f5, f6]
  refine nc (Says3.cast hRR (uE (.slice a1 l.length i1) (.slice a2 c.length i2) l c task h _ (H1.below hM.below) (H2.below hM.below) hl hc)) ?_;rintro e W5 ⟨u', x', rfl, hO1, hO2, hb⟩;obtain ⟨v1, j1, r1, rfl, s1', s2', s3', s4', s9'⟩ := KB hO1 hz.1;obtain ⟨v2, j2, r2, rfl, s5', s6', s7', s8', s0'⟩ := KB hO2 hz.2;replace hM := hM.join (Mem.two hb s4' s8' s3' s7' YB);refine ⟨_, rfl, ?_⟩;go_frame;refine np (.agg #[sa v1 ((vA l c task h).1.length) j1, sa v2 ((vA l c task h).2.1.length) j2]) <| np (.agg (HD.cells ((vA l c task h).2.2.1)).toArray) <| np (.bool ((vA l c task h).2.2.2)) ?_;refine nS hM 3 rfl [sa v1 ((vA l c task h).1.length) j1, sa v2 ((vA l c task h).2.1.length) j2] cA rfl ?_;clear hM;intro W6 hM;refine nS hM 2 rfl (HD.cells ((vA l c task h).2.2.1)) aA (jA _) ?_;clear hM;intro W7 hM;refine np (.bool ((vA l c task h).2.2.2)) ?_;go_frame;refine wz cn7 ?_;clear cn7;refine wp_ret ?_;simp only [Exit.then, Exit.inBlock];exact b3 hM 3 2 rfl rfl ⟨_, _, rfl, dC (hM.blk 0 rfl) rfl s1' s2' (hM.base 0 rfl) hz.1 s9', YA (hM.blk 1 rfl) s5' s6' (hM.base 1 rfl) hz.2 s0', hM.below⟩
theorem fK (u x : Value) (l : List ND) (c : List Int) (task : Int) (h : HD) (w0 : World) (h1 : NSl w0 u l) (h2 : SlI w0 x c) (hl : l.length ≤ 1048576) (hc : c.length ≤ 1048576) (hz : 0 < (vA l c task h).1.length ∧ 0 < (vA l c task h).2.1.length) (hA : h.at_ = 26) :
    Calls Tryz.prog 150 #[.agg #[u, x], iJ task, h.val] w0 (Says3 (vA l c task h) w0) := by
  have H1 := h1;have H2 := h2;have f0 : decide (h.at_ ≥ 1) = true := by simp; omega
  have f1 : decide (h.at_ ≤ 4) = false := by simp; omega
  have f2 : decide (h.at_ ≥ 5) = true := by simp; omega
  have f3 : decide (h.at_ ≤ 8) = false := by simp; omega
  have f4 : decide (h.at_ ≥ 9) = true := by simp; omega
  have f5 : decide (h.at_ ≤ 13) = false := by simp; omega
  have f6 : (h.at_ == 22) = false := by simp; omega
  have f7 : (h.at_ == 26) = true := by simp; omega
  unfold HD.val;have hM := Mem.start w0;obtain ⟨a1, i1, rfl, -⟩ := h1;obtain ⟨a2, i2, rfl, -⟩ := h2
  go_enter Tryz.func150, Tryz.ntmps150
  refine sr fun _ cn1 => ?_;refine nx hM 41 [.slice a1 l.length i1, .slice a2 c.length i2] ?_;clear hM;intro g1 W1 hM;refine nx hM 45 (HD.cells h) ?_;clear hM;intro g2 W2 hM;refine na hM [sZ, sZ] iA ?_;clear hM;intro g3 W3 hM;refine na hM (HD.cells HD.zero) lA ?_;clear hM;intro g4 W4 hM;refine np (.bool false) ?_;go_frame;refine wz cn1 ?_;clear cn1;refine wp_seq_k fun Kn2 cn2 => ?_;refine wp_block ?_;refine sr fun _ cn3 => ?_;refine np (pt g2 0) <| ng hM 2 rfl 0 bA rfl <| nB (f0) <| np (.bool true) <| np (pt g2 0) <| ng hM 2 rfl 0 bA rfl ?_;refine nB (f1) <| np (.bool false) <| np (.bool false) ?_;go_frame;refine wz cn3 ?_;clear cn3;refine wp_cond_false rfl ?_;refine sr fun _ cn4 => ?_;refine np (pt g2 0) <| ng hM 2 rfl 0 bA rfl <| nB (f2) <| np (.bool true) <| np (pt g2 0) <| ng hM 2 rfl 0 bA rfl ?_;refine nB (f3) <| np (.bool false) <| np (.bool false) ?_;go_frame;refine wz cn4 ?_;clear cn4;refine wp_cond_false rfl ?_;refine sr fun _ cn5 => ?_;refine np (pt g2 0) <| ng hM 2 rfl 0 bA rfl <| nB (f4) <| np (.bool true) <| np (pt g2 0) <| ng hM 2 rfl 0 bA rfl ?_;refine nB (f5) <| np (.bool false) <| np (.bool false) ?_;go_frame;refine wz cn5 ?_;clear cn5;refine wp_cond_false rfl ?_;refine sr fun _ cn6 => ?_;refine np (pt g2 0) <| ng hM 2 rfl 0 bA rfl <| nB (f6) <| np (.bool false) <| np (pt g2 0) <| ng hM 2 rfl 0 bA rfl ?_;refine nB (f7) <| np (.bool true) <| np (.bool true) ?_;go_frame;refine wz cn6 ?_;clear cn6;refine wp_cond_true rfl ?_;refine sr fun _ cn7 => ?_;refine nl hM 3 rfl eA cA <| np (iJ task) <| nl hM 2 rfl dA aA ?_;go_frame;have hRR : GD l c task h = vA l c task h := by simp [vA, f0, f1, f2, f3, f4, f5, f6, f7]
  refine nc (Says3.cast hRR (uE (.slice a1 l.length i1) (.slice a2 c.length i2) l c task h _ (H1.below hM.below) (H2.below hM.below) hl hc)) ?_;rintro e W5 ⟨u', x', rfl, hO1, hO2, hb⟩;obtain ⟨v1, j1, r1, rfl, s1', s2', s3', s4', s9'⟩ := KB hO1 hz.1;obtain ⟨v2, j2, r2, rfl, s5', s6', s7', s8', s0'⟩ := KB hO2 hz.2;replace hM := hM.join (Mem.two hb s4' s8' s3' s7' YB);refine ⟨_, rfl, ?_⟩;go_frame;refine np (.agg #[sa v1 ((vA l c task h).1.length) j1, sa v2 ((vA l c task h).2.1.length) j2]) <| np (.agg (HD.cells ((vA l c task h).2.2.1)).toArray) <| np (.bool ((vA l c task h).2.2.2)) ?_;refine nS hM 3 rfl [sa v1 ((vA l c task h).1.length) j1, sa v2 ((vA l c task h).2.1.length) j2] cA rfl ?_;clear hM;intro W6 hM;refine nS hM 2 rfl (HD.cells ((vA l c task h).2.2.1)) aA (jA _) ?_;clear hM;intro W7 hM;refine np (.bool ((vA l c task h).2.2.2)) ?_;go_frame;refine wz cn7 ?_;clear cn7;refine wp_ret ?_;simp only [Exit.then, Exit.inBlock];exact b3 hM 3 2 rfl rfl ⟨_, _, rfl, dC (hM.blk 0 rfl) rfl s1' s2' (hM.base 0 rfl) hz.1 s9', YA (hM.blk 1 rfl) s5' s6' (hM.base 1 rfl) hz.2 s0', hM.below⟩
theorem eK (u x : Value) (l : List ND) (c : List Int) (task : Int) (h : HD) (w0 : World) (h1 : NSl w0 u l) (h2 : SlI w0 x c) (hl : l.length ≤ 1048576) (hc : c.length ≤ 1048576) (hz : 0 < (vA l c task h).1.length ∧ 0 < (vA l c task h).2.1.length) (hA : h.at_ ≥ 14 ∧ h.at_ ≠ 22 ∧ h.at_ ≠ 26) :
    Calls Tryz.prog 150 #[.agg #[u, x], iJ task, h.val] w0 (Says3 (vA l c task h) w0) := by
  have H1 := h1;have H2 := h2;have f0 : decide (h.at_ ≥ 1) = true := by simp; omega
  have f1 : decide (h.at_ ≤ 4) = false := by simp; omega
  have f2 : decide (h.at_ ≥ 5) = true := by simp; omega
  have f3 : decide (h.at_ ≤ 8) = false := by simp; omega
  have f4 : decide (h.at_ ≥ 9) = true := by simp; omega
  have f5 : decide (h.at_ ≤ 13) = false := by simp; omega
  have f6 : (h.at_ == 22) = false := by simp; omega
  have f7 : (h.at_ == 26) = false := by simp; omega
  unfold HD.val;have hM := Mem.start w0;obtain ⟨a1, i1, rfl, -⟩ := h1;obtain ⟨a2, i2, rfl, -⟩ := h2
  go_enter Tryz.func150, Tryz.ntmps150
  refine sr fun _ cn1 => ?_;refine nx hM 41 [.slice a1 l.length i1, .slice a2 c.length i2] ?_;clear hM;intro g1 W1 hM;refine nx hM 45 (HD.cells h) ?_;clear hM;intro g2 W2 hM;refine na hM [sZ, sZ] iA ?_;clear hM;intro g3 W3 hM;refine na hM (HD.cells HD.zero) lA ?_;clear hM;intro g4 W4 hM;refine np (.bool false) ?_;go_frame;refine wz cn1 ?_;clear cn1;refine wp_seq_k fun Kn2 cn2 => ?_;refine wp_block ?_;refine sr fun _ cn3 => ?_;refine np (pt g2 0) <| ng hM 2 rfl 0 bA rfl <| nB (f0) <| np (.bool true) <| np (pt g2 0) <| ng hM 2 rfl 0 bA rfl ?_;refine nB (f1) <| np (.bool false) <| np (.bool false) ?_;go_frame;refine wz cn3 ?_;clear cn3;refine wp_cond_false rfl ?_;refine sr fun _ cn4 => ?_;refine np (pt g2 0) <| ng hM 2 rfl 0 bA rfl <| nB (f2) <| np (.bool true) <| np (pt g2 0) <| ng hM 2 rfl 0 bA rfl ?_;refine nB (f3) <| np (.bool false) <| np (.bool false) ?_;go_frame;refine wz cn4 ?_;clear cn4;refine wp_cond_false rfl ?_;refine sr fun _ cn5 => ?_;refine np (pt g2 0) <| ng hM 2 rfl 0 bA rfl <| nB (f4) <| np (.bool true) <| np (pt g2 0) <| ng hM 2 rfl 0 bA rfl ?_;refine nB (f5) <| np (.bool false) <| np (.bool false) ?_;go_frame;refine wz cn5 ?_;clear cn5;refine wp_cond_false rfl ?_;refine sr fun _ cn6 => ?_;refine np (pt g2 0) <| ng hM 2 rfl 0 bA rfl <| nB (f6) <| np (.bool false) <| np (pt g2 0) <| ng hM 2 rfl 0 bA rfl ?_;refine nB (f7) <| np (.bool false) <| np (.bool false) ?_;go_frame;refine wz cn6 ?_;clear cn6;refine wp_cond_false rfl ?_;refine wp_skip ?_;refine cn2 _ _ ?_;clear cn2;refine sr fun _ cn7 => ?_;refine nl hM 3 rfl eA cA <| np (iJ task) <| nl hM 2 rfl dA aA ?_;go_frame;have hRR : vJ l c task h = vA l c task h := by simp [vA, f0, f1, f2, f3, f4, f5, f6, f7]
  refine nc (Says3.cast hRR (vE (.slice a1 l.length i1) (.slice a2 c.length i2) l c task h _ (H1.below hM.below) (H2.below hM.below) hl hc)) ?_;rintro e W5 ⟨u', x', rfl, hO1, hO2, hb⟩;obtain ⟨v1, j1, r1, rfl, s1', s2', s3', s4', s9'⟩ := KB hO1 hz.1;obtain ⟨v2, j2, r2, rfl, s5', s6', s7', s8', s0'⟩ := KB hO2 hz.2;replace hM := hM.join (Mem.two hb s4' s8' s3' s7' YB);refine ⟨_, rfl, ?_⟩;go_frame;refine np (.agg #[sa v1 ((vA l c task h).1.length) j1, sa v2 ((vA l c task h).2.1.length) j2]) <| np (.agg (HD.cells ((vA l c task h).2.2.1)).toArray) <| np (.bool ((vA l c task h).2.2.2)) ?_;refine nS hM 3 rfl [sa v1 ((vA l c task h).1.length) j1, sa v2 ((vA l c task h).2.1.length) j2] cA rfl ?_;clear hM;intro W6 hM;refine nS hM 2 rfl (HD.cells ((vA l c task h).2.2.1)) aA (jA _) ?_;clear hM;intro W7 hM;refine np (.bool ((vA l c task h).2.2.2)) ?_;go_frame;refine wz cn7 ?_;clear cn7;refine wp_ret ?_;exact b3 hM 3 2 rfl rfl ⟨_, _, rfl, dC (hM.blk 0 rfl) rfl s1' s2' (hM.base 0 rfl) hz.1 s9', YA (hM.blk 1 rfl) s5' s6' (hM.base 1 rfl) hz.2 s0', hM.below⟩
theorem dK (u x : Value) (l : List ND) (c : List Int) (task : Int) (h : HD) (w0 : World) (h1 : NSl w0 u l) (h2 : SlI w0 x c) (hl : l.length ≤ 1048576) (hc : c.length ≤ 1048576) (hz : 0 < (vA l c task h).1.length ∧ 0 < (vA l c task h).2.1.length) (hA : h.at_ < 1) :
    Calls Tryz.prog 150 #[.agg #[u, x], iJ task, h.val] w0 (Says3 (vA l c task h) w0) := by
  have H1 := h1;have H2 := h2;have f0 : decide (h.at_ ≥ 1) = false := by simp; omega
  have f1 : decide (h.at_ ≥ 5) = false := by simp; omega
  have f2 : decide (h.at_ ≥ 9) = false := by simp; omega
  have f3 : (h.at_ == 22) = false := by simp; omega
  have f4 : (h.at_ == 26) = false := by simp; omega
  unfold HD.val;have hM := Mem.start w0;obtain ⟨a1, i1, rfl, -⟩ := h1;obtain ⟨a2, i2, rfl, -⟩ := h2
  go_enter Tryz.func150, Tryz.ntmps150
  refine sr fun _ cn1 => ?_;refine nx hM 41 [.slice a1 l.length i1, .slice a2 c.length i2] ?_;clear hM;intro g1 W1 hM;refine nx hM 45 (HD.cells h) ?_;clear hM;intro g2 W2 hM;refine na hM [sZ, sZ] iA ?_;clear hM;intro g3 W3 hM;refine na hM (HD.cells HD.zero) lA ?_;clear hM;intro g4 W4 hM;refine np (.bool false) ?_;go_frame;refine wz cn1 ?_;clear cn1;refine wp_seq_k fun Kn2 cn2 => ?_;refine wp_block ?_;refine sr fun _ cn3 => ?_;refine np (pt g2 0) <| ng hM 2 rfl 0 bA rfl <| nB (f0) <| np (.bool false) ?_
  iterate 3 refine ns ?_
  refine np (.bool false) <| np (.bool false) ?_;go_frame;refine wz cn3 ?_;clear cn3;refine wp_cond_false rfl ?_;refine sr fun _ cn4 => ?_;refine np (pt g2 0) <| ng hM 2 rfl 0 bA rfl <| nB (f1) <| np (.bool false) ?_
  iterate 3 refine ns ?_
  refine np (.bool false) <| np (.bool false) ?_;go_frame;refine wz cn4 ?_;clear cn4;refine wp_cond_false rfl ?_;refine sr fun _ cn5 => ?_;refine np (pt g2 0) <| ng hM 2 rfl 0 bA rfl <| nB (f2) <| np (.bool false) ?_
  iterate 3 refine ns ?_
  refine np (.bool false) <| np (.bool false) ?_;go_frame;refine wz cn5 ?_;clear cn5;refine wp_cond_false rfl ?_;refine sr fun _ cn6 => ?_;refine np (pt g2 0) <| ng hM 2 rfl 0 bA rfl <| nB (f3) <| np (.bool false) <| np (pt g2 0) <| ng hM 2 rfl 0 bA rfl ?_;refine nB (f4) <| np (.bool false) <| np (.bool false) ?_;go_frame;refine wz cn6 ?_;clear cn6;refine wp_cond_false rfl ?_;refine wp_skip ?_;refine cn2 _ _ ?_;clear cn2;refine sr fun _ cn7 => ?_;refine nl hM 3 rfl eA cA <| np (iJ task) <| nl hM 2 rfl dA aA ?_;go_frame;have hRR : vJ l c task h = vA l c task h := by simp [vA, f0, f1, f2, f3, f4]
  refine nc (Says3.cast hRR (vE (.slice a1 l.length i1) (.slice a2 c.length i2) l c task h _ (H1.below hM.below) (H2.below hM.below) hl hc)) ?_;rintro e W5 ⟨u', x', rfl, hO1, hO2, hb⟩;obtain ⟨v1, j1, r1, rfl, s1', s2', s3', s4', s9'⟩ := KB hO1 hz.1;obtain ⟨v2, j2, r2, rfl, s5', s6', s7', s8', s0'⟩ := KB hO2 hz.2;replace hM := hM.join (Mem.two hb s4' s8' s3' s7' YB);refine ⟨_, rfl, ?_⟩;go_frame;refine np (.agg #[sa v1 ((vA l c task h).1.length) j1, sa v2 ((vA l c task h).2.1.length) j2]) <| np (.agg (HD.cells ((vA l c task h).2.2.1)).toArray) <| np (.bool ((vA l c task h).2.2.2)) ?_;refine nS hM 3 rfl [sa v1 ((vA l c task h).1.length) j1, sa v2 ((vA l c task h).2.1.length) j2] cA rfl ?_;clear hM;intro W6 hM;refine nS hM 2 rfl (HD.cells ((vA l c task h).2.2.1)) aA (jA _) ?_;clear hM;intro W7 hM;refine np (.bool ((vA l c task h).2.2.2)) ?_;go_frame;refine wz cn7 ?_;clear cn7;refine wp_ret ?_;exact b3 hM 3 2 rfl rfl ⟨_, _, rfl, dC (hM.blk 0 rfl) rfl s1' s2' (hM.base 0 rfl) hz.1 s9', YA (hM.blk 1 rfl) s5' s6' (hM.base 1 rfl) hz.2 s0', hM.below⟩
theorem IJ (u x : Value) (l : List ND) (c : List Int) (task : Int) (h : HD) (w0 : World) (h1 : NSl w0 u l) (h2 : SlI w0 x c) (hl : l.length ≤ 1048576) (hc : c.length ≤ 1048576) :
    Calls Tryz.prog 150 #[.agg #[u, x], iJ task, h.val] w0 (Says3 (vA l c task h) w0) := by
  have hA : (1 ≤ h.at_ ∧ h.at_ ≤ 4) ∨ (5 ≤ h.at_ ∧ h.at_ ≤ 8) ∨ (9 ≤ h.at_ ∧ h.at_ ≤ 13) ∨ h.at_ = 22 ∨ h.at_ = 26 ∨ (h.at_ ≥ 14 ∧ h.at_ ≠ 22 ∧ h.at_ ≠ 26) ∨ h.at_ < 1 := by omega
  rcases dM l c task h with hz | hz
  · rcases hA with hA | hA | hA | hA | hA | hA | hA
    · exact rK u x l c task h w0 h1 h2 hl hc hz hA
    · exact qK u x l c task h w0 h1 h2 hl hc hz hA
    · exact pK u x l c task h w0 h1 h2 hl hc hz hA
    · exact oK u x l c task h w0 h1 h2 hl hc hz hA
    · exact nK u x l c task h w0 h1 h2 hl hc hz hA
    · exact mK u x l c task h w0 h1 h2 hl hc hz hA
    · exact lK u x l c task h w0 h1 h2 hl hc hz hA
  · rcases hA with hA | hA | hA | hA | hA | hA | hA
    · exact kK u x l c task h w0 h1 h2 hl hc hz hA
    · exact jK u x l c task h w0 h1 h2 hl hc hz hA
    · exact iK u x l c task h w0 h1 h2 hl hc hz hA
    · exact gK u x l c task h w0 h1 h2 hl hc hz hA
    · exact fK u x l c task h w0 h1 h2 hl hc hz hA
    · exact eK u x l c task h w0 h1 h2 hl hc hz hA
    · exact dK u x l c task h w0 h1 h2 hl hc hz hA
end Go.Proofs.YtfjafncipjdnfaaGreat
