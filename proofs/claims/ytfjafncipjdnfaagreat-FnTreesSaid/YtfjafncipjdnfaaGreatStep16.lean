import Derived.Test.YtfjafncipjdnfaaGreatStep15w
namespace Go.Proofs.YtfjafncipjdnfaaGreat
open Go.ChangeShapes Go.WideShapes Go.ChangeAt Go.RowKit
set_option linter.unusedVariables false
set_option maxRecDepth 100000
set_option maxHeartbeats 16000000
set_option linter.unusedSimpArgs false
def rA (l : List ND) (c : List Int) (task : Int) (h : HD) : JE :=
  if decide (h.at_ ≥ 1) && decide (h.at_ ≤ 4) then YC l c task h
  else if decide (h.at_ ≥ 5) && decide (h.at_ ≤ 8) then WC l c task h
  else if decide (h.at_ ≥ 9) && decide (h.at_ ≤ 13) then NC l c task h
  else if h.at_ == 22 || h.at_ == 26 then iD l c task h
  else BI l c task h
theorem Says3.cast {P : Program} {f : FuncId} {args : Array Value} {w : World} {R R' : JE} (e : R = R') (h : Calls P f args w (Says3 R w)) : Calls P f args w (Says3 R' w) := e ▸ h
theorem iC {w' : World} {B E sz : Nat} {t : TypeId} {n : Nat} {cs : List Value} {u : Value} (h : OwnR w' B E t sz n cs u) (h0 : n = 0) : ∃ a k, u = .slice a 0 k ∧ k ≤ maxLen := by
  rcases h with ⟨-, -, h⟩ | ⟨h1, -⟩
  · exact h
  · omega
theorem qE {w' : World} {B E : Nat} {t : TypeId} {l : List ND} {a : Option Addr} {k : Nat} (h0 : l.length = 0) (hk : k ≤ maxLen) : OwnR w' B E t 8 l.length (cellsOf l) (.slice a 0 k) := by
  have : l = [] := List.length_eq_zero_iff.1 h0;subst this;exact OwnR.nil _ _ _ _ _ _ _ hk
theorem ID {w' : World} {B E : Nat} {t : TypeId} {l : List Int} {a : Option Addr} {k : Nat} (h0 : l.length = 0) (hk : k ≤ maxLen) : OwnR w' B E t 1 l.length (CA l) (.slice a 0 k) := by
  have : l = [] := List.length_eq_zero_iff.1 h0;subst this;exact OwnR.nil _ _ _ _ _ _ _ hk
def wO (R : JE) : Prop := (R.1.length = 0 ∧ R.2.1.length = 0) ∨ (0 < R.1.length ∧ 0 < R.2.1.length)
theorem uK : wO noR := .inl ⟨rfl, rfl⟩
theorem yE (l : List ND) (c : List Int) (h : HD) : wO (TA l c h) := by
  unfold TA
  split
  · rename_i hk
    simp only [OA, Bool.and_eq_true] at hk;exact .inr ⟨(TB hk.1.1).1, (AC hk.1.2).1⟩
  · exact uK
theorem dG {l : List ND} {c : List Int} {task : Int} {h : HD} {a b at' then' : Int} (hk : QB l c task h a b = true) : wO (QA l c task h at' then') := by
  obtain ⟨hl, hc, -⟩ := ED hk;exact .inr (PD hl hc)
theorem cL (l : List ND) (c : List Int) (task : Int) (h : HD) : wO (rA l c task h) := by
  have noB := uK;unfold rA
  split
  · unfold YC
    repeat' split
    all_goals first | exact noB | exact yE _ _ _
  · split
    · unfold WC
      split
      · exact noB
      · rename_i hk
        have hk' : QB l c task h 5 8 = true := by simp at hk; exact hk.1.1
        repeat' split
        all_goals first | exact yE _ _ _ | exact dG hk'
    · split
      · unfold NC
        split
        · exact noB
        · rename_i hk
          have hk' : QB l c task h 9 13 = true := by simp at hk; exact hk.1.1
          repeat' split
          all_goals first | exact yE _ _ _ | exact dG hk'
      · split
        · unfold iD
          split
          · exact noB
          · rename_i hk
            have hk' : QB l c task h 22 26 = true := by simp at hk; exact hk.1
            obtain ⟨hl, hc, hl1, hc1, -⟩ := ED hk'
            repeat' split
            all_goals first | exact yE _ _ _ | exact .inr ⟨hl1, hc1⟩
        · unfold BI
          split
          · exact noB
          · rename_i hk
            have hk' : QB l c task h 14 25 = true := by simp at hk; exact hk.1.1.1.1.1
            repeat' split
            all_goals first | exact yE _ _ _ | exact dG hk'
theorem CJ (u x : Value) (l : List ND) (c : List Int) (task : Int) (h : HD) (w0 : World) (h1 : NSl w0 u l) (h2 : SlI w0 x c) (hl : l.length ≤ 1048576) (hc : c.length ≤ 1048576) (hz : (rA l c task h).1.length = 0 ∧ (rA l c task h).2.1.length = 0) (hA : 1 ≤ h.at_ ∧ h.at_ ≤ 4) :
    Calls Tryz.prog 150 #[.agg #[u, x], iJ task, h.val] w0 (Says3 (rA l c task h) w0) := by
  have H1 := h1;have H2 := h2;have f0 : decide (h.at_ ≥ 1) = true := by simp; omega
  have f1 : decide (h.at_ ≤ 4) = true := by simp; omega
  unfold HD.val;have hM := Mem.start w0;obtain ⟨a1, i1, rfl, -⟩ := h1;obtain ⟨a2, i2, rfl, -⟩ := h2
  go_enter Tryz.func150, Tryz.ntmps150
  refine sr fun _ cn1 => ?_;refine nx hM 41 [.slice a1 l.length i1, .slice a2 c.length i2] ?_;clear hM;intro g1 W1 hM;refine nx hM 45 (HD.cells h) ?_;clear hM;intro g2 W2 hM;refine na hM [sZ, sZ] mA ?_;clear hM;intro g3 W3 hM;refine na hM (HD.cells HD.zero) vA ?_;clear hM;intro g4 W4 hM;refine np (.bool false) ?_;go_frame;refine wz cn1 ?_;clear cn1;refine wp_seq_k fun Kn2 cn2 => ?_;refine wp_block ?_;refine sr fun _ cn3 => ?_;refine np (pt g2 0) <| ng hM 2 rfl 0 bA rfl <| nB (f0) <| np (.bool true) <| np (pt g2 0) <| ng hM 2 rfl 0 bA rfl ?_;refine nB (f1) <| np (.bool true) <| np (.bool true) ?_;go_frame;refine wz cn3 ?_;clear cn3;refine wp_cond_true rfl ?_;refine sr fun _ cn4 => ?_;refine nl hM 3 rfl eA cA <| np (iJ task) <| nl hM 2 rfl dA aA ?_;go_frame;have hRR : YC l c task h = rA l c task h := by simp [rA, f0, f1]
  refine nc (Says3.cast hRR (UF (.slice a1 l.length i1) (.slice a2 c.length i2) l c task h _ (H1.below hM.below) (H2.below hM.below) hl hc)) ?_;rintro e W5 ⟨u', x', rfl, hO1, hO2, hb⟩;obtain ⟨a1', j1', rfl, y1⟩ := iC hO1 hz.1;obtain ⟨a2', j2', rfl, y2⟩ := iC hO2 hz.2;replace hM := hM.call hb;refine ⟨_, rfl, ?_⟩;go_frame;refine np (.agg #[.slice a1' 0 j1', .slice a2' 0 j2']) <| np (.agg (HD.cells ((rA l c task h).2.2.1)).toArray) <| np (.bool ((rA l c task h).2.2.2)) ?_;refine nS hM 1 rfl [.slice a1' 0 j1', .slice a2' 0 j2'] cA rfl ?_;clear hM;intro W6 hM;refine nS hM 0 rfl (HD.cells ((rA l c task h).2.2.1)) aA (jA _) ?_;clear hM;intro W7 hM;refine np (.bool ((rA l c task h).2.2.2)) ?_;go_frame;refine wz cn4 ?_;clear cn4;refine wp_ret ?_;simp only [Exit.then, Exit.inBlock];exact b3 hM 1 0 rfl rfl ⟨_, _, rfl, qE hz.1 y1, ID hz.2 y2, hM.below⟩
theorem BJ (u x : Value) (l : List ND) (c : List Int) (task : Int) (h : HD) (w0 : World) (h1 : NSl w0 u l) (h2 : SlI w0 x c) (hl : l.length ≤ 1048576) (hc : c.length ≤ 1048576) (hz : (rA l c task h).1.length = 0 ∧ (rA l c task h).2.1.length = 0) (hA : 5 ≤ h.at_ ∧ h.at_ ≤ 8) :
    Calls Tryz.prog 150 #[.agg #[u, x], iJ task, h.val] w0 (Says3 (rA l c task h) w0) := by
  have H1 := h1;have H2 := h2;have f0 : decide (h.at_ ≥ 1) = true := by simp; omega
  have f1 : decide (h.at_ ≤ 4) = false := by simp; omega
  have f2 : decide (h.at_ ≥ 5) = true := by simp; omega
  have f3 : decide (h.at_ ≤ 8) = true := by simp; omega
  unfold HD.val;have hM := Mem.start w0;obtain ⟨a1, i1, rfl, -⟩ := h1;obtain ⟨a2, i2, rfl, -⟩ := h2
  go_enter Tryz.func150, Tryz.ntmps150
  refine sr fun _ cn1 => ?_;refine nx hM 41 [.slice a1 l.length i1, .slice a2 c.length i2] ?_;clear hM;intro g1 W1 hM;refine nx hM 45 (HD.cells h) ?_;clear hM;intro g2 W2 hM;refine na hM [sZ, sZ] mA ?_;clear hM;intro g3 W3 hM;refine na hM (HD.cells HD.zero) vA ?_;clear hM;intro g4 W4 hM;refine np (.bool false) ?_;go_frame;refine wz cn1 ?_;clear cn1;refine wp_seq_k fun Kn2 cn2 => ?_;refine wp_block ?_;refine sr fun _ cn3 => ?_;refine np (pt g2 0) <| ng hM 2 rfl 0 bA rfl <| nB (f0) <| np (.bool true) <| np (pt g2 0) <| ng hM 2 rfl 0 bA rfl ?_;refine nB (f1) <| np (.bool false) <| np (.bool false) ?_;go_frame;refine wz cn3 ?_;clear cn3;refine wp_cond_false rfl ?_;refine sr fun _ cn4 => ?_;refine np (pt g2 0) <| ng hM 2 rfl 0 bA rfl <| nB (f2) <| np (.bool true) <| np (pt g2 0) <| ng hM 2 rfl 0 bA rfl ?_;refine nB (f3) <| np (.bool true) <| np (.bool true) ?_;go_frame;refine wz cn4 ?_;clear cn4;refine wp_cond_true rfl ?_;refine sr fun _ cn5 => ?_;refine nl hM 3 rfl eA cA <| np (iJ task) <| nl hM 2 rfl dA aA ?_;go_frame;have hRR : WC l c task h = rA l c task h := by simp [rA, f0, f1, f2, f3]
  refine nc (Says3.cast hRR (sG (.slice a1 l.length i1) (.slice a2 c.length i2) l c task h _ (H1.below hM.below) (H2.below hM.below) hl hc)) ?_;rintro e W5 ⟨u', x', rfl, hO1, hO2, hb⟩;obtain ⟨a1', j1', rfl, y1⟩ := iC hO1 hz.1;obtain ⟨a2', j2', rfl, y2⟩ := iC hO2 hz.2;replace hM := hM.call hb;refine ⟨_, rfl, ?_⟩;go_frame;refine np (.agg #[.slice a1' 0 j1', .slice a2' 0 j2']) <| np (.agg (HD.cells ((rA l c task h).2.2.1)).toArray) <| np (.bool ((rA l c task h).2.2.2)) ?_;refine nS hM 1 rfl [.slice a1' 0 j1', .slice a2' 0 j2'] cA rfl ?_;clear hM;intro W6 hM;refine nS hM 0 rfl (HD.cells ((rA l c task h).2.2.1)) aA (jA _) ?_;clear hM;intro W7 hM;refine np (.bool ((rA l c task h).2.2.2)) ?_;go_frame;refine wz cn5 ?_;clear cn5;refine wp_ret ?_;simp only [Exit.then, Exit.inBlock];exact b3 hM 1 0 rfl rfl ⟨_, _, rfl, qE hz.1 y1, ID hz.2 y2, hM.below⟩
theorem AJ (u x : Value) (l : List ND) (c : List Int) (task : Int) (h : HD) (w0 : World) (h1 : NSl w0 u l) (h2 : SlI w0 x c) (hl : l.length ≤ 1048576) (hc : c.length ≤ 1048576) (hz : (rA l c task h).1.length = 0 ∧ (rA l c task h).2.1.length = 0) (hA : 9 ≤ h.at_ ∧ h.at_ ≤ 13) :
    Calls Tryz.prog 150 #[.agg #[u, x], iJ task, h.val] w0 (Says3 (rA l c task h) w0) := by
  have H1 := h1;have H2 := h2;have f0 : decide (h.at_ ≥ 1) = true := by simp; omega
  have f1 : decide (h.at_ ≤ 4) = false := by simp; omega
  have f2 : decide (h.at_ ≥ 5) = true := by simp; omega
  have f3 : decide (h.at_ ≤ 8) = false := by simp; omega
  have f4 : decide (h.at_ ≥ 9) = true := by simp; omega
  have f5 : decide (h.at_ ≤ 13) = true := by simp; omega
  unfold HD.val;have hM := Mem.start w0;obtain ⟨a1, i1, rfl, -⟩ := h1;obtain ⟨a2, i2, rfl, -⟩ := h2
  go_enter Tryz.func150, Tryz.ntmps150
  refine sr fun _ cn1 => ?_;refine nx hM 41 [.slice a1 l.length i1, .slice a2 c.length i2] ?_;clear hM;intro g1 W1 hM;refine nx hM 45 (HD.cells h) ?_;clear hM;intro g2 W2 hM;refine na hM [sZ, sZ] mA ?_;clear hM;intro g3 W3 hM;refine na hM (HD.cells HD.zero) vA ?_;clear hM;intro g4 W4 hM;refine np (.bool false) ?_;go_frame;refine wz cn1 ?_;clear cn1;refine wp_seq_k fun Kn2 cn2 => ?_;refine wp_block ?_;refine sr fun _ cn3 => ?_;refine np (pt g2 0) <| ng hM 2 rfl 0 bA rfl <| nB (f0) <| np (.bool true) <| np (pt g2 0) <| ng hM 2 rfl 0 bA rfl ?_;refine nB (f1) <| np (.bool false) <| np (.bool false) ?_;go_frame;refine wz cn3 ?_;clear cn3;refine wp_cond_false rfl ?_;refine sr fun _ cn4 => ?_;refine np (pt g2 0) <| ng hM 2 rfl 0 bA rfl <| nB (f2) <| np (.bool true) <| np (pt g2 0) <| ng hM 2 rfl 0 bA rfl ?_;refine nB (f3) <| np (.bool false) <| np (.bool false) ?_;go_frame;refine wz cn4 ?_;clear cn4;refine wp_cond_false rfl ?_;refine sr fun _ cn5 => ?_;refine np (pt g2 0) <| ng hM 2 rfl 0 bA rfl <| nB (f4) <| np (.bool true) <| np (pt g2 0) <| ng hM 2 rfl 0 bA rfl ?_;refine nB (f5) <| np (.bool true) <| np (.bool true) ?_;go_frame;refine wz cn5 ?_;clear cn5;refine wp_cond_true rfl ?_;refine sr fun _ cn6 => ?_;refine nl hM 3 rfl eA cA <| np (iJ task) <| nl hM 2 rfl dA aA ?_;go_frame;have hRR : NC l c task h = rA l c task h := by simp [rA, f0, f1, f2, f3, f4, f5]
  refine nc (Says3.cast hRR (rG (.slice a1 l.length i1) (.slice a2 c.length i2) l c task h _ (H1.below hM.below) (H2.below hM.below) hl hc)) ?_;rintro e W5 ⟨u', x', rfl, hO1, hO2, hb⟩;obtain ⟨a1', j1', rfl, y1⟩ := iC hO1 hz.1;obtain ⟨a2', j2', rfl, y2⟩ := iC hO2 hz.2;replace hM := hM.call hb;refine ⟨_, rfl, ?_⟩;go_frame;refine np (.agg #[.slice a1' 0 j1', .slice a2' 0 j2']) <| np (.agg (HD.cells ((rA l c task h).2.2.1)).toArray) <| np (.bool ((rA l c task h).2.2.2)) ?_;refine nS hM 1 rfl [.slice a1' 0 j1', .slice a2' 0 j2'] cA rfl ?_;clear hM;intro W6 hM;refine nS hM 0 rfl (HD.cells ((rA l c task h).2.2.1)) aA (jA _) ?_;clear hM;intro W7 hM;refine np (.bool ((rA l c task h).2.2.2)) ?_;go_frame;refine wz cn6 ?_;clear cn6;refine wp_ret ?_;simp only [Exit.then, Exit.inBlock];exact b3 hM 1 0 rfl rfl ⟨_, _, rfl, qE hz.1 y1, ID hz.2 y2, hM.below⟩
theorem zJ (u x : Value) (l : List ND) (c : List Int) (task : Int) (h : HD) (w0 : World) (h1 : NSl w0 u l) (h2 : SlI w0 x c) (hl : l.length ≤ 1048576) (hc : c.length ≤ 1048576) (hz : (rA l c task h).1.length = 0 ∧ (rA l c task h).2.1.length = 0) (hA : h.at_ = 22) :
    Calls Tryz.prog 150 #[.agg #[u, x], iJ task, h.val] w0 (Says3 (rA l c task h) w0) := by
  have H1 := h1;have H2 := h2;have f0 : decide (h.at_ ≥ 1) = true := by simp; omega
  have f1 : decide (h.at_ ≤ 4) = false := by simp; omega
  have f2 : decide (h.at_ ≥ 5) = true := by simp; omega
  have f3 : decide (h.at_ ≤ 8) = false := by simp; omega
  have f4 : decide (h.at_ ≥ 9) = true := by simp; omega
  have f5 : decide (h.at_ ≤ 13) = false := by simp; omega
  have f6 : (h.at_ == 22) = true := by simp; omega
  unfold HD.val;have hM := Mem.start w0;obtain ⟨a1, i1, rfl, -⟩ := h1;obtain ⟨a2, i2, rfl, -⟩ := h2
  go_enter Tryz.func150, Tryz.ntmps150
  refine sr fun _ cn1 => ?_;refine nx hM 41 [.slice a1 l.length i1, .slice a2 c.length i2] ?_;clear hM;intro g1 W1 hM;refine nx hM 45 (HD.cells h) ?_;clear hM;intro g2 W2 hM;refine na hM [sZ, sZ] mA ?_;clear hM;intro g3 W3 hM;refine na hM (HD.cells HD.zero) vA ?_;clear hM;intro g4 W4 hM;refine np (.bool false) ?_;go_frame;refine wz cn1 ?_;clear cn1;refine wp_seq_k fun Kn2 cn2 => ?_;refine wp_block ?_;refine sr fun _ cn3 => ?_;refine np (pt g2 0) <| ng hM 2 rfl 0 bA rfl <| nB (f0) <| np (.bool true) <| np (pt g2 0) <| ng hM 2 rfl 0 bA rfl ?_;refine nB (f1) <| np (.bool false) <| np (.bool false) ?_;go_frame;refine wz cn3 ?_;clear cn3;refine wp_cond_false rfl ?_;refine sr fun _ cn4 => ?_;refine np (pt g2 0) <| ng hM 2 rfl 0 bA rfl <| nB (f2) <| np (.bool true) <| np (pt g2 0) <| ng hM 2 rfl 0 bA rfl ?_;refine nB (f3) <| np (.bool false) <| np (.bool false) ?_;go_frame;refine wz cn4 ?_;clear cn4;refine wp_cond_false rfl ?_;refine sr fun _ cn5 => ?_;refine np (pt g2 0) <| ng hM 2 rfl 0 bA rfl <| nB (f4) <| np (.bool true) <| np (pt g2 0) <| ng hM 2 rfl 0 bA rfl ?_;refine nB (f5) <| np (.bool false) <| np (.bool false) ?_;go_frame;refine wz cn5 ?_;clear cn5;refine wp_cond_false rfl ?_;refine sr fun _ cn6 => ?_;refine np (pt g2 0) <| ng hM 2 rfl 0 bA rfl <| nB (f6) <| np (.bool true) ?_
  iterate 3 refine ns ?_
  refine np (.bool true) <| np (.bool true) ?_;go_frame;refine wz cn6 ?_;clear cn6;refine wp_cond_true rfl ?_;refine sr fun _ cn7 => ?_;refine nl hM 3 rfl eA cA <| np (iJ task) <| nl hM 2 rfl dA aA ?_;go_frame;have hRR : iD l c task h = rA l c task h := by simp [rA, f0, f1, f2, f3, f4, f5, f6]
  refine nc (Says3.cast hRR (UD (.slice a1 l.length i1) (.slice a2 c.length i2) l c task h _ (H1.below hM.below) (H2.below hM.below) hl hc)) ?_;rintro e W5 ⟨u', x', rfl, hO1, hO2, hb⟩;obtain ⟨a1', j1', rfl, y1⟩ := iC hO1 hz.1;obtain ⟨a2', j2', rfl, y2⟩ := iC hO2 hz.2;replace hM := hM.call hb;refine ⟨_, rfl, ?_⟩;go_frame;refine np (.agg #[.slice a1' 0 j1', .slice a2' 0 j2']) <| np (.agg (HD.cells ((rA l c task h).2.2.1)).toArray) <| np (.bool ((rA l c task h).2.2.2)) ?_;refine nS hM 1 rfl [.slice a1' 0 j1', .slice a2' 0 j2'] cA rfl ?_;clear hM;intro W6 hM;refine nS hM 0 rfl (HD.cells ((rA l c task h).2.2.1)) aA (jA _) ?_;clear hM;intro W7 hM;refine np (.bool ((rA l c task h).2.2.2)) ?_;go_frame;refine wz cn7 ?_;clear cn7;refine wp_ret ?_;simp only [Exit.then, Exit.inBlock];exact b3 hM 1 0 rfl rfl ⟨_, _, rfl, qE hz.1 y1, ID hz.2 y2, hM.below⟩
theorem yJ (u x : Value) (l : List ND) (c : List Int) (task : Int) (h : HD) (w0 : World) (h1 : NSl w0 u l) (h2 : SlI w0 x c) (hl : l.length ≤ 1048576) (hc : c.length ≤ 1048576) (hz : (rA l c task h).1.length = 0 ∧ (rA l c task h).2.1.length = 0) (hA : h.at_ = 26) :
    Calls Tryz.prog 150 #[.agg #[u, x], iJ task, h.val] w0 (Says3 (rA l c task h) w0) := by
  have H1 := h1;have H2 := h2;have f0 : decide (h.at_ ≥ 1) = true := by simp; omega
  have f1 : decide (h.at_ ≤ 4) = false := by simp; omega
  have f2 : decide (h.at_ ≥ 5) = true := by simp; omega
  have f3 : decide (h.at_ ≤ 8) = false := by simp; omega
  have f4 : decide (h.at_ ≥ 9) = true := by simp; omega
  have f5 : decide (h.at_ ≤ 13) = false := by simp; omega
  have f6 : (h.at_ == 22) = false := by simp; omega
  have f7 : (h.at_ == 26) = true := by simp; omega
  unfold HD.val;have hM := Mem.start w0;obtain ⟨a1, i1, rfl, -⟩ := h1;obtain ⟨a2, i2, rfl, -⟩ := h2
  go_enter Tryz.func150, Tryz.ntmps150
  refine sr fun _ cn1 => ?_;refine nx hM 41 [.slice a1 l.length i1, .slice a2 c.length i2] ?_;clear hM;intro g1 W1 hM;refine nx hM 45 (HD.cells h) ?_;clear hM;intro g2 W2 hM;refine na hM [sZ, sZ] mA ?_;clear hM;intro g3 W3 hM;refine na hM (HD.cells HD.zero) vA ?_;clear hM;intro g4 W4 hM;refine np (.bool false) ?_;go_frame;refine wz cn1 ?_;clear cn1;refine wp_seq_k fun Kn2 cn2 => ?_;refine wp_block ?_;refine sr fun _ cn3 => ?_;refine np (pt g2 0) <| ng hM 2 rfl 0 bA rfl <| nB (f0) <| np (.bool true) <| np (pt g2 0) <| ng hM 2 rfl 0 bA rfl ?_;refine nB (f1) <| np (.bool false) <| np (.bool false) ?_;go_frame;refine wz cn3 ?_;clear cn3;refine wp_cond_false rfl ?_;refine sr fun _ cn4 => ?_;refine np (pt g2 0) <| ng hM 2 rfl 0 bA rfl <| nB (f2) <| np (.bool true) <| np (pt g2 0) <| ng hM 2 rfl 0 bA rfl ?_;refine nB (f3) <| np (.bool false) <| np (.bool false) ?_;go_frame;refine wz cn4 ?_;clear cn4;refine wp_cond_false rfl ?_;refine sr fun _ cn5 => ?_;refine np (pt g2 0) <| ng hM 2 rfl 0 bA rfl <| nB (f4) <| np (.bool true) <| np (pt g2 0) <| ng hM 2 rfl 0 bA rfl ?_;refine nB (f5) <| np (.bool false) <| np (.bool false) ?_;go_frame;refine wz cn5 ?_;clear cn5;refine wp_cond_false rfl ?_;refine sr fun _ cn6 => ?_;refine np (pt g2 0) <| ng hM 2 rfl 0 bA rfl <| nB (f6) <| np (.bool false) <| np (pt g2 0) <| ng hM 2 rfl 0 bA rfl ?_;refine nB (f7) <| np (.bool true) <| np (.bool true) ?_;go_frame;refine wz cn6 ?_;clear cn6;refine wp_cond_true rfl ?_;refine sr fun _ cn7 => ?_;refine nl hM 3 rfl eA cA <| np (iJ task) <| nl hM 2 rfl dA aA ?_;go_frame;have hRR : iD l c task h = rA l c task h := by simp [rA, f0, f1, f2, f3, f4, f5, f6, f7]
  refine nc (Says3.cast hRR (UD (.slice a1 l.length i1) (.slice a2 c.length i2) l c task h _ (H1.below hM.below) (H2.below hM.below) hl hc)) ?_;rintro e W5 ⟨u', x', rfl, hO1, hO2, hb⟩;obtain ⟨a1', j1', rfl, y1⟩ := iC hO1 hz.1;obtain ⟨a2', j2', rfl, y2⟩ := iC hO2 hz.2;replace hM := hM.call hb;refine ⟨_, rfl, ?_⟩;go_frame;refine np (.agg #[.slice a1' 0 j1', .slice a2' 0 j2']) <| np (.agg (HD.cells ((rA l c task h).2.2.1)).toArray) <| np (.bool ((rA l c task h).2.2.2)) ?_;refine nS hM 1 rfl [.slice a1' 0 j1', .slice a2' 0 j2'] cA rfl ?_;clear hM;intro W6 hM;refine nS hM 0 rfl (HD.cells ((rA l c task h).2.2.1)) aA (jA _) ?_;clear hM;intro W7 hM;refine np (.bool ((rA l c task h).2.2.2)) ?_;go_frame;refine wz cn7 ?_;clear cn7;refine wp_ret ?_;simp only [Exit.then, Exit.inBlock];exact b3 hM 1 0 rfl rfl ⟨_, _, rfl, qE hz.1 y1, ID hz.2 y2, hM.below⟩
theorem xJ (u x : Value) (l : List ND) (c : List Int) (task : Int) (h : HD) (w0 : World) (h1 : NSl w0 u l) (h2 : SlI w0 x c) (hl : l.length ≤ 1048576) (hc : c.length ≤ 1048576) (hz : (rA l c task h).1.length = 0 ∧ (rA l c task h).2.1.length = 0) (hA : h.at_ ≥ 14 ∧ h.at_ ≠ 22 ∧ h.at_ ≠ 26) :
    Calls Tryz.prog 150 #[.agg #[u, x], iJ task, h.val] w0 (Says3 (rA l c task h) w0) := by
  have H1 := h1;have H2 := h2;have f0 : decide (h.at_ ≥ 1) = true := by simp; omega
  have f1 : decide (h.at_ ≤ 4) = false := by simp; omega
  have f2 : decide (h.at_ ≥ 5) = true := by simp; omega
  have f3 : decide (h.at_ ≤ 8) = false := by simp; omega
  have f4 : decide (h.at_ ≥ 9) = true := by simp; omega
  have f5 : decide (h.at_ ≤ 13) = false := by simp; omega
  have f6 : (h.at_ == 22) = false := by simp; omega
  have f7 : (h.at_ == 26) = false := by simp; omega
  unfold HD.val;have hM := Mem.start w0;obtain ⟨a1, i1, rfl, -⟩ := h1;obtain ⟨a2, i2, rfl, -⟩ := h2
  go_enter Tryz.func150, Tryz.ntmps150
  refine sr fun _ cn1 => ?_;refine nx hM 41 [.slice a1 l.length i1, .slice a2 c.length i2] ?_;clear hM;intro g1 W1 hM;refine nx hM 45 (HD.cells h) ?_;clear hM;intro g2 W2 hM;refine na hM [sZ, sZ] mA ?_;clear hM;intro g3 W3 hM;refine na hM (HD.cells HD.zero) vA ?_;clear hM;intro g4 W4 hM;refine np (.bool false) ?_;go_frame;refine wz cn1 ?_;clear cn1;refine wp_seq_k fun Kn2 cn2 => ?_;refine wp_block ?_;refine sr fun _ cn3 => ?_;refine np (pt g2 0) <| ng hM 2 rfl 0 bA rfl <| nB (f0) <| np (.bool true) <| np (pt g2 0) <| ng hM 2 rfl 0 bA rfl ?_;refine nB (f1) <| np (.bool false) <| np (.bool false) ?_;go_frame;refine wz cn3 ?_;clear cn3;refine wp_cond_false rfl ?_;refine sr fun _ cn4 => ?_;refine np (pt g2 0) <| ng hM 2 rfl 0 bA rfl <| nB (f2) <| np (.bool true) <| np (pt g2 0) <| ng hM 2 rfl 0 bA rfl ?_;refine nB (f3) <| np (.bool false) <| np (.bool false) ?_;go_frame;refine wz cn4 ?_;clear cn4;refine wp_cond_false rfl ?_;refine sr fun _ cn5 => ?_;refine np (pt g2 0) <| ng hM 2 rfl 0 bA rfl <| nB (f4) <| np (.bool true) <| np (pt g2 0) <| ng hM 2 rfl 0 bA rfl ?_;refine nB (f5) <| np (.bool false) <| np (.bool false) ?_;go_frame;refine wz cn5 ?_;clear cn5;refine wp_cond_false rfl ?_;refine sr fun _ cn6 => ?_;refine np (pt g2 0) <| ng hM 2 rfl 0 bA rfl <| nB (f6) <| np (.bool false) <| np (pt g2 0) <| ng hM 2 rfl 0 bA rfl ?_;refine nB (f7) <| np (.bool false) <| np (.bool false) ?_;go_frame;refine wz cn6 ?_;clear cn6;refine wp_cond_false rfl ?_;refine wp_skip ?_;refine cn2 _ _ ?_;clear cn2;refine sr fun _ cn7 => ?_;refine nl hM 3 rfl eA cA <| np (iJ task) <| nl hM 2 rfl dA aA ?_;go_frame;have hRR : BI l c task h = rA l c task h := by simp [rA, f0, f1, f2, f3, f4, f5, f6, f7]
  refine nc (Says3.cast hRR (VD (.slice a1 l.length i1) (.slice a2 c.length i2) l c task h _ (H1.below hM.below) (H2.below hM.below) hl hc)) ?_;rintro e W5 ⟨u', x', rfl, hO1, hO2, hb⟩;obtain ⟨a1', j1', rfl, y1⟩ := iC hO1 hz.1;obtain ⟨a2', j2', rfl, y2⟩ := iC hO2 hz.2;replace hM := hM.call hb;refine ⟨_, rfl, ?_⟩;go_frame;refine np (.agg #[.slice a1' 0 j1', .slice a2' 0 j2']) <| np (.agg (HD.cells ((rA l c task h).2.2.1)).toArray) <| np (.bool ((rA l c task h).2.2.2)) ?_;refine nS hM 1 rfl [.slice a1' 0 j1', .slice a2' 0 j2'] cA rfl ?_;clear hM;intro W6 hM;refine nS hM 0 rfl (HD.cells ((rA l c task h).2.2.1)) aA (jA _) ?_;clear hM;intro W7 hM;refine np (.bool ((rA l c task h).2.2.2)) ?_;go_frame;refine wz cn7 ?_;clear cn7;refine wp_ret ?_;exact b3 hM 1 0 rfl rfl ⟨_, _, rfl, qE hz.1 y1, ID hz.2 y2, hM.below⟩
theorem vJ (u x : Value) (l : List ND) (c : List Int) (task : Int) (h : HD) (w0 : World) (h1 : NSl w0 u l) (h2 : SlI w0 x c) (hl : l.length ≤ 1048576) (hc : c.length ≤ 1048576) (hz : (rA l c task h).1.length = 0 ∧ (rA l c task h).2.1.length = 0) (hA : h.at_ < 1) :
    Calls Tryz.prog 150 #[.agg #[u, x], iJ task, h.val] w0 (Says3 (rA l c task h) w0) := by
  have H1 := h1;have H2 := h2;have f0 : decide (h.at_ ≥ 1) = false := by simp; omega
  have f1 : decide (h.at_ ≥ 5) = false := by simp; omega
  have f2 : decide (h.at_ ≥ 9) = false := by simp; omega
  have f3 : (h.at_ == 22) = false := by simp; omega
  have f4 : (h.at_ == 26) = false := by simp; omega
  unfold HD.val;have hM := Mem.start w0;obtain ⟨a1, i1, rfl, -⟩ := h1;obtain ⟨a2, i2, rfl, -⟩ := h2
  go_enter Tryz.func150, Tryz.ntmps150
  refine sr fun _ cn1 => ?_;refine nx hM 41 [.slice a1 l.length i1, .slice a2 c.length i2] ?_;clear hM;intro g1 W1 hM;refine nx hM 45 (HD.cells h) ?_;clear hM;intro g2 W2 hM;refine na hM [sZ, sZ] mA ?_;clear hM;intro g3 W3 hM;refine na hM (HD.cells HD.zero) vA ?_;clear hM;intro g4 W4 hM;refine np (.bool false) ?_;go_frame;refine wz cn1 ?_;clear cn1;refine wp_seq_k fun Kn2 cn2 => ?_;refine wp_block ?_;refine sr fun _ cn3 => ?_;refine np (pt g2 0) <| ng hM 2 rfl 0 bA rfl <| nB (f0) <| np (.bool false) ?_
  iterate 3 refine ns ?_
  refine np (.bool false) <| np (.bool false) ?_;go_frame;refine wz cn3 ?_;clear cn3;refine wp_cond_false rfl ?_;refine sr fun _ cn4 => ?_;refine np (pt g2 0) <| ng hM 2 rfl 0 bA rfl <| nB (f1) <| np (.bool false) ?_
  iterate 3 refine ns ?_
  refine np (.bool false) <| np (.bool false) ?_;go_frame;refine wz cn4 ?_;clear cn4;refine wp_cond_false rfl ?_;refine sr fun _ cn5 => ?_;refine np (pt g2 0) <| ng hM 2 rfl 0 bA rfl <| nB (f2) <| np (.bool false) ?_
  iterate 3 refine ns ?_
  refine np (.bool false) <| np (.bool false) ?_;go_frame;refine wz cn5 ?_;clear cn5;refine wp_cond_false rfl ?_;refine sr fun _ cn6 => ?_;refine np (pt g2 0) <| ng hM 2 rfl 0 bA rfl <| nB (f3) <| np (.bool false) <| np (pt g2 0) <| ng hM 2 rfl 0 bA rfl ?_;refine nB (f4) <| np (.bool false) <| np (.bool false) ?_;go_frame;refine wz cn6 ?_;clear cn6;refine wp_cond_false rfl ?_;refine wp_skip ?_;refine cn2 _ _ ?_;clear cn2;refine sr fun _ cn7 => ?_;refine nl hM 3 rfl eA cA <| np (iJ task) <| nl hM 2 rfl dA aA ?_;go_frame;have hRR : BI l c task h = rA l c task h := by simp [rA, f0, f1, f2, f3, f4]
  refine nc (Says3.cast hRR (VD (.slice a1 l.length i1) (.slice a2 c.length i2) l c task h _ (H1.below hM.below) (H2.below hM.below) hl hc)) ?_;rintro e W5 ⟨u', x', rfl, hO1, hO2, hb⟩;obtain ⟨a1', j1', rfl, y1⟩ := iC hO1 hz.1;obtain ⟨a2', j2', rfl, y2⟩ := iC hO2 hz.2;replace hM := hM.call hb;refine ⟨_, rfl, ?_⟩;go_frame;refine np (.agg #[.slice a1' 0 j1', .slice a2' 0 j2']) <| np (.agg (HD.cells ((rA l c task h).2.2.1)).toArray) <| np (.bool ((rA l c task h).2.2.2)) ?_;refine nS hM 1 rfl [.slice a1' 0 j1', .slice a2' 0 j2'] cA rfl ?_;clear hM;intro W6 hM;refine nS hM 0 rfl (HD.cells ((rA l c task h).2.2.1)) aA (jA _) ?_;clear hM;intro W7 hM;refine np (.bool ((rA l c task h).2.2.2)) ?_;go_frame;refine wz cn7 ?_;clear cn7;refine wp_ret ?_;exact b3 hM 1 0 rfl rfl ⟨_, _, rfl, qE hz.1 y1, ID hz.2 y2, hM.below⟩
theorem uJ (u x : Value) (l : List ND) (c : List Int) (task : Int) (h : HD) (w0 : World) (h1 : NSl w0 u l) (h2 : SlI w0 x c) (hl : l.length ≤ 1048576) (hc : c.length ≤ 1048576) (hz : 0 < (rA l c task h).1.length ∧ 0 < (rA l c task h).2.1.length) (hA : 1 ≤ h.at_ ∧ h.at_ ≤ 4) :
    Calls Tryz.prog 150 #[.agg #[u, x], iJ task, h.val] w0 (Says3 (rA l c task h) w0) := by
  have H1 := h1;have H2 := h2;have f0 : decide (h.at_ ≥ 1) = true := by simp; omega
  have f1 : decide (h.at_ ≤ 4) = true := by simp; omega
  unfold HD.val;have hM := Mem.start w0;obtain ⟨a1, i1, rfl, -⟩ := h1;obtain ⟨a2, i2, rfl, -⟩ := h2
  go_enter Tryz.func150, Tryz.ntmps150
  refine sr fun _ cn1 => ?_;refine nx hM 41 [.slice a1 l.length i1, .slice a2 c.length i2] ?_;clear hM;intro g1 W1 hM;refine nx hM 45 (HD.cells h) ?_;clear hM;intro g2 W2 hM;refine na hM [sZ, sZ] mA ?_;clear hM;intro g3 W3 hM;refine na hM (HD.cells HD.zero) vA ?_;clear hM;intro g4 W4 hM;refine np (.bool false) ?_;go_frame;refine wz cn1 ?_;clear cn1;refine wp_seq_k fun Kn2 cn2 => ?_;refine wp_block ?_;refine sr fun _ cn3 => ?_;refine np (pt g2 0) <| ng hM 2 rfl 0 bA rfl <| nB (f0) <| np (.bool true) <| np (pt g2 0) <| ng hM 2 rfl 0 bA rfl ?_;refine nB (f1) <| np (.bool true) <| np (.bool true) ?_;go_frame;refine wz cn3 ?_;clear cn3;refine wp_cond_true rfl ?_;refine sr fun _ cn4 => ?_;refine nl hM 3 rfl eA cA <| np (iJ task) <| nl hM 2 rfl dA aA ?_;go_frame;have hRR : YC l c task h = rA l c task h := by simp [rA, f0, f1]
  refine nc (Says3.cast hRR (UF (.slice a1 l.length i1) (.slice a2 c.length i2) l c task h _ (H1.below hM.below) (H2.below hM.below) hl hc)) ?_;rintro e W5 ⟨u', x', rfl, hO1, hO2, hb⟩;obtain ⟨v1, j1, r1, rfl, s1', s2', s3', s4', s9'⟩ := IB hO1 hz.1;obtain ⟨v2, j2, r2, rfl, s5', s6', s7', s8', s0'⟩ := IB hO2 hz.2;replace hM := hM.join (Mem.two hb s4' s8' s3' s7' yC);refine ⟨_, rfl, ?_⟩;go_frame;refine np (.agg #[sa v1 ((rA l c task h).1.length) j1, sa v2 ((rA l c task h).2.1.length) j2]) <| np (.agg (HD.cells ((rA l c task h).2.2.1)).toArray) <| np (.bool ((rA l c task h).2.2.2)) ?_;refine nS hM 3 rfl [sa v1 ((rA l c task h).1.length) j1, sa v2 ((rA l c task h).2.1.length) j2] cA rfl ?_;clear hM;intro W6 hM;refine nS hM 2 rfl (HD.cells ((rA l c task h).2.2.1)) aA (jA _) ?_;clear hM;intro W7 hM;refine np (.bool ((rA l c task h).2.2.2)) ?_;go_frame;refine wz cn4 ?_;clear cn4;refine wp_ret ?_;simp only [Exit.then, Exit.inBlock];exact b3 hM 3 2 rfl rfl ⟨_, _, rfl, SB (hM.blk 0 rfl) rfl s1' s2' (hM.base 0 rfl) hz.1 s9', YA (hM.blk 1 rfl) s5' s6' (hM.base 1 rfl) hz.2 s0', hM.below⟩
theorem tJ (u x : Value) (l : List ND) (c : List Int) (task : Int) (h : HD) (w0 : World) (h1 : NSl w0 u l) (h2 : SlI w0 x c) (hl : l.length ≤ 1048576) (hc : c.length ≤ 1048576) (hz : 0 < (rA l c task h).1.length ∧ 0 < (rA l c task h).2.1.length) (hA : 5 ≤ h.at_ ∧ h.at_ ≤ 8) :
    Calls Tryz.prog 150 #[.agg #[u, x], iJ task, h.val] w0 (Says3 (rA l c task h) w0) := by
  have H1 := h1;have H2 := h2;have f0 : decide (h.at_ ≥ 1) = true := by simp; omega
  have f1 : decide (h.at_ ≤ 4) = false := by simp; omega
  have f2 : decide (h.at_ ≥ 5) = true := by simp; omega
  have f3 : decide (h.at_ ≤ 8) = true := by simp; omega
  unfold HD.val;have hM := Mem.start w0;obtain ⟨a1, i1, rfl, -⟩ := h1;obtain ⟨a2, i2, rfl, -⟩ := h2
  go_enter Tryz.func150, Tryz.ntmps150
  refine sr fun _ cn1 => ?_;refine nx hM 41 [.slice a1 l.length i1, .slice a2 c.length i2] ?_;clear hM;intro g1 W1 hM;refine nx hM 45 (HD.cells h) ?_;clear hM;intro g2 W2 hM;refine na hM [sZ, sZ] mA ?_;clear hM;intro g3 W3 hM;refine na hM (HD.cells HD.zero) vA ?_;clear hM;intro g4 W4 hM;refine np (.bool false) ?_;go_frame;refine wz cn1 ?_;clear cn1;refine wp_seq_k fun Kn2 cn2 => ?_;refine wp_block ?_;refine sr fun _ cn3 => ?_;refine np (pt g2 0) <| ng hM 2 rfl 0 bA rfl <| nB (f0) <| np (.bool true) <| np (pt g2 0) <| ng hM 2 rfl 0 bA rfl ?_;refine nB (f1) <| np (.bool false) <| np (.bool false) ?_;go_frame;refine wz cn3 ?_;clear cn3;refine wp_cond_false rfl ?_;refine sr fun _ cn4 => ?_;refine np (pt g2 0) <| ng hM 2 rfl 0 bA rfl <| nB (f2) <| np (.bool true) <| np (pt g2 0) <| ng hM 2 rfl 0 bA rfl ?_;refine nB (f3) <| np (.bool true) <| np (.bool true) ?_;go_frame;refine wz cn4 ?_;clear cn4;refine wp_cond_true rfl ?_;refine sr fun _ cn5 => ?_;refine nl hM 3 rfl eA cA <| np (iJ task) <| nl hM 2 rfl dA aA ?_;go_frame;have hRR : WC l c task h = rA l c task h := by simp [rA, f0, f1, f2, f3]
  refine nc (Says3.cast hRR (sG (.slice a1 l.length i1) (.slice a2 c.length i2) l c task h _ (H1.below hM.below) (H2.below hM.below) hl hc)) ?_;rintro e W5 ⟨u', x', rfl, hO1, hO2, hb⟩;obtain ⟨v1, j1, r1, rfl, s1', s2', s3', s4', s9'⟩ := IB hO1 hz.1;obtain ⟨v2, j2, r2, rfl, s5', s6', s7', s8', s0'⟩ := IB hO2 hz.2;replace hM := hM.join (Mem.two hb s4' s8' s3' s7' yC);refine ⟨_, rfl, ?_⟩;go_frame;refine np (.agg #[sa v1 ((rA l c task h).1.length) j1, sa v2 ((rA l c task h).2.1.length) j2]) <| np (.agg (HD.cells ((rA l c task h).2.2.1)).toArray) <| np (.bool ((rA l c task h).2.2.2)) ?_;refine nS hM 3 rfl [sa v1 ((rA l c task h).1.length) j1, sa v2 ((rA l c task h).2.1.length) j2] cA rfl ?_;clear hM;intro W6 hM;refine nS hM 2 rfl (HD.cells ((rA l c task h).2.2.1)) aA (jA _) ?_;clear hM;intro W7 hM;refine np (.bool ((rA l c task h).2.2.2)) ?_;go_frame;refine wz cn5 ?_;clear cn5;refine wp_ret ?_;simp only [Exit.then, Exit.inBlock];exact b3 hM 3 2 rfl rfl ⟨_, _, rfl, SB (hM.blk 0 rfl) rfl s1' s2' (hM.base 0 rfl) hz.1 s9', YA (hM.blk 1 rfl) s5' s6' (hM.base 1 rfl) hz.2 s0', hM.below⟩
theorem sJ (u x : Value) (l : List ND) (c : List Int) (task : Int) (h : HD) (w0 : World) (h1 : NSl w0 u l) (h2 : SlI w0 x c) (hl : l.length ≤ 1048576) (hc : c.length ≤ 1048576) (hz : 0 < (rA l c task h).1.length ∧ 0 < (rA l c task h).2.1.length) (hA : 9 ≤ h.at_ ∧ h.at_ ≤ 13) :
    Calls Tryz.prog 150 #[.agg #[u, x], iJ task, h.val] w0 (Says3 (rA l c task h) w0) := by
  have H1 := h1;have H2 := h2;have f0 : decide (h.at_ ≥ 1) = true := by simp; omega
  have f1 : decide (h.at_ ≤ 4) = false := by simp; omega
  have f2 : decide (h.at_ ≥ 5) = true := by simp; omega
  have f3 : decide (h.at_ ≤ 8) = false := by simp; omega
  have f4 : decide (h.at_ ≥ 9) = true := by simp; omega
  have f5 : decide (h.at_ ≤ 13) = true := by simp; omega
  unfold HD.val;have hM := Mem.start w0;obtain ⟨a1, i1, rfl, -⟩ := h1;obtain ⟨a2, i2, rfl, -⟩ := h2
  go_enter Tryz.func150, Tryz.ntmps150
  refine sr fun _ cn1 => ?_;refine nx hM 41 [.slice a1 l.length i1, .slice a2 c.length i2] ?_;clear hM;intro g1 W1 hM;refine nx hM 45 (HD.cells h) ?_;clear hM;intro g2 W2 hM;refine na hM [sZ, sZ] mA ?_;clear hM;intro g3 W3 hM;refine na hM (HD.cells HD.zero) vA ?_;clear hM;intro g4 W4 hM;refine np (.bool false) ?_;go_frame;refine wz cn1 ?_;clear cn1;refine wp_seq_k fun Kn2 cn2 => ?_;refine wp_block ?_;refine sr fun _ cn3 => ?_;refine np (pt g2 0) <| ng hM 2 rfl 0 bA rfl <| nB (f0) <| np (.bool true) <| np (pt g2 0) <| ng hM 2 rfl 0 bA rfl ?_;refine nB (f1) <| np (.bool false) <| np (.bool false) ?_;go_frame;refine wz cn3 ?_;clear cn3;refine wp_cond_false rfl ?_;refine sr fun _ cn4 => ?_;refine np (pt g2 0) <| ng hM 2 rfl 0 bA rfl <| nB (f2) <| np (.bool true) <| np (pt g2 0) <| ng hM 2 rfl 0 bA rfl ?_;refine nB (f3) <| np (.bool false) <| np (.bool false) ?_;go_frame;refine wz cn4 ?_;clear cn4;refine wp_cond_false rfl ?_;refine sr fun _ cn5 => ?_;refine np (pt g2 0) <| ng hM 2 rfl 0 bA rfl <| nB (f4) <| np (.bool true) <| np (pt g2 0) <| ng hM 2 rfl 0 bA rfl ?_;refine nB (f5) <| np (.bool true) <| np (.bool true) ?_;go_frame;refine wz cn5 ?_;clear cn5;refine wp_cond_true rfl ?_;refine sr fun _ cn6 => ?_;refine nl hM 3 rfl eA cA <| np (iJ task) <| nl hM 2 rfl dA aA ?_;go_frame;have hRR : NC l c task h = rA l c task h := by simp [rA, f0, f1, f2, f3, f4, f5]
  refine nc (Says3.cast hRR (rG (.slice a1 l.length i1) (.slice a2 c.length i2) l c task h _ (H1.below hM.below) (H2.below hM.below) hl hc)) ?_;rintro e W5 ⟨u', x', rfl, hO1, hO2, hb⟩;obtain ⟨v1, j1, r1, rfl, s1', s2', s3', s4', s9'⟩ := IB hO1 hz.1;obtain ⟨v2, j2, r2, rfl, s5', s6', s7', s8', s0'⟩ := IB hO2 hz.2;replace hM := hM.join (Mem.two hb s4' s8' s3' s7' yC);refine ⟨_, rfl, ?_⟩;go_frame;refine np (.agg #[sa v1 ((rA l c task h).1.length) j1, sa v2 ((rA l c task h).2.1.length) j2]) <| np (.agg (HD.cells ((rA l c task h).2.2.1)).toArray) <| np (.bool ((rA l c task h).2.2.2)) ?_;refine nS hM 3 rfl [sa v1 ((rA l c task h).1.length) j1, sa v2 ((rA l c task h).2.1.length) j2] cA rfl ?_;clear hM;intro W6 hM;refine nS hM 2 rfl (HD.cells ((rA l c task h).2.2.1)) aA (jA _) ?_;clear hM;intro W7 hM;refine np (.bool ((rA l c task h).2.2.2)) ?_;go_frame;refine wz cn6 ?_;clear cn6;refine wp_ret ?_;simp only [Exit.then, Exit.inBlock];exact b3 hM 3 2 rfl rfl ⟨_, _, rfl, SB (hM.blk 0 rfl) rfl s1' s2' (hM.base 0 rfl) hz.1 s9', YA (hM.blk 1 rfl) s5' s6' (hM.base 1 rfl) hz.2 s0', hM.below⟩
theorem rJ (u x : Value) (l : List ND) (c : List Int) (task : Int) (h : HD) (w0 : World) (h1 : NSl w0 u l) (h2 : SlI w0 x c) (hl : l.length ≤ 1048576) (hc : c.length ≤ 1048576) (hz : 0 < (rA l c task h).1.length ∧ 0 < (rA l c task h).2.1.length) (hA : h.at_ = 22) :
    Calls Tryz.prog 150 #[.agg #[u, x], iJ task, h.val] w0 (Says3 (rA l c task h) w0) := by
  have H1 := h1;have H2 := h2;have f0 : decide (h.at_ ≥ 1) = true := by simp; omega
  have f1 : decide (h.at_ ≤ 4) = false := by simp; omega
  have f2 : decide (h.at_ ≥ 5) = true := by simp; omega
  have f3 : decide (h.at_ ≤ 8) = false := by simp; omega
  have f4 : decide (h.at_ ≥ 9) = true := by simp; omega
  have f5 : decide (h.at_ ≤ 13) = false := by simp; omega
  have f6 : (h.at_ == 22) = true := by simp; omega
  unfold HD.val;have hM := Mem.start w0;obtain ⟨a1, i1, rfl, -⟩ := h1;obtain ⟨a2, i2, rfl, -⟩ := h2
  go_enter Tryz.func150, Tryz.ntmps150
  refine sr fun _ cn1 => ?_;refine nx hM 41 [.slice a1 l.length i1, .slice a2 c.length i2] ?_;clear hM;intro g1 W1 hM;refine nx hM 45 (HD.cells h) ?_;clear hM;intro g2 W2 hM;refine na hM [sZ, sZ] mA ?_;clear hM;intro g3 W3 hM;refine na hM (HD.cells HD.zero) vA ?_;clear hM;intro g4 W4 hM;refine np (.bool false) ?_;go_frame;refine wz cn1 ?_;clear cn1;refine wp_seq_k fun Kn2 cn2 => ?_;refine wp_block ?_;refine sr fun _ cn3 => ?_;refine np (pt g2 0) <| ng hM 2 rfl 0 bA rfl <| nB (f0) <| np (.bool true) <| np (pt g2 0) <| ng hM 2 rfl 0 bA rfl ?_;refine nB (f1) <| np (.bool false) <| np (.bool false) ?_;go_frame;refine wz cn3 ?_;clear cn3;refine wp_cond_false rfl ?_;refine sr fun _ cn4 => ?_;refine np (pt g2 0) <| ng hM 2 rfl 0 bA rfl <| nB (f2) <| np (.bool true) <| np (pt g2 0) <| ng hM 2 rfl 0 bA rfl ?_;refine nB (f3) <| np (.bool false) <| np (.bool false) ?_;go_frame;refine wz cn4 ?_;clear cn4;refine wp_cond_false rfl ?_;refine sr fun _ cn5 => ?_;refine np (pt g2 0) <| ng hM 2 rfl 0 bA rfl <| nB (f4) <| np (.bool true) <| np (pt g2 0) <| ng hM 2 rfl 0 bA rfl ?_;refine nB (f5) <| np (.bool false) <| np (.bool false) ?_;go_frame;refine wz cn5 ?_;clear cn5;refine wp_cond_false rfl ?_;refine sr fun _ cn6 => ?_;refine np (pt g2 0) <| ng hM 2 rfl 0 bA rfl <| nB (f6) <| np (.bool true) ?_
  iterate 3 refine ns ?_
  refine np (.bool true) <| np (.bool true) ?_;go_frame;refine wz cn6 ?_;clear cn6;refine wp_cond_true rfl ?_;refine sr fun _ cn7 => ?_;refine nl hM 3 rfl eA cA <| np (iJ task) <| nl hM 2 rfl dA aA ?_;go_frame;have hRR : iD l c task h = rA l c task h := by simp [rA, f0, f1, f2, f3, f4, f5, f6]
  refine nc (Says3.cast hRR (UD (.slice a1 l.length i1) (.slice a2 c.length i2) l c task h _ (H1.below hM.below) (H2.below hM.below) hl hc)) ?_;rintro e W5 ⟨u', x', rfl, hO1, hO2, hb⟩;obtain ⟨v1, j1, r1, rfl, s1', s2', s3', s4', s9'⟩ := IB hO1 hz.1;obtain ⟨v2, j2, r2, rfl, s5', s6', s7', s8', s0'⟩ := IB hO2 hz.2;replace hM := hM.join (Mem.two hb s4' s8' s3' s7' yC);refine ⟨_, rfl, ?_⟩;go_frame;refine np (.agg #[sa v1 ((rA l c task h).1.length) j1, sa v2 ((rA l c task h).2.1.length) j2]) <| np (.agg (HD.cells ((rA l c task h).2.2.1)).toArray) <| np (.bool ((rA l c task h).2.2.2)) ?_;refine nS hM 3 rfl [sa v1 ((rA l c task h).1.length) j1, sa v2 ((rA l c task h).2.1.length) j2] cA rfl ?_;clear hM;intro W6 hM;refine nS hM 2 rfl (HD.cells ((rA l c task h).2.2.1)) aA (jA _) ?_;clear hM;intro W7 hM;refine np (.bool ((rA l c task h).2.2.2)) ?_;go_frame;refine wz cn7 ?_;clear cn7;refine wp_ret ?_;simp only [Exit.then, Exit.inBlock];exact b3 hM 3 2 rfl rfl ⟨_, _, rfl, SB (hM.blk 0 rfl) rfl s1' s2' (hM.base 0 rfl) hz.1 s9', YA (hM.blk 1 rfl) s5' s6' (hM.base 1 rfl) hz.2 s0', hM.below⟩
theorem qJ (u x : Value) (l : List ND) (c : List Int) (task : Int) (h : HD) (w0 : World) (h1 : NSl w0 u l) (h2 : SlI w0 x c) (hl : l.length ≤ 1048576) (hc : c.length ≤ 1048576) (hz : 0 < (rA l c task h).1.length ∧ 0 < (rA l c task h).2.1.length) (hA : h.at_ = 26) :
    Calls Tryz.prog 150 #[.agg #[u, x], iJ task, h.val] w0 (Says3 (rA l c task h) w0) := by
  have H1 := h1;have H2 := h2;have f0 : decide (h.at_ ≥ 1) = true := by simp; omega
  have f1 : decide (h.at_ ≤ 4) = false := by simp; omega
  have f2 : decide (h.at_ ≥ 5) = true := by simp; omega
  have f3 : decide (h.at_ ≤ 8) = false := by simp; omega
  have f4 : decide (h.at_ ≥ 9) = true := by simp; omega
  have f5 : decide (h.at_ ≤ 13) = false := by simp; omega
  have f6 : (h.at_ == 22) = false := by simp; omega
  have f7 : (h.at_ == 26) = true := by simp; omega
  unfold HD.val;have hM := Mem.start w0;obtain ⟨a1, i1, rfl, -⟩ := h1;obtain ⟨a2, i2, rfl, -⟩ := h2
  go_enter Tryz.func150, Tryz.ntmps150
  refine sr fun _ cn1 => ?_;refine nx hM 41 [.slice a1 l.length i1, .slice a2 c.length i2] ?_;clear hM;intro g1 W1 hM;refine nx hM 45 (HD.cells h) ?_;clear hM;intro g2 W2 hM;refine na hM [sZ, sZ] mA ?_;clear hM;intro g3 W3 hM;refine na hM (HD.cells HD.zero) vA ?_;clear hM;intro g4 W4 hM;refine np (.bool false) ?_;go_frame;refine wz cn1 ?_;clear cn1;refine wp_seq_k fun Kn2 cn2 => ?_;refine wp_block ?_;refine sr fun _ cn3 => ?_;refine np (pt g2 0) <| ng hM 2 rfl 0 bA rfl <| nB (f0) <| np (.bool true) <| np (pt g2 0) <| ng hM 2 rfl 0 bA rfl ?_;refine nB (f1) <| np (.bool false) <| np (.bool false) ?_;go_frame;refine wz cn3 ?_;clear cn3;refine wp_cond_false rfl ?_;refine sr fun _ cn4 => ?_;refine np (pt g2 0) <| ng hM 2 rfl 0 bA rfl <| nB (f2) <| np (.bool true) <| np (pt g2 0) <| ng hM 2 rfl 0 bA rfl ?_;refine nB (f3) <| np (.bool false) <| np (.bool false) ?_;go_frame;refine wz cn4 ?_;clear cn4;refine wp_cond_false rfl ?_;refine sr fun _ cn5 => ?_;refine np (pt g2 0) <| ng hM 2 rfl 0 bA rfl <| nB (f4) <| np (.bool true) <| np (pt g2 0) <| ng hM 2 rfl 0 bA rfl ?_;refine nB (f5) <| np (.bool false) <| np (.bool false) ?_;go_frame;refine wz cn5 ?_;clear cn5;refine wp_cond_false rfl ?_;refine sr fun _ cn6 => ?_;refine np (pt g2 0) <| ng hM 2 rfl 0 bA rfl <| nB (f6) <| np (.bool false) <| np (pt g2 0) <| ng hM 2 rfl 0 bA rfl ?_;refine nB (f7) <| np (.bool true) <| np (.bool true) ?_;go_frame;refine wz cn6 ?_;clear cn6;refine wp_cond_true rfl ?_;refine sr fun _ cn7 => ?_;refine nl hM 3 rfl eA cA <| np (iJ task) <| nl hM 2 rfl dA aA ?_;go_frame;have hRR : iD l c task h = rA l c task h := by simp [rA, f0, f1, f2, f3, f4, f5, f6, f7]
  refine nc (Says3.cast hRR (UD (.slice a1 l.length i1) (.slice a2 c.length i2) l c task h _ (H1.below hM.below) (H2.below hM.below) hl hc)) ?_;rintro e W5 ⟨u', x', rfl, hO1, hO2, hb⟩;obtain ⟨v1, j1, r1, rfl, s1', s2', s3', s4', s9'⟩ := IB hO1 hz.1;obtain ⟨v2, j2, r2, rfl, s5', s6', s7', s8', s0'⟩ := IB hO2 hz.2;replace hM := hM.join (Mem.two hb s4' s8' s3' s7' yC);refine ⟨_, rfl, ?_⟩;go_frame;refine np (.agg #[sa v1 ((rA l c task h).1.length) j1, sa v2 ((rA l c task h).2.1.length) j2]) <| np (.agg (HD.cells ((rA l c task h).2.2.1)).toArray) <| np (.bool ((rA l c task h).2.2.2)) ?_;refine nS hM 3 rfl [sa v1 ((rA l c task h).1.length) j1, sa v2 ((rA l c task h).2.1.length) j2] cA rfl ?_;clear hM;intro W6 hM;refine nS hM 2 rfl (HD.cells ((rA l c task h).2.2.1)) aA (jA _) ?_;clear hM;intro W7 hM;refine np (.bool ((rA l c task h).2.2.2)) ?_;go_frame;refine wz cn7 ?_;clear cn7;refine wp_ret ?_;simp only [Exit.then, Exit.inBlock];exact b3 hM 3 2 rfl rfl ⟨_, _, rfl, SB (hM.blk 0 rfl) rfl s1' s2' (hM.base 0 rfl) hz.1 s9', YA (hM.blk 1 rfl) s5' s6' (hM.base 1 rfl) hz.2 s0', hM.below⟩
theorem pJ (u x : Value) (l : List ND) (c : List Int) (task : Int) (h : HD) (w0 : World) (h1 : NSl w0 u l) (h2 : SlI w0 x c) (hl : l.length ≤ 1048576) (hc : c.length ≤ 1048576) (hz : 0 < (rA l c task h).1.length ∧ 0 < (rA l c task h).2.1.length) (hA : h.at_ ≥ 14 ∧ h.at_ ≠ 22 ∧ h.at_ ≠ 26) :
    Calls Tryz.prog 150 #[.agg #[u, x], iJ task, h.val] w0 (Says3 (rA l c task h) w0) := by
  have H1 := h1;have H2 := h2;have f0 : decide (h.at_ ≥ 1) = true := by simp; omega
  have f1 : decide (h.at_ ≤ 4) = false := by simp; omega
  have f2 : decide (h.at_ ≥ 5) = true := by simp; omega
  have f3 : decide (h.at_ ≤ 8) = false := by simp; omega
  have f4 : decide (h.at_ ≥ 9) = true := by simp; omega
  have f5 : decide (h.at_ ≤ 13) = false := by simp; omega
  have f6 : (h.at_ == 22) = false := by simp; omega
  have f7 : (h.at_ == 26) = false := by simp; omega
  unfold HD.val;have hM := Mem.start w0;obtain ⟨a1, i1, rfl, -⟩ := h1;obtain ⟨a2, i2, rfl, -⟩ := h2
  go_enter Tryz.func150, Tryz.ntmps150
  refine sr fun _ cn1 => ?_;refine nx hM 41 [.slice a1 l.length i1, .slice a2 c.length i2] ?_;clear hM;intro g1 W1 hM;refine nx hM 45 (HD.cells h) ?_;clear hM;intro g2 W2 hM;refine na hM [sZ, sZ] mA ?_;clear hM;intro g3 W3 hM;refine na hM (HD.cells HD.zero) vA ?_;clear hM;intro g4 W4 hM;refine np (.bool false) ?_;go_frame;refine wz cn1 ?_;clear cn1;refine wp_seq_k fun Kn2 cn2 => ?_;refine wp_block ?_;refine sr fun _ cn3 => ?_;refine np (pt g2 0) <| ng hM 2 rfl 0 bA rfl <| nB (f0) <| np (.bool true) <| np (pt g2 0) <| ng hM 2 rfl 0 bA rfl ?_;refine nB (f1) <| np (.bool false) <| np (.bool false) ?_;go_frame;refine wz cn3 ?_;clear cn3;refine wp_cond_false rfl ?_;refine sr fun _ cn4 => ?_;refine np (pt g2 0) <| ng hM 2 rfl 0 bA rfl <| nB (f2) <| np (.bool true) <| np (pt g2 0) <| ng hM 2 rfl 0 bA rfl ?_;refine nB (f3) <| np (.bool false) <| np (.bool false) ?_;go_frame;refine wz cn4 ?_;clear cn4;refine wp_cond_false rfl ?_;refine sr fun _ cn5 => ?_;refine np (pt g2 0) <| ng hM 2 rfl 0 bA rfl <| nB (f4) <| np (.bool true) <| np (pt g2 0) <| ng hM 2 rfl 0 bA rfl ?_;refine nB (f5) <| np (.bool false) <| np (.bool false) ?_;go_frame;refine wz cn5 ?_;clear cn5;refine wp_cond_false rfl ?_;refine sr fun _ cn6 => ?_;refine np (pt g2 0) <| ng hM 2 rfl 0 bA rfl <| nB (f6) <| np (.bool false) <| np (pt g2 0) <| ng hM 2 rfl 0 bA rfl ?_;refine nB (f7) <| np (.bool false) <| np (.bool false) ?_;go_frame;refine wz cn6 ?_;clear cn6;refine wp_cond_false rfl ?_;refine wp_skip ?_;refine cn2 _ _ ?_;clear cn2;refine sr fun _ cn7 => ?_;refine nl hM 3 rfl eA cA <| np (iJ task) <| nl hM 2 rfl dA aA ?_;go_frame;have hRR : BI l c task h = rA l c task h := by simp [rA, f0, f1, f2, f3, f4, f5, f6, f7]
  refine nc (Says3.cast hRR (VD (.slice a1 l.length i1) (.slice a2 c.length i2) l c task h _ (H1.below hM.below) (H2.below hM.below) hl hc)) ?_;rintro e W5 ⟨u', x', rfl, hO1, hO2, hb⟩;obtain ⟨v1, j1, r1, rfl, s1', s2', s3', s4', s9'⟩ := IB hO1 hz.1;obtain ⟨v2, j2, r2, rfl, s5', s6', s7', s8', s0'⟩ := IB hO2 hz.2;replace hM := hM.join (Mem.two hb s4' s8' s3' s7' yC);refine ⟨_, rfl, ?_⟩;go_frame;refine np (.agg #[sa v1 ((rA l c task h).1.length) j1, sa v2 ((rA l c task h).2.1.length) j2]) <| np (.agg (HD.cells ((rA l c task h).2.2.1)).toArray) <| np (.bool ((rA l c task h).2.2.2)) ?_;refine nS hM 3 rfl [sa v1 ((rA l c task h).1.length) j1, sa v2 ((rA l c task h).2.1.length) j2] cA rfl ?_;clear hM;intro W6 hM;refine nS hM 2 rfl (HD.cells ((rA l c task h).2.2.1)) aA (jA _) ?_;clear hM;intro W7 hM;refine np (.bool ((rA l c task h).2.2.2)) ?_;go_frame;refine wz cn7 ?_;clear cn7;refine wp_ret ?_;exact b3 hM 3 2 rfl rfl ⟨_, _, rfl, SB (hM.blk 0 rfl) rfl s1' s2' (hM.base 0 rfl) hz.1 s9', YA (hM.blk 1 rfl) s5' s6' (hM.base 1 rfl) hz.2 s0', hM.below⟩
theorem oJ (u x : Value) (l : List ND) (c : List Int) (task : Int) (h : HD) (w0 : World) (h1 : NSl w0 u l) (h2 : SlI w0 x c) (hl : l.length ≤ 1048576) (hc : c.length ≤ 1048576) (hz : 0 < (rA l c task h).1.length ∧ 0 < (rA l c task h).2.1.length) (hA : h.at_ < 1) :
    Calls Tryz.prog 150 #[.agg #[u, x], iJ task, h.val] w0 (Says3 (rA l c task h) w0) := by
  have H1 := h1;have H2 := h2;have f0 : decide (h.at_ ≥ 1) = false := by simp; omega
  have f1 : decide (h.at_ ≥ 5) = false := by simp; omega
  have f2 : decide (h.at_ ≥ 9) = false := by simp; omega
  have f3 : (h.at_ == 22) = false := by simp; omega
  have f4 : (h.at_ == 26) = false := by simp; omega
  unfold HD.val;have hM := Mem.start w0;obtain ⟨a1, i1, rfl, -⟩ := h1;obtain ⟨a2, i2, rfl, -⟩ := h2
  go_enter Tryz.func150, Tryz.ntmps150
  refine sr fun _ cn1 => ?_;refine nx hM 41 [.slice a1 l.length i1, .slice a2 c.length i2] ?_;clear hM;intro g1 W1 hM;refine nx hM 45 (HD.cells h) ?_;clear hM;intro g2 W2 hM;refine na hM [sZ, sZ] mA ?_;clear hM;intro g3 W3 hM;refine na hM (HD.cells HD.zero) vA ?_;clear hM;intro g4 W4 hM;refine np (.bool false) ?_;go_frame;refine wz cn1 ?_;clear cn1;refine wp_seq_k fun Kn2 cn2 => ?_;refine wp_block ?_;refine sr fun _ cn3 => ?_;refine np (pt g2 0) <| ng hM 2 rfl 0 bA rfl <| nB (f0) <| np (.bool false) ?_
  iterate 3 refine ns ?_
  refine np (.bool false) <| np (.bool false) ?_;go_frame;refine wz cn3 ?_;clear cn3;refine wp_cond_false rfl ?_;refine sr fun _ cn4 => ?_;refine np (pt g2 0) <| ng hM 2 rfl 0 bA rfl <| nB (f1) <| np (.bool false) ?_
  iterate 3 refine ns ?_
  refine np (.bool false) <| np (.bool false) ?_;go_frame;refine wz cn4 ?_;clear cn4;refine wp_cond_false rfl ?_;refine sr fun _ cn5 => ?_;refine np (pt g2 0) <| ng hM 2 rfl 0 bA rfl <| nB (f2) <| np (.bool false) ?_
  iterate 3 refine ns ?_
  refine np (.bool false) <| np (.bool false) ?_;go_frame;refine wz cn5 ?_;clear cn5;refine wp_cond_false rfl ?_;refine sr fun _ cn6 => ?_;refine np (pt g2 0) <| ng hM 2 rfl 0 bA rfl <| nB (f3) <| np (.bool false) <| np (pt g2 0) <| ng hM 2 rfl 0 bA rfl ?_;refine nB (f4) <| np (.bool false) <| np (.bool false) ?_;go_frame;refine wz cn6 ?_;clear cn6;refine wp_cond_false rfl ?_;refine wp_skip ?_;refine cn2 _ _ ?_;clear cn2;refine sr fun _ cn7 => ?_;refine nl hM 3 rfl eA cA <| np (iJ task) <| nl hM 2 rfl dA aA ?_;go_frame;have hRR : BI l c task h = rA l c task h := by simp [rA, f0, f1, f2, f3, f4]
  refine nc (Says3.cast hRR (VD (.slice a1 l.length i1) (.slice a2 c.length i2) l c task h _ (H1.below hM.below) (H2.below hM.below) hl hc)) ?_;rintro e W5 ⟨u', x', rfl, hO1, hO2, hb⟩;obtain ⟨v1, j1, r1, rfl, s1', s2', s3', s4', s9'⟩ := IB hO1 hz.1;obtain ⟨v2, j2, r2, rfl, s5', s6', s7', s8', s0'⟩ := IB hO2 hz.2;replace hM := hM.join (Mem.two hb s4' s8' s3' s7' yC);refine ⟨_, rfl, ?_⟩;go_frame;refine np (.agg #[sa v1 ((rA l c task h).1.length) j1, sa v2 ((rA l c task h).2.1.length) j2]) <| np (.agg (HD.cells ((rA l c task h).2.2.1)).toArray) <| np (.bool ((rA l c task h).2.2.2)) ?_;refine nS hM 3 rfl [sa v1 ((rA l c task h).1.length) j1, sa v2 ((rA l c task h).2.1.length) j2] cA rfl ?_;clear hM;intro W6 hM;refine nS hM 2 rfl (HD.cells ((rA l c task h).2.2.1)) aA (jA _) ?_;clear hM;intro W7 hM;refine np (.bool ((rA l c task h).2.2.2)) ?_;go_frame;refine wz cn7 ?_;clear cn7;refine wp_ret ?_;exact b3 hM 3 2 rfl rfl ⟨_, _, rfl, SB (hM.blk 0 rfl) rfl s1' s2' (hM.base 0 rfl) hz.1 s9', YA (hM.blk 1 rfl) s5' s6' (hM.base 1 rfl) hz.2 s0', hM.below⟩
theorem MI (u x : Value) (l : List ND) (c : List Int) (task : Int) (h : HD) (w0 : World) (h1 : NSl w0 u l) (h2 : SlI w0 x c) (hl : l.length ≤ 1048576) (hc : c.length ≤ 1048576) :
    Calls Tryz.prog 150 #[.agg #[u, x], iJ task, h.val] w0 (Says3 (rA l c task h) w0) := by
  have hA : (1 ≤ h.at_ ∧ h.at_ ≤ 4) ∨ (5 ≤ h.at_ ∧ h.at_ ≤ 8) ∨ (9 ≤ h.at_ ∧ h.at_ ≤ 13) ∨ h.at_ = 22 ∨ h.at_ = 26 ∨ (h.at_ ≥ 14 ∧ h.at_ ≠ 22 ∧ h.at_ ≠ 26) ∨ h.at_ < 1 := by omega
  rcases cL l c task h with hz | hz
  · rcases hA with hA | hA | hA | hA | hA | hA | hA
    · exact CJ u x l c task h w0 h1 h2 hl hc hz hA
    · exact BJ u x l c task h w0 h1 h2 hl hc hz hA
    · exact AJ u x l c task h w0 h1 h2 hl hc hz hA
    · exact zJ u x l c task h w0 h1 h2 hl hc hz hA
    · exact yJ u x l c task h w0 h1 h2 hl hc hz hA
    · exact xJ u x l c task h w0 h1 h2 hl hc hz hA
    · exact vJ u x l c task h w0 h1 h2 hl hc hz hA
  · rcases hA with hA | hA | hA | hA | hA | hA | hA
    · exact uJ u x l c task h w0 h1 h2 hl hc hz hA
    · exact tJ u x l c task h w0 h1 h2 hl hc hz hA
    · exact sJ u x l c task h w0 h1 h2 hl hc hz hA
    · exact rJ u x l c task h w0 h1 h2 hl hc hz hA
    · exact qJ u x l c task h w0 h1 h2 hl hc hz hA
    · exact pJ u x l c task h w0 h1 h2 hl hc hz hA
    · exact oJ u x l c task h w0 h1 h2 hl hc hz hA
end Go.Proofs.YtfjafncipjdnfaaGreat
