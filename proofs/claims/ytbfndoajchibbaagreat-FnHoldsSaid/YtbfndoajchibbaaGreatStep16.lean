/- A step of the model. -/
import Derived.Test.YtbfndoajchibbaaGreatShort
import Derived.Test.YtbfndoajchibbaaGreatStep15w
namespace Go.Proofs.YtbfndoajchibbaaGreat
open Go.ChangeShapes Go.WideShapes Go.ChangeAt Go.RowKit
set_option linter.unusedVariables false
set_option maxRecDepth 100000
set_option maxHeartbeats 16000000
set_option linter.unusedSimpArgs false

def stepR (l : List ND) (c : List Int) (task : Int) (h : HD) : StepR :=
  if decide (h.at_ ≥ 1) && decide (h.at_ ≤ 4) then findR l c task h
  else if decide (h.at_ ≥ 5) && decide (h.at_ ≤ 8) then addR l c task h
  else if decide (h.at_ ≥ 9) && decide (h.at_ ≤ 13) then cutR l c task h
  else if h.at_ == 22 || h.at_ == 26 then waitR l c task h
  else mvR l c task h
theorem Says3.cast {P : Program} {f : FuncId} {args : Array Value} {w : World} {R R' : StepR} (e : R = R') (h : Calls P f args w (Says3 R w)) : Calls P f args w (Says3 R' w) := e ▸ h
theorem own_zero {w' : World} {B E sz : Nat} {t : TypeId} {n : Nat} {cs : List Value} {u : Value} (h : OwnR w' B E t sz n cs u) (h0 : n = 0) : ∃ a k, u = .slice a 0 k ∧ k ≤ maxLen := by
  rcases h with ⟨-, -, h⟩ | ⟨h1, -⟩
  · exact h
  · omega
theorem zero_own {w' : World} {B E : Nat} {t : TypeId} {l : List ND} {a : Option Addr} {k : Nat} (h0 : l.length = 0) (hk : k ≤ maxLen) : OwnR w' B E t 8 l.length (cellsOf l) (.slice a 0 k) := by
  have : l = [] := List.length_eq_zero_iff.1 h0
  subst this
  exact OwnR.nil _ _ _ _ _ _ _ hk
theorem zero_ownI {w' : World} {B E : Nat} {t : TypeId} {l : List Int} {a : Option Addr} {k : Nat} (h0 : l.length = 0) (hk : k ≤ maxLen) : OwnR w' B E t 1 l.length (cellsI l) (.slice a 0 k) := by
  have : l = [] := List.length_eq_zero_iff.1 h0
  subst this
  exact OwnR.nil _ _ _ _ _ _ _ hk
/-- Either nothing is answered, or nodes and counts. -/
def Both (R : StepR) : Prop := (R.1.length = 0 ∧ R.2.1.length = 0) ∨ (0 < R.1.length ∧ 0 < R.2.1.length)
theorem noR_both : Both noR := .inl ⟨rfl, rfl⟩
theorem doneR_both (l : List ND) (c : List Int) (h : HD) : Both (doneR l c h) := by
  unfold doneR
  split
  · rename_i hk
    simp only [sharedB, Bool.and_eq_true] at hk
    exact .inr ⟨(nodes_some hk.1.1).1, (countsB_some hk.1.2).1⟩
  · exact noR_both
theorem lockR_both {l : List ND} {c : List Int} {task : Int} {h : HD} {a b at' then' : Int} (hk : l7okB l c task h a b = true) : Both (lockR l c task h at' then') := by
  obtain ⟨hl, hc, -⟩ := ok_facts hk
  exact .inr (lockR_pos hl hc)
theorem stepR_both (l : List ND) (c : List Int) (task : Int) (h : HD) : Both (stepR l c task h) := by
  have noB := noR_both
  unfold stepR
  split
  · unfold findR
    repeat' split
    all_goals first | exact noB | exact doneR_both _ _ _
  · split
    · unfold addR
      split
      · exact noB
      · rename_i hk
        have hk' : l7okB l c task h 5 8 = true := by simp at hk; exact hk.1.1
        repeat' split
        all_goals first | exact doneR_both _ _ _ | exact lockR_both hk'
    · split
      · unfold cutR
        split
        · exact noB
        · rename_i hk
          have hk' : l7okB l c task h 9 13 = true := by simp at hk; exact hk.1.1
          repeat' split
          all_goals first | exact doneR_both _ _ _ | exact lockR_both hk'
      · split
        · unfold waitR
          split
          · exact noB
          · rename_i hk
            have hk' : l7okB l c task h 22 26 = true := by simp at hk; exact hk.1
            obtain ⟨hl, hc, hl1, hc1, -⟩ := ok_facts hk'
            repeat' split
            all_goals first | exact doneR_both _ _ _ | exact .inr ⟨hl1, hc1⟩
        · unfold mvR
          split
          · exact noB
          · rename_i hk
            have hk' : l7okB l c task h 14 25 = true := by simp at hk; exact hk.1.1.1.1.1
            repeat' split
            all_goals first | exact doneR_both _ _ _ | exact lockR_both hk'

theorem spec_Step0_0 (u x : Value) (l : List ND) (c : List Int) (task : Int) (h : HD) (w0 : World) (h1 : NSl w0 u l) (h2 : SlI w0 x c) (hl : l.length ≤ 1048576) (hc : c.length ≤ 1048576) (hz : (stepR l c task h).1.length = 0 ∧ (stepR l c task h).2.1.length = 0) (hA : 1 ≤ h.at_ ∧ h.at_ ≤ 4) :
    Calls Tryz.prog 84 #[.agg #[u, x], .int .i64 task, h.val] w0 (Says3 (stepR l c task h) w0) := by
  have H1 := h1
  have H2 := h2
  have f0 : decide (h.at_ ≥ 1) = true := by simp; omega
  have f1 : decide (h.at_ ≤ 4) = true := by simp; omega
  unfold HD.val
  have hM := Mem.start w0
  obtain ⟨a1, i1, rfl, -⟩ := h1
  obtain ⟨a2, i2, rfl, -⟩ := h2
  go_enter Tryz.func84, Tryz.ntmps84
  refine wp_seq_k fun _ cn1 => wl_region ?_
  refine nx hM 55 [.slice a1 l.length i1, .slice a2 c.length i2] ?_
  clear hM; intro g1 W1 hM
  refine nx hM 73 (HD.cells h) ?_
  clear hM; intro g2 W2 hM
  refine na hM [.slice none 0 0, .slice none 0 0] Z_impl_Shared ?_
  clear hM; intro g3 W3 hM
  refine na hM (HD.cells HD.zero) Z_impl_Hand ?_
  clear hM; intro g4 W4 hM
  refine np (.bool false) ?_
  go_frame
  refine wl_nil (cn1 _ _ ?_)
  clear cn1
  refine wp_seq_k fun Kn2 cn2 => ?_
  refine wp_block ?_
  refine wp_seq_k fun _ cn3 => wl_region ?_
  refine np (.pointer (some ⟨g2, 0, none⟩)) ?_
  refine ng hM 2 rfl 0 Tryz.underlying2 rfl ?_
  refine nB (f0) ?_
  refine np (.bool true) ?_
  refine np (.pointer (some ⟨g2, 0, none⟩)) ?_
  refine ng hM 2 rfl 0 Tryz.underlying2 rfl ?_
  refine nB (f1) ?_
  refine np (.bool true) ?_
  refine np (.bool true) ?_
  go_frame
  refine wl_nil (cn3 _ _ ?_)
  clear cn3
  refine wp_cond_true rfl ?_
  refine wp_seq_k fun _ cn4 => wl_region ?_
  refine nl hM 3 rfl Tryz.underlying55 I_impl_Shared ?_
  refine np (.int .i64 task) ?_
  refine nl hM 2 rfl Tryz.underlying73 I_impl_Hand ?_
  go_frame
  have hRR : findR l c task h = stepR l c task h := by simp [stepR, f0, f1]
  refine nc (Says3.cast hRR (spec_FindStep (.slice a1 l.length i1) (.slice a2 c.length i2) l c task h _ (H1.below hM.below) (H2.below hM.below) hl hc)) ?_
  rintro e W5 ⟨u', x', rfl, hO1, hO2, hb⟩
  obtain ⟨a1', j1', rfl, y1⟩ := own_zero hO1 hz.1
  obtain ⟨a2', j2', rfl, y2⟩ := own_zero hO2 hz.2
  replace hM := hM.call hb
  refine ⟨_, rfl, ?_⟩
  go_frame
  refine np (.agg #[.slice a1' 0 j1', .slice a2' 0 j2']) ?_
  refine np (.agg (HD.cells ((stepR l c task h).2.2.1)).toArray) ?_
  refine np (.bool ((stepR l c task h).2.2.2)) ?_
  refine nS hM 1 rfl [.slice a1' 0 j1', .slice a2' 0 j2'] I_impl_Shared rfl ?_
  clear hM; intro W6 hM
  refine nS hM 0 rfl (HD.cells ((stepR l c task h).2.2.1)) I_impl_Hand (hd_one' _) ?_
  clear hM; intro W7 hM
  refine np (.bool ((stepR l c task h).2.2.2)) ?_
  go_frame
  refine wl_nil (cn4 _ _ ?_)
  clear cn4
  refine wp_ret ?_
  simp only [Exit.then, Exit.inBlock]
  exact bodyPost_ret (ret3 (p := 6) (q := 7) (u := 8) (v := .bool ((stepR l c task h).2.2.2)) rfl hM 1 0 rfl rfl rfl rfl rfl) rfl ⟨_, _, rfl, zero_own hz.1 y1, zero_ownI hz.2 y2, hM.below⟩

theorem spec_Step0_1 (u x : Value) (l : List ND) (c : List Int) (task : Int) (h : HD) (w0 : World) (h1 : NSl w0 u l) (h2 : SlI w0 x c) (hl : l.length ≤ 1048576) (hc : c.length ≤ 1048576) (hz : (stepR l c task h).1.length = 0 ∧ (stepR l c task h).2.1.length = 0) (hA : 5 ≤ h.at_ ∧ h.at_ ≤ 8) :
    Calls Tryz.prog 84 #[.agg #[u, x], .int .i64 task, h.val] w0 (Says3 (stepR l c task h) w0) := by
  have H1 := h1
  have H2 := h2
  have f0 : decide (h.at_ ≥ 1) = true := by simp; omega
  have f1 : decide (h.at_ ≤ 4) = false := by simp; omega
  have f2 : decide (h.at_ ≥ 5) = true := by simp; omega
  have f3 : decide (h.at_ ≤ 8) = true := by simp; omega
  unfold HD.val
  have hM := Mem.start w0
  obtain ⟨a1, i1, rfl, -⟩ := h1
  obtain ⟨a2, i2, rfl, -⟩ := h2
  go_enter Tryz.func84, Tryz.ntmps84
  refine wp_seq_k fun _ cn1 => wl_region ?_
  refine nx hM 55 [.slice a1 l.length i1, .slice a2 c.length i2] ?_
  clear hM; intro g1 W1 hM
  refine nx hM 73 (HD.cells h) ?_
  clear hM; intro g2 W2 hM
  refine na hM [.slice none 0 0, .slice none 0 0] Z_impl_Shared ?_
  clear hM; intro g3 W3 hM
  refine na hM (HD.cells HD.zero) Z_impl_Hand ?_
  clear hM; intro g4 W4 hM
  refine np (.bool false) ?_
  go_frame
  refine wl_nil (cn1 _ _ ?_)
  clear cn1
  refine wp_seq_k fun Kn2 cn2 => ?_
  refine wp_block ?_
  refine wp_seq_k fun _ cn3 => wl_region ?_
  refine np (.pointer (some ⟨g2, 0, none⟩)) ?_
  refine ng hM 2 rfl 0 Tryz.underlying2 rfl ?_
  refine nB (f0) ?_
  refine np (.bool true) ?_
  refine np (.pointer (some ⟨g2, 0, none⟩)) ?_
  refine ng hM 2 rfl 0 Tryz.underlying2 rfl ?_
  refine nB (f1) ?_
  refine np (.bool false) ?_
  refine np (.bool false) ?_
  go_frame
  refine wl_nil (cn3 _ _ ?_)
  clear cn3
  refine wp_cond_false rfl ?_
  refine wp_seq_k fun _ cn4 => wl_region ?_
  refine np (.pointer (some ⟨g2, 0, none⟩)) ?_
  refine ng hM 2 rfl 0 Tryz.underlying2 rfl ?_
  refine nB (f2) ?_
  refine np (.bool true) ?_
  refine np (.pointer (some ⟨g2, 0, none⟩)) ?_
  refine ng hM 2 rfl 0 Tryz.underlying2 rfl ?_
  refine nB (f3) ?_
  refine np (.bool true) ?_
  refine np (.bool true) ?_
  go_frame
  refine wl_nil (cn4 _ _ ?_)
  clear cn4
  refine wp_cond_true rfl ?_
  refine wp_seq_k fun _ cn5 => wl_region ?_
  refine nl hM 3 rfl Tryz.underlying55 I_impl_Shared ?_
  refine np (.int .i64 task) ?_
  refine nl hM 2 rfl Tryz.underlying73 I_impl_Hand ?_
  go_frame
  have hRR : addR l c task h = stepR l c task h := by simp [stepR, f0, f1, f2, f3]
  refine nc (Says3.cast hRR (spec_AddStep (.slice a1 l.length i1) (.slice a2 c.length i2) l c task h _ (H1.below hM.below) (H2.below hM.below) hl hc)) ?_
  rintro e W5 ⟨u', x', rfl, hO1, hO2, hb⟩
  obtain ⟨a1', j1', rfl, y1⟩ := own_zero hO1 hz.1
  obtain ⟨a2', j2', rfl, y2⟩ := own_zero hO2 hz.2
  replace hM := hM.call hb
  refine ⟨_, rfl, ?_⟩
  go_frame
  refine np (.agg #[.slice a1' 0 j1', .slice a2' 0 j2']) ?_
  refine np (.agg (HD.cells ((stepR l c task h).2.2.1)).toArray) ?_
  refine np (.bool ((stepR l c task h).2.2.2)) ?_
  refine nS hM 1 rfl [.slice a1' 0 j1', .slice a2' 0 j2'] I_impl_Shared rfl ?_
  clear hM; intro W6 hM
  refine nS hM 0 rfl (HD.cells ((stepR l c task h).2.2.1)) I_impl_Hand (hd_one' _) ?_
  clear hM; intro W7 hM
  refine np (.bool ((stepR l c task h).2.2.2)) ?_
  go_frame
  refine wl_nil (cn5 _ _ ?_)
  clear cn5
  refine wp_ret ?_
  simp only [Exit.then, Exit.inBlock]
  exact bodyPost_ret (ret3 (p := 6) (q := 7) (u := 8) (v := .bool ((stepR l c task h).2.2.2)) rfl hM 1 0 rfl rfl rfl rfl rfl) rfl ⟨_, _, rfl, zero_own hz.1 y1, zero_ownI hz.2 y2, hM.below⟩

theorem spec_Step0_2 (u x : Value) (l : List ND) (c : List Int) (task : Int) (h : HD) (w0 : World) (h1 : NSl w0 u l) (h2 : SlI w0 x c) (hl : l.length ≤ 1048576) (hc : c.length ≤ 1048576) (hz : (stepR l c task h).1.length = 0 ∧ (stepR l c task h).2.1.length = 0) (hA : 9 ≤ h.at_ ∧ h.at_ ≤ 13) :
    Calls Tryz.prog 84 #[.agg #[u, x], .int .i64 task, h.val] w0 (Says3 (stepR l c task h) w0) := by
  have H1 := h1
  have H2 := h2
  have f0 : decide (h.at_ ≥ 1) = true := by simp; omega
  have f1 : decide (h.at_ ≤ 4) = false := by simp; omega
  have f2 : decide (h.at_ ≥ 5) = true := by simp; omega
  have f3 : decide (h.at_ ≤ 8) = false := by simp; omega
  have f4 : decide (h.at_ ≥ 9) = true := by simp; omega
  have f5 : decide (h.at_ ≤ 13) = true := by simp; omega
  unfold HD.val
  have hM := Mem.start w0
  obtain ⟨a1, i1, rfl, -⟩ := h1
  obtain ⟨a2, i2, rfl, -⟩ := h2
  go_enter Tryz.func84, Tryz.ntmps84
  refine wp_seq_k fun _ cn1 => wl_region ?_
  refine nx hM 55 [.slice a1 l.length i1, .slice a2 c.length i2] ?_
  clear hM; intro g1 W1 hM
  refine nx hM 73 (HD.cells h) ?_
  clear hM; intro g2 W2 hM
  refine na hM [.slice none 0 0, .slice none 0 0] Z_impl_Shared ?_
  clear hM; intro g3 W3 hM
  refine na hM (HD.cells HD.zero) Z_impl_Hand ?_
  clear hM; intro g4 W4 hM
  refine np (.bool false) ?_
  go_frame
  refine wl_nil (cn1 _ _ ?_)
  clear cn1
  refine wp_seq_k fun Kn2 cn2 => ?_
  refine wp_block ?_
  refine wp_seq_k fun _ cn3 => wl_region ?_
  refine np (.pointer (some ⟨g2, 0, none⟩)) ?_
  refine ng hM 2 rfl 0 Tryz.underlying2 rfl ?_
  refine nB (f0) ?_
  refine np (.bool true) ?_
  refine np (.pointer (some ⟨g2, 0, none⟩)) ?_
  refine ng hM 2 rfl 0 Tryz.underlying2 rfl ?_
  refine nB (f1) ?_
  refine np (.bool false) ?_
  refine np (.bool false) ?_
  go_frame
  refine wl_nil (cn3 _ _ ?_)
  clear cn3
  refine wp_cond_false rfl ?_
  refine wp_seq_k fun _ cn4 => wl_region ?_
  refine np (.pointer (some ⟨g2, 0, none⟩)) ?_
  refine ng hM 2 rfl 0 Tryz.underlying2 rfl ?_
  refine nB (f2) ?_
  refine np (.bool true) ?_
  refine np (.pointer (some ⟨g2, 0, none⟩)) ?_
  refine ng hM 2 rfl 0 Tryz.underlying2 rfl ?_
  refine nB (f3) ?_
  refine np (.bool false) ?_
  refine np (.bool false) ?_
  go_frame
  refine wl_nil (cn4 _ _ ?_)
  clear cn4
  refine wp_cond_false rfl ?_
  refine wp_seq_k fun _ cn5 => wl_region ?_
  refine np (.pointer (some ⟨g2, 0, none⟩)) ?_
  refine ng hM 2 rfl 0 Tryz.underlying2 rfl ?_
  refine nB (f4) ?_
  refine np (.bool true) ?_
  refine np (.pointer (some ⟨g2, 0, none⟩)) ?_
  refine ng hM 2 rfl 0 Tryz.underlying2 rfl ?_
  refine nB (f5) ?_
  refine np (.bool true) ?_
  refine np (.bool true) ?_
  go_frame
  refine wl_nil (cn5 _ _ ?_)
  clear cn5
  refine wp_cond_true rfl ?_
  refine wp_seq_k fun _ cn6 => wl_region ?_
  refine nl hM 3 rfl Tryz.underlying55 I_impl_Shared ?_
  refine np (.int .i64 task) ?_
  refine nl hM 2 rfl Tryz.underlying73 I_impl_Hand ?_
  go_frame
  have hRR : cutR l c task h = stepR l c task h := by simp [stepR, f0, f1, f2, f3, f4, f5]
  refine nc (Says3.cast hRR (spec_CutStep (.slice a1 l.length i1) (.slice a2 c.length i2) l c task h _ (H1.below hM.below) (H2.below hM.below) hl hc)) ?_
  rintro e W5 ⟨u', x', rfl, hO1, hO2, hb⟩
  obtain ⟨a1', j1', rfl, y1⟩ := own_zero hO1 hz.1
  obtain ⟨a2', j2', rfl, y2⟩ := own_zero hO2 hz.2
  replace hM := hM.call hb
  refine ⟨_, rfl, ?_⟩
  go_frame
  refine np (.agg #[.slice a1' 0 j1', .slice a2' 0 j2']) ?_
  refine np (.agg (HD.cells ((stepR l c task h).2.2.1)).toArray) ?_
  refine np (.bool ((stepR l c task h).2.2.2)) ?_
  refine nS hM 1 rfl [.slice a1' 0 j1', .slice a2' 0 j2'] I_impl_Shared rfl ?_
  clear hM; intro W6 hM
  refine nS hM 0 rfl (HD.cells ((stepR l c task h).2.2.1)) I_impl_Hand (hd_one' _) ?_
  clear hM; intro W7 hM
  refine np (.bool ((stepR l c task h).2.2.2)) ?_
  go_frame
  refine wl_nil (cn6 _ _ ?_)
  clear cn6
  refine wp_ret ?_
  simp only [Exit.then, Exit.inBlock]
  exact bodyPost_ret (ret3 (p := 6) (q := 7) (u := 8) (v := .bool ((stepR l c task h).2.2.2)) rfl hM 1 0 rfl rfl rfl rfl rfl) rfl ⟨_, _, rfl, zero_own hz.1 y1, zero_ownI hz.2 y2, hM.below⟩

theorem spec_Step0_3 (u x : Value) (l : List ND) (c : List Int) (task : Int) (h : HD) (w0 : World) (h1 : NSl w0 u l) (h2 : SlI w0 x c) (hl : l.length ≤ 1048576) (hc : c.length ≤ 1048576) (hz : (stepR l c task h).1.length = 0 ∧ (stepR l c task h).2.1.length = 0) (hA : h.at_ = 22) :
    Calls Tryz.prog 84 #[.agg #[u, x], .int .i64 task, h.val] w0 (Says3 (stepR l c task h) w0) := by
  have H1 := h1
  have H2 := h2
  have f0 : decide (h.at_ ≥ 1) = true := by simp; omega
  have f1 : decide (h.at_ ≤ 4) = false := by simp; omega
  have f2 : decide (h.at_ ≥ 5) = true := by simp; omega
  have f3 : decide (h.at_ ≤ 8) = false := by simp; omega
  have f4 : decide (h.at_ ≥ 9) = true := by simp; omega
  have f5 : decide (h.at_ ≤ 13) = false := by simp; omega
  have f6 : (h.at_ == 22) = true := by simp; omega
  unfold HD.val
  have hM := Mem.start w0
  obtain ⟨a1, i1, rfl, -⟩ := h1
  obtain ⟨a2, i2, rfl, -⟩ := h2
  go_enter Tryz.func84, Tryz.ntmps84
  refine wp_seq_k fun _ cn1 => wl_region ?_
  refine nx hM 55 [.slice a1 l.length i1, .slice a2 c.length i2] ?_
  clear hM; intro g1 W1 hM
  refine nx hM 73 (HD.cells h) ?_
  clear hM; intro g2 W2 hM
  refine na hM [.slice none 0 0, .slice none 0 0] Z_impl_Shared ?_
  clear hM; intro g3 W3 hM
  refine na hM (HD.cells HD.zero) Z_impl_Hand ?_
  clear hM; intro g4 W4 hM
  refine np (.bool false) ?_
  go_frame
  refine wl_nil (cn1 _ _ ?_)
  clear cn1
  refine wp_seq_k fun Kn2 cn2 => ?_
  refine wp_block ?_
  refine wp_seq_k fun _ cn3 => wl_region ?_
  refine np (.pointer (some ⟨g2, 0, none⟩)) ?_
  refine ng hM 2 rfl 0 Tryz.underlying2 rfl ?_
  refine nB (f0) ?_
  refine np (.bool true) ?_
  refine np (.pointer (some ⟨g2, 0, none⟩)) ?_
  refine ng hM 2 rfl 0 Tryz.underlying2 rfl ?_
  refine nB (f1) ?_
  refine np (.bool false) ?_
  refine np (.bool false) ?_
  go_frame
  refine wl_nil (cn3 _ _ ?_)
  clear cn3
  refine wp_cond_false rfl ?_
  refine wp_seq_k fun _ cn4 => wl_region ?_
  refine np (.pointer (some ⟨g2, 0, none⟩)) ?_
  refine ng hM 2 rfl 0 Tryz.underlying2 rfl ?_
  refine nB (f2) ?_
  refine np (.bool true) ?_
  refine np (.pointer (some ⟨g2, 0, none⟩)) ?_
  refine ng hM 2 rfl 0 Tryz.underlying2 rfl ?_
  refine nB (f3) ?_
  refine np (.bool false) ?_
  refine np (.bool false) ?_
  go_frame
  refine wl_nil (cn4 _ _ ?_)
  clear cn4
  refine wp_cond_false rfl ?_
  refine wp_seq_k fun _ cn5 => wl_region ?_
  refine np (.pointer (some ⟨g2, 0, none⟩)) ?_
  refine ng hM 2 rfl 0 Tryz.underlying2 rfl ?_
  refine nB (f4) ?_
  refine np (.bool true) ?_
  refine np (.pointer (some ⟨g2, 0, none⟩)) ?_
  refine ng hM 2 rfl 0 Tryz.underlying2 rfl ?_
  refine nB (f5) ?_
  refine np (.bool false) ?_
  refine np (.bool false) ?_
  go_frame
  refine wl_nil (cn5 _ _ ?_)
  clear cn5
  refine wp_cond_false rfl ?_
  refine wp_seq_k fun _ cn6 => wl_region ?_
  refine np (.pointer (some ⟨g2, 0, none⟩)) ?_
  refine ng hM 2 rfl 0 Tryz.underlying2 rfl ?_
  refine nB (f6) ?_
  refine np (.bool true) ?_
  iterate 3 refine ns ?_
  refine np (.bool true) ?_
  refine np (.bool true) ?_
  go_frame
  refine wl_nil (cn6 _ _ ?_)
  clear cn6
  refine wp_cond_true rfl ?_
  refine wp_seq_k fun _ cn7 => wl_region ?_
  refine nl hM 3 rfl Tryz.underlying55 I_impl_Shared ?_
  refine np (.int .i64 task) ?_
  refine nl hM 2 rfl Tryz.underlying73 I_impl_Hand ?_
  go_frame
  have hRR : waitR l c task h = stepR l c task h := by simp [stepR, f0, f1, f2, f3, f4, f5, f6]
  refine nc (Says3.cast hRR (spec_WaitStep (.slice a1 l.length i1) (.slice a2 c.length i2) l c task h _ (H1.below hM.below) (H2.below hM.below) hl hc)) ?_
  rintro e W5 ⟨u', x', rfl, hO1, hO2, hb⟩
  obtain ⟨a1', j1', rfl, y1⟩ := own_zero hO1 hz.1
  obtain ⟨a2', j2', rfl, y2⟩ := own_zero hO2 hz.2
  replace hM := hM.call hb
  refine ⟨_, rfl, ?_⟩
  go_frame
  refine np (.agg #[.slice a1' 0 j1', .slice a2' 0 j2']) ?_
  refine np (.agg (HD.cells ((stepR l c task h).2.2.1)).toArray) ?_
  refine np (.bool ((stepR l c task h).2.2.2)) ?_
  refine nS hM 1 rfl [.slice a1' 0 j1', .slice a2' 0 j2'] I_impl_Shared rfl ?_
  clear hM; intro W6 hM
  refine nS hM 0 rfl (HD.cells ((stepR l c task h).2.2.1)) I_impl_Hand (hd_one' _) ?_
  clear hM; intro W7 hM
  refine np (.bool ((stepR l c task h).2.2.2)) ?_
  go_frame
  refine wl_nil (cn7 _ _ ?_)
  clear cn7
  refine wp_ret ?_
  simp only [Exit.then, Exit.inBlock]
  exact bodyPost_ret (ret3 (p := 6) (q := 7) (u := 8) (v := .bool ((stepR l c task h).2.2.2)) rfl hM 1 0 rfl rfl rfl rfl rfl) rfl ⟨_, _, rfl, zero_own hz.1 y1, zero_ownI hz.2 y2, hM.below⟩

theorem spec_Step0_4 (u x : Value) (l : List ND) (c : List Int) (task : Int) (h : HD) (w0 : World) (h1 : NSl w0 u l) (h2 : SlI w0 x c) (hl : l.length ≤ 1048576) (hc : c.length ≤ 1048576) (hz : (stepR l c task h).1.length = 0 ∧ (stepR l c task h).2.1.length = 0) (hA : h.at_ = 26) :
    Calls Tryz.prog 84 #[.agg #[u, x], .int .i64 task, h.val] w0 (Says3 (stepR l c task h) w0) := by
  have H1 := h1
  have H2 := h2
  have f0 : decide (h.at_ ≥ 1) = true := by simp; omega
  have f1 : decide (h.at_ ≤ 4) = false := by simp; omega
  have f2 : decide (h.at_ ≥ 5) = true := by simp; omega
  have f3 : decide (h.at_ ≤ 8) = false := by simp; omega
  have f4 : decide (h.at_ ≥ 9) = true := by simp; omega
  have f5 : decide (h.at_ ≤ 13) = false := by simp; omega
  have f6 : (h.at_ == 22) = false := by simp; omega
  have f7 : (h.at_ == 26) = true := by simp; omega
  unfold HD.val
  have hM := Mem.start w0
  obtain ⟨a1, i1, rfl, -⟩ := h1
  obtain ⟨a2, i2, rfl, -⟩ := h2
  go_enter Tryz.func84, Tryz.ntmps84
  refine wp_seq_k fun _ cn1 => wl_region ?_
  refine nx hM 55 [.slice a1 l.length i1, .slice a2 c.length i2] ?_
  clear hM; intro g1 W1 hM
  refine nx hM 73 (HD.cells h) ?_
  clear hM; intro g2 W2 hM
  refine na hM [.slice none 0 0, .slice none 0 0] Z_impl_Shared ?_
  clear hM; intro g3 W3 hM
  refine na hM (HD.cells HD.zero) Z_impl_Hand ?_
  clear hM; intro g4 W4 hM
  refine np (.bool false) ?_
  go_frame
  refine wl_nil (cn1 _ _ ?_)
  clear cn1
  refine wp_seq_k fun Kn2 cn2 => ?_
  refine wp_block ?_
  refine wp_seq_k fun _ cn3 => wl_region ?_
  refine np (.pointer (some ⟨g2, 0, none⟩)) ?_
  refine ng hM 2 rfl 0 Tryz.underlying2 rfl ?_
  refine nB (f0) ?_
  refine np (.bool true) ?_
  refine np (.pointer (some ⟨g2, 0, none⟩)) ?_
  refine ng hM 2 rfl 0 Tryz.underlying2 rfl ?_
  refine nB (f1) ?_
  refine np (.bool false) ?_
  refine np (.bool false) ?_
  go_frame
  refine wl_nil (cn3 _ _ ?_)
  clear cn3
  refine wp_cond_false rfl ?_
  refine wp_seq_k fun _ cn4 => wl_region ?_
  refine np (.pointer (some ⟨g2, 0, none⟩)) ?_
  refine ng hM 2 rfl 0 Tryz.underlying2 rfl ?_
  refine nB (f2) ?_
  refine np (.bool true) ?_
  refine np (.pointer (some ⟨g2, 0, none⟩)) ?_
  refine ng hM 2 rfl 0 Tryz.underlying2 rfl ?_
  refine nB (f3) ?_
  refine np (.bool false) ?_
  refine np (.bool false) ?_
  go_frame
  refine wl_nil (cn4 _ _ ?_)
  clear cn4
  refine wp_cond_false rfl ?_
  refine wp_seq_k fun _ cn5 => wl_region ?_
  refine np (.pointer (some ⟨g2, 0, none⟩)) ?_
  refine ng hM 2 rfl 0 Tryz.underlying2 rfl ?_
  refine nB (f4) ?_
  refine np (.bool true) ?_
  refine np (.pointer (some ⟨g2, 0, none⟩)) ?_
  refine ng hM 2 rfl 0 Tryz.underlying2 rfl ?_
  refine nB (f5) ?_
  refine np (.bool false) ?_
  refine np (.bool false) ?_
  go_frame
  refine wl_nil (cn5 _ _ ?_)
  clear cn5
  refine wp_cond_false rfl ?_
  refine wp_seq_k fun _ cn6 => wl_region ?_
  refine np (.pointer (some ⟨g2, 0, none⟩)) ?_
  refine ng hM 2 rfl 0 Tryz.underlying2 rfl ?_
  refine nB (f6) ?_
  refine np (.bool false) ?_
  refine np (.pointer (some ⟨g2, 0, none⟩)) ?_
  refine ng hM 2 rfl 0 Tryz.underlying2 rfl ?_
  refine nB (f7) ?_
  refine np (.bool true) ?_
  refine np (.bool true) ?_
  go_frame
  refine wl_nil (cn6 _ _ ?_)
  clear cn6
  refine wp_cond_true rfl ?_
  refine wp_seq_k fun _ cn7 => wl_region ?_
  refine nl hM 3 rfl Tryz.underlying55 I_impl_Shared ?_
  refine np (.int .i64 task) ?_
  refine nl hM 2 rfl Tryz.underlying73 I_impl_Hand ?_
  go_frame
  have hRR : waitR l c task h = stepR l c task h := by simp [stepR, f0, f1, f2, f3, f4, f5, f6, f7]
  refine nc (Says3.cast hRR (spec_WaitStep (.slice a1 l.length i1) (.slice a2 c.length i2) l c task h _ (H1.below hM.below) (H2.below hM.below) hl hc)) ?_
  rintro e W5 ⟨u', x', rfl, hO1, hO2, hb⟩
  obtain ⟨a1', j1', rfl, y1⟩ := own_zero hO1 hz.1
  obtain ⟨a2', j2', rfl, y2⟩ := own_zero hO2 hz.2
  replace hM := hM.call hb
  refine ⟨_, rfl, ?_⟩
  go_frame
  refine np (.agg #[.slice a1' 0 j1', .slice a2' 0 j2']) ?_
  refine np (.agg (HD.cells ((stepR l c task h).2.2.1)).toArray) ?_
  refine np (.bool ((stepR l c task h).2.2.2)) ?_
  refine nS hM 1 rfl [.slice a1' 0 j1', .slice a2' 0 j2'] I_impl_Shared rfl ?_
  clear hM; intro W6 hM
  refine nS hM 0 rfl (HD.cells ((stepR l c task h).2.2.1)) I_impl_Hand (hd_one' _) ?_
  clear hM; intro W7 hM
  refine np (.bool ((stepR l c task h).2.2.2)) ?_
  go_frame
  refine wl_nil (cn7 _ _ ?_)
  clear cn7
  refine wp_ret ?_
  simp only [Exit.then, Exit.inBlock]
  exact bodyPost_ret (ret3 (p := 6) (q := 7) (u := 8) (v := .bool ((stepR l c task h).2.2.2)) rfl hM 1 0 rfl rfl rfl rfl rfl) rfl ⟨_, _, rfl, zero_own hz.1 y1, zero_ownI hz.2 y2, hM.below⟩

theorem spec_Step0_5 (u x : Value) (l : List ND) (c : List Int) (task : Int) (h : HD) (w0 : World) (h1 : NSl w0 u l) (h2 : SlI w0 x c) (hl : l.length ≤ 1048576) (hc : c.length ≤ 1048576) (hz : (stepR l c task h).1.length = 0 ∧ (stepR l c task h).2.1.length = 0) (hA : h.at_ ≥ 14 ∧ h.at_ ≠ 22 ∧ h.at_ ≠ 26) :
    Calls Tryz.prog 84 #[.agg #[u, x], .int .i64 task, h.val] w0 (Says3 (stepR l c task h) w0) := by
  have H1 := h1
  have H2 := h2
  have f0 : decide (h.at_ ≥ 1) = true := by simp; omega
  have f1 : decide (h.at_ ≤ 4) = false := by simp; omega
  have f2 : decide (h.at_ ≥ 5) = true := by simp; omega
  have f3 : decide (h.at_ ≤ 8) = false := by simp; omega
  have f4 : decide (h.at_ ≥ 9) = true := by simp; omega
  have f5 : decide (h.at_ ≤ 13) = false := by simp; omega
  have f6 : (h.at_ == 22) = false := by simp; omega
  have f7 : (h.at_ == 26) = false := by simp; omega
  unfold HD.val
  have hM := Mem.start w0
  obtain ⟨a1, i1, rfl, -⟩ := h1
  obtain ⟨a2, i2, rfl, -⟩ := h2
  go_enter Tryz.func84, Tryz.ntmps84
  refine wp_seq_k fun _ cn1 => wl_region ?_
  refine nx hM 55 [.slice a1 l.length i1, .slice a2 c.length i2] ?_
  clear hM; intro g1 W1 hM
  refine nx hM 73 (HD.cells h) ?_
  clear hM; intro g2 W2 hM
  refine na hM [.slice none 0 0, .slice none 0 0] Z_impl_Shared ?_
  clear hM; intro g3 W3 hM
  refine na hM (HD.cells HD.zero) Z_impl_Hand ?_
  clear hM; intro g4 W4 hM
  refine np (.bool false) ?_
  go_frame
  refine wl_nil (cn1 _ _ ?_)
  clear cn1
  refine wp_seq_k fun Kn2 cn2 => ?_
  refine wp_block ?_
  refine wp_seq_k fun _ cn3 => wl_region ?_
  refine np (.pointer (some ⟨g2, 0, none⟩)) ?_
  refine ng hM 2 rfl 0 Tryz.underlying2 rfl ?_
  refine nB (f0) ?_
  refine np (.bool true) ?_
  refine np (.pointer (some ⟨g2, 0, none⟩)) ?_
  refine ng hM 2 rfl 0 Tryz.underlying2 rfl ?_
  refine nB (f1) ?_
  refine np (.bool false) ?_
  refine np (.bool false) ?_
  go_frame
  refine wl_nil (cn3 _ _ ?_)
  clear cn3
  refine wp_cond_false rfl ?_
  refine wp_seq_k fun _ cn4 => wl_region ?_
  refine np (.pointer (some ⟨g2, 0, none⟩)) ?_
  refine ng hM 2 rfl 0 Tryz.underlying2 rfl ?_
  refine nB (f2) ?_
  refine np (.bool true) ?_
  refine np (.pointer (some ⟨g2, 0, none⟩)) ?_
  refine ng hM 2 rfl 0 Tryz.underlying2 rfl ?_
  refine nB (f3) ?_
  refine np (.bool false) ?_
  refine np (.bool false) ?_
  go_frame
  refine wl_nil (cn4 _ _ ?_)
  clear cn4
  refine wp_cond_false rfl ?_
  refine wp_seq_k fun _ cn5 => wl_region ?_
  refine np (.pointer (some ⟨g2, 0, none⟩)) ?_
  refine ng hM 2 rfl 0 Tryz.underlying2 rfl ?_
  refine nB (f4) ?_
  refine np (.bool true) ?_
  refine np (.pointer (some ⟨g2, 0, none⟩)) ?_
  refine ng hM 2 rfl 0 Tryz.underlying2 rfl ?_
  refine nB (f5) ?_
  refine np (.bool false) ?_
  refine np (.bool false) ?_
  go_frame
  refine wl_nil (cn5 _ _ ?_)
  clear cn5
  refine wp_cond_false rfl ?_
  refine wp_seq_k fun _ cn6 => wl_region ?_
  refine np (.pointer (some ⟨g2, 0, none⟩)) ?_
  refine ng hM 2 rfl 0 Tryz.underlying2 rfl ?_
  refine nB (f6) ?_
  refine np (.bool false) ?_
  refine np (.pointer (some ⟨g2, 0, none⟩)) ?_
  refine ng hM 2 rfl 0 Tryz.underlying2 rfl ?_
  refine nB (f7) ?_
  refine np (.bool false) ?_
  refine np (.bool false) ?_
  go_frame
  refine wl_nil (cn6 _ _ ?_)
  clear cn6
  refine wp_cond_false rfl ?_
  refine wp_skip ?_
  refine cn2 _ _ ?_
  clear cn2
  refine wp_seq_k fun _ cn7 => wl_region ?_
  refine nl hM 3 rfl Tryz.underlying55 I_impl_Shared ?_
  refine np (.int .i64 task) ?_
  refine nl hM 2 rfl Tryz.underlying73 I_impl_Hand ?_
  go_frame
  have hRR : mvR l c task h = stepR l c task h := by simp [stepR, f0, f1, f2, f3, f4, f5, f6, f7]
  refine nc (Says3.cast hRR (spec_MoveStep (.slice a1 l.length i1) (.slice a2 c.length i2) l c task h _ (H1.below hM.below) (H2.below hM.below) hl hc)) ?_
  rintro e W5 ⟨u', x', rfl, hO1, hO2, hb⟩
  obtain ⟨a1', j1', rfl, y1⟩ := own_zero hO1 hz.1
  obtain ⟨a2', j2', rfl, y2⟩ := own_zero hO2 hz.2
  replace hM := hM.call hb
  refine ⟨_, rfl, ?_⟩
  go_frame
  refine np (.agg #[.slice a1' 0 j1', .slice a2' 0 j2']) ?_
  refine np (.agg (HD.cells ((stepR l c task h).2.2.1)).toArray) ?_
  refine np (.bool ((stepR l c task h).2.2.2)) ?_
  refine nS hM 1 rfl [.slice a1' 0 j1', .slice a2' 0 j2'] I_impl_Shared rfl ?_
  clear hM; intro W6 hM
  refine nS hM 0 rfl (HD.cells ((stepR l c task h).2.2.1)) I_impl_Hand (hd_one' _) ?_
  clear hM; intro W7 hM
  refine np (.bool ((stepR l c task h).2.2.2)) ?_
  go_frame
  refine wl_nil (cn7 _ _ ?_)
  clear cn7
  refine wp_ret ?_
  exact bodyPost_ret (ret3 (p := 6) (q := 7) (u := 8) (v := .bool ((stepR l c task h).2.2.2)) rfl hM 1 0 rfl rfl rfl rfl rfl) rfl ⟨_, _, rfl, zero_own hz.1 y1, zero_ownI hz.2 y2, hM.below⟩

theorem spec_Step0_6 (u x : Value) (l : List ND) (c : List Int) (task : Int) (h : HD) (w0 : World) (h1 : NSl w0 u l) (h2 : SlI w0 x c) (hl : l.length ≤ 1048576) (hc : c.length ≤ 1048576) (hz : (stepR l c task h).1.length = 0 ∧ (stepR l c task h).2.1.length = 0) (hA : h.at_ < 1) :
    Calls Tryz.prog 84 #[.agg #[u, x], .int .i64 task, h.val] w0 (Says3 (stepR l c task h) w0) := by
  have H1 := h1
  have H2 := h2
  have f0 : decide (h.at_ ≥ 1) = false := by simp; omega
  have f1 : decide (h.at_ ≥ 5) = false := by simp; omega
  have f2 : decide (h.at_ ≥ 9) = false := by simp; omega
  have f3 : (h.at_ == 22) = false := by simp; omega
  have f4 : (h.at_ == 26) = false := by simp; omega
  unfold HD.val
  have hM := Mem.start w0
  obtain ⟨a1, i1, rfl, -⟩ := h1
  obtain ⟨a2, i2, rfl, -⟩ := h2
  go_enter Tryz.func84, Tryz.ntmps84
  refine wp_seq_k fun _ cn1 => wl_region ?_
  refine nx hM 55 [.slice a1 l.length i1, .slice a2 c.length i2] ?_
  clear hM; intro g1 W1 hM
  refine nx hM 73 (HD.cells h) ?_
  clear hM; intro g2 W2 hM
  refine na hM [.slice none 0 0, .slice none 0 0] Z_impl_Shared ?_
  clear hM; intro g3 W3 hM
  refine na hM (HD.cells HD.zero) Z_impl_Hand ?_
  clear hM; intro g4 W4 hM
  refine np (.bool false) ?_
  go_frame
  refine wl_nil (cn1 _ _ ?_)
  clear cn1
  refine wp_seq_k fun Kn2 cn2 => ?_
  refine wp_block ?_
  refine wp_seq_k fun _ cn3 => wl_region ?_
  refine np (.pointer (some ⟨g2, 0, none⟩)) ?_
  refine ng hM 2 rfl 0 Tryz.underlying2 rfl ?_
  refine nB (f0) ?_
  refine np (.bool false) ?_
  iterate 3 refine ns ?_
  refine np (.bool false) ?_
  refine np (.bool false) ?_
  go_frame
  refine wl_nil (cn3 _ _ ?_)
  clear cn3
  refine wp_cond_false rfl ?_
  refine wp_seq_k fun _ cn4 => wl_region ?_
  refine np (.pointer (some ⟨g2, 0, none⟩)) ?_
  refine ng hM 2 rfl 0 Tryz.underlying2 rfl ?_
  refine nB (f1) ?_
  refine np (.bool false) ?_
  iterate 3 refine ns ?_
  refine np (.bool false) ?_
  refine np (.bool false) ?_
  go_frame
  refine wl_nil (cn4 _ _ ?_)
  clear cn4
  refine wp_cond_false rfl ?_
  refine wp_seq_k fun _ cn5 => wl_region ?_
  refine np (.pointer (some ⟨g2, 0, none⟩)) ?_
  refine ng hM 2 rfl 0 Tryz.underlying2 rfl ?_
  refine nB (f2) ?_
  refine np (.bool false) ?_
  iterate 3 refine ns ?_
  refine np (.bool false) ?_
  refine np (.bool false) ?_
  go_frame
  refine wl_nil (cn5 _ _ ?_)
  clear cn5
  refine wp_cond_false rfl ?_
  refine wp_seq_k fun _ cn6 => wl_region ?_
  refine np (.pointer (some ⟨g2, 0, none⟩)) ?_
  refine ng hM 2 rfl 0 Tryz.underlying2 rfl ?_
  refine nB (f3) ?_
  refine np (.bool false) ?_
  refine np (.pointer (some ⟨g2, 0, none⟩)) ?_
  refine ng hM 2 rfl 0 Tryz.underlying2 rfl ?_
  refine nB (f4) ?_
  refine np (.bool false) ?_
  refine np (.bool false) ?_
  go_frame
  refine wl_nil (cn6 _ _ ?_)
  clear cn6
  refine wp_cond_false rfl ?_
  refine wp_skip ?_
  refine cn2 _ _ ?_
  clear cn2
  refine wp_seq_k fun _ cn7 => wl_region ?_
  refine nl hM 3 rfl Tryz.underlying55 I_impl_Shared ?_
  refine np (.int .i64 task) ?_
  refine nl hM 2 rfl Tryz.underlying73 I_impl_Hand ?_
  go_frame
  have hRR : mvR l c task h = stepR l c task h := by simp [stepR, f0, f1, f2, f3, f4]
  refine nc (Says3.cast hRR (spec_MoveStep (.slice a1 l.length i1) (.slice a2 c.length i2) l c task h _ (H1.below hM.below) (H2.below hM.below) hl hc)) ?_
  rintro e W5 ⟨u', x', rfl, hO1, hO2, hb⟩
  obtain ⟨a1', j1', rfl, y1⟩ := own_zero hO1 hz.1
  obtain ⟨a2', j2', rfl, y2⟩ := own_zero hO2 hz.2
  replace hM := hM.call hb
  refine ⟨_, rfl, ?_⟩
  go_frame
  refine np (.agg #[.slice a1' 0 j1', .slice a2' 0 j2']) ?_
  refine np (.agg (HD.cells ((stepR l c task h).2.2.1)).toArray) ?_
  refine np (.bool ((stepR l c task h).2.2.2)) ?_
  refine nS hM 1 rfl [.slice a1' 0 j1', .slice a2' 0 j2'] I_impl_Shared rfl ?_
  clear hM; intro W6 hM
  refine nS hM 0 rfl (HD.cells ((stepR l c task h).2.2.1)) I_impl_Hand (hd_one' _) ?_
  clear hM; intro W7 hM
  refine np (.bool ((stepR l c task h).2.2.2)) ?_
  go_frame
  refine wl_nil (cn7 _ _ ?_)
  clear cn7
  refine wp_ret ?_
  exact bodyPost_ret (ret3 (p := 6) (q := 7) (u := 8) (v := .bool ((stepR l c task h).2.2.2)) rfl hM 1 0 rfl rfl rfl rfl rfl) rfl ⟨_, _, rfl, zero_own hz.1 y1, zero_ownI hz.2 y2, hM.below⟩

theorem spec_Step1_0 (u x : Value) (l : List ND) (c : List Int) (task : Int) (h : HD) (w0 : World) (h1 : NSl w0 u l) (h2 : SlI w0 x c) (hl : l.length ≤ 1048576) (hc : c.length ≤ 1048576) (hz : 0 < (stepR l c task h).1.length ∧ 0 < (stepR l c task h).2.1.length) (hA : 1 ≤ h.at_ ∧ h.at_ ≤ 4) :
    Calls Tryz.prog 84 #[.agg #[u, x], .int .i64 task, h.val] w0 (Says3 (stepR l c task h) w0) := by
  have H1 := h1
  have H2 := h2
  have f0 : decide (h.at_ ≥ 1) = true := by simp; omega
  have f1 : decide (h.at_ ≤ 4) = true := by simp; omega
  unfold HD.val
  have hM := Mem.start w0
  obtain ⟨a1, i1, rfl, -⟩ := h1
  obtain ⟨a2, i2, rfl, -⟩ := h2
  go_enter Tryz.func84, Tryz.ntmps84
  refine wp_seq_k fun _ cn1 => wl_region ?_
  refine nx hM 55 [.slice a1 l.length i1, .slice a2 c.length i2] ?_
  clear hM; intro g1 W1 hM
  refine nx hM 73 (HD.cells h) ?_
  clear hM; intro g2 W2 hM
  refine na hM [.slice none 0 0, .slice none 0 0] Z_impl_Shared ?_
  clear hM; intro g3 W3 hM
  refine na hM (HD.cells HD.zero) Z_impl_Hand ?_
  clear hM; intro g4 W4 hM
  refine np (.bool false) ?_
  go_frame
  refine wl_nil (cn1 _ _ ?_)
  clear cn1
  refine wp_seq_k fun Kn2 cn2 => ?_
  refine wp_block ?_
  refine wp_seq_k fun _ cn3 => wl_region ?_
  refine np (.pointer (some ⟨g2, 0, none⟩)) ?_
  refine ng hM 2 rfl 0 Tryz.underlying2 rfl ?_
  refine nB (f0) ?_
  refine np (.bool true) ?_
  refine np (.pointer (some ⟨g2, 0, none⟩)) ?_
  refine ng hM 2 rfl 0 Tryz.underlying2 rfl ?_
  refine nB (f1) ?_
  refine np (.bool true) ?_
  refine np (.bool true) ?_
  go_frame
  refine wl_nil (cn3 _ _ ?_)
  clear cn3
  refine wp_cond_true rfl ?_
  refine wp_seq_k fun _ cn4 => wl_region ?_
  refine nl hM 3 rfl Tryz.underlying55 I_impl_Shared ?_
  refine np (.int .i64 task) ?_
  refine nl hM 2 rfl Tryz.underlying73 I_impl_Hand ?_
  go_frame
  have hRR : findR l c task h = stepR l c task h := by simp [stepR, f0, f1]
  refine nc (Says3.cast hRR (spec_FindStep (.slice a1 l.length i1) (.slice a2 c.length i2) l c task h _ (H1.below hM.below) (H2.below hM.below) hl hc)) ?_
  rintro e W5 ⟨u', x', rfl, hO1, hO2, hb⟩
  obtain ⟨v1, j1, r1, rfl, s1', s2', s3', s4', s9'⟩ := own_blk hO1 hz.1
  obtain ⟨v2, j2, r2, rfl, s5', s6', s7', s8', s0'⟩ := own_blk hO2 hz.2
  replace hM := hM.join (Mem.two hb s4' s8' s3' s7' ne_types)
  refine ⟨_, rfl, ?_⟩
  go_frame
  refine np (.agg #[.slice (some ⟨v1, 0, none⟩) ((stepR l c task h).1.length) j1, .slice (some ⟨v2, 0, none⟩) ((stepR l c task h).2.1.length) j2]) ?_
  refine np (.agg (HD.cells ((stepR l c task h).2.2.1)).toArray) ?_
  refine np (.bool ((stepR l c task h).2.2.2)) ?_
  refine nS hM 3 rfl [.slice (some ⟨v1, 0, none⟩) ((stepR l c task h).1.length) j1, .slice (some ⟨v2, 0, none⟩) ((stepR l c task h).2.1.length) j2] I_impl_Shared rfl ?_
  clear hM; intro W6 hM
  refine nS hM 2 rfl (HD.cells ((stepR l c task h).2.2.1)) I_impl_Hand (hd_one' _) ?_
  clear hM; intro W7 hM
  refine np (.bool ((stepR l c task h).2.2.2)) ?_
  go_frame
  refine wl_nil (cn4 _ _ ?_)
  clear cn4
  refine wp_ret ?_
  simp only [Exit.then, Exit.inBlock]
  exact bodyPost_ret (ret3 (p := 6) (q := 7) (u := 8) (v := .bool ((stepR l c task h).2.2.2)) rfl hM 3 2 rfl rfl rfl rfl rfl) rfl ⟨_, _, rfl, own_nX (hM.blk 0 rfl) rfl s1' s2' (hM.base 0 rfl) hz.1 s9', own_iblk (hM.blk 1 rfl) s5' s6' (hM.base 1 rfl) hz.2 s0', hM.below⟩

theorem spec_Step1_1 (u x : Value) (l : List ND) (c : List Int) (task : Int) (h : HD) (w0 : World) (h1 : NSl w0 u l) (h2 : SlI w0 x c) (hl : l.length ≤ 1048576) (hc : c.length ≤ 1048576) (hz : 0 < (stepR l c task h).1.length ∧ 0 < (stepR l c task h).2.1.length) (hA : 5 ≤ h.at_ ∧ h.at_ ≤ 8) :
    Calls Tryz.prog 84 #[.agg #[u, x], .int .i64 task, h.val] w0 (Says3 (stepR l c task h) w0) := by
  have H1 := h1
  have H2 := h2
  have f0 : decide (h.at_ ≥ 1) = true := by simp; omega
  have f1 : decide (h.at_ ≤ 4) = false := by simp; omega
  have f2 : decide (h.at_ ≥ 5) = true := by simp; omega
  have f3 : decide (h.at_ ≤ 8) = true := by simp; omega
  unfold HD.val
  have hM := Mem.start w0
  obtain ⟨a1, i1, rfl, -⟩ := h1
  obtain ⟨a2, i2, rfl, -⟩ := h2
  go_enter Tryz.func84, Tryz.ntmps84
  refine wp_seq_k fun _ cn1 => wl_region ?_
  refine nx hM 55 [.slice a1 l.length i1, .slice a2 c.length i2] ?_
  clear hM; intro g1 W1 hM
  refine nx hM 73 (HD.cells h) ?_
  clear hM; intro g2 W2 hM
  refine na hM [.slice none 0 0, .slice none 0 0] Z_impl_Shared ?_
  clear hM; intro g3 W3 hM
  refine na hM (HD.cells HD.zero) Z_impl_Hand ?_
  clear hM; intro g4 W4 hM
  refine np (.bool false) ?_
  go_frame
  refine wl_nil (cn1 _ _ ?_)
  clear cn1
  refine wp_seq_k fun Kn2 cn2 => ?_
  refine wp_block ?_
  refine wp_seq_k fun _ cn3 => wl_region ?_
  refine np (.pointer (some ⟨g2, 0, none⟩)) ?_
  refine ng hM 2 rfl 0 Tryz.underlying2 rfl ?_
  refine nB (f0) ?_
  refine np (.bool true) ?_
  refine np (.pointer (some ⟨g2, 0, none⟩)) ?_
  refine ng hM 2 rfl 0 Tryz.underlying2 rfl ?_
  refine nB (f1) ?_
  refine np (.bool false) ?_
  refine np (.bool false) ?_
  go_frame
  refine wl_nil (cn3 _ _ ?_)
  clear cn3
  refine wp_cond_false rfl ?_
  refine wp_seq_k fun _ cn4 => wl_region ?_
  refine np (.pointer (some ⟨g2, 0, none⟩)) ?_
  refine ng hM 2 rfl 0 Tryz.underlying2 rfl ?_
  refine nB (f2) ?_
  refine np (.bool true) ?_
  refine np (.pointer (some ⟨g2, 0, none⟩)) ?_
  refine ng hM 2 rfl 0 Tryz.underlying2 rfl ?_
  refine nB (f3) ?_
  refine np (.bool true) ?_
  refine np (.bool true) ?_
  go_frame
  refine wl_nil (cn4 _ _ ?_)
  clear cn4
  refine wp_cond_true rfl ?_
  refine wp_seq_k fun _ cn5 => wl_region ?_
  refine nl hM 3 rfl Tryz.underlying55 I_impl_Shared ?_
  refine np (.int .i64 task) ?_
  refine nl hM 2 rfl Tryz.underlying73 I_impl_Hand ?_
  go_frame
  have hRR : addR l c task h = stepR l c task h := by simp [stepR, f0, f1, f2, f3]
  refine nc (Says3.cast hRR (spec_AddStep (.slice a1 l.length i1) (.slice a2 c.length i2) l c task h _ (H1.below hM.below) (H2.below hM.below) hl hc)) ?_
  rintro e W5 ⟨u', x', rfl, hO1, hO2, hb⟩
  obtain ⟨v1, j1, r1, rfl, s1', s2', s3', s4', s9'⟩ := own_blk hO1 hz.1
  obtain ⟨v2, j2, r2, rfl, s5', s6', s7', s8', s0'⟩ := own_blk hO2 hz.2
  replace hM := hM.join (Mem.two hb s4' s8' s3' s7' ne_types)
  refine ⟨_, rfl, ?_⟩
  go_frame
  refine np (.agg #[.slice (some ⟨v1, 0, none⟩) ((stepR l c task h).1.length) j1, .slice (some ⟨v2, 0, none⟩) ((stepR l c task h).2.1.length) j2]) ?_
  refine np (.agg (HD.cells ((stepR l c task h).2.2.1)).toArray) ?_
  refine np (.bool ((stepR l c task h).2.2.2)) ?_
  refine nS hM 3 rfl [.slice (some ⟨v1, 0, none⟩) ((stepR l c task h).1.length) j1, .slice (some ⟨v2, 0, none⟩) ((stepR l c task h).2.1.length) j2] I_impl_Shared rfl ?_
  clear hM; intro W6 hM
  refine nS hM 2 rfl (HD.cells ((stepR l c task h).2.2.1)) I_impl_Hand (hd_one' _) ?_
  clear hM; intro W7 hM
  refine np (.bool ((stepR l c task h).2.2.2)) ?_
  go_frame
  refine wl_nil (cn5 _ _ ?_)
  clear cn5
  refine wp_ret ?_
  simp only [Exit.then, Exit.inBlock]
  exact bodyPost_ret (ret3 (p := 6) (q := 7) (u := 8) (v := .bool ((stepR l c task h).2.2.2)) rfl hM 3 2 rfl rfl rfl rfl rfl) rfl ⟨_, _, rfl, own_nX (hM.blk 0 rfl) rfl s1' s2' (hM.base 0 rfl) hz.1 s9', own_iblk (hM.blk 1 rfl) s5' s6' (hM.base 1 rfl) hz.2 s0', hM.below⟩

theorem spec_Step1_2 (u x : Value) (l : List ND) (c : List Int) (task : Int) (h : HD) (w0 : World) (h1 : NSl w0 u l) (h2 : SlI w0 x c) (hl : l.length ≤ 1048576) (hc : c.length ≤ 1048576) (hz : 0 < (stepR l c task h).1.length ∧ 0 < (stepR l c task h).2.1.length) (hA : 9 ≤ h.at_ ∧ h.at_ ≤ 13) :
    Calls Tryz.prog 84 #[.agg #[u, x], .int .i64 task, h.val] w0 (Says3 (stepR l c task h) w0) := by
  have H1 := h1
  have H2 := h2
  have f0 : decide (h.at_ ≥ 1) = true := by simp; omega
  have f1 : decide (h.at_ ≤ 4) = false := by simp; omega
  have f2 : decide (h.at_ ≥ 5) = true := by simp; omega
  have f3 : decide (h.at_ ≤ 8) = false := by simp; omega
  have f4 : decide (h.at_ ≥ 9) = true := by simp; omega
  have f5 : decide (h.at_ ≤ 13) = true := by simp; omega
  unfold HD.val
  have hM := Mem.start w0
  obtain ⟨a1, i1, rfl, -⟩ := h1
  obtain ⟨a2, i2, rfl, -⟩ := h2
  go_enter Tryz.func84, Tryz.ntmps84
  refine wp_seq_k fun _ cn1 => wl_region ?_
  refine nx hM 55 [.slice a1 l.length i1, .slice a2 c.length i2] ?_
  clear hM; intro g1 W1 hM
  refine nx hM 73 (HD.cells h) ?_
  clear hM; intro g2 W2 hM
  refine na hM [.slice none 0 0, .slice none 0 0] Z_impl_Shared ?_
  clear hM; intro g3 W3 hM
  refine na hM (HD.cells HD.zero) Z_impl_Hand ?_
  clear hM; intro g4 W4 hM
  refine np (.bool false) ?_
  go_frame
  refine wl_nil (cn1 _ _ ?_)
  clear cn1
  refine wp_seq_k fun Kn2 cn2 => ?_
  refine wp_block ?_
  refine wp_seq_k fun _ cn3 => wl_region ?_
  refine np (.pointer (some ⟨g2, 0, none⟩)) ?_
  refine ng hM 2 rfl 0 Tryz.underlying2 rfl ?_
  refine nB (f0) ?_
  refine np (.bool true) ?_
  refine np (.pointer (some ⟨g2, 0, none⟩)) ?_
  refine ng hM 2 rfl 0 Tryz.underlying2 rfl ?_
  refine nB (f1) ?_
  refine np (.bool false) ?_
  refine np (.bool false) ?_
  go_frame
  refine wl_nil (cn3 _ _ ?_)
  clear cn3
  refine wp_cond_false rfl ?_
  refine wp_seq_k fun _ cn4 => wl_region ?_
  refine np (.pointer (some ⟨g2, 0, none⟩)) ?_
  refine ng hM 2 rfl 0 Tryz.underlying2 rfl ?_
  refine nB (f2) ?_
  refine np (.bool true) ?_
  refine np (.pointer (some ⟨g2, 0, none⟩)) ?_
  refine ng hM 2 rfl 0 Tryz.underlying2 rfl ?_
  refine nB (f3) ?_
  refine np (.bool false) ?_
  refine np (.bool false) ?_
  go_frame
  refine wl_nil (cn4 _ _ ?_)
  clear cn4
  refine wp_cond_false rfl ?_
  refine wp_seq_k fun _ cn5 => wl_region ?_
  refine np (.pointer (some ⟨g2, 0, none⟩)) ?_
  refine ng hM 2 rfl 0 Tryz.underlying2 rfl ?_
  refine nB (f4) ?_
  refine np (.bool true) ?_
  refine np (.pointer (some ⟨g2, 0, none⟩)) ?_
  refine ng hM 2 rfl 0 Tryz.underlying2 rfl ?_
  refine nB (f5) ?_
  refine np (.bool true) ?_
  refine np (.bool true) ?_
  go_frame
  refine wl_nil (cn5 _ _ ?_)
  clear cn5
  refine wp_cond_true rfl ?_
  refine wp_seq_k fun _ cn6 => wl_region ?_
  refine nl hM 3 rfl Tryz.underlying55 I_impl_Shared ?_
  refine np (.int .i64 task) ?_
  refine nl hM 2 rfl Tryz.underlying73 I_impl_Hand ?_
  go_frame
  have hRR : cutR l c task h = stepR l c task h := by simp [stepR, f0, f1, f2, f3, f4, f5]
  refine nc (Says3.cast hRR (spec_CutStep (.slice a1 l.length i1) (.slice a2 c.length i2) l c task h _ (H1.below hM.below) (H2.below hM.below) hl hc)) ?_
  rintro e W5 ⟨u', x', rfl, hO1, hO2, hb⟩
  obtain ⟨v1, j1, r1, rfl, s1', s2', s3', s4', s9'⟩ := own_blk hO1 hz.1
  obtain ⟨v2, j2, r2, rfl, s5', s6', s7', s8', s0'⟩ := own_blk hO2 hz.2
  replace hM := hM.join (Mem.two hb s4' s8' s3' s7' ne_types)
  refine ⟨_, rfl, ?_⟩
  go_frame
  refine np (.agg #[.slice (some ⟨v1, 0, none⟩) ((stepR l c task h).1.length) j1, .slice (some ⟨v2, 0, none⟩) ((stepR l c task h).2.1.length) j2]) ?_
  refine np (.agg (HD.cells ((stepR l c task h).2.2.1)).toArray) ?_
  refine np (.bool ((stepR l c task h).2.2.2)) ?_
  refine nS hM 3 rfl [.slice (some ⟨v1, 0, none⟩) ((stepR l c task h).1.length) j1, .slice (some ⟨v2, 0, none⟩) ((stepR l c task h).2.1.length) j2] I_impl_Shared rfl ?_
  clear hM; intro W6 hM
  refine nS hM 2 rfl (HD.cells ((stepR l c task h).2.2.1)) I_impl_Hand (hd_one' _) ?_
  clear hM; intro W7 hM
  refine np (.bool ((stepR l c task h).2.2.2)) ?_
  go_frame
  refine wl_nil (cn6 _ _ ?_)
  clear cn6
  refine wp_ret ?_
  simp only [Exit.then, Exit.inBlock]
  exact bodyPost_ret (ret3 (p := 6) (q := 7) (u := 8) (v := .bool ((stepR l c task h).2.2.2)) rfl hM 3 2 rfl rfl rfl rfl rfl) rfl ⟨_, _, rfl, own_nX (hM.blk 0 rfl) rfl s1' s2' (hM.base 0 rfl) hz.1 s9', own_iblk (hM.blk 1 rfl) s5' s6' (hM.base 1 rfl) hz.2 s0', hM.below⟩

theorem spec_Step1_3 (u x : Value) (l : List ND) (c : List Int) (task : Int) (h : HD) (w0 : World) (h1 : NSl w0 u l) (h2 : SlI w0 x c) (hl : l.length ≤ 1048576) (hc : c.length ≤ 1048576) (hz : 0 < (stepR l c task h).1.length ∧ 0 < (stepR l c task h).2.1.length) (hA : h.at_ = 22) :
    Calls Tryz.prog 84 #[.agg #[u, x], .int .i64 task, h.val] w0 (Says3 (stepR l c task h) w0) := by
  have H1 := h1
  have H2 := h2
  have f0 : decide (h.at_ ≥ 1) = true := by simp; omega
  have f1 : decide (h.at_ ≤ 4) = false := by simp; omega
  have f2 : decide (h.at_ ≥ 5) = true := by simp; omega
  have f3 : decide (h.at_ ≤ 8) = false := by simp; omega
  have f4 : decide (h.at_ ≥ 9) = true := by simp; omega
  have f5 : decide (h.at_ ≤ 13) = false := by simp; omega
  have f6 : (h.at_ == 22) = true := by simp; omega
  unfold HD.val
  have hM := Mem.start w0
  obtain ⟨a1, i1, rfl, -⟩ := h1
  obtain ⟨a2, i2, rfl, -⟩ := h2
  go_enter Tryz.func84, Tryz.ntmps84
  refine wp_seq_k fun _ cn1 => wl_region ?_
  refine nx hM 55 [.slice a1 l.length i1, .slice a2 c.length i2] ?_
  clear hM; intro g1 W1 hM
  refine nx hM 73 (HD.cells h) ?_
  clear hM; intro g2 W2 hM
  refine na hM [.slice none 0 0, .slice none 0 0] Z_impl_Shared ?_
  clear hM; intro g3 W3 hM
  refine na hM (HD.cells HD.zero) Z_impl_Hand ?_
  clear hM; intro g4 W4 hM
  refine np (.bool false) ?_
  go_frame
  refine wl_nil (cn1 _ _ ?_)
  clear cn1
  refine wp_seq_k fun Kn2 cn2 => ?_
  refine wp_block ?_
  refine wp_seq_k fun _ cn3 => wl_region ?_
  refine np (.pointer (some ⟨g2, 0, none⟩)) ?_
  refine ng hM 2 rfl 0 Tryz.underlying2 rfl ?_
  refine nB (f0) ?_
  refine np (.bool true) ?_
  refine np (.pointer (some ⟨g2, 0, none⟩)) ?_
  refine ng hM 2 rfl 0 Tryz.underlying2 rfl ?_
  refine nB (f1) ?_
  refine np (.bool false) ?_
  refine np (.bool false) ?_
  go_frame
  refine wl_nil (cn3 _ _ ?_)
  clear cn3
  refine wp_cond_false rfl ?_
  refine wp_seq_k fun _ cn4 => wl_region ?_
  refine np (.pointer (some ⟨g2, 0, none⟩)) ?_
  refine ng hM 2 rfl 0 Tryz.underlying2 rfl ?_
  refine nB (f2) ?_
  refine np (.bool true) ?_
  refine np (.pointer (some ⟨g2, 0, none⟩)) ?_
  refine ng hM 2 rfl 0 Tryz.underlying2 rfl ?_
  refine nB (f3) ?_
  refine np (.bool false) ?_
  refine np (.bool false) ?_
  go_frame
  refine wl_nil (cn4 _ _ ?_)
  clear cn4
  refine wp_cond_false rfl ?_
  refine wp_seq_k fun _ cn5 => wl_region ?_
  refine np (.pointer (some ⟨g2, 0, none⟩)) ?_
  refine ng hM 2 rfl 0 Tryz.underlying2 rfl ?_
  refine nB (f4) ?_
  refine np (.bool true) ?_
  refine np (.pointer (some ⟨g2, 0, none⟩)) ?_
  refine ng hM 2 rfl 0 Tryz.underlying2 rfl ?_
  refine nB (f5) ?_
  refine np (.bool false) ?_
  refine np (.bool false) ?_
  go_frame
  refine wl_nil (cn5 _ _ ?_)
  clear cn5
  refine wp_cond_false rfl ?_
  refine wp_seq_k fun _ cn6 => wl_region ?_
  refine np (.pointer (some ⟨g2, 0, none⟩)) ?_
  refine ng hM 2 rfl 0 Tryz.underlying2 rfl ?_
  refine nB (f6) ?_
  refine np (.bool true) ?_
  iterate 3 refine ns ?_
  refine np (.bool true) ?_
  refine np (.bool true) ?_
  go_frame
  refine wl_nil (cn6 _ _ ?_)
  clear cn6
  refine wp_cond_true rfl ?_
  refine wp_seq_k fun _ cn7 => wl_region ?_
  refine nl hM 3 rfl Tryz.underlying55 I_impl_Shared ?_
  refine np (.int .i64 task) ?_
  refine nl hM 2 rfl Tryz.underlying73 I_impl_Hand ?_
  go_frame
  have hRR : waitR l c task h = stepR l c task h := by simp [stepR, f0, f1, f2, f3, f4, f5, f6]
  refine nc (Says3.cast hRR (spec_WaitStep (.slice a1 l.length i1) (.slice a2 c.length i2) l c task h _ (H1.below hM.below) (H2.below hM.below) hl hc)) ?_
  rintro e W5 ⟨u', x', rfl, hO1, hO2, hb⟩
  obtain ⟨v1, j1, r1, rfl, s1', s2', s3', s4', s9'⟩ := own_blk hO1 hz.1
  obtain ⟨v2, j2, r2, rfl, s5', s6', s7', s8', s0'⟩ := own_blk hO2 hz.2
  replace hM := hM.join (Mem.two hb s4' s8' s3' s7' ne_types)
  refine ⟨_, rfl, ?_⟩
  go_frame
  refine np (.agg #[.slice (some ⟨v1, 0, none⟩) ((stepR l c task h).1.length) j1, .slice (some ⟨v2, 0, none⟩) ((stepR l c task h).2.1.length) j2]) ?_
  refine np (.agg (HD.cells ((stepR l c task h).2.2.1)).toArray) ?_
  refine np (.bool ((stepR l c task h).2.2.2)) ?_
  refine nS hM 3 rfl [.slice (some ⟨v1, 0, none⟩) ((stepR l c task h).1.length) j1, .slice (some ⟨v2, 0, none⟩) ((stepR l c task h).2.1.length) j2] I_impl_Shared rfl ?_
  clear hM; intro W6 hM
  refine nS hM 2 rfl (HD.cells ((stepR l c task h).2.2.1)) I_impl_Hand (hd_one' _) ?_
  clear hM; intro W7 hM
  refine np (.bool ((stepR l c task h).2.2.2)) ?_
  go_frame
  refine wl_nil (cn7 _ _ ?_)
  clear cn7
  refine wp_ret ?_
  simp only [Exit.then, Exit.inBlock]
  exact bodyPost_ret (ret3 (p := 6) (q := 7) (u := 8) (v := .bool ((stepR l c task h).2.2.2)) rfl hM 3 2 rfl rfl rfl rfl rfl) rfl ⟨_, _, rfl, own_nX (hM.blk 0 rfl) rfl s1' s2' (hM.base 0 rfl) hz.1 s9', own_iblk (hM.blk 1 rfl) s5' s6' (hM.base 1 rfl) hz.2 s0', hM.below⟩

theorem spec_Step1_4 (u x : Value) (l : List ND) (c : List Int) (task : Int) (h : HD) (w0 : World) (h1 : NSl w0 u l) (h2 : SlI w0 x c) (hl : l.length ≤ 1048576) (hc : c.length ≤ 1048576) (hz : 0 < (stepR l c task h).1.length ∧ 0 < (stepR l c task h).2.1.length) (hA : h.at_ = 26) :
    Calls Tryz.prog 84 #[.agg #[u, x], .int .i64 task, h.val] w0 (Says3 (stepR l c task h) w0) := by
  have H1 := h1
  have H2 := h2
  have f0 : decide (h.at_ ≥ 1) = true := by simp; omega
  have f1 : decide (h.at_ ≤ 4) = false := by simp; omega
  have f2 : decide (h.at_ ≥ 5) = true := by simp; omega
  have f3 : decide (h.at_ ≤ 8) = false := by simp; omega
  have f4 : decide (h.at_ ≥ 9) = true := by simp; omega
  have f5 : decide (h.at_ ≤ 13) = false := by simp; omega
  have f6 : (h.at_ == 22) = false := by simp; omega
  have f7 : (h.at_ == 26) = true := by simp; omega
  unfold HD.val
  have hM := Mem.start w0
  obtain ⟨a1, i1, rfl, -⟩ := h1
  obtain ⟨a2, i2, rfl, -⟩ := h2
  go_enter Tryz.func84, Tryz.ntmps84
  refine wp_seq_k fun _ cn1 => wl_region ?_
  refine nx hM 55 [.slice a1 l.length i1, .slice a2 c.length i2] ?_
  clear hM; intro g1 W1 hM
  refine nx hM 73 (HD.cells h) ?_
  clear hM; intro g2 W2 hM
  refine na hM [.slice none 0 0, .slice none 0 0] Z_impl_Shared ?_
  clear hM; intro g3 W3 hM
  refine na hM (HD.cells HD.zero) Z_impl_Hand ?_
  clear hM; intro g4 W4 hM
  refine np (.bool false) ?_
  go_frame
  refine wl_nil (cn1 _ _ ?_)
  clear cn1
  refine wp_seq_k fun Kn2 cn2 => ?_
  refine wp_block ?_
  refine wp_seq_k fun _ cn3 => wl_region ?_
  refine np (.pointer (some ⟨g2, 0, none⟩)) ?_
  refine ng hM 2 rfl 0 Tryz.underlying2 rfl ?_
  refine nB (f0) ?_
  refine np (.bool true) ?_
  refine np (.pointer (some ⟨g2, 0, none⟩)) ?_
  refine ng hM 2 rfl 0 Tryz.underlying2 rfl ?_
  refine nB (f1) ?_
  refine np (.bool false) ?_
  refine np (.bool false) ?_
  go_frame
  refine wl_nil (cn3 _ _ ?_)
  clear cn3
  refine wp_cond_false rfl ?_
  refine wp_seq_k fun _ cn4 => wl_region ?_
  refine np (.pointer (some ⟨g2, 0, none⟩)) ?_
  refine ng hM 2 rfl 0 Tryz.underlying2 rfl ?_
  refine nB (f2) ?_
  refine np (.bool true) ?_
  refine np (.pointer (some ⟨g2, 0, none⟩)) ?_
  refine ng hM 2 rfl 0 Tryz.underlying2 rfl ?_
  refine nB (f3) ?_
  refine np (.bool false) ?_
  refine np (.bool false) ?_
  go_frame
  refine wl_nil (cn4 _ _ ?_)
  clear cn4
  refine wp_cond_false rfl ?_
  refine wp_seq_k fun _ cn5 => wl_region ?_
  refine np (.pointer (some ⟨g2, 0, none⟩)) ?_
  refine ng hM 2 rfl 0 Tryz.underlying2 rfl ?_
  refine nB (f4) ?_
  refine np (.bool true) ?_
  refine np (.pointer (some ⟨g2, 0, none⟩)) ?_
  refine ng hM 2 rfl 0 Tryz.underlying2 rfl ?_
  refine nB (f5) ?_
  refine np (.bool false) ?_
  refine np (.bool false) ?_
  go_frame
  refine wl_nil (cn5 _ _ ?_)
  clear cn5
  refine wp_cond_false rfl ?_
  refine wp_seq_k fun _ cn6 => wl_region ?_
  refine np (.pointer (some ⟨g2, 0, none⟩)) ?_
  refine ng hM 2 rfl 0 Tryz.underlying2 rfl ?_
  refine nB (f6) ?_
  refine np (.bool false) ?_
  refine np (.pointer (some ⟨g2, 0, none⟩)) ?_
  refine ng hM 2 rfl 0 Tryz.underlying2 rfl ?_
  refine nB (f7) ?_
  refine np (.bool true) ?_
  refine np (.bool true) ?_
  go_frame
  refine wl_nil (cn6 _ _ ?_)
  clear cn6
  refine wp_cond_true rfl ?_
  refine wp_seq_k fun _ cn7 => wl_region ?_
  refine nl hM 3 rfl Tryz.underlying55 I_impl_Shared ?_
  refine np (.int .i64 task) ?_
  refine nl hM 2 rfl Tryz.underlying73 I_impl_Hand ?_
  go_frame
  have hRR : waitR l c task h = stepR l c task h := by simp [stepR, f0, f1, f2, f3, f4, f5, f6, f7]
  refine nc (Says3.cast hRR (spec_WaitStep (.slice a1 l.length i1) (.slice a2 c.length i2) l c task h _ (H1.below hM.below) (H2.below hM.below) hl hc)) ?_
  rintro e W5 ⟨u', x', rfl, hO1, hO2, hb⟩
  obtain ⟨v1, j1, r1, rfl, s1', s2', s3', s4', s9'⟩ := own_blk hO1 hz.1
  obtain ⟨v2, j2, r2, rfl, s5', s6', s7', s8', s0'⟩ := own_blk hO2 hz.2
  replace hM := hM.join (Mem.two hb s4' s8' s3' s7' ne_types)
  refine ⟨_, rfl, ?_⟩
  go_frame
  refine np (.agg #[.slice (some ⟨v1, 0, none⟩) ((stepR l c task h).1.length) j1, .slice (some ⟨v2, 0, none⟩) ((stepR l c task h).2.1.length) j2]) ?_
  refine np (.agg (HD.cells ((stepR l c task h).2.2.1)).toArray) ?_
  refine np (.bool ((stepR l c task h).2.2.2)) ?_
  refine nS hM 3 rfl [.slice (some ⟨v1, 0, none⟩) ((stepR l c task h).1.length) j1, .slice (some ⟨v2, 0, none⟩) ((stepR l c task h).2.1.length) j2] I_impl_Shared rfl ?_
  clear hM; intro W6 hM
  refine nS hM 2 rfl (HD.cells ((stepR l c task h).2.2.1)) I_impl_Hand (hd_one' _) ?_
  clear hM; intro W7 hM
  refine np (.bool ((stepR l c task h).2.2.2)) ?_
  go_frame
  refine wl_nil (cn7 _ _ ?_)
  clear cn7
  refine wp_ret ?_
  simp only [Exit.then, Exit.inBlock]
  exact bodyPost_ret (ret3 (p := 6) (q := 7) (u := 8) (v := .bool ((stepR l c task h).2.2.2)) rfl hM 3 2 rfl rfl rfl rfl rfl) rfl ⟨_, _, rfl, own_nX (hM.blk 0 rfl) rfl s1' s2' (hM.base 0 rfl) hz.1 s9', own_iblk (hM.blk 1 rfl) s5' s6' (hM.base 1 rfl) hz.2 s0', hM.below⟩

theorem spec_Step1_5 (u x : Value) (l : List ND) (c : List Int) (task : Int) (h : HD) (w0 : World) (h1 : NSl w0 u l) (h2 : SlI w0 x c) (hl : l.length ≤ 1048576) (hc : c.length ≤ 1048576) (hz : 0 < (stepR l c task h).1.length ∧ 0 < (stepR l c task h).2.1.length) (hA : h.at_ ≥ 14 ∧ h.at_ ≠ 22 ∧ h.at_ ≠ 26) :
    Calls Tryz.prog 84 #[.agg #[u, x], .int .i64 task, h.val] w0 (Says3 (stepR l c task h) w0) := by
  have H1 := h1
  have H2 := h2
  have f0 : decide (h.at_ ≥ 1) = true := by simp; omega
  have f1 : decide (h.at_ ≤ 4) = false := by simp; omega
  have f2 : decide (h.at_ ≥ 5) = true := by simp; omega
  have f3 : decide (h.at_ ≤ 8) = false := by simp; omega
  have f4 : decide (h.at_ ≥ 9) = true := by simp; omega
  have f5 : decide (h.at_ ≤ 13) = false := by simp; omega
  have f6 : (h.at_ == 22) = false := by simp; omega
  have f7 : (h.at_ == 26) = false := by simp; omega
  unfold HD.val
  have hM := Mem.start w0
  obtain ⟨a1, i1, rfl, -⟩ := h1
  obtain ⟨a2, i2, rfl, -⟩ := h2
  go_enter Tryz.func84, Tryz.ntmps84
  refine wp_seq_k fun _ cn1 => wl_region ?_
  refine nx hM 55 [.slice a1 l.length i1, .slice a2 c.length i2] ?_
  clear hM; intro g1 W1 hM
  refine nx hM 73 (HD.cells h) ?_
  clear hM; intro g2 W2 hM
  refine na hM [.slice none 0 0, .slice none 0 0] Z_impl_Shared ?_
  clear hM; intro g3 W3 hM
  refine na hM (HD.cells HD.zero) Z_impl_Hand ?_
  clear hM; intro g4 W4 hM
  refine np (.bool false) ?_
  go_frame
  refine wl_nil (cn1 _ _ ?_)
  clear cn1
  refine wp_seq_k fun Kn2 cn2 => ?_
  refine wp_block ?_
  refine wp_seq_k fun _ cn3 => wl_region ?_
  refine np (.pointer (some ⟨g2, 0, none⟩)) ?_
  refine ng hM 2 rfl 0 Tryz.underlying2 rfl ?_
  refine nB (f0) ?_
  refine np (.bool true) ?_
  refine np (.pointer (some ⟨g2, 0, none⟩)) ?_
  refine ng hM 2 rfl 0 Tryz.underlying2 rfl ?_
  refine nB (f1) ?_
  refine np (.bool false) ?_
  refine np (.bool false) ?_
  go_frame
  refine wl_nil (cn3 _ _ ?_)
  clear cn3
  refine wp_cond_false rfl ?_
  refine wp_seq_k fun _ cn4 => wl_region ?_
  refine np (.pointer (some ⟨g2, 0, none⟩)) ?_
  refine ng hM 2 rfl 0 Tryz.underlying2 rfl ?_
  refine nB (f2) ?_
  refine np (.bool true) ?_
  refine np (.pointer (some ⟨g2, 0, none⟩)) ?_
  refine ng hM 2 rfl 0 Tryz.underlying2 rfl ?_
  refine nB (f3) ?_
  refine np (.bool false) ?_
  refine np (.bool false) ?_
  go_frame
  refine wl_nil (cn4 _ _ ?_)
  clear cn4
  refine wp_cond_false rfl ?_
  refine wp_seq_k fun _ cn5 => wl_region ?_
  refine np (.pointer (some ⟨g2, 0, none⟩)) ?_
  refine ng hM 2 rfl 0 Tryz.underlying2 rfl ?_
  refine nB (f4) ?_
  refine np (.bool true) ?_
  refine np (.pointer (some ⟨g2, 0, none⟩)) ?_
  refine ng hM 2 rfl 0 Tryz.underlying2 rfl ?_
  refine nB (f5) ?_
  refine np (.bool false) ?_
  refine np (.bool false) ?_
  go_frame
  refine wl_nil (cn5 _ _ ?_)
  clear cn5
  refine wp_cond_false rfl ?_
  refine wp_seq_k fun _ cn6 => wl_region ?_
  refine np (.pointer (some ⟨g2, 0, none⟩)) ?_
  refine ng hM 2 rfl 0 Tryz.underlying2 rfl ?_
  refine nB (f6) ?_
  refine np (.bool false) ?_
  refine np (.pointer (some ⟨g2, 0, none⟩)) ?_
  refine ng hM 2 rfl 0 Tryz.underlying2 rfl ?_
  refine nB (f7) ?_
  refine np (.bool false) ?_
  refine np (.bool false) ?_
  go_frame
  refine wl_nil (cn6 _ _ ?_)
  clear cn6
  refine wp_cond_false rfl ?_
  refine wp_skip ?_
  refine cn2 _ _ ?_
  clear cn2
  refine wp_seq_k fun _ cn7 => wl_region ?_
  refine nl hM 3 rfl Tryz.underlying55 I_impl_Shared ?_
  refine np (.int .i64 task) ?_
  refine nl hM 2 rfl Tryz.underlying73 I_impl_Hand ?_
  go_frame
  have hRR : mvR l c task h = stepR l c task h := by simp [stepR, f0, f1, f2, f3, f4, f5, f6, f7]
  refine nc (Says3.cast hRR (spec_MoveStep (.slice a1 l.length i1) (.slice a2 c.length i2) l c task h _ (H1.below hM.below) (H2.below hM.below) hl hc)) ?_
  rintro e W5 ⟨u', x', rfl, hO1, hO2, hb⟩
  obtain ⟨v1, j1, r1, rfl, s1', s2', s3', s4', s9'⟩ := own_blk hO1 hz.1
  obtain ⟨v2, j2, r2, rfl, s5', s6', s7', s8', s0'⟩ := own_blk hO2 hz.2
  replace hM := hM.join (Mem.two hb s4' s8' s3' s7' ne_types)
  refine ⟨_, rfl, ?_⟩
  go_frame
  refine np (.agg #[.slice (some ⟨v1, 0, none⟩) ((stepR l c task h).1.length) j1, .slice (some ⟨v2, 0, none⟩) ((stepR l c task h).2.1.length) j2]) ?_
  refine np (.agg (HD.cells ((stepR l c task h).2.2.1)).toArray) ?_
  refine np (.bool ((stepR l c task h).2.2.2)) ?_
  refine nS hM 3 rfl [.slice (some ⟨v1, 0, none⟩) ((stepR l c task h).1.length) j1, .slice (some ⟨v2, 0, none⟩) ((stepR l c task h).2.1.length) j2] I_impl_Shared rfl ?_
  clear hM; intro W6 hM
  refine nS hM 2 rfl (HD.cells ((stepR l c task h).2.2.1)) I_impl_Hand (hd_one' _) ?_
  clear hM; intro W7 hM
  refine np (.bool ((stepR l c task h).2.2.2)) ?_
  go_frame
  refine wl_nil (cn7 _ _ ?_)
  clear cn7
  refine wp_ret ?_
  exact bodyPost_ret (ret3 (p := 6) (q := 7) (u := 8) (v := .bool ((stepR l c task h).2.2.2)) rfl hM 3 2 rfl rfl rfl rfl rfl) rfl ⟨_, _, rfl, own_nX (hM.blk 0 rfl) rfl s1' s2' (hM.base 0 rfl) hz.1 s9', own_iblk (hM.blk 1 rfl) s5' s6' (hM.base 1 rfl) hz.2 s0', hM.below⟩

theorem spec_Step1_6 (u x : Value) (l : List ND) (c : List Int) (task : Int) (h : HD) (w0 : World) (h1 : NSl w0 u l) (h2 : SlI w0 x c) (hl : l.length ≤ 1048576) (hc : c.length ≤ 1048576) (hz : 0 < (stepR l c task h).1.length ∧ 0 < (stepR l c task h).2.1.length) (hA : h.at_ < 1) :
    Calls Tryz.prog 84 #[.agg #[u, x], .int .i64 task, h.val] w0 (Says3 (stepR l c task h) w0) := by
  have H1 := h1
  have H2 := h2
  have f0 : decide (h.at_ ≥ 1) = false := by simp; omega
  have f1 : decide (h.at_ ≥ 5) = false := by simp; omega
  have f2 : decide (h.at_ ≥ 9) = false := by simp; omega
  have f3 : (h.at_ == 22) = false := by simp; omega
  have f4 : (h.at_ == 26) = false := by simp; omega
  unfold HD.val
  have hM := Mem.start w0
  obtain ⟨a1, i1, rfl, -⟩ := h1
  obtain ⟨a2, i2, rfl, -⟩ := h2
  go_enter Tryz.func84, Tryz.ntmps84
  refine wp_seq_k fun _ cn1 => wl_region ?_
  refine nx hM 55 [.slice a1 l.length i1, .slice a2 c.length i2] ?_
  clear hM; intro g1 W1 hM
  refine nx hM 73 (HD.cells h) ?_
  clear hM; intro g2 W2 hM
  refine na hM [.slice none 0 0, .slice none 0 0] Z_impl_Shared ?_
  clear hM; intro g3 W3 hM
  refine na hM (HD.cells HD.zero) Z_impl_Hand ?_
  clear hM; intro g4 W4 hM
  refine np (.bool false) ?_
  go_frame
  refine wl_nil (cn1 _ _ ?_)
  clear cn1
  refine wp_seq_k fun Kn2 cn2 => ?_
  refine wp_block ?_
  refine wp_seq_k fun _ cn3 => wl_region ?_
  refine np (.pointer (some ⟨g2, 0, none⟩)) ?_
  refine ng hM 2 rfl 0 Tryz.underlying2 rfl ?_
  refine nB (f0) ?_
  refine np (.bool false) ?_
  iterate 3 refine ns ?_
  refine np (.bool false) ?_
  refine np (.bool false) ?_
  go_frame
  refine wl_nil (cn3 _ _ ?_)
  clear cn3
  refine wp_cond_false rfl ?_
  refine wp_seq_k fun _ cn4 => wl_region ?_
  refine np (.pointer (some ⟨g2, 0, none⟩)) ?_
  refine ng hM 2 rfl 0 Tryz.underlying2 rfl ?_
  refine nB (f1) ?_
  refine np (.bool false) ?_
  iterate 3 refine ns ?_
  refine np (.bool false) ?_
  refine np (.bool false) ?_
  go_frame
  refine wl_nil (cn4 _ _ ?_)
  clear cn4
  refine wp_cond_false rfl ?_
  refine wp_seq_k fun _ cn5 => wl_region ?_
  refine np (.pointer (some ⟨g2, 0, none⟩)) ?_
  refine ng hM 2 rfl 0 Tryz.underlying2 rfl ?_
  refine nB (f2) ?_
  refine np (.bool false) ?_
  iterate 3 refine ns ?_
  refine np (.bool false) ?_
  refine np (.bool false) ?_
  go_frame
  refine wl_nil (cn5 _ _ ?_)
  clear cn5
  refine wp_cond_false rfl ?_
  refine wp_seq_k fun _ cn6 => wl_region ?_
  refine np (.pointer (some ⟨g2, 0, none⟩)) ?_
  refine ng hM 2 rfl 0 Tryz.underlying2 rfl ?_
  refine nB (f3) ?_
  refine np (.bool false) ?_
  refine np (.pointer (some ⟨g2, 0, none⟩)) ?_
  refine ng hM 2 rfl 0 Tryz.underlying2 rfl ?_
  refine nB (f4) ?_
  refine np (.bool false) ?_
  refine np (.bool false) ?_
  go_frame
  refine wl_nil (cn6 _ _ ?_)
  clear cn6
  refine wp_cond_false rfl ?_
  refine wp_skip ?_
  refine cn2 _ _ ?_
  clear cn2
  refine wp_seq_k fun _ cn7 => wl_region ?_
  refine nl hM 3 rfl Tryz.underlying55 I_impl_Shared ?_
  refine np (.int .i64 task) ?_
  refine nl hM 2 rfl Tryz.underlying73 I_impl_Hand ?_
  go_frame
  have hRR : mvR l c task h = stepR l c task h := by simp [stepR, f0, f1, f2, f3, f4]
  refine nc (Says3.cast hRR (spec_MoveStep (.slice a1 l.length i1) (.slice a2 c.length i2) l c task h _ (H1.below hM.below) (H2.below hM.below) hl hc)) ?_
  rintro e W5 ⟨u', x', rfl, hO1, hO2, hb⟩
  obtain ⟨v1, j1, r1, rfl, s1', s2', s3', s4', s9'⟩ := own_blk hO1 hz.1
  obtain ⟨v2, j2, r2, rfl, s5', s6', s7', s8', s0'⟩ := own_blk hO2 hz.2
  replace hM := hM.join (Mem.two hb s4' s8' s3' s7' ne_types)
  refine ⟨_, rfl, ?_⟩
  go_frame
  refine np (.agg #[.slice (some ⟨v1, 0, none⟩) ((stepR l c task h).1.length) j1, .slice (some ⟨v2, 0, none⟩) ((stepR l c task h).2.1.length) j2]) ?_
  refine np (.agg (HD.cells ((stepR l c task h).2.2.1)).toArray) ?_
  refine np (.bool ((stepR l c task h).2.2.2)) ?_
  refine nS hM 3 rfl [.slice (some ⟨v1, 0, none⟩) ((stepR l c task h).1.length) j1, .slice (some ⟨v2, 0, none⟩) ((stepR l c task h).2.1.length) j2] I_impl_Shared rfl ?_
  clear hM; intro W6 hM
  refine nS hM 2 rfl (HD.cells ((stepR l c task h).2.2.1)) I_impl_Hand (hd_one' _) ?_
  clear hM; intro W7 hM
  refine np (.bool ((stepR l c task h).2.2.2)) ?_
  go_frame
  refine wl_nil (cn7 _ _ ?_)
  clear cn7
  refine wp_ret ?_
  exact bodyPost_ret (ret3 (p := 6) (q := 7) (u := 8) (v := .bool ((stepR l c task h).2.2.2)) rfl hM 3 2 rfl rfl rfl rfl rfl) rfl ⟨_, _, rfl, own_nX (hM.blk 0 rfl) rfl s1' s2' (hM.base 0 rfl) hz.1 s9', own_iblk (hM.blk 1 rfl) s5' s6' (hM.base 1 rfl) hz.2 s0', hM.below⟩
theorem spec_Step (u x : Value) (l : List ND) (c : List Int) (task : Int) (h : HD) (w0 : World) (h1 : NSl w0 u l) (h2 : SlI w0 x c) (hl : l.length ≤ 1048576) (hc : c.length ≤ 1048576) :
    Calls Tryz.prog 84 #[.agg #[u, x], .int .i64 task, h.val] w0 (Says3 (stepR l c task h) w0) := by
  have hA : (1 ≤ h.at_ ∧ h.at_ ≤ 4) ∨ (5 ≤ h.at_ ∧ h.at_ ≤ 8) ∨ (9 ≤ h.at_ ∧ h.at_ ≤ 13) ∨ h.at_ = 22 ∨ h.at_ = 26 ∨ (h.at_ ≥ 14 ∧ h.at_ ≠ 22 ∧ h.at_ ≠ 26) ∨ h.at_ < 1 := by omega
  rcases stepR_both l c task h with hz | hz
  · rcases hA with hA | hA | hA | hA | hA | hA | hA
    · exact spec_Step0_0 u x l c task h w0 h1 h2 hl hc hz hA
    · exact spec_Step0_1 u x l c task h w0 h1 h2 hl hc hz hA
    · exact spec_Step0_2 u x l c task h w0 h1 h2 hl hc hz hA
    · exact spec_Step0_3 u x l c task h w0 h1 h2 hl hc hz hA
    · exact spec_Step0_4 u x l c task h w0 h1 h2 hl hc hz hA
    · exact spec_Step0_5 u x l c task h w0 h1 h2 hl hc hz hA
    · exact spec_Step0_6 u x l c task h w0 h1 h2 hl hc hz hA
  · rcases hA with hA | hA | hA | hA | hA | hA | hA
    · exact spec_Step1_0 u x l c task h w0 h1 h2 hl hc hz hA
    · exact spec_Step1_1 u x l c task h w0 h1 h2 hl hc hz hA
    · exact spec_Step1_2 u x l c task h w0 h1 h2 hl hc hz hA
    · exact spec_Step1_3 u x l c task h w0 h1 h2 hl hc hz hA
    · exact spec_Step1_4 u x l c task h w0 h1 h2 hl hc hz hA
    · exact spec_Step1_5 u x l c task h w0 h1 h2 hl hc hz hA
    · exact spec_Step1_6 u x l c task h w0 h1 h2 hl hc hz hA

end Go.Proofs.YtbfndoajchibbaaGreat
