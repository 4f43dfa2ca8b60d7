import Derived.Test.YtfjafncipjdnfaaGreatAsked
namespace Go.Proofs.YtfjafncipjdnfaaGreat
open Go.ChangeShapes Go.WideShapes Go.ChangeAt Go.RowKit
set_option linter.unusedVariables false
set_option linter.unusedSimpArgs false
theorem sK {l : List ND} {k : Nat} {n : ND} {o : Int} (h : PA l = true) (hn : l[k]? = some n) (ho : ZA o 0 6 = true) : PA (l.set k (SF n o)) = true := by
  have link : ∀ (m : ND) (many : Int), rB m many = true → rB (SF m o) many = true := fun m many hm => by
    simp only [rB, SF, Bool.and_eq_true] at hm ⊢
    exact ⟨⟨⟨⟨hm.1.1.1.1, hm.1.1.1.2⟩, ho⟩, hm.1.2⟩, hm.2⟩
  match l, h, hn with
  | m :: r, h, hn =>
    simp only [PA, Bool.and_eq_true, List.all_eq_true] at h
    cases k with
    | zero =>
      simp at hn
      subst hn
      simp only [List.set_cons_zero, PA, Bool.and_eq_true, List.all_eq_true]
      exact ⟨h.1, ⟨h.2.1.1, link _ _ h.2.1.2⟩, h.2.2⟩
    | succ k =>
      have hn' : r[k]? = some n := by simpa using hn
      simp only [List.set_cons_succ, PA, Bool.and_eq_true, List.all_eq_true, List.length_cons, List.length_set] at h ⊢
      refine ⟨h.1, h.2.1, fun x hx => ?_⟩
      rcases List.mem_or_eq_of_mem_set hx with hx | rfl
      · exact h.2.2 x hx
      · have := h.2.2 n (List.mem_of_getElem? hn')
        exact ⟨this.1, link _ _ this.2⟩
theorem zN {h : HD} {t : Int} (hh : SA h = true) (h1 : 1 ≤ h.at_) (ht : 1 ≤ t ∧ t ≤ 26) : SA { h with at_ := t } = true := by
  simp only [SA, jE, Bool.and_eq_true, Bool.or_eq_true] at hh ⊢
  obtain ⟨⟨⟨h2, h3⟩, h4⟩, h5⟩ := hh
  have hc : RC h.c h.k h.v = true := by
    rcases h3 with h3 | h3
    · exact h3
    · have := h3.1
      simp at this
      omega
  exact ⟨⟨⟨by simp [ZA]; omega, .inl hc⟩, h4⟩, h5⟩
def gE (h0 h : HD) : Prop := h.begin_ = 0 ∨ h.begin_ = h0.begin_
def eM (c0 : List Int) (h0 : HD) (R : JE) : Prop := R.2.2.2 = true → OA R.1 R.2.1 = true ∧ SA R.2.2.1 = true ∧ R.2.1.length = c0.length ∧ gE h0 R.2.2.1
theorem oN (c0 : List Int) (h0 : HD) : eM c0 h0 noR := fun h => by simp [noR] at h
theorem eC {l : List ND} {c c0 : List Int} {h h0 : HD} (hc : c.length = c0.length) (hb : gE h0 h) : eM c0 h0 (TA l c h) := by
  intro hk
  unfold TA at hk ⊢
  split at hk
  · rename_i h1
    rw [if_pos h1]
    simp only [Bool.and_eq_true] at h1
    exact ⟨h1.1, h1.2, hc, hb⟩
  · simp [noR] at hk
theorem PK (c : List Int) (task : Int) : (UG c task).length = c.length := by simp [UG]
theorem oO (l : List ND) (h : HD) : gE h (GC l h) := by
  unfold GC
  split
  · exact .inl rfl
  · split
    · exact .inl rfl
    · exact .inr rfl
theorem rO (l : List ND) (h : HD) : gE h (GD l h) := by
  unfold GD
  simp only []
  split <;> exact .inr rfl
theorem FN (h : HD) : gE h (uB h) := .inr rfl
theorem QK (l : List ND) (h : HD) : gE h (oB l h) := by
  unfold oB
  repeat' split
  all_goals exact .inr rfl
theorem BM (l : List ND) (h : HD) : gE h (UC l h) := by
  unfold UC
  repeat' split
  all_goals exact .inr rfl
theorem BL (l : List ND) (h : HD) : gE h (UB l h) := by
  unfold UB
  repeat' split
  all_goals exact .inr rfl
theorem bO (l : List ND) (h : HD) : gE h (ZB l h).2 := by
  unfold ZB
  split <;> exact .inr rfl
theorem doR_b (l : List ND) (task : Int) (h : HD) : gE h (NB l task h).2 := by
  unfold NB
  repeat' split
  all_goals first | exact .inr rfl | exact BM _ _ | exact BL _ _ | (unfold yD; split <;> exact .inr rfl) | (unfold zD; split <;> exact .inr rfl)
theorem nO (l : List ND) (task : Int) (h : HD) : gE h (KB l task h).2 := by
  unfold KB
  simp only []
  repeat' split
  all_goals first | exact .inr rfl | exact .inl rfl
theorem WN (c : List Int) (task : Int) (h : HD) : gE h (gC c task h).1 := by
  unfold gC
  repeat' split
  all_goals exact .inr rfl
theorem cG {l : List ND} {c : List Int} {task : Int} {h : HD} {a b at' then' : Int} (hk : QB l c task h a b = true) (ha : 1 ≤ a) (ht : 1 ≤ then' ∧ then' ≤ 26) : eM c h (QA l c task h at' then') := by
  intro hR
  have hk2 := hk
  simp only [QB, Bool.and_eq_true, OA] at hk
  obtain ⟨⟨⟨⟨⟨h1, h2⟩, h3⟩, h4⟩, h5⟩, h6⟩ := hk
  have h5' := QC h5
  have h4' := QC h4
  obtain ⟨c1, c2, -⟩ := AC h2
  unfold QA at hR ⊢
  split at hR
  · rename_i h7
    rw [if_pos h7]
    refine ⟨?_, zN h3 (by omega) ht, rfl, .inr rfl⟩
    unfold XC at h7 ⊢
    split at h7
    · rename_i h8
      rw [if_pos h8]
      split at h7
      · rename_i h9
        rw [if_pos h9]
        show OA (lF l at' (task + 1)) c = true
        simp only [OA, Bool.and_eq_true]
        refine ⟨?_, h2⟩
        unfold lF
        split
        · rename_i n hn
          exact sK h1 hn (by simp [ZA]; omega)
        · exact h1
      · simp at h7
    · simp at h7
  · simp at hR
theorem bL (l : List ND) (c : List Int) (task : Int) (h : HD) : eM c h (rA l c task h) := by
  have noB := oN c h
  unfold rA
  split
  · unfold YC
    repeat' split
    all_goals first | exact noB | exact eC (PK _ _) (.inr rfl) | exact eC rfl (rO _ _) | exact eC rfl (.inr rfl) | exact eC (PK _ _) (oO _ _)
  · split
    · unfold WC
      split
      · exact noB
      · rename_i hk
        have hk' : QB l c task h 5 8 = true := by simp at hk; exact hk.1.1
        repeat' split
        all_goals first | exact cG hk' (by omega) (by omega) | exact eC rfl (FN _) | exact eC rfl (.inr rfl) | exact eC rfl (bO _ _)
    · split
      · unfold NC
        split
        · exact noB
        · rename_i hk
          have hk' : QB l c task h 9 13 = true := by simp at hk; exact hk.1.1
          repeat' split
          all_goals first | exact cG hk' (by omega) (by omega) | exact eC rfl (QK _ _) | exact eC rfl (.inr rfl)
      · split
        · unfold iD
          split
          · exact noB
          · rename_i hk
            repeat' split
            all_goals first | exact eC rfl (nO _ _ _) | exact eC rfl (WN _ _ _) | exact (fun e => by simp at e)
        · unfold BI
          split
          · exact noB
          · rename_i hk
            have hk' : QB l c task h 14 25 = true := by simp at hk; exact hk.1.1.1.1.1
            repeat' split
            all_goals first | exact cG hk' (by omega) (by omega) | exact eC rfl (doR_b _ _ _)
theorem tD (w : WD) : JA w = true ↔ OA w.l w.c = true ∧ w.hs.length = w.c.length ∧ w.ds.length ≤ 1000 ∧ (0 ≤ w.now ∧ w.now ≤ 20000) ∧ (∀ h ∈ w.hs, SA h = true ∧ h.begin_ ≤ w.now) ∧ (∀ d ∈ w.ds, MC w.hs.length w.now d = true) := by
  simp only [JA, Bool.and_eq_true, List.all_eq_true, Bool.not_eq_true', decide_eq_false_iff_not, bne_eq_false_iff_eq]
  constructor
  · rintro ⟨⟨⟨⟨⟨h1, h2⟩, h3⟩, h4⟩, h5⟩, h6⟩
    exact ⟨h1, by omega, by omega, QC h4, fun h hh => ⟨(h5 h hh).1, by have := (h5 h hh).2; omega⟩, h6⟩
  · rintro ⟨h1, h2, h3, h4, h5, h6⟩
    exact ⟨⟨⟨⟨⟨h1, by omega⟩, by omega⟩, by simp [ZA]; omega⟩, fun h hh => ⟨(h5 h hh).1, by have := (h5 h hh).2; omega⟩⟩, h6⟩
theorem wD {d : WD} (h : JA d = true) : nF d := by
  obtain ⟨h1, h2, h3, -⟩ := (tD d).1 h
  simp only [OA, Bool.and_eq_true] at h1
  have := TB h1.1
  have := AC h1.2
  exact ⟨by omega, by omega, by omega, by omega⟩
theorem GF {many now now' : Int} {d : DD} (h : MC many now d = true) (hn : now ≤ now') : MC many now' d = true := by
  simp only [MC, Bool.and_eq_true] at h ⊢
  obtain ⟨⟨⟨⟨h1, h2⟩, h3⟩, h4⟩, h5⟩ := h
  have := QC h3
  have := QC h4
  exact ⟨⟨⟨⟨h1, h2⟩, by simp [ZA]; omega⟩, by simp [ZA]; omega⟩, h5⟩
theorem fG {d : WD} {who : Int} (hwho : 0 ≤ who ∧ who < d.hs.length) : jB d who ∈ d.hs := by
  have hk : who.toNat < d.hs.length := by omega
  unfold jB
  rw [List.getElem?_eq_getElem hk]
  exact List.getElem_mem hk
theorem RH {d : WD} {who : Int} (hd : JA d = true) (hwho : 0 ≤ who ∧ who < d.hs.length) : JA (IC d who).1 = true ∧ (IC d who).1.hs.length = d.hs.length := by
  obtain ⟨w1, w2, w3, w4, w5, w6⟩ := (tD d).1 hd
  have hb := (w5 _ (fG hwho)).2
  have hb0 := (w5 _ (fG hwho)).1
  unfold IC
  split
  · exact ⟨hd, rfl⟩
  · rename_i h1
    simp only [Bool.or_eq_true, Bool.not_eq_true', beq_iff_eq, not_or, Bool.not_eq_false] at h1
    obtain ⟨g1, g2, g3, g4⟩ := bL d.l d.c who (jB d who) h1.1
    have hn : d.now ≠ 20000 := h1.2
    generalize rA d.l d.c who (jB d who) = R at *
    have hbR : R.2.2.1.begin_ ≤ d.now + 1 := by
      rcases g4 with e | e <;> omega
    have hs : ∀ h ∈ d.hs.set who.toNat R.2.2.1, SA h = true ∧ h.begin_ ≤ d.now + 1 := fun h hh => by
      rcases List.mem_or_eq_of_mem_set hh with hh | rfl
      · exact ⟨(w5 h hh).1, by have := (w5 h hh).2; omega⟩
      · exact ⟨g2, hbR⟩
    split
    · refine ⟨(tD _).2 ⟨g1, ?_, w3, ⟨by simp; omega, by simp; omega⟩, hs, fun x hx => ?_⟩, by simp⟩
      · simp; omega
      · simp only [List.length_set]
        exact GF (w6 x hx) (by show d.now ≤ d.now + 1; omega)
    · split
      · exact ⟨hd, rfl⟩
      · rename_i h2 h3
        simp only [Bool.or_eq_true, Bool.not_eq_true', decide_eq_true_eq, not_or, Bool.not_eq_false] at h3
        refine ⟨(tD _).2 ⟨g1, ?_, ?_, ⟨by simp; omega, by simp; omega⟩, hs, fun x hx => ?_⟩, by simp⟩
        · simp; omega
        · simp; omega
        · simp only [List.length_set]
          rcases List.mem_append.1 hx with hx | hx
          · exact GF (w6 x hx) (by show d.now ≤ d.now + 1; omega)
          · simp only [List.mem_singleton] at hx
            subst hx
            simp only [SA, pD, Bool.and_eq_true] at hb0 g2
            have hb1 := QC hb0.2.1.1.2
            have ho := QC g2.2.2
            simp only [MC, Bool.and_eq_true]
            exact ⟨⟨⟨⟨by simp [ZA]; omega, h3.2⟩, by simp [ZA]; omega⟩, by simp [ZA]; omega⟩, by simp [ZA]; omega⟩
theorem QJ {d : WD} {who c k v : Int} (hd : JA d = true) (hwho : 0 ≤ who ∧ who < d.hs.length) : JA (kB d who c k v).1 = true ∧ (kB d who c k v).1.hs.length = d.hs.length := by
  obtain ⟨w1, w2, w3, w4, w5, w6⟩ := (tD d).1 hd
  have hb0 := (w5 _ (fG hwho)).1
  have hi : ZA who 0 ((d.hs.length : Int) - 1) = true := by simp [ZA]; omega
  unfold kB
  rw [if_neg (by simp [hd, hi])]
  split
  · exact ⟨hd, rfl⟩
  · rename_i h1
    split
    · exact ⟨hd, rfl⟩
    · rename_i h2
      simp only [beq_iff_eq] at h2
      have hc : xA (jB d who) c k v = (IL c k v, 0) ∧ RC c k v = true := by
        unfold xA at h1 ⊢
        rw [if_neg (by simp [hb0])] at h1 ⊢
        split at h1
        · simp at h1
        · rename_i h3
          rw [if_neg h3]
          split at h1
          · simp at h1
          · rename_i h4
            rw [if_neg h4]
            exact ⟨rfl, by simpa using h4⟩
      rw [hc.1]
      refine ⟨(tD _).2 ⟨w1, by simp; omega, w3, ⟨by simp; omega, by simp; omega⟩, fun h hh => ?_, fun x hx => ?_⟩, by simp⟩
      · rcases List.mem_or_eq_of_mem_set hh with hh | rfl
        · exact ⟨(w5 h hh).1, by have := (w5 h hh).2; simp; omega⟩
        · refine ⟨?_, by simp⟩
          have e1 : ZA (d.now + 1) 0 20000 = true := by simp [ZA]; omega
          simp [SA, jE, pD, zG, IL, hc.2, e1, ZA]
          omega
      · simp only [List.length_set]
        exact GF (w6 x hx) (by show d.now ≤ d.now + 1; omega)
end Go.Proofs.YtfjafncipjdnfaaGreat
