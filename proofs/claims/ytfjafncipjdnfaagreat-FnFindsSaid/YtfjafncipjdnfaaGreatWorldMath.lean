import Derived.Test.YtfjafncipjdnfaaGreatAsked
namespace Go.Proofs.YtfjafncipjdnfaaGreat
open Go.ChangeShapes Go.WideShapes Go.ChangeAt Go.RowKit
set_option linter.unusedVariables false
set_option linter.unusedSimpArgs false
theorem KL {l : List ND} {k : Nat} {n : ND} {o : Int} (h : YA l = true) (hn : l[k]? = some n) (ho : aB o 0 6 = true) : YA (l.set k (KG n o)) = true := by
  have link : ∀ (m : ND) (many : Int), AB m many = true → AB (KG m o) many = true := fun m many hm => by
    simp only [AB, KG, Bool.and_eq_true] at hm ⊢
    exact ⟨⟨⟨⟨hm.1.1.1.1, hm.1.1.1.2⟩, ho⟩, hm.1.2⟩, hm.2⟩
  match l, h, hn with
  | m :: r, h, hn =>
    simp only [YA, Bool.and_eq_true, List.all_eq_true] at h
    cases k with
    | zero =>
      simp at hn
      subst hn
      simp only [List.set_cons_zero, YA, Bool.and_eq_true, List.all_eq_true]
      exact ⟨h.1, ⟨h.2.1.1, link _ _ h.2.1.2⟩, h.2.2⟩
    | succ k =>
      have hn' : r[k]? = some n := by simpa using hn
      simp only [List.set_cons_succ, YA, Bool.and_eq_true, List.all_eq_true, List.length_cons, List.length_set] at h ⊢
      refine ⟨h.1, h.2.1, fun x hx => ?_⟩
      rcases List.mem_or_eq_of_mem_set hx with hx | rfl
      · exact h.2.2 x hx
      · have := h.2.2 n (List.mem_of_getElem? hn')
        exact ⟨this.1, link _ _ this.2⟩
theorem PO {h : HD} {t : Int} (hh : TA h = true) (h1 : 1 ≤ h.at_) (ht : 1 ≤ t ∧ t ≤ 26) : TA { h with at_ := t } = true := by
  simp only [TA, gE, Bool.and_eq_true, Bool.or_eq_true] at hh ⊢
  obtain ⟨⟨⟨h2, h3⟩, h4⟩, h5⟩ := hh
  have hc : IB h.c h.k h.v = true := by
    rcases h3 with h3 | h3
    · exact h3
    · have := h3.1
      simp at this
      omega
  exact ⟨⟨⟨by simp [aB]; omega, .inl hc⟩, h4⟩, h5⟩
def NE (h0 h : HD) : Prop := h.begin_ = 0 ∨ h.begin_ = h0.begin_
def rN (c0 : List Int) (h0 : HD) (R : wF) : Prop := R.2.2.2 = true → PA R.1 R.2.1 = true ∧ TA R.2.2.1 = true ∧ R.2.1.length = c0.length ∧ NE h0 R.2.2.1
theorem CO (c0 : List Int) (h0 : HD) : rN c0 h0 noR := fun h => by simp [noR] at h
theorem JC {l : List ND} {c c0 : List Int} {h h0 : HD} (hc : c.length = c0.length) (hb : NE h0 h) : rN c0 h0 (UA l c h) := by
  intro hk
  unfold UA at hk ⊢
  split at hk
  · rename_i h1
    rw [if_pos h1]
    simp only [Bool.and_eq_true] at h1
    exact ⟨h1.1, h1.2, hc, hb⟩
  · simp [noR] at hk
theorem dM (c : List Int) (task : Int) : (YD c task).length = c.length := by simp [YD]
theorem zP (l : List ND) (h : HD) : NE h (fC l h) := by
  unfold fC
  split
  · exact .inl rfl
  · split
    · exact .inl rfl
    · exact .inr rfl
theorem AP (l : List ND) (h : HD) : NE h (DC l h) := by
  unfold DC
  simp only []
  split <;> exact .inr rfl
theorem TO (h : HD) : NE h (EB h) := .inr rfl
theorem fM (l : List ND) (h : HD) : NE h (CB l h) := by
  unfold CB
  repeat' split
  all_goals exact .inr rfl
theorem QN (l : List ND) (h : HD) : NE h (wD l h) := by
  unfold wD
  repeat' split
  all_goals exact .inr rfl
theorem JM (l : List ND) (h : HD) : NE h (rC l h) := by
  unfold rC
  repeat' split
  all_goals exact .inr rfl
theorem pP (l : List ND) (h : HD) : NE h (AC l h).2 := by
  unfold AC
  split <;> exact .inr rfl
theorem doR_b (l : List ND) (task : Int) (h : HD) : NE h (ZB l task h).2 := by
  unfold ZB
  repeat' split
  all_goals first | exact .inr rfl | exact QN _ _ | exact JM _ _ | (unfold eE; split <;> exact .inr rfl) | (unfold fE; split <;> exact .inr rfl)
theorem yP (l : List ND) (task : Int) (h : HD) : NE h (SB l task h).2 := by
  unfold SB
  simp only []
  repeat' split
  all_goals first | exact .inr rfl | exact .inl rfl
theorem fP (c : List Int) (task : Int) (h : HD) : NE h (KC c task h).1 := by
  unfold KC
  repeat' split
  all_goals exact .inr rfl
theorem VG {l : List ND} {c : List Int} {task : Int} {h : HD} {a b at' then' : Int} (hk : QB l c task h a b = true) (ha : 1 ≤ a) (ht : 1 ≤ then' ∧ then' ≤ 26) : rN c h (dB l c task h at' then') := by
  intro hR
  have hk2 := hk
  simp only [QB, Bool.and_eq_true, PA] at hk
  obtain ⟨⟨⟨⟨⟨h1, h2⟩, h3⟩, h4⟩, h5⟩, h6⟩ := hk
  have h5' := NC h5
  have h4' := NC h4
  obtain ⟨c1, c2, -⟩ := mC h2
  unfold dB at hR ⊢
  split at hR
  · rename_i h7
    rw [if_pos h7]
    refine ⟨?_, PO h3 (by omega) ht, rfl, .inr rfl⟩
    unfold AD at h7 ⊢
    split at h7
    · rename_i h8
      rw [if_pos h8]
      split at h7
      · rename_i h9
        rw [if_pos h9]
        show PA (bG l at' (task + 1)) c = true
        simp only [PA, Bool.and_eq_true]
        refine ⟨?_, h2⟩
        unfold bG
        split
        · rename_i n hn
          exact KL h1 hn (by simp [aB]; omega)
        · exact h1
      · simp at h7
    · simp at h7
  · simp at hR
theorem pM (l : List ND) (c : List Int) (task : Int) (h : HD) : rN c h (wA l c task h) := by
  have noB := CO c h
  unfold wA
  split
  · unfold XB
    repeat' split
    all_goals first | exact noB | exact JC (dM _ _) (.inr rfl) | exact JC rfl (AP _ _) | exact JC rfl (.inr rfl) | exact JC (dM _ _) (zP _ _)
  · split
    · unfold zD
      split
      · exact noB
      · rename_i hk
        have hk' : QB l c task h 5 8 = true := by simp at hk; exact hk.1.1
        repeat' split
        all_goals first | exact VG hk' (by omega) (by omega) | exact JC rfl (TO _) | exact JC rfl (.inr rfl) | exact JC rfl (pP _ _)
    · split
      · unfold sD
        split
        · exact noB
        · rename_i hk
          have hk' : QB l c task h 9 13 = true := by simp at hk; exact hk.1.1
          repeat' split
          all_goals first | exact VG hk' (by omega) (by omega) | exact JC rfl (fM _ _) | exact JC rfl (.inr rfl)
      · split
        · unfold LD
          split
          · exact noB
          · rename_i hk
            repeat' split
            all_goals first | exact JC rfl (yP _ _ _) | exact JC rfl (fP _ _ _) | exact (fun e => by simp at e)
        · unfold MJ
          split
          · exact noB
          · rename_i hk
            have hk' : QB l c task h 14 25 = true := by simp at hk; exact hk.1.1.1.1.1
            repeat' split
            all_goals first | exact VG hk' (by omega) (by omega) | exact JC rfl (doR_b _ _ _)
theorem aE (w : WD) : LA w = true ↔ PA w.l w.c = true ∧ w.hs.length = w.c.length ∧ w.ds.length ≤ 1000 ∧ (0 ≤ w.now ∧ w.now ≤ 20000) ∧ (∀ h ∈ w.hs, TA h = true ∧ h.begin_ ≤ w.now) ∧ (∀ d ∈ w.ds, rD w.hs.length w.now d = true) := by
  simp only [LA, Bool.and_eq_true, List.all_eq_true, Bool.not_eq_true', decide_eq_false_iff_not, bne_eq_false_iff_eq]
  constructor
  · rintro ⟨⟨⟨⟨⟨h1, h2⟩, h3⟩, h4⟩, h5⟩, h6⟩
    exact ⟨h1, by omega, by omega, NC h4, fun h hh => ⟨(h5 h hh).1, by have := (h5 h hh).2; omega⟩, h6⟩
  · rintro ⟨h1, h2, h3, h4, h5, h6⟩
    exact ⟨⟨⟨⟨⟨h1, by omega⟩, by omega⟩, by simp [aB]; omega⟩, fun h hh => ⟨(h5 h hh).1, by have := (h5 h hh).2; omega⟩⟩, h6⟩
theorem XA {d : WD} (h : LA d = true) : xE d := by
  obtain ⟨h1, h2, h3, -⟩ := (aE d).1 h
  simp only [PA, Bool.and_eq_true] at h1
  have := uB h1.1
  have := mC h1.2
  exact ⟨by omega, by omega, by omega, by omega⟩
theorem yG {many now now' : Int} {d : DD} (h : rD many now d = true) (hn : now ≤ now') : rD many now' d = true := by
  simp only [rD, Bool.and_eq_true] at h ⊢
  obtain ⟨⟨⟨⟨h1, h2⟩, h3⟩, h4⟩, h5⟩ := h
  have := NC h3
  have := NC h4
  exact ⟨⟨⟨⟨h1, h2⟩, by simp [aB]; omega⟩, by simp [aB]; omega⟩, h5⟩
theorem bH {d : WD} {who : Int} (hwho : 0 ≤ who ∧ who < d.hs.length) : tB d who ∈ d.hs := by
  have hk : who.toNat < d.hs.length := by omega
  unfold tB
  rw [List.getElem?_eq_getElem hk]
  exact List.getElem_mem hk
theorem XG {d : WD} {who : Int} (hd : LA d = true) (hwho : 0 ≤ who ∧ who < d.hs.length) : LA (MC d who).1 = true ∧ (MC d who).1.hs.length = d.hs.length := by
  obtain ⟨w1, w2, w3, w4, w5, w6⟩ := (aE d).1 hd
  have hb := (w5 _ (bH hwho)).2
  have hb0 := (w5 _ (bH hwho)).1
  unfold MC
  split
  · exact ⟨hd, rfl⟩
  · rename_i h1
    simp only [Bool.or_eq_true, Bool.not_eq_true', beq_iff_eq, not_or, Bool.not_eq_false] at h1
    obtain ⟨g1, g2, g3, g4⟩ := pM d.l d.c who (tB d who) h1.1
    have hn : d.now ≠ 20000 := h1.2
    generalize wA d.l d.c who (tB d who) = R at *
    have hbR : R.2.2.1.begin_ ≤ d.now + 1 := by
      rcases g4 with e | e <;> omega
    have hs : ∀ h ∈ d.hs.set who.toNat R.2.2.1, TA h = true ∧ h.begin_ ≤ d.now + 1 := fun h hh => by
      rcases List.mem_or_eq_of_mem_set hh with hh | rfl
      · exact ⟨(w5 h hh).1, by have := (w5 h hh).2; omega⟩
      · exact ⟨g2, hbR⟩
    split
    · refine ⟨(aE _).2 ⟨g1, ?_, w3, ⟨by simp; omega, by simp; omega⟩, hs, fun x hx => ?_⟩, by simp⟩
      · simp; omega
      · simp only [List.length_set]
        exact yG (w6 x hx) (by show d.now ≤ d.now + 1; omega)
    · split
      · exact ⟨hd, rfl⟩
      · rename_i h2 h3
        simp only [Bool.or_eq_true, Bool.not_eq_true', decide_eq_true_eq, not_or, Bool.not_eq_false] at h3
        refine ⟨(aE _).2 ⟨g1, ?_, ?_, ⟨by simp; omega, by simp; omega⟩, hs, fun x hx => ?_⟩, by simp⟩
        · simp; omega
        · simp; omega
        · simp only [List.length_set]
          rcases List.mem_append.1 hx with hx | hx
          · exact yG (w6 x hx) (by show d.now ≤ d.now + 1; omega)
          · simp only [List.mem_singleton] at hx
            subst hx
            simp only [TA, BD, Bool.and_eq_true] at hb0 g2
            have hb1 := NC hb0.2.1.1.2
            have ho := NC g2.2.2
            simp only [rD, Bool.and_eq_true]
            exact ⟨⟨⟨⟨by simp [aB]; omega, h3.2⟩, by simp [aB]; omega⟩, by simp [aB]; omega⟩, by simp [aB]; omega⟩
theorem RE {d : WD} {who c k v : Int} (hd : LA d = true) (hwho : 0 ≤ who ∧ who < d.hs.length) : LA (yA d who c k v).1 = true ∧ (yA d who c k v).1.hs.length = d.hs.length := by
  obtain ⟨w1, w2, w3, w4, w5, w6⟩ := (aE d).1 hd
  have hb0 := (w5 _ (bH hwho)).1
  have hi : aB who 0 ((d.hs.length : Int) - 1) = true := by simp [aB]; omega
  unfold yA
  rw [if_neg (by simp [hd, hi])]
  split
  · exact ⟨hd, rfl⟩
  · rename_i h1
    split
    · exact ⟨hd, rfl⟩
    · rename_i h2
      simp only [beq_iff_eq] at h2
      have hc : BA (tB d who) c k v = (OM c k v, 0) ∧ IB c k v = true := by
        unfold BA at h1 ⊢
        rw [if_neg (by simp [hb0])] at h1 ⊢
        split at h1
        · simp at h1
        · rename_i h3
          rw [if_neg h3]
          split at h1
          · simp at h1
          · rename_i h4
            rw [if_neg h4]
            exact ⟨rfl, by simpa using h4⟩
      rw [hc.1]
      refine ⟨(aE _).2 ⟨w1, by simp; omega, w3, ⟨by simp; omega, by simp; omega⟩, fun h hh => ?_, fun x hx => ?_⟩, by simp⟩
      · rcases List.mem_or_eq_of_mem_set hh with hh | rfl
        · exact ⟨(w5 h hh).1, by have := (w5 h hh).2; simp; omega⟩
        · refine ⟨?_, by simp⟩
          have e1 : aB (d.now + 1) 0 20000 = true := by simp [aB]; omega
          simp [TA, gE, BD, TF, OM, hc.2, e1, aB]
          omega
      · simp only [List.length_set]
        exact yG (w6 x hx) (by show d.now ≤ d.now + 1; omega)
end Go.Proofs.YtfjafncipjdnfaaGreat
