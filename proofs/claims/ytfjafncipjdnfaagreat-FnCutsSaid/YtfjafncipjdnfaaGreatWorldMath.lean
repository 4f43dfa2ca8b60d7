import Derived.Test.YtfjafncipjdnfaaGreatAsked
namespace Go.Proofs.YtfjafncipjdnfaaGreat
open Go.ChangeShapes Go.WideShapes Go.ChangeAt Go.RowKit
set_option linter.unusedVariables false
set_option linter.unusedSimpArgs false
theorem TH {l : List ND} {k : Nat} {n : ND} {o : Int} (h : FB l = true) (hn : l[k]? = some n) (ho : XA o 0 6 = true) : FB (l.set k (SE n o)) = true := by
  have link : ∀ (m : ND) (many : Int), MB m many = true → MB (SE m o) many = true := fun m many hm => by
    simp only [MB, SE, Bool.and_eq_true] at hm ⊢
    exact ⟨⟨⟨⟨hm.1.1.1.1, hm.1.1.1.2⟩, ho⟩, hm.1.2⟩, hm.2⟩
  match l, h, hn with
  | m :: r, h, hn =>
    simp only [FB, Bool.and_eq_true, List.all_eq_true] at h
    cases k with
    | zero =>
      simp at hn
      subst hn
      simp only [List.set_cons_zero, FB, Bool.and_eq_true, List.all_eq_true]
      exact ⟨h.1, ⟨h.2.1.1, link _ _ h.2.1.2⟩, h.2.2⟩
    | succ k =>
      have hn' : r[k]? = some n := by simpa using hn
      simp only [List.set_cons_succ, FB, Bool.and_eq_true, List.all_eq_true, List.length_cons, List.length_set] at h ⊢
      refine ⟨h.1, h.2.1, fun x hx => ?_⟩
      rcases List.mem_or_eq_of_mem_set hx with hx | rfl
      · exact h.2.2 x hx
      · have := h.2.2 n (List.mem_of_getElem? hn')
        exact ⟨this.1, link _ _ this.2⟩
theorem EL {h : HD} {t : Int} (hh : UA h = true) (h1 : 1 ≤ h.at_) (ht : 1 ≤ t ∧ t ≤ 26) : UA { h with at_ := t } = true := by
  simp only [UA, CE, Bool.and_eq_true, Bool.or_eq_true] at hh ⊢
  obtain ⟨⟨⟨h2, h3⟩, h4⟩, h5⟩ := hh
  have hc : PB h.c h.k h.v = true := by
    rcases h3 with h3 | h3
    · exact h3
    · have := h3.1
      simp at this
      omega
  exact ⟨⟨⟨by simp [XA]; omega, .inl hc⟩, h4⟩, h5⟩
def JE (h0 h : HD) : Prop := h.begin_ = 0 ∨ h.begin_ = h0.begin_
def ZM (c0 : List Int) (h0 : HD) (R : KE) : Prop := R.2.2.2 = true → NA R.1 R.2.1 = true ∧ UA R.2.2.1 = true ∧ R.2.1.length = c0.length ∧ JE h0 R.2.2.1
theorem iO (c0 : List Int) (h0 : HD) : ZM c0 h0 noR := fun h => by simp [noR] at h
theorem DC {l : List ND} {c c0 : List Int} {h h0 : HD} (hc : c.length = c0.length) (hb : JE h0 h) : ZM c0 h0 (RA l c h) := by
  intro hk
  unfold RA at hk ⊢
  split at hk
  · rename_i h1
    rw [if_pos h1]
    simp only [Bool.and_eq_true] at h1
    exact ⟨h1.1, h1.2, hc, hb⟩
  · simp [noR] at hk
theorem JL (c : List Int) (task : Int) : (JH c task).length = c.length := by simp [JH]
theorem cP (l : List ND) (h : HD) : JE h (dD l h) := by
  unfold dD
  split
  · exact .inl rfl
  · split
    · exact .inl rfl
    · exact .inr rfl
theorem dP (l : List ND) (h : HD) : JE h (nE l h) := by
  unfold nE
  simp only []
  split <;> exact .inr rfl
theorem zO (h : HD) : JE h (pB h) := .inr rfl
theorem KL (l : List ND) (h : HD) : JE h (QA l h) := by
  unfold QA
  repeat' split
  all_goals exact .inr rfl
theorem yN (l : List ND) (h : HD) : JE h (qD l h) := by
  unfold qD
  repeat' split
  all_goals exact .inr rfl
theorem wM (l : List ND) (h : HD) : JE h (jC l h) := by
  unfold jC
  repeat' split
  all_goals exact .inr rfl
theorem QO (l : List ND) (h : HD) : JE h (uC l h).2 := by
  unfold uC
  split <;> exact .inr rfl
theorem doR_b (l : List ND) (task : Int) (h : HD) : JE h (aC l task h).2 := by
  unfold aC
  repeat' split
  all_goals first | exact .inr rfl | exact yN _ _ | exact wM _ _ | (unfold dE; split <;> exact .inr rfl) | (unfold eE; split <;> exact .inr rfl)
theorem bP (l : List ND) (task : Int) (h : HD) : JE h (VB l task h).2 := by
  unfold VB
  simp only []
  repeat' split
  all_goals first | exact .inr rfl | exact .inl rfl
theorem OO (c : List Int) (task : Int) (h : HD) : JE h (GC c task h).1 := by
  unfold GC
  repeat' split
  all_goals exact .inr rfl
theorem MG {l : List ND} {c : List Int} {task : Int} {h : HD} {a b at' then' : Int} (hk : QB l c task h a b = true) (ha : 1 ≤ a) (ht : 1 ≤ then' ∧ then' ≤ 26) : ZM c h (VA l c task h at' then') := by
  intro hR
  have hk2 := hk
  simp only [QB, Bool.and_eq_true, NA] at hk
  obtain ⟨⟨⟨⟨⟨h1, h2⟩, h3⟩, h4⟩, h5⟩, h6⟩ := hk
  have h5' := PC h5
  have h4' := PC h4
  obtain ⟨c1, c2, -⟩ := ZB h2
  unfold VA at hR ⊢
  split at hR
  · rename_i h7
    rw [if_pos h7]
    refine ⟨?_, EL h3 (by omega) ht, rfl, .inr rfl⟩
    unfold rB at h7 ⊢
    split at h7
    · rename_i h8
      rw [if_pos h8]
      split at h7
      · rename_i h9
        rw [if_pos h9]
        show NA (CD l at' (task + 1)) c = true
        simp only [NA, Bool.and_eq_true]
        refine ⟨?_, h2⟩
        unfold CD
        split
        · rename_i n hn
          exact TH h1 hn (by simp [XA]; omega)
        · exact h1
      · simp at h7
    · simp at h7
  · simp at hR
theorem cM (l : List ND) (c : List Int) (task : Int) (h : HD) : ZM c h (vA l c task h) := by
  have noB := iO c h
  unfold vA
  split
  · unfold wD
    repeat' split
    all_goals first | exact noB | exact DC (JL _ _) (.inr rfl) | exact DC rfl (dP _ _) | exact DC rfl (.inr rfl) | exact DC (JL _ _) (cP _ _)
  · split
    · unfold sD
      split
      · exact noB
      · rename_i hk
        have hk' : QB l c task h 5 8 = true := by simp at hk; exact hk.1.1
        repeat' split
        all_goals first | exact MG hk' (by omega) (by omega) | exact DC rfl (zO _) | exact DC rfl (.inr rfl) | exact DC rfl (QO _ _)
    · split
      · unfold yC
        split
        · exact noB
        · rename_i hk
          have hk' : QB l c task h 9 13 = true := by simp at hk; exact hk.1.1
          repeat' split
          all_goals first | exact MG hk' (by omega) (by omega) | exact DC rfl (KL _ _) | exact DC rfl (.inr rfl)
      · split
        · unfold GD
          split
          · exact noB
          · rename_i hk
            repeat' split
            all_goals first | exact DC rfl (bP _ _ _) | exact DC rfl (OO _ _ _) | exact (fun e => by simp at e)
        · unfold vJ
          split
          · exact noB
          · rename_i hk
            have hk' : QB l c task h 14 25 = true := by simp at hk; exact hk.1.1.1.1.1
            repeat' split
            all_goals first | exact MG hk' (by omega) (by omega) | exact DC rfl (doR_b _ _ _)
theorem XD (w : WD) : MA w = true ↔ NA w.l w.c = true ∧ w.hs.length = w.c.length ∧ w.ds.length ≤ 1000 ∧ (0 ≤ w.now ∧ w.now ≤ 20000) ∧ (∀ h ∈ w.hs, UA h = true ∧ h.begin_ ≤ w.now) ∧ (∀ d ∈ w.ds, jD w.hs.length w.now d = true) := by
  simp only [MA, Bool.and_eq_true, List.all_eq_true, Bool.not_eq_true', decide_eq_false_iff_not, bne_eq_false_iff_eq]
  constructor
  · rintro ⟨⟨⟨⟨⟨h1, h2⟩, h3⟩, h4⟩, h5⟩, h6⟩
    exact ⟨h1, by omega, by omega, PC h4, fun h hh => ⟨(h5 h hh).1, by have := (h5 h hh).2; omega⟩, h6⟩
  · rintro ⟨h1, h2, h3, h4, h5, h6⟩
    exact ⟨⟨⟨⟨⟨h1, by omega⟩, by omega⟩, by simp [XA]; omega⟩, fun h hh => ⟨(h5 h hh).1, by have := (h5 h hh).2; omega⟩⟩, h6⟩
theorem dB {d : WD} (h : MA d = true) : IE d := by
  obtain ⟨h1, h2, h3, -⟩ := (XD d).1 h
  simp only [NA, Bool.and_eq_true] at h1
  have := gB h1.1
  have := ZB h1.2
  exact ⟨by omega, by omega, by omega, by omega⟩
theorem oG {many now now' : Int} {d : DD} (h : jD many now d = true) (hn : now ≤ now') : jD many now' d = true := by
  simp only [jD, Bool.and_eq_true] at h ⊢
  obtain ⟨⟨⟨⟨h1, h2⟩, h3⟩, h4⟩, h5⟩ := h
  have := PC h3
  have := PC h4
  exact ⟨⟨⟨⟨h1, h2⟩, by simp [XA]; omega⟩, by simp [XA]; omega⟩, h5⟩
theorem QG {d : WD} {who : Int} (hwho : 0 ≤ who ∧ who < d.hs.length) : oB d who ∈ d.hs := by
  have hk : who.toNat < d.hs.length := by omega
  unfold oB
  rw [List.getElem?_eq_getElem hk]
  exact List.getElem_mem hk
theorem PG {d : WD} {who : Int} (hd : MA d = true) (hwho : 0 ≤ who ∧ who < d.hs.length) : MA (JC d who).1 = true ∧ (JC d who).1.hs.length = d.hs.length := by
  obtain ⟨w1, w2, w3, w4, w5, w6⟩ := (XD d).1 hd
  have hb := (w5 _ (QG hwho)).2
  have hb0 := (w5 _ (QG hwho)).1
  unfold JC
  split
  · exact ⟨hd, rfl⟩
  · rename_i h1
    simp only [Bool.or_eq_true, Bool.not_eq_true', beq_iff_eq, not_or, Bool.not_eq_false] at h1
    obtain ⟨g1, g2, g3, g4⟩ := cM d.l d.c who (oB d who) h1.1
    have hn : d.now ≠ 20000 := h1.2
    generalize vA d.l d.c who (oB d who) = R at *
    have hbR : R.2.2.1.begin_ ≤ d.now + 1 := by
      rcases g4 with e | e <;> omega
    have hs : ∀ h ∈ d.hs.set who.toNat R.2.2.1, UA h = true ∧ h.begin_ ≤ d.now + 1 := fun h hh => by
      rcases List.mem_or_eq_of_mem_set hh with hh | rfl
      · exact ⟨(w5 h hh).1, by have := (w5 h hh).2; omega⟩
      · exact ⟨g2, hbR⟩
    split
    · refine ⟨(XD _).2 ⟨g1, ?_, w3, ⟨by simp; omega, by simp; omega⟩, hs, fun x hx => ?_⟩, by simp⟩
      · simp; omega
      · simp only [List.length_set]
        exact oG (w6 x hx) (by show d.now ≤ d.now + 1; omega)
    · split
      · exact ⟨hd, rfl⟩
      · rename_i h2 h3
        simp only [Bool.or_eq_true, Bool.not_eq_true', decide_eq_true_eq, not_or, Bool.not_eq_false] at h3
        refine ⟨(XD _).2 ⟨g1, ?_, ?_, ⟨by simp; omega, by simp; omega⟩, hs, fun x hx => ?_⟩, by simp⟩
        · simp; omega
        · simp; omega
        · simp only [List.length_set]
          rcases List.mem_append.1 hx with hx | hx
          · exact oG (w6 x hx) (by show d.now ≤ d.now + 1; omega)
          · simp only [List.mem_singleton] at hx
            subst hx
            simp only [UA, JD, Bool.and_eq_true] at hb0 g2
            have hb1 := PC hb0.2.1.1.2
            have ho := PC g2.2.2
            simp only [jD, Bool.and_eq_true]
            exact ⟨⟨⟨⟨by simp [XA]; omega, h3.2⟩, by simp [XA]; omega⟩, by simp [XA]; omega⟩, by simp [XA]; omega⟩
theorem RF {d : WD} {who c k v : Int} (hd : MA d = true) (hwho : 0 ≤ who ∧ who < d.hs.length) : MA (CA d who c k v).1 = true ∧ (CA d who c k v).1.hs.length = d.hs.length := by
  obtain ⟨w1, w2, w3, w4, w5, w6⟩ := (XD d).1 hd
  have hb0 := (w5 _ (QG hwho)).1
  have hi : XA who 0 ((d.hs.length : Int) - 1) = true := by simp [XA]; omega
  unfold CA
  rw [if_neg (by simp [hd, hi])]
  split
  · exact ⟨hd, rfl⟩
  · rename_i h1
    split
    · exact ⟨hd, rfl⟩
    · rename_i h2
      simp only [beq_iff_eq] at h2
      have hc : zA (oB d who) c k v = (BM c k v, 0) ∧ PB c k v = true := by
        unfold zA at h1 ⊢
        rw [if_neg (by simp [hb0])] at h1 ⊢
        split at h1
        · simp at h1
        · rename_i h3
          rw [if_neg h3]
          split at h1
          · simp at h1
          · rename_i h4
            rw [if_neg h4]
            exact ⟨rfl, by simpa using h4⟩
      rw [hc.1]
      refine ⟨(XD _).2 ⟨w1, by simp; omega, w3, ⟨by simp; omega, by simp; omega⟩, fun h hh => ?_, fun x hx => ?_⟩, by simp⟩
      · rcases List.mem_or_eq_of_mem_set hh with hh | rfl
        · exact ⟨(w5 h hh).1, by have := (w5 h hh).2; simp; omega⟩
        · refine ⟨?_, by simp⟩
          have e1 : XA (d.now + 1) 0 20000 = true := by simp [XA]; omega
          simp [UA, CE, JD, yG, BM, hc.2, e1, XA]
          omega
      · simp only [List.length_set]
        exact oG (w6 x hx) (by show d.now ≤ d.now + 1; omega)
end Go.Proofs.YtfjafncipjdnfaaGreat
