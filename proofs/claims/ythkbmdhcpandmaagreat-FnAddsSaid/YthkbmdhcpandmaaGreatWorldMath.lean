import Derived.Test.YthkbmdhcpandmaaGreatStep11
import Derived.Test.YthkbmdhcpandmaaGreatAsked
namespace Go.Proofs.YthkbmdhcpandmaaGreat
open Go.ChangeShapes Go.WideShapes Go.ChangeAt Go.RowKit
set_option linter.unusedVariables false
set_option linter.unusedSimpArgs false
theorem nodesB_setO {l : List ND} {k : Nat} {n : ND} {o : Int} (h : nodesB l = true) (hn : l[k]? = some n) (ho : inB o 0 6 = true) : nodesB (l.set k (setO n o)) = true := by
  have link : ∀ (m : ND) (many : Int), linkB m many = true → linkB (setO m o) many = true := fun m many hm => by
    simp only [linkB, setO, Bool.and_eq_true] at hm ⊢
    exact ⟨⟨⟨⟨hm.1.1.1.1, hm.1.1.1.2⟩, ho⟩, hm.1.2⟩, hm.2⟩
  match l, h, hn with
  | m :: r, h, hn =>
    simp only [nodesB, Bool.and_eq_true, List.all_eq_true] at h
    cases k with
    | zero =>
      simp at hn
      subst hn
      simp only [List.set_cons_zero, nodesB, Bool.and_eq_true, List.all_eq_true]
      exact ⟨h.1, ⟨h.2.1.1, link _ _ h.2.1.2⟩, h.2.2⟩
    | succ k =>
      have hn' : r[k]? = some n := by simpa using hn
      simp only [List.set_cons_succ, nodesB, Bool.and_eq_true, List.all_eq_true, List.length_cons, List.length_set] at h ⊢
      refine ⟨h.1, h.2.1, fun x hx => ?_⟩
      rcases List.mem_or_eq_of_mem_set hx with hx | rfl
      · exact h.2.2 x hx
      · have := h.2.2 n (List.mem_of_getElem? hn')
        exact ⟨this.1, link _ _ this.2⟩
theorem handB_at {h : HD} {t : Int} (hh : handB h = true) (h1 : 1 ≤ h.at_) (ht : 1 ≤ t ∧ t ≤ 26) : handB { h with at_ := t } = true := by
  simp only [handB, headB, Bool.and_eq_true, Bool.or_eq_true] at hh ⊢
  obtain ⟨⟨⟨h2, h3⟩, h4⟩, h5⟩ := hh
  have hc : callB h.c h.k h.v = true := by
    rcases h3 with h3 | h3
    · exact h3
    · have := h3.1
      simp at this
      omega
  exact ⟨⟨⟨by simp [inB]; omega, .inl hc⟩, h4⟩, h5⟩
def BeginB (h0 h : HD) : Prop := h.begin_ = 0 ∨ h.begin_ = h0.begin_
def GoodR (c0 : List Int) (h0 : HD) (R : StepR) : Prop := R.2.2.2 = true → sharedB R.1 R.2.1 = true ∧ handB R.2.2.1 = true ∧ R.2.1.length = c0.length ∧ BeginB h0 R.2.2.1
theorem noR_good (c0 : List Int) (h0 : HD) : GoodR c0 h0 noR := fun h => by simp [noR] at h
theorem doneR_good {l : List ND} {c c0 : List Int} {h h0 : HD} (hc : c.length = c0.length) (hb : BeginB h0 h) : GoodR c0 h0 (doneR l c h) := by
  intro hk
  unfold doneR at hk ⊢
  split at hk
  · rename_i h1
    rw [if_pos h1]
    simp only [Bool.and_eq_true] at h1
    exact ⟨h1.1, h1.2, hc, hb⟩
  · simp [noR] at hk
theorem cnt1_len (c : List Int) (task : Int) : (cnt1 c task).length = c.length := by simp [cnt1]
theorem exitH_b (l : List ND) (h : HD) : BeginB h (exitH l h) := by
  unfold exitH
  split
  · exact .inl rfl
  · split
    · exact .inl rfl
    · exact .inr rfl
theorem downH_b (l : List ND) (h : HD) : BeginB h (downH l h) := by
  unfold downH
  simp only []
  split <;> exact .inr rfl
theorem againH_b (h : HD) : BeginB h (againH h) := .inr rfl
theorem checkCutH_b (l : List ND) (h : HD) : BeginB h (checkCutH l h) := by
  unfold checkCutH
  repeat' split
  all_goals exact .inr rfl
theorem leftUpH_b (l : List ND) (h : HD) : BeginB h (leftUpH l h) := by
  unfold leftUpH
  repeat' split
  all_goals exact .inr rfl
theorem checkUpH_b (l : List ND) (h : HD) : BeginB h (checkUpH l h) := by
  unfold checkUpH
  repeat' split
  all_goals exact .inr rfl
theorem makeR_b (l : List ND) (h : HD) : BeginB h (makeR l h).2 := by
  unfold makeR
  split <;> exact .inr rfl
theorem doR_b (l : List ND) (task : Int) (h : HD) : BeginB h (doR l task h).2 := by
  unfold doR
  repeat' split
  all_goals first | exact .inr rfl | exact leftUpH_b _ _ | exact checkUpH_b _ _ | (unfold moveR; split <;> exact .inr rfl) | (unfold joinR; split <;> exact .inr rfl)
theorem freeR_b (l : List ND) (task : Int) (h : HD) : BeginB h (freeR l task h).2 := by
  unfold freeR
  simp only []
  repeat' split
  all_goals first | exact .inr rfl | exact .inl rfl
theorem syncR_b (c : List Int) (task : Int) (h : HD) : BeginB h (syncR c task h).1 := by
  unfold syncR
  repeat' split
  all_goals exact .inr rfl
theorem lockR_good {l : List ND} {c : List Int} {task : Int} {h : HD} {a b at' then' : Int} (hk : l7okB l c task h a b = true) (ha : 1 ≤ a) (ht : 1 ≤ then' ∧ then' ≤ 26) : GoodR c h (lockR l c task h at' then') := by
  intro hR
  have hk2 := hk
  simp only [l7okB, Bool.and_eq_true, sharedB] at hk
  obtain ⟨⟨⟨⟨⟨h1, h2⟩, h3⟩, h4⟩, h5⟩, h6⟩ := hk
  have h5' := inB_t h5
  have h4' := inB_t h4
  obtain ⟨c1, c2, -⟩ := countsB_some h2
  unfold lockR at hR ⊢
  split at hR
  · rename_i h7
    rw [if_pos h7]
    refine ⟨?_, handB_at h3 (by omega) ht, rfl, .inr rfl⟩
    unfold lockB at h7 ⊢
    split at h7
    · rename_i h8
      rw [if_pos h8]
      split at h7
      · rename_i h9
        rw [if_pos h9]
        show sharedB (giveO l at' (task + 1)) c = true
        simp only [sharedB, Bool.and_eq_true]
        refine ⟨?_, h2⟩
        unfold giveO
        split
        · rename_i n hn
          exact nodesB_setO h1 hn (by simp [inB]; omega)
        · exact h1
      · simp at h7
    · simp at h7
  · simp at hR
theorem stepR_good (l : List ND) (c : List Int) (task : Int) (h : HD) : GoodR c h (stepR l c task h) := by
  have noB := noR_good c h
  unfold stepR
  split
  · unfold findR
    repeat' split
    all_goals first | exact noB | exact doneR_good (cnt1_len _ _) (.inr rfl) | exact doneR_good rfl (downH_b _ _) | exact doneR_good rfl (.inr rfl) | exact doneR_good (cnt1_len _ _) (exitH_b _ _)
  · split
    · unfold addR
      split
      · exact noB
      · rename_i hk
        have hk' : l7okB l c task h 5 8 = true := by simp at hk; exact hk.1.1
        repeat' split
        all_goals first | exact lockR_good hk' (by omega) (by omega) | exact doneR_good rfl (againH_b _) | exact doneR_good rfl (.inr rfl) | exact doneR_good rfl (makeR_b _ _)
    · split
      · unfold cutR
        split
        · exact noB
        · rename_i hk
          have hk' : l7okB l c task h 9 13 = true := by simp at hk; exact hk.1.1
          repeat' split
          all_goals first | exact lockR_good hk' (by omega) (by omega) | exact doneR_good rfl (checkCutH_b _ _) | exact doneR_good rfl (.inr rfl)
      · split
        · unfold waitR
          split
          · exact noB
          · rename_i hk
            repeat' split
            all_goals first | exact doneR_good rfl (freeR_b _ _ _) | exact doneR_good rfl (syncR_b _ _ _) | exact (fun e => by simp at e)
        · unfold mvR
          split
          · exact noB
          · rename_i hk
            have hk' : l7okB l c task h 14 25 = true := by simp at hk; exact hk.1.1.1.1.1
            repeat' split
            all_goals first | exact lockR_good hk' (by omega) (by omega) | exact doneR_good rfl (doR_b _ _ _)
theorem worldB_iff (w : WD) : worldB w = true ↔ sharedB w.l w.c = true ∧ w.hs.length = w.c.length ∧ w.ds.length ≤ 1000 ∧ (0 ≤ w.now ∧ w.now ≤ 20000) ∧ (∀ h ∈ w.hs, handB h = true ∧ h.begin_ ≤ w.now) ∧ (∀ d ∈ w.ds, dealB w.hs.length w.now d = true) := by
  simp only [worldB, Bool.and_eq_true, List.all_eq_true, Bool.not_eq_true', decide_eq_false_iff_not, bne_eq_false_iff_eq]
  constructor
  · rintro ⟨⟨⟨⟨⟨h1, h2⟩, h3⟩, h4⟩, h5⟩, h6⟩
    exact ⟨h1, by omega, by omega, inB_t h4, fun h hh => ⟨(h5 h hh).1, by have := (h5 h hh).2; omega⟩, h6⟩
  · rintro ⟨h1, h2, h3, h4, h5, h6⟩
    exact ⟨⟨⟨⟨⟨h1, by omega⟩, by omega⟩, by simp [inB]; omega⟩, fun h hh => ⟨(h5 h hh).1, by have := (h5 h hh).2; omega⟩⟩, h6⟩
theorem worldB_room {d : WD} (h : worldB d = true) : Room d := by
  obtain ⟨h1, h2, h3, -⟩ := (worldB_iff d).1 h
  simp only [sharedB, Bool.and_eq_true] at h1
  have := nodes_some h1.1
  have := countsB_some h1.2
  exact ⟨by omega, by omega, by omega, by omega⟩
theorem dealB_later {many now now' : Int} {d : DD} (h : dealB many now d = true) (hn : now ≤ now') : dealB many now' d = true := by
  simp only [dealB, Bool.and_eq_true] at h ⊢
  obtain ⟨⟨⟨⟨h1, h2⟩, h3⟩, h4⟩, h5⟩ := h
  have := inB_t h3
  have := inB_t h4
  exact ⟨⟨⟨⟨h1, h2⟩, by simp [inB]; omega⟩, by simp [inB]; omega⟩, h5⟩
theorem handAt_mem {d : WD} {who : Int} (hwho : 0 ≤ who ∧ who < d.hs.length) : handAt d who ∈ d.hs := by
  have hk : who.toNat < d.hs.length := by omega
  unfold handAt
  rw [List.getElem?_eq_getElem hk]
  exact List.getElem_mem hk
theorem l13R_world {d : WD} {who : Int} (hd : worldB d = true) (hwho : 0 ≤ who ∧ who < d.hs.length) : worldB (l13R d who).1 = true ∧ (l13R d who).1.hs.length = d.hs.length := by
  obtain ⟨w1, w2, w3, w4, w5, w6⟩ := (worldB_iff d).1 hd
  have hb := (w5 _ (handAt_mem hwho)).2
  have hb0 := (w5 _ (handAt_mem hwho)).1
  unfold l13R
  split
  · exact ⟨hd, rfl⟩
  · rename_i h1
    simp only [Bool.or_eq_true, Bool.not_eq_true', beq_iff_eq, not_or, Bool.not_eq_false] at h1
    obtain ⟨g1, g2, g3, g4⟩ := stepR_good d.l d.c who (handAt d who) h1.1
    have hn : d.now ≠ 20000 := h1.2
    generalize stepR d.l d.c who (handAt d who) = R at *
    have hbR : R.2.2.1.begin_ ≤ d.now + 1 := by
      rcases g4 with e | e <;> omega
    have hs : ∀ h ∈ d.hs.set who.toNat R.2.2.1, handB h = true ∧ h.begin_ ≤ d.now + 1 := fun h hh => by
      rcases List.mem_or_eq_of_mem_set hh with hh | rfl
      · exact ⟨(w5 h hh).1, by have := (w5 h hh).2; omega⟩
      · exact ⟨g2, hbR⟩
    split
    · refine ⟨(worldB_iff _).2 ⟨g1, ?_, w3, ⟨by simp; omega, by simp; omega⟩, hs, fun x hx => ?_⟩, by simp⟩
      · simp; omega
      · simp only [List.length_set]
        exact dealB_later (w6 x hx) (by show d.now ≤ d.now + 1; omega)
    · split
      · exact ⟨hd, rfl⟩
      · rename_i h2 h3
        simp only [Bool.or_eq_true, Bool.not_eq_true', decide_eq_true_eq, not_or, Bool.not_eq_false] at h3
        refine ⟨(worldB_iff _).2 ⟨g1, ?_, ?_, ⟨by simp; omega, by simp; omega⟩, hs, fun x hx => ?_⟩, by simp⟩
        · simp; omega
        · simp; omega
        · simp only [List.length_set]
          rcases List.mem_append.1 hx with hx | hx
          · exact dealB_later (w6 x hx) (by show d.now ≤ d.now + 1; omega)
          · simp only [List.mem_singleton] at hx
            subst hx
            simp only [handB, handL, Bool.and_eq_true] at hb0 g2
            have hb1 := inB_t hb0.2.1.1.2
            have ho := inB_t g2.2.2
            simp only [dealB, Bool.and_eq_true]
            exact ⟨⟨⟨⟨by simp [inB]; omega, h3.2⟩, by simp [inB]; omega⟩, by simp [inB]; omega⟩, by simp [inB]; omega⟩
theorem askedR_world {d : WD} {who c k v : Int} (hd : worldB d = true) (hwho : 0 ≤ who ∧ who < d.hs.length) : worldB (askedR d who c k v).1 = true ∧ (askedR d who c k v).1.hs.length = d.hs.length := by
  obtain ⟨w1, w2, w3, w4, w5, w6⟩ := (worldB_iff d).1 hd
  have hb0 := (w5 _ (handAt_mem hwho)).1
  have hi : inB who 0 ((d.hs.length : Int) - 1) = true := by simp [inB]; omega
  unfold askedR
  rw [if_neg (by simp [hd, hi])]
  split
  · exact ⟨hd, rfl⟩
  · rename_i h1
    split
    · exact ⟨hd, rfl⟩
    · rename_i h2
      simp only [beq_iff_eq] at h2
      have hc : calledR (handAt d who) c k v = (askH c k v, 0) ∧ callB c k v = true := by
        unfold calledR at h1 ⊢
        rw [if_neg (by simp [hb0])] at h1 ⊢
        split at h1
        · simp at h1
        · rename_i h3
          rw [if_neg h3]
          split at h1
          · simp at h1
          · rename_i h4
            rw [if_neg h4]
            exact ⟨rfl, by simpa using h4⟩
      rw [hc.1]
      refine ⟨(worldB_iff _).2 ⟨w1, by simp; omega, w3, ⟨by simp; omega, by simp; omega⟩, fun h hh => ?_, fun x hx => ?_⟩, by simp⟩
      · rcases List.mem_or_eq_of_mem_set hh with hh | rfl
        · exact ⟨(w5 h hh).1, by have := (w5 h hh).2; simp; omega⟩
        · refine ⟨?_, by simp⟩
          have e1 : inB (d.now + 1) 0 20000 = true := by simp [inB]; omega
          simp [handB, headB, handL, five, askH, hc.2, e1, inB]
          omega
      · simp only [List.length_set]
        exact dealB_later (w6 x hx) (by show d.now ≤ d.now + 1; omega)
end Go.Proofs.YthkbmdhcpandmaaGreat
