/- Locked and Unlocked of the program. -/
import Derived.Test.YtbfndoajchibbaaGreatHeldImpl2
namespace Go.Proofs.YtbfndoajchibbaaGreat
open Go.ChangeShapes Go.WideShapes Go.ChangeAt Go.RowKit Go.Maps
set_option linter.unusedVariables false
set_option linter.unusedSimpArgs false

theorem withF_give {f : Int → Option Int} {l : List ND} {at' o : Int} (ha : 0 ≤ at') (h : ∀ (k : Nat) (n : ND), l[k]? = some n → newO f k = if (k : Int) = at' then o else n.o) : withF f l = giveO l at' o := by
  apply List.ext_getElem?
  intro i
  cases hi : l[i]? with
  | none =>
    have hl := List.getElem?_eq_none_iff.1 hi
    rw [List.getElem?_eq_none (by rw [withF_len]; exact hl)]
    unfold giveO
    split
    · rw [List.getElem?_eq_none (by simpa using hl)]
    · exact hi.symm
  | some n =>
    have hl := (List.getElem?_eq_some_iff.1 hi).1
    rw [withF_get hi]
    have h1 := h i n hi
    rw [h1]
    unfold giveO
    by_cases e : (i : Int) = at'
    · have e2 : at'.toNat = i := by omega
      rw [if_pos e, e2, hi]
      simp [hl]
    · rw [if_neg e, setO_same]
      split
      · rw [List.getElem?_set_ne (by omega)]
        exact hi.symm
      · exact hi.symm
theorem newO_hold {l : List ND} {k : Nat} {n : ND} (h : l[k]? = some n) : newO (holdF l l.length) k = n.o := by
  unfold newO
  rw [holdF_at h]
  split
  · rename_i c hc
    split at hc
    · cases hc
    · cases hc; omega
  · rename_i hc
    split at hc
    · rename_i h0; exact h0.symm
    · cases hc
theorem withF_hold (l : List ND) : withF (holdF l l.length) l = l := by
  apply List.ext_getElem?
  intro i
  cases hi : l[i]? with
  | none => rw [List.getElem?_eq_none (by rw [withF_len]; exact List.getElem?_eq_none_iff.1 hi)]
  | some n =>
    rw [withF_get hi]
    rw [newO_hold hi, setO_same]
theorem withF_lock (l : List ND) {at' : Int} (ha : 0 ≤ at') (task : Int) : withF (fun x => if x = at' then some task else holdF l l.length x) l = giveO l at' (task + 1) :=
  withF_give ha fun k n hn => by
    unfold newO
    by_cases e : (k : Int) = at'
    · simp only [if_pos e]
    · simp only [if_neg e]
      exact newO_hold hn
theorem withF_unlock (l : List ND) {at' : Int} (ha : 0 ≤ at') : withF (fun x => if x = at' then none else holdF l l.length x) l = giveO l at' 0 :=
  withF_give ha fun k n hn => by
    unfold newO
    by_cases e : (k : Int) = at'
    · simp only [if_pos e]
    · simp only [if_neg e]
      exact newO_hold hn
theorem hold_bound {l : List ND} (hb : nodesB l = true) : ∀ x c, holdF l l.length x = some c → 0 ≤ c ∧ c ≤ 5 := by
  intro x c h
  unfold holdF at h
  split at h
  · split at h
    · rename_i n hn
      have := nodes_owner hb hn
      split at h
      · cases h
      · cases h; omega
    · cases h
  · cases h
theorem hold_some {l : List ND} {x c : Int} (h : holdF l l.length x = some c) : hasB l x = true ∧ ownerAt l x = c + 1 := by
  unfold holdF at h
  split at h
  · rename_i hx
    split at h
    · rename_i n hn
      split at h
      · cases h
      · cases h
        refine ⟨by simp [hasB, inB]; omega, ?_⟩
        unfold ownerAt
        rw [hn]
        simp
    · cases h
  · cases h
theorem hold_none {l : List ND} {x : Int} (h : holdF l l.length x = none) : hasB l x = true → ownerAt l x = 0 := by
  intro hx
  have h1 := inB_t hx
  unfold holdF at h
  rw [if_pos (by omega)] at h
  unfold ownerAt
  split at h
  · rename_i n hn
    split at h
    · rename_i h0; exact h0
    · cases h
  · rfl
set_option maxRecDepth 100000 in
set_option maxHeartbeats 2000000 in
theorem impl_Locked (v : Value) (l : List ND) (a task : Int) (w : World) (h : NSl w v l) (hl : l.length ≤ 1048576) (ha : In64 a) :
    Calls Tryz.prog 6 #[v, .int .i64 a, .int .i64 task] w (SaysL (lockB l a task) w) := by
  have C := impl_canHold v l task w h hl
  rcases Bool.eq_false_or_eq_true (nodesB l && taskB task) with hok | hok
  · obtain ⟨hb, ht⟩ := Bool.and_eq_true_iff.1 hok
    obtain ⟨l1, l30⟩ := nodes_some hb
    have t05 := inB_t ht
    obtain ⟨t0, t5⟩ := t05
    have HL : lockB l a task = if hasB l a && ownerAt l a == 0 then (giveO l a (task + 1), true) else (l, false) := by unfold lockB; rw [hok, if_pos rfl]
    have hal : (0 : Int) ≤ (l.length : Int) - 1 := by omega
    obtain ⟨sa, sc, rfl, _⟩ := id h
    cases hf : holdF l l.length a with
    | some c =>
      obtain ⟨q1, q2⟩ := hold_some hf
      have hne : ¬ c + 1 = 0 := by have := hold_bound hb a c hf; omega
      have HR : lockB l a task = (l, false) := by rw [HL, q1, q2]; simp [hne]
      rw [HR]
      have HH := Lib.hid h
      have HF := Lib.hid hf
      clear HL HR h hf hne q1 q2
      go_enter Tryz.func6, Tryz.ntmps6
      go_wp2_with fail
      refine C.mono ?_
      rintro e w1 ⟨rfl, hB1⟩
      rw [hok]
      go_wp2_with fail
      refine (impl_holders _ l w1 (HH.out.below hB1) hb).mono ?_
      rintro e w2 ⟨rfl, hM2, hB2⟩
      have hB2' := hB1.trans (hB2.mono hB1.size)
      have hz := hB1.size
      go_wp2_with (first
        | (at_lookup; refine at_look _ rfl _ _ rfl w1.heap.size l.length (holdF l l.length) rfl hM2 a rfl ha c true (by rw [HF.out]; rfl) (by rw [HF.out]; rfl) ?_))
      refine (impl_withHolders _ l w2 (HH.out.below hB2') l1 l30 _ _ _ hM2 (hold_bound hb)).mono ?_
      rintro e w3 ⟨g, u, rfl, hg, hO, hB3⟩
      rw [withF_hold] at hO
      go_wp2
      go_ret2
      exact SaysL.fresh hB2' hg hO l1 hB3
    | none =>
      have q0 := hold_none hf
      have HH := Lib.hid h
      have HF := Lib.hid hf
      rcases Bool.eq_false_or_eq_true (hasB l a) with hh | hh
      · have q1 := q0 hh
        have HR : lockB l a task = (giveO l a (task + 1), true) := by rw [HL, hh, q1]; simp
        rw [HR]
        have ha0 := (inB_t hh).1
        have HH' := Lib.hid (show inB a 0 ((l.length : Int) - 1) = true from hh)
        clear HL HR h hf q0 q1 hh
        go_enter Tryz.func6, Tryz.ntmps6
        go_wp2_with fail
        refine C.mono ?_
        rintro e w1 ⟨rfl, hB1⟩
        rw [hok]
        go_wp2_with fail
        refine (impl_holders _ l w1 (HH.out.below hB1) hb).mono ?_
        rintro e w2 ⟨rfl, hM2, hB2⟩
        have hB2' := hB1.trans (hB2.mono hB1.size)
        have hz := hB1.size
        go_wp2_with (first
          | (at_lookup; refine at_look _ rfl _ _ rfl w1.heap.size l.length (holdF l l.length) rfl hM2 a rfl ha 0 false (by rw [HF.out]; rfl) (by rw [HF.out]; rfl) ?_)
          | (go_at_call 21; refine (impl_in _ _ _ _).mono ?_; rintro e w3 ⟨rfl, rfl⟩; rw [HH'.out])
          | (at_mapUpdate; refine at_store _ rfl _ _ _ rfl w1.heap.size l.length (holdF l l.length) rfl hM2 (by unfold maxLen; omega) a task rfl rfl ha (by unfold In64; omega) ?_; intro w4 hM4 hg4))
        have hB4 := hB2'.grown hg4 hB2'.size (fun j hj => by cases hj; exact hz)
        refine (impl_withHolders _ l w4 (HH.out.below hB4) l1 l30 _ _ _ hM4 (fun x c hx => by
          split at hx
          · cases hx; omega
          · exact hold_bound hb x c hx)).mono ?_
        rintro e w5 ⟨g, u, rfl, hg, hO, hB5⟩
        rw [withF_lock l ha0] at hO
        go_wp2
        go_ret2
        exact SaysL.fresh hB4 hg hO (by rw [giveO_len]; exact l1) hB5
      · have HR : lockB l a task = (l, false) := by rw [HL, hh]; simp
        rw [HR]
        have HH' := Lib.hid (show inB a 0 ((l.length : Int) - 1) = false from hh)
        clear HL HR h hf q0 hh
        go_enter Tryz.func6, Tryz.ntmps6
        go_wp2_with fail
        refine C.mono ?_
        rintro e w1 ⟨rfl, hB1⟩
        rw [hok]
        go_wp2_with fail
        refine (impl_holders _ l w1 (HH.out.below hB1) hb).mono ?_
        rintro e w2 ⟨rfl, hM2, hB2⟩
        have hB2' := hB1.trans (hB2.mono hB1.size)
        have hz := hB1.size
        go_wp2_with (first
          | (at_lookup; refine at_look _ rfl _ _ rfl w1.heap.size l.length (holdF l l.length) rfl hM2 a rfl ha 0 false (by rw [HF.out]; rfl) (by rw [HF.out]; rfl) ?_)
          | (go_at_call 21; refine (impl_in _ _ _ _).mono ?_; rintro e w3 ⟨rfl, rfl⟩; rw [HH'.out]))
        refine (impl_withHolders _ l w2 (HH.out.below hB2') l1 l30 _ _ _ hM2 (hold_bound hb)).mono ?_
        rintro e w3 ⟨g, u, rfl, hg, hO, hB3⟩
        rw [withF_hold] at hO
        go_wp2
        go_ret2
        exact SaysL.fresh hB2' hg hO l1 hB3
  · have HR : lockB l a task = ([], false) := by unfold lockB; rw [hok]; rfl
    rw [HR]
    go_enter Tryz.func6, Tryz.ntmps6
    go_wp2_with fail
    refine C.mono ?_
    rintro e w1 ⟨rfl, hB1⟩
    rw [hok]
    go_wp2
    go_ret2
    exact ⟨_, rfl, OwnR.nil _ _ _ _ _ _ _ (by simp [maxLen]), hB1⟩

set_option maxRecDepth 100000 in
set_option maxHeartbeats 2000000 in
theorem impl_Unlocked (v : Value) (l : List ND) (a task : Int) (w : World) (h : NSl w v l) (hl : l.length ≤ 1048576) (ha : In64 a) :
    Calls Tryz.prog 9 #[v, .int .i64 a, .int .i64 task] w (SaysL (unlockB l a task) w) := by
  have C := impl_canHold v l task w h hl
  rcases Bool.eq_false_or_eq_true (nodesB l && taskB task) with hok | hok
  · obtain ⟨hb, ht⟩ := Bool.and_eq_true_iff.1 hok
    obtain ⟨l1, l30⟩ := nodes_some hb
    have t05 := inB_t ht
    obtain ⟨t0, t5⟩ := t05
    have HL : unlockB l a task = if hasB l a && ownerAt l a == task + 1 then (giveO l a 0, true) else (l, false) := by unfold unlockB; rw [hok, if_pos rfl]
    obtain ⟨sa, sc, rfl, _⟩ := id h
    cases hf : holdF l l.length a with
    | some c =>
      obtain ⟨q1, q2⟩ := hold_some hf
      have HH := Lib.hid h
      have HF := Lib.hid hf
      by_cases e : c = task
      · subst e
        have HR : unlockB l a c = (giveO l a 0, true) := by rw [HL, q1, q2]; simp
        rw [HR]
        have ha0 := (inB_t q1).1
        clear HL HR h hf q1 q2
        go_enter Tryz.func9, Tryz.ntmps9
        go_wp2_with fail
        refine C.mono ?_
        rintro e w1 ⟨rfl, hB1⟩
        rw [hok]
        go_wp2_with fail
        refine (impl_holders _ l w1 (HH.out.below hB1) hb).mono ?_
        rintro e w2 ⟨rfl, hM2, hB2⟩
        have hB2' := hB1.trans (hB2.mono hB1.size)
        have hz := hB1.size
        go_wp2_with (first
          | (at_lookup; refine at_look _ rfl _ _ rfl w1.heap.size l.length (holdF l l.length) rfl hM2 a rfl ha c true (by rw [HF.out]; rfl) (by rw [HF.out]; rfl) ?_)
          | (at_delete; refine at_drop _ rfl _ _ rfl w1.heap.size l.length (holdF l l.length) rfl hM2 a rfl ha ?_; intro w4 hM4 hg4))
        have hB4 := hB2'.grown hg4 hB2'.size (fun j hj => by cases hj; exact hz)
        refine (impl_withHolders _ l w4 (HH.out.below hB4) l1 l30 _ _ _ hM4 (fun x c hx => by
          split at hx
          · cases hx
          · exact hold_bound hb x c hx)).mono ?_
        rintro e w5 ⟨g, u, rfl, hg, hO, hB5⟩
        rw [withF_unlock l ha0] at hO
        go_wp2
        go_ret2
        exact SaysL.fresh hB4 hg hO (by rw [giveO_len]; exact l1) hB5
      · have hne : ¬ c + 1 = task + 1 := by omega
        have HR : unlockB l a task = (l, false) := by rw [HL, q1, q2]; simp [hne]
        rw [HR]
        clear HL HR h hf hne q1 q2
        go_enter Tryz.func9, Tryz.ntmps9
        go_wp2_with fail
        refine C.mono ?_
        rintro e w1 ⟨rfl, hB1⟩
        rw [hok]
        go_wp2_with fail
        refine (impl_holders _ l w1 (HH.out.below hB1) hb).mono ?_
        rintro e w2 ⟨rfl, hM2, hB2⟩
        have hB2' := hB1.trans (hB2.mono hB1.size)
        have hz := hB1.size
        go_wp2_with (first
          | (at_lookup; refine at_look _ rfl _ _ rfl w1.heap.size l.length (holdF l l.length) rfl hM2 a rfl ha c true (by rw [HF.out]; rfl) (by rw [HF.out]; rfl) ?_))
        refine (impl_withHolders _ l w2 (HH.out.below hB2') l1 l30 _ _ _ hM2 (hold_bound hb)).mono ?_
        rintro e w3 ⟨g, u, rfl, hg, hO, hB3⟩
        rw [withF_hold] at hO
        go_wp2
        go_ret2
        exact SaysL.fresh hB2' hg hO l1 hB3
    | none =>
      have q0 := hold_none hf
      have HR : unlockB l a task = (l, false) := by
        rw [HL]
        rcases Bool.eq_false_or_eq_true (hasB l a) with hh | hh
        · rw [hh, q0 hh]
          have hne : ¬ 0 = task + 1 := by omega
          simp [hne]
        · rw [hh]; rfl
      rw [HR]
      have HH := Lib.hid h
      have HF := Lib.hid hf
      clear HL HR h hf q0
      go_enter Tryz.func9, Tryz.ntmps9
      go_wp2_with fail
      refine C.mono ?_
      rintro e w1 ⟨rfl, hB1⟩
      rw [hok]
      go_wp2_with fail
      refine (impl_holders _ l w1 (HH.out.below hB1) hb).mono ?_
      rintro e w2 ⟨rfl, hM2, hB2⟩
      have hB2' := hB1.trans (hB2.mono hB1.size)
      have hz := hB1.size
      go_wp2_with (first
        | (at_lookup; refine at_look _ rfl _ _ rfl w1.heap.size l.length (holdF l l.length) rfl hM2 a rfl ha 0 false (by rw [HF.out]; rfl) (by rw [HF.out]; rfl) ?_))
      refine (impl_withHolders _ l w2 (HH.out.below hB2') l1 l30 _ _ _ hM2 (hold_bound hb)).mono ?_
      rintro e w3 ⟨g, u, rfl, hg, hO, hB3⟩
      rw [withF_hold] at hO
      go_wp2
      go_ret2
      exact SaysL.fresh hB2' hg hO l1 hB3
  · have HR : unlockB l a task = ([], false) := by unfold unlockB; rw [hok]; rfl
    rw [HR]
    go_enter Tryz.func9, Tryz.ntmps9
    go_wp2_with fail
    refine C.mono ?_
    rintro e w1 ⟨rfl, hB1⟩
    rw [hok]
    go_wp2
    go_ret2
    exact ⟨_, rfl, OwnR.nil _ _ _ _ _ _ _ (by simp [maxLen]), hB1⟩
end Go.Proofs.YtbfndoajchibbaaGreat
