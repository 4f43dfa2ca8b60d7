/- Locked and Unlocked of the program. -/
import Derived.Test.YthllpgjggmdmmaaHeld
import Derived.Test.YthllpgjggmdmmaaOpen
import Derived.Deep.AppendLies
import Derived.Test.YthllpgjggmdmmaaClone
namespace Go.Proofs.Ythllpgjggmdmmaa
open Go.ChangeShapes Go.WideShapes Go.ChangeAt Go.RowKit Go.Maps
set_option linter.unusedVariables false
set_option linter.unusedSimpArgs false

theorem impl_canHold (v : Value) (l : List ND) (task : Int) (w : World) (h : NSl w v l) (hl : l.length ≤ 1048576) : Calls Try.prog 89 #[v, .int .i64 task] w fun e w' => e = .returned (.bool (nodesB l && taskB task)) ∧ Below w.heap.size w w' := by
  have C := impl_NodesOk v l w h hl
  have D := fun w1 => impl_in task 0 5 w1
  rcases Bool.eq_false_or_eq_true (nodesB l) with hb | hb
  · go_enter Try.func89, Try.ntmps89
    go_wp2_with fail
    refine C.mono ?_
    rintro e w1 ⟨rfl, hb1⟩
    rw [hb]
    go_wp2_with (go_at_call 74; refine (D _).mono ?_; rintro e w2 ⟨rfl, rfl⟩)
    go_ret
    exact ⟨by simp [hb, taskB], hb1⟩
  · go_enter Try.func89, Try.ntmps89
    go_wp2_with fail
    refine C.mono ?_
    rintro e w1 ⟨rfl, hb1⟩
    rw [hb]
    go_wp2
    go_ret
    exact ⟨by simp [hb], hb1⟩

set_option maxRecDepth 100000 in
set_option maxHeartbeats 2000000 in
theorem impl_holders (v : Value) (l : List ND) (w : World) (h : NSl w v l) (hb : nodesB l = true) :
    Calls Try.prog 90 #[v] w fun e w' => e = .returned (.map (some w.heap.size)) ∧ MapF w' w.heap.size l.length (holdF l l.length) ∧ Below w.heap.size w w' := by
  obtain ⟨hl1, hl2⟩ := nodes_some hb
  obtain ⟨b1, o1, c1, rfl, k1, m1, s1, H1⟩ := h.at (by intro e; subst e; simp at hl1)
  have HO := Lib.hid (fun k n hn => nodes_owner hb (k := k) (n := n) hn)
  unfold maxLen at m1
  clear h hb
  have hmm := @run_makeMap Try.prog
  go_enter Try.func90, Try.ntmps90
  go_wp2
  go_loopw [9] (fun i wr => ∃ k : Nat, k ≤ l.length ∧ i = .int .i64 k ∧ MapF wr w.heap.size k (holdF l k) ∧ Below w.heap.size w wr) (fun i _ => l.length - (intOf i).toNat)
  case atStart => exact ⟨0, Nat.zero_le _, rfl, (MapF.made w).congr (fun x => (holdF_zero l x).symm), (Below.refl _ _).alloc (Nat.le_refl _) _⟩
  case round =>
    obtain ⟨k, hk, rfl, hM, hB⟩ := hrel
    by_cases hlt : k < l.length
    · obtain ⟨n, hg⟩ : ∃ n, l[k]? = some n := ⟨_, List.getElem?_eq_getElem hlt⟩
      obtain ⟨w0, w6⟩ := HO.out k n hg
      have A1 := (H1 k n hg).below hB s1
      have i0 : (0 : Int) ≤ (k : Int) := by omega
      have i1 : (k : Int) < (l.length : Int) := by omega
      have HG := Lib.hid hg
      have HB := Lib.hid hB
      have HM := Lib.hid hM
      have hz := hB.size
      have hz2 := hM.lt
      obtain ⟨k0, v0, l0, r0, o0, g0, lt0, rt0⟩ := n
      simp only [At8] at A1
      simp only at w0 w6
      clear hg hB hM H1 hmm
      by_cases h0 : o0 = 0
      · subst h0
        go_wp2
        go_roundw
        case rel => exact ⟨k + 1, by omega, by go_num, (HM.out.alloc _).mono (by omega) |>.congr (fun x => (holdF_free HG.out rfl x).symm), HB.out.alloc hz _⟩
        case measure => simp [intOf]; omega
      · have o1' : 1 ≤ o0 := by omega
        go_wp2_with (first
          | (at_mapUpdate; refine at_store _ rfl _ _ _ rfl w.heap.size k _ rfl (HM.out.alloc _) (by unfold maxLen; omega) k (o0 - 1) rfl rfl (by unfold In64; omega) (by unfold In64; omega) ?_; intro w2 hM2 hg2; go_frame)
          | go_in)
        go_roundw
        case rel =>
          refine ⟨k + 1, by omega, by go_num, hM2.congr (fun x => ?_), (HB.out.alloc hz _).grown hg2 (by simp; omega) (fun j hj => by cases hj; exact Nat.le_refl _)⟩
          rw [holdF_succ HG.out, if_neg h0]
        case measure => simp [intOf]; omega
    · obtain rfl : k = l.length := by omega
      go_wp2
      go_ret
      exact ⟨rfl, hM, hB⟩
end Go.Proofs.Ythllpgjggmdmmaa
namespace Go.Proofs.Ythllpgjggmdmmaa
open Go.ChangeShapes Go.WideShapes Go.ChangeAt Go.RowKit Go.Maps
set_option linter.unusedVariables false
set_option linter.unusedSimpArgs false

/-- The first k have the Owners that f tells. -/
def PartO (f : Int → Option Int) (l : List ND) (k : Nat) (l' : List ND) : Prop := ∀ i, l'[i]? = if i < k then (l[i]?).map (fun n => setO n (newO f i)) else l[i]?
theorem PartO.len {f : Int → Option Int} {l l' : List ND} {k : Nat} (h : PartO f l k l') : l'.length = l.length := by
  have h1 := h l'.length
  have h2 := h l.length
  simp only [List.getElem?_eq_none (Nat.le_refl _)] at h1 h2
  have a1 : l.length ≤ l'.length := by
    split at h1
    · have := h1.symm; simp at this; omega
    · have := h1.symm; simp at this; omega
  have a2 : l'.length ≤ l.length := by
    split at h2
    · simp at h2; omega
    · simp at h2; omega
  omega
theorem PartO.step {f : Int → Option Int} {l l' : List ND} {k : Nat} {n : ND} (h : PartO f l k l') (hn : l[k]? = some n) : PartO f l (k + 1) (l'.set k (setO n (newO f k))) := by
  intro i
  have hk : k < l'.length := by rw [h.len]; exact (List.getElem?_eq_some_iff.1 hn).1
  rw [List.getElem?_set]
  by_cases e : k = i
  · subst e
    simp [hk, hn]
  · rw [if_neg e, h i]
    by_cases e2 : i < k
    · rw [if_pos e2, if_pos (by omega)]
    · rw [if_neg e2, if_neg (by omega)]
theorem PartO.done {f : Int → Option Int} {l l' : List ND} (h : PartO f l l.length l') : l' = withF f l := by
  apply List.ext_getElem?
  intro i
  rw [h i]
  simp only [withF, List.getElem?_mapIdx]
  split
  · rfl
  · rw [List.getElem?_eq_none (by omega)]; rfl
set_option maxRecDepth 100000 in
set_option maxHeartbeats 2000000 in
theorem impl_withHolders (v : Value) (l : List ND) (w : World) (h : NSl w v l) (hl1 : 1 ≤ l.length) (hl2 : l.length ≤ 30) (b nn : Nat) (f : Int → Option Int) (hM : MapF w b nn f) (hf : ∀ x c, f x = some c → 0 ≤ c ∧ c ≤ 5) :
    Calls Try.prog 91 #[v, .map (some b)] w (Fresh w (withF f l)) := by
  have hne : l ≠ [] := by intro e; subst e; simp at hl1
  have C := clone_nodes v l w h hne (by omega)
  have hbl := hM.lt
  clear h
  go_enter Try.func91, Try.ntmps91
  go_wp2_with fail
  refine C.mono ?_
  rintro e w1 ⟨g, u, rfl, hg, ⟨cap, sp, rfl, q1, q2, ⟨q3, q5⟩, q4⟩, hB1⟩
  have Q5 := Lib.hid q5
  clear q5
  have hm1 := q2
  unfold maxLen at hm1
  have HP := Lib.hid q4
  have HB1 := Lib.hid hB1
  have HM := Lib.hid hM
  have HF := Lib.hid hf
  clear q4 hB1 hM hf C q3
  go_wp2
  go_loopw [13] (fun i wr => ∃ (k : Nat) (l' : List ND), k ≤ l.length ∧ i = .int .i64 k ∧ Hid (PartO f l k l') ∧ Hid (Blk wr g 52 (cellsOf l' ++ sp)) ∧ Below w.heap.size w wr) (fun i _ => l.length - (intOf i).toNat)
  case atStart => exact ⟨0, l, Nat.zero_le _, rfl, Lib.hid (fun i => by simp), HP, HB1.out⟩
  case round =>
    obtain ⟨k, l', hk, rfl, HQ, HL, hB⟩ := hrel
    by_cases hlt : k < l.length
    · obtain ⟨n, hn⟩ : ∃ n, l[k]? = some n := ⟨_, List.getElem?_eq_getElem hlt⟩
      have hn' : l'[k]? = some n := by rw [HQ.out k, if_neg (by omega)]; exact hn
      have HN := Lib.hid hn
      have HN' := Lib.hid hn'
      obtain ⟨A1, A2⟩ := HL.out.there4 hn'
      have i0 : (0 : Int) ≤ (k : Int) := by omega
      have i1 : (k : Int) < (l.length : Int) := by omega
      have hMr := HM.out.below hB hbl
      have HMr := Lib.hid hMr
      have HB := Lib.hid hB
      have hz := hB.size
      clear hn hn' hMr hB
      have hbg : b ≠ g := by omega
      have HS := Lib.hid (HMr.out.same (w' := wr.setCell ⟨g, k * 8 + 4, none⟩ (.int .i64 0)) ((But.set g (k * 8 + 4) wr (.int .i64 0)).block b (by omega) hbg))
      cases hfk : f (k : Int) with
      | none =>
        have HK := Lib.hid hfk
        clear hfk
        go_wp2_with (first
          | (at_lookup; refine at_look _ rfl _ _ rfl b nn f rfl HS.out k rfl (by unfold In64; omega) 0 false (by rw [HK.out]; rfl) (by rw [HK.out]; rfl) ?_)
          | go_in)
        go_roundw
        case rel =>
          refine ⟨k + 1, _, by omega, by go_num, Lib.hid (HQ.out.step HN.out), Lib.hid ?_, (HB.out.setCell (by simpa using hg) _)⟩
          have := HL.out.set4 HN'.out 0
          simpa [newO, HK.out] using this
        case measure => simp [intOf]; omega
      | some c =>
        have HK := Lib.hid hfk
        obtain ⟨c0, c5⟩ := HF.out _ _ hfk
        clear hfk
        go_wp2_with (first
          | (at_lookup; refine at_look _ rfl _ _ rfl b nn f rfl HS.out k rfl (by unfold In64; omega) c true (by rw [HK.out]; rfl) (by rw [HK.out]; rfl) ?_)
          | go_in)
        go_roundw
        case rel =>
          refine ⟨k + 1, _, by omega, by go_num, Lib.hid (HQ.out.step HN.out), Lib.hid ?_, ((HB.out.setCell (by simpa using hg) _).setCell (by simpa using hg) _)⟩
          have h1 := HL.out.set4 HN'.out 0
          have hk' : k < l'.length := (List.getElem?_eq_some_iff.1 HN'.out).1
          have h2 := h1.set4 (k := k) (n := setO n 0) (by simp [hk']) (c + 1)
          simpa [newO, HK.out, setO] using h2
        case measure => simp [intOf]; omega
    · obtain rfl : k = l.length := by omega
      go_wp2
      go_ret
      have e := HQ.out.done
      subst e
      refine ⟨g, _, rfl, hg, ?_, hB⟩
      rw [withF_len]
      have q5 := Q5.out
      simp only [List.length_append, cellsOf_len] at q5
      exact ⟨cap, sp, rfl, q1, q2, ⟨by rw [cellsOf_len, withF_len], by simp only [List.length_append, cellsOf_len, withF_len]; exact q5⟩, HL.out⟩
end Go.Proofs.Ythllpgjggmdmmaa
namespace Go.Proofs.Ythllpgjggmdmmaa
open Go.ChangeShapes Go.WideShapes Go.ChangeAt Go.RowKit Go.Maps
set_option linter.unusedVariables false
set_option linter.unusedSimpArgs false

theorem withF_give {f : Int → Option Int} {l : List ND} {at' o : Int} (ha : 0 ≤ at') (h : ∀ (k : Nat) (n : ND), l[k]? = some n → newO f k = if (k : Int) = at' then o else n.o) : withF f l = giveO l at' o := by
  apply List.ext_getElem?
  intro i
  cases hi : l[i]? with
  | none =>
    have hl := List.getElem?_eq_none_iff.1 hi
    rw [List.getElem?_eq_none (by rw [withF_len]; exact hl)]
    unfold giveO
    split
    · rw [List.getElem?_eq_none (by simpa using hl)]
    · exact hi.symm
  | some n =>
    have hl := (List.getElem?_eq_some_iff.1 hi).1
    rw [withF_get hi]
    have h1 := h i n hi
    rw [h1]
    unfold giveO
    by_cases e : (i : Int) = at'
    · have e2 : at'.toNat = i := by omega
      rw [if_pos e, e2, hi]
      simp [hl]
    · rw [if_neg e, setO_same]
      split
      · rw [List.getElem?_set_ne (by omega)]
        exact hi.symm
      · exact hi.symm
theorem newO_hold {l : List ND} {k : Nat} {n : ND} (h : l[k]? = some n) : newO (holdF l l.length) k = n.o := by
  unfold newO
  rw [holdF_at h]
  split
  · rename_i c hc
    split at hc
    · cases hc
    · cases hc; omega
  · rename_i hc
    split at hc
    · rename_i h0; exact h0.symm
    · cases hc
theorem withF_hold (l : List ND) : withF (holdF l l.length) l = l := by
  apply List.ext_getElem?
  intro i
  cases hi : l[i]? with
  | none => rw [List.getElem?_eq_none (by rw [withF_len]; exact List.getElem?_eq_none_iff.1 hi)]
  | some n =>
    rw [withF_get hi]
    rw [newO_hold hi, setO_same]
theorem withF_lock (l : List ND) {at' : Int} (ha : 0 ≤ at') (task : Int) : withF (fun x => if x = at' then some task else holdF l l.length x) l = giveO l at' (task + 1) :=
  withF_give ha fun k n hn => by
    unfold newO
    by_cases e : (k : Int) = at'
    · simp only [if_pos e]
    · simp only [if_neg e]
      exact newO_hold hn
theorem hold_bound {l : List ND} (hb : nodesB l = true) : ∀ x c, holdF l l.length x = some c → 0 ≤ c ∧ c ≤ 5 := by
  intro x c h
  unfold holdF at h
  split at h
  · split at h
    · rename_i n hn
      have := nodes_owner hb hn
      split at h
      · cases h
      · cases h; omega
    · cases h
  · cases h
theorem hold_some {l : List ND} {x c : Int} (h : holdF l l.length x = some c) : hasB l x = true ∧ ownerAt l x = c + 1 := by
  unfold holdF at h
  split at h
  · rename_i hx
    split at h
    · rename_i n hn
      split at h
      · cases h
      · cases h
        refine ⟨by simp [hasB, inB]; omega, ?_⟩
        unfold ownerAt
        rw [hn]
        simp
    · cases h
  · cases h
theorem hold_none {l : List ND} {x : Int} (h : holdF l l.length x = none) : hasB l x = true → ownerAt l x = 0 := by
  intro hx
  have h1 := inB_t hx
  unfold holdF at h
  rw [if_pos (by omega)] at h
  unfold ownerAt
  split at h
  · rename_i n hn
    split at h
    · rename_i h0; exact h0
    · cases h
  · rfl
set_option maxRecDepth 100000 in
set_option maxHeartbeats 2000000 in
theorem impl_Locked (v : Value) (l : List ND) (a task : Int) (w : World) (h : NSl w v l) (hl : l.length ≤ 1048576) (ha : In64 a) :
    Calls Try.prog 80 #[v, .int .i64 a, .int .i64 task] w (SaysL (lockB l a task) w) := by
  have C := impl_canHold v l task w h hl
  rcases Bool.eq_false_or_eq_true (nodesB l && taskB task) with hok | hok
  · obtain ⟨hb, ht⟩ := Bool.and_eq_true_iff.1 hok
    obtain ⟨l1, l30⟩ := nodes_some hb
    have t05 := inB_t ht
    obtain ⟨t0, t5⟩ := t05
    have HL : lockB l a task = if hasB l a && ownerAt l a == 0 then (giveO l a (task + 1), true) else (l, false) := by unfold lockB; rw [hok, if_pos rfl]
    have hal : (0 : Int) ≤ (l.length : Int) - 1 := by omega
    obtain ⟨sa, sc, rfl, _⟩ := id h
    cases hf : holdF l l.length a with
    | some c =>
      obtain ⟨q1, q2⟩ := hold_some hf
      have hne : ¬ c + 1 = 0 := by have := hold_bound hb a c hf; omega
      have HR : lockB l a task = (l, false) := by rw [HL, q1, q2]; simp [hne]
      rw [HR]
      have HH := Lib.hid h
      have HF := Lib.hid hf
      clear HL HR h hf hne q1 q2
      go_enter Try.func80, Try.ntmps80
      go_wp2_with fail
      refine C.mono ?_
      rintro e w1 ⟨rfl, hB1⟩
      rw [hok]
      go_wp2_with fail
      refine (impl_holders _ l w1 (HH.out.below hB1) hb).mono ?_
      rintro e w2 ⟨rfl, hM2, hB2⟩
      have hB2' := hB1.trans (hB2.mono hB1.size)
      have hz := hB1.size
      go_wp2_with (first
        | (at_lookup; refine at_look _ rfl _ _ rfl w1.heap.size l.length (holdF l l.length) rfl hM2 a rfl ha c true (by rw [HF.out]; rfl) (by rw [HF.out]; rfl) ?_))
      refine (impl_withHolders _ l w2 (HH.out.below hB2') l1 l30 _ _ _ hM2 (hold_bound hb)).mono ?_
      rintro e w3 ⟨g, u, rfl, hg, hO, hB3⟩
      rw [withF_hold] at hO
      go_wp2
      go_ret2
      exact SaysL.fresh hB2' hg hO l1 hB3
    | none =>
      have q0 := hold_none hf
      have HH := Lib.hid h
      have HF := Lib.hid hf
      rcases Bool.eq_false_or_eq_true (hasB l a) with hh | hh
      · have q1 := q0 hh
        have HR : lockB l a task = (giveO l a (task + 1), true) := by rw [HL, hh, q1]; simp
        rw [HR]
        have ha0 := (inB_t hh).1
        have HH' := Lib.hid (show inB a 0 ((l.length : Int) - 1) = true from hh)
        clear HL HR h hf q0 q1 hh
        go_enter Try.func80, Try.ntmps80
        go_wp2_with fail
        refine C.mono ?_
        rintro e w1 ⟨rfl, hB1⟩
        rw [hok]
        go_wp2_with fail
        refine (impl_holders _ l w1 (HH.out.below hB1) hb).mono ?_
        rintro e w2 ⟨rfl, hM2, hB2⟩
        have hB2' := hB1.trans (hB2.mono hB1.size)
        have hz := hB1.size
        go_wp2_with (first
          | (at_lookup; refine at_look _ rfl _ _ rfl w1.heap.size l.length (holdF l l.length) rfl hM2 a rfl ha 0 false (by rw [HF.out]; rfl) (by rw [HF.out]; rfl) ?_)
          | (go_at_call 74; refine (impl_in _ _ _ _).mono ?_; rintro e w3 ⟨rfl, rfl⟩; rw [HH'.out])
          | (at_mapUpdate; refine at_store _ rfl _ _ _ rfl w1.heap.size l.length (holdF l l.length) rfl hM2 (by unfold maxLen; omega) a task rfl rfl ha (by unfold In64; omega) ?_; intro w4 hM4 hg4))
        have hB4 := hB2'.grown hg4 hB2'.size (fun j hj => by cases hj; exact hz)
        refine (impl_withHolders _ l w4 (HH.out.below hB4) l1 l30 _ _ _ hM4 (fun x c hx => by
          split at hx
          · cases hx; omega
          · exact hold_bound hb x c hx)).mono ?_
        rintro e w5 ⟨g, u, rfl, hg, hO, hB5⟩
        rw [withF_lock l ha0] at hO
        go_wp2
        go_ret2
        exact SaysL.fresh hB4 hg hO (by rw [giveO_len]; exact l1) hB5
      · have HR : lockB l a task = (l, false) := by rw [HL, hh]; simp
        rw [HR]
        have HH' := Lib.hid (show inB a 0 ((l.length : Int) - 1) = false from hh)
        clear HL HR h hf q0 hh
        go_enter Try.func80, Try.ntmps80
        go_wp2_with fail
        refine C.mono ?_
        rintro e w1 ⟨rfl, hB1⟩
        rw [hok]
        go_wp2_with fail
        refine (impl_holders _ l w1 (HH.out.below hB1) hb).mono ?_
        rintro e w2 ⟨rfl, hM2, hB2⟩
        have hB2' := hB1.trans (hB2.mono hB1.size)
        have hz := hB1.size
        go_wp2_with (first
          | (at_lookup; refine at_look _ rfl _ _ rfl w1.heap.size l.length (holdF l l.length) rfl hM2 a rfl ha 0 false (by rw [HF.out]; rfl) (by rw [HF.out]; rfl) ?_)
          | (go_at_call 74; refine (impl_in _ _ _ _).mono ?_; rintro e w3 ⟨rfl, rfl⟩; rw [HH'.out]))
        refine (impl_withHolders _ l w2 (HH.out.below hB2') l1 l30 _ _ _ hM2 (hold_bound hb)).mono ?_
        rintro e w3 ⟨g, u, rfl, hg, hO, hB3⟩
        rw [withF_hold] at hO
        go_wp2
        go_ret2
        exact SaysL.fresh hB2' hg hO l1 hB3
  · have HR : lockB l a task = ([], false) := by unfold lockB; rw [hok]; rfl
    rw [HR]
    go_enter Try.func80, Try.ntmps80
    go_wp2_with fail
    refine C.mono ?_
    rintro e w1 ⟨rfl, hB1⟩
    rw [hok]
    go_wp2
    go_ret2
    exact ⟨_, rfl, OwnR.nil _ _ _ _ _ _ _ (by simp [maxLen]), hB1⟩

end Go.Proofs.Ythllpgjggmdmmaa
