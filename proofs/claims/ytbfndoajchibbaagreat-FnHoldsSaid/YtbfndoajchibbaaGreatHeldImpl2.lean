/- withHolders, Locked and Unlocked of the program. -/
import Derived.Test.YtbfndoajchibbaaGreatHeldImpl
namespace Go.Proofs.YtbfndoajchibbaaGreat
open Go.ChangeShapes Go.WideShapes Go.ChangeAt Go.RowKit Go.Maps
set_option linter.unusedVariables false
set_option linter.unusedSimpArgs false

set_option maxHeartbeats 1000000 in
theorem clone_nodes (v : Value) (l : List ND) (w : World) (h : NSl w v l) (hn : l ≠ []) (hl : l.length ≤ 1048576) : Calls Tryz.prog 33 #[v] w (Fresh w l) := by
  obtain ⟨b1, o1, c1, rfl, k1, m1, s1, H1⟩ := h.at hn
  have hl0 : 0 < l.length := List.length_pos_iff.2 hn
  obtain ⟨i0, hi0, hz0, hz1, hz2⟩ := info_parts infoNode
  have HW := Lib.hid h
  have he : ∀ w : World, (binOp .eql 24 (.slice (some ⟨b1, o1, none⟩) l.length c1) (.slice none 0 0)).run Tryz.prog w = .ok (.bool false) w := fun _ => by kernel_rfl
  clear H1 h
  go_enter Tryz.func33, Tryz.ntmps33
  go_wp2_with (first
    | (at_builtin; refine wpList_append_lies _ rfl _ _ 24 rfl w.heap.size 49 i0 _ 8 64 Tryz.underlying24 hi0 hz0 hz1 hz2 rfl (by decide) (.slice (some ⟨w.heap.size, 0, none⟩) 0 0) 0 [] rfl (none_row _ _ (Below.refl _ _)) ⟨b1, o1, none⟩ l.length c1 (cellsOf l) rfl (cellsOf_len l) (cells_news HW.out ((Below.refl _ _).alloc (Nat.le_refl _) _) hn) (cellsOf_one l) hl0 (by unfold maxLen; omega) (by omega) (by simp) (w.heap.size + 1) (by simp) ?_; intro g cap w1 hown hgrow hat hgl)
    | go_in)
  go_ret
  rw [List.nil_append, Nat.zero_add] at hown
  obtain ⟨q1, q2⟩ : w.heap.size ≤ g ∧ Below w.heap.size w w1 := ⟨by
      rcases hat with h | h
      · simp [Value.ownBlock] at h; omega
      · omega, ((Below.refl _ _).alloc (Nat.le_refl _) _).grown hgrow (by simp) (fun j hj => by simp [Value.ownBlock] at hj; omega)⟩
  exact ⟨g, _, rfl, q1, own_of_row hown, q2⟩

/-- The first k have the Owners that f tells. -/
def PartO (f : Int → Option Int) (l : List ND) (k : Nat) (l' : List ND) : Prop := ∀ i, l'[i]? = if i < k then (l[i]?).map (fun n => setO n (newO f i)) else l[i]?
theorem PartO.len {f : Int → Option Int} {l l' : List ND} {k : Nat} (h : PartO f l k l') : l'.length = l.length := by
  have h1 := h l'.length
  have h2 := h l.length
  simp only [List.getElem?_eq_none (Nat.le_refl _)] at h1 h2
  have a1 : l.length ≤ l'.length := by
    split at h1
    · have := h1.symm; simp at this; omega
    · have := h1.symm; simp at this; omega
  have a2 : l'.length ≤ l.length := by
    split at h2
    · simp at h2; omega
    · simp at h2; omega
  omega
theorem PartO.step {f : Int → Option Int} {l l' : List ND} {k : Nat} {n : ND} (h : PartO f l k l') (hn : l[k]? = some n) : PartO f l (k + 1) (l'.set k (setO n (newO f k))) := by
  intro i
  have hk : k < l'.length := by rw [h.len]; exact (List.getElem?_eq_some_iff.1 hn).1
  rw [List.getElem?_set]
  by_cases e : k = i
  · subst e
    simp [hk, hn]
  · rw [if_neg e, h i]
    by_cases e2 : i < k
    · rw [if_pos e2, if_pos (by omega)]
    · rw [if_neg e2, if_neg (by omega)]
theorem PartO.done {f : Int → Option Int} {l l' : List ND} (h : PartO f l l.length l') : l' = withF f l := by
  apply List.ext_getElem?
  intro i
  rw [h i]
  simp only [withF, List.getElem?_mapIdx]
  split
  · rfl
  · rw [List.getElem?_eq_none (by omega)]; rfl
set_option maxRecDepth 100000 in
set_option maxHeartbeats 2000000 in
theorem impl_withHolders (v : Value) (l : List ND) (w : World) (h : NSl w v l) (hl1 : 1 ≤ l.length) (hl2 : l.length ≤ 30) (b nn : Nat) (f : Int → Option Int) (hM : MapF w b nn f) (hf : ∀ x c, f x = some c → 0 ≤ c ∧ c ≤ 5) :
    Calls Tryz.prog 22 #[v, .map (some b)] w (Fresh w (withF f l)) := by
  have hne : l ≠ [] := by intro e; subst e; simp at hl1
  have C := clone_nodes v l w h hne (by omega)
  have hbl := hM.lt
  clear h
  go_enter Tryz.func22, Tryz.ntmps22
  go_wp2_with fail
  refine C.mono ?_
  rintro e w1 ⟨g, u, rfl, hg, ⟨cap, sp, rfl, q1, q2, ⟨q3, q5⟩, q4⟩, hB1⟩
  have Q5 := Lib.hid q5
  clear q5
  have hm1 := q2
  unfold maxLen at hm1
  have HP := Lib.hid q4
  have HB1 := Lib.hid hB1
  have HM := Lib.hid hM
  have HF := Lib.hid hf
  clear q4 hB1 hM hf C q3
  go_wp2
  go_loopw [13] (fun i wr => ∃ (k : Nat) (l' : List ND), k ≤ l.length ∧ i = .int .i64 k ∧ Hid (PartO f l k l') ∧ Hid (Blk wr g 49 (cellsOf l' ++ sp)) ∧ Below w.heap.size w wr) (fun i _ => l.length - (intOf i).toNat)
  case atStart => exact ⟨0, l, Nat.zero_le _, rfl, Lib.hid (fun i => by simp), HP, HB1.out⟩
  case round =>
    obtain ⟨k, l', hk, rfl, HQ, HL, hB⟩ := hrel
    by_cases hlt : k < l.length
    · obtain ⟨n, hn⟩ : ∃ n, l[k]? = some n := ⟨_, List.getElem?_eq_getElem hlt⟩
      have hn' : l'[k]? = some n := by rw [HQ.out k, if_neg (by omega)]; exact hn
      have HN := Lib.hid hn
      have HN' := Lib.hid hn'
      obtain ⟨A1, A2⟩ := HL.out.there4 hn'
      have i0 : (0 : Int) ≤ (k : Int) := by omega
      have i1 : (k : Int) < (l.length : Int) := by omega
      have hMr := HM.out.below hB hbl
      have HMr := Lib.hid hMr
      have HB := Lib.hid hB
      have hz := hB.size
      clear hn hn' hMr hB
      have hbg : b ≠ g := by omega
      have HS := Lib.hid (HMr.out.same (w' := wr.setCell ⟨g, k * 8 + 4, none⟩ (.int .i64 0)) ((But.set g (k * 8 + 4) wr (.int .i64 0)).block b (by omega) hbg))
      cases hfk : f (k : Int) with
      | none =>
        have HK := Lib.hid hfk
        clear hfk
        go_wp2_with (first
          | (at_lookup; refine at_look _ rfl _ _ rfl b nn f rfl HS.out k rfl (by unfold In64; omega) 0 false (by rw [HK.out]; rfl) (by rw [HK.out]; rfl) ?_)
          | go_in)
        go_roundw
        case rel =>
          refine ⟨k + 1, _, by omega, by go_num, Lib.hid (HQ.out.step HN.out), Lib.hid ?_, (HB.out.setCell (by simpa using hg) _)⟩
          have := HL.out.set4 HN'.out 0
          simpa [newO, HK.out] using this
        case measure => simp [intOf]; omega
      | some c =>
        have HK := Lib.hid hfk
        obtain ⟨c0, c5⟩ := HF.out _ _ hfk
        clear hfk
        go_wp2_with (first
          | (at_lookup; refine at_look _ rfl _ _ rfl b nn f rfl HS.out k rfl (by unfold In64; omega) c true (by rw [HK.out]; rfl) (by rw [HK.out]; rfl) ?_)
          | go_in)
        go_roundw
        case rel =>
          refine ⟨k + 1, _, by omega, by go_num, Lib.hid (HQ.out.step HN.out), Lib.hid ?_, ((HB.out.setCell (by simpa using hg) _).setCell (by simpa using hg) _)⟩
          have h1 := HL.out.set4 HN'.out 0
          have hk' : k < l'.length := (List.getElem?_eq_some_iff.1 HN'.out).1
          have h2 := h1.set4 (k := k) (n := setO n 0) (by simp [hk']) (c + 1)
          simpa [newO, HK.out, setO] using h2
        case measure => simp [intOf]; omega
    · obtain rfl : k = l.length := by omega
      go_wp2
      go_ret
      have e := HQ.out.done
      subst e
      refine ⟨g, _, rfl, hg, ?_, hB⟩
      rw [withF_len]
      have q5 := Q5.out
      simp only [List.length_append, cellsOf_len] at q5
      exact ⟨cap, sp, rfl, q1, q2, ⟨by rw [cellsOf_len, withF_len], by simp only [List.length_append, cellsOf_len, withF_len]; exact q5⟩, HL.out⟩
end Go.Proofs.YtbfndoajchibbaaGreat
