/- PairsIn of the model: it answers 'pairsB' of the nodes, in memory of its own. -/
import Derived.Test.YtbbpnmdnnjbakaaFound
import Derived.Test.YtbbpnmdnnjbakaaRowPair
import Derived.Deep.AppendLies
namespace Go.Proofs.Ytbbpnmdnnjbakaa
open Go.ChangeShapes Go.WideShapes Go.ChangeAt Go.RowKit
set_option linter.unusedVariables false
set_option linter.unusedSimpArgs false

def pairAt (l : List ND) (p : Nat) : RP := match l[p]? with
  | none => ⟨0, 0⟩
  | some n => ⟨n.k, n.v⟩
def pairsB (l : List ND) : List RP := if treeB l then (trav l).1.map (pairAt l) else []
theorem infoPair : (Try.prog.info? 49).map (fun i => (i.zero, i.size, i.bytes)) = some (some (.agg #[.int .i64 0, .int .i64 0]), 2, 16) := by kernel_rfl
/-- What PairsIn leaves: a row of its own. -/
def SaysP (l : List ND) (w : World) (e : Ending) (w' : World) : Prop :=
  ∃ oa oc, e = .returned (.slice oa (pairsB l).length oc) ∧ w'.ownsRow w.heap.size 49 2 (.slice oa (pairsB l).length oc) (pairsB l).length (cellsP (pairsB l)) ∧ Below w.heap.size w w'
theorem none_rowP {w w1 : World} (hb : Below w.heap.size w w1) : (w1.alloc (.cells #[] 49)).ownsRow w.heap.size 49 2 (.slice (some ⟨w1.heap.size, 0, none⟩) 0 0) 0 [] :=
  ⟨rfl, .inr ⟨w1.heap.size, 0, #[], rfl, hb.size, World.alloc_heap_new w1 _, Nat.le_refl _, by simp [maxLen], rfl, rfl⟩⟩
theorem row_below {w1 w2 : World} {B D : Nat} {e : TypeId} {sz n : Nat} {v : Value} {cs : List Value} (h : w1.ownsRow B e sz v n cs) (hD : w1.heap.size ≤ D) (hb : Below D w1 w2) : w2.ownsRow B e sz v n cs := by
  rcases h with ⟨h1, h2 | ⟨g, cap, cur, hv, hg, hh, r⟩⟩
  · exact ⟨h1, .inl h2⟩
  · exact ⟨h1, .inr ⟨g, cap, cur, hv, hg, (hb.block g (Nat.lt_of_lt_of_le (Array.getElem?_eq_some_iff.1 hh).1 hD)).trans hh, r⟩⟩
theorem pairs_not {l : List ND} (h : treeB l = false) : pairsB l = [] := by simp [pairsB, h]
theorem cellsP_snoc' (l : List RP) (n : RP) : cellsP (l ++ [n]) = cellsP l ++ n.cells := by simp [cellsP]

set_option maxRecDepth 100000 in
set_option maxHeartbeats 4000000 in
theorem spec_pairs_not (v : Value) (l : List ND) (w : World) (h : NSl w v l) (hl : l.length ≤ 1048576) (ht : treeB l = false) : Calls Try.prog 12 #[v] w (SaysP l w) := by
  have hba : Below w.heap.size w (w.alloc (.cells #[] 49)) := (Below.refl _ _).alloc (Nat.le_refl _) _
  have C := l2All_in v l _ (h.below hba) hl
  have hd := Lib.hid (pairs_not ht)
  obtain ⟨a, cap, rfl, _⟩ := h
  go_enter Try.func12, Try.ntmps12
  go_wp2_with fail
  refine C.mono ?_
  rintro e w1 ⟨oa, oc, rfl, hown, hb⟩
  rw [allB_ok, ht]
  have hrow : w1.ownsRow w.heap.size 49 2 (.slice (some ⟨w.heap.size, 0, none⟩) 0 0) 0 [] := row_below (none_rowP (Below.refl _ w)) (Nat.le_refl _) hb
  have HB := Lib.hid (And.intro hrow (hba.trans (hb.mono hba.size)))
  clear hb C hown hrow hba
  go_wp2_with fail
  go_loopw [3, 6] (fun o i wr => o = .slice (some ⟨w.heap.size, 0, none⟩) 0 0 ∧ i = .int .i64 0 ∧ wr = w1) (fun _ i _ => 0)
  case atStart => exact ⟨rfl, rfl, rfl⟩
  case round =>
    obtain ⟨rfl, rfl, rfl⟩ := hrel
    go_wp2
    all_goals
      go_ret
      rw [SaysP, hd.out]
      exact ⟨_, _, rfl, HB.out.1, HB.out.2⟩

set_option maxRecDepth 100000 in
set_option maxHeartbeats 4000000 in
theorem spec_pairs_go (v : Value) (l : List ND) (w : World) (h : NSl w v l) (ht : treeB l = true) : Calls Try.prog 12 #[v] w (SaysP l w) := by
  obtain ⟨n0, hr0, hn⟩ := tree_at ht
  obtain ⟨hL, hr, hrt, _⟩ := walk_at hr0 hn
  obtain ⟨xs, hh, t, htr, hxs, hh30⟩ := tree_of ht
  have hba : Below w.heap.size w (w.alloc (.cells #[] 49)) := (Below.refl _ _).alloc (Nat.le_refl _) _
  have C := l2All_in v l _ (h.below hba) (by have := hL.1; omega)
  have hf : pairsB l = xs.map (pairAt l) := by rw [pairsB, ht, if_pos rfl, htr]
  have hall : allB l = (xs, true) := by rw [allB, hn, if_pos rfl, htr]
  have hat : ∀ i p, xs[i]? = some p → ∃ m, l[p]? = some m := fun i p hp => by
    obtain ⟨m, hm, _⟩ := t.rise.mem p (List.mem_of_getElem? hp)
    exact ⟨m, hm⟩
  obtain ⟨b, off, cap, rfl, k1, m1, s1, H1⟩ := h.at (by intro e; rw [e] at hr0; simp at hr0)
  go_enter Try.func12, Try.ntmps12
  go_wp2_with fail
  refine C.mono ?_
  rintro e w1 ⟨oa, oc, rfl, hown, hb⟩
  rw [hall] at hown ⊢
  have hrow : w1.ownsRow w.heap.size 49 2 (.slice (some ⟨w.heap.size, 0, none⟩) 0 0) 0 [] := row_below (none_rowP (Below.refl _ w)) (Nat.le_refl _) hb
  have hb2 := hba.trans (hb.mono hba.size)
  have hz1 : w.heap.size + 1 ≤ w1.heap.size := by have := hb.size; simpa using this
  have HO := Lib.hid hown
  have HB := Lib.hid hb2
  have HF := Lib.hid hf
  have HH := Lib.hid H1
  have HA := Lib.hid hat
  have HR := Lib.hid hrow
  clear hb hb2 hr hr0 hf C H1 t h hown hall hat hrow hba
  rcases Nat.eq_zero_or_pos xs.length with hx0 | hx0
  · obtain rfl : xs = [] := List.length_eq_zero_iff.1 hx0
    clear hx0
    go_wp2_with fail
    go_loopw [3, 6] (fun o i wr => o = .slice (some ⟨w.heap.size, 0, none⟩) 0 0 ∧ i = .int .i64 0 ∧ wr = w1) (fun _ i _ => 0)
    case atStart => exact ⟨rfl, rfl, rfl⟩
    case round =>
      obtain ⟨rfl, rfl, rfl⟩ := hrel
      go_wp2
      all_goals
        go_ret
        rw [SaysP, HF.out]
        exact ⟨_, _, rfl, HR.out, HB.out⟩
  · obtain ⟨g, rfl, hg1, hg2, hg3⟩ := row_at HO.out hx0
    obtain ⟨i0, hi0, hz0, hz1', hz2⟩ := info_parts infoPair
    have HG := Lib.hid hg3
    have hg1' : w.heap.size + 1 ≤ g := by simpa using hg1
    clear hg3 hg1
    go_wp2_with fail
    go_loopw [3, 6] (fun o i wr => ∃ (k : Nat) (oa3 : Option Addr) (oc3 : Nat), k ≤ xs.length ∧ o = .slice oa3 k oc3 ∧ i = .int .i64 k ∧ Hid (wr.ownsRow w.heap.size 49 2 (.slice oa3 k oc3) k (cellsP ((xs.take k).map (pairAt l)))) ∧
        Hid ((Value.slice oa3 k oc3).ownBlock ≠ some g) ∧ Below w.heap.size w wr ∧ g < wr.heap.size ∧ Hid (∀ j, j < xs.length → wr.cell? ⟨g, j, none⟩ = (xs.map intV)[j]?)) (fun _ i _ => xs.length - (intOf i).toNat)
    case atStart => exact ⟨0, _, _, Nat.zero_le _, rfl, rfl, Lib.hid (by simpa [cellsP] using HR.out), Lib.hid (by simp [Value.ownBlock]; omega), HB.out, hg2, HG⟩
    case round =>
      obtain ⟨k, oa3, oc3, hk, rfl, rfl, HW, HN, hB, hgl, HC⟩ := hrel
      by_cases hlt : k < xs.length
      · obtain ⟨p, hp⟩ : ∃ p, xs[k]? = some p := ⟨_, List.getElem?_eq_getElem hlt⟩
        obtain ⟨m, hm⟩ := HA.out k p hp
        have hpl : p < l.length := (List.getElem?_eq_some_iff.1 hm).1
        have A0 := (HH.out p m hm).below hB s1
        simp only [At8] at A0
        obtain ⟨A1, A2, -⟩ := A0
        have A3 : wr.cell? ⟨g, k, none⟩ = some (.int .i64 (p : Int)) := by
          rw [HC.out k hlt]
          simp [hp, intV]
        have j0 : (0 : Int) ≤ (k : Int) := by omega
        have j1 : (k : Int) < (xs.length : Int) := by omega
        have i0' : (0 : Int) ≤ (p : Int) := by omega
        have i1 : (p : Int) < (l.length : Int) := by omega
        have hbl : b < wr.heap.size := Nat.lt_of_lt_of_le s1 hB.size
        have hbrow : (Value.slice oa3 k oc3).ownBlock ≠ some b := by
          intro e
          rcases HW.out.2 with ⟨h, -⟩ | ⟨g', cap', cur, hv, hg', -⟩
          · rw [h] at e; cases e
          · rw [hv] at e
            obtain rfl : g' = b := by simpa [Value.ownBlock] using e
            omega
        have hgrow' : (Value.slice oa3 k oc3).ownBlock ≠ some g := HN.out
        have hstep : (xs.take (k + 1)).map (pairAt l) = (xs.take k).map (pairAt l) ++ [⟨m.k, m.v⟩] := by
          rw [List.take_add_one, hp]
          simp [pairAt, hm]
        have HS := Lib.hid hstep
        have HBB := Lib.hid hB
        clear hstep hB hm hp
        go_wp2_with fail
        go_region_held3 (fun w' => w'.cell? ⟨g, k, none⟩ = some (.int .i64 (p : Int)) ∧ w'.cell? ⟨b, off + p * 8, none⟩ = some (.int .i64 m.k) ∧ w'.cell? ⟨b, off + p * 8 + 1, none⟩ = some (.int .i64 m.v))
          (first
            | go_keep
            | (go_split_ands
               refine ⟨?_, ?_, ?_⟩
               · (rw [hgrow.cell_far _ (by simp; omega) (Ne.symm hgrow')]; assumption)
               · (rw [hgrow.cell_far _ (by simp; omega) (Ne.symm hbrow)]; assumption)
               · (rw [hgrow.cell_far _ (by simp; omega) (Ne.symm hbrow)]; assumption)))
          ((refine step_append_lies _ (by rfl) _ _ _ (by rfl) w.heap.size 49 i0 _ 2 16 Try.underlying29 hi0 hz0 hz1' hz2 rfl (by omega) (.slice oa3 k oc3) k (cellsP ((xs.take k).map (pairAt l))) (by rfl) ((HW.out.alloc _).drew) ⟨wr.heap.size, 0, none⟩ 1 1 [.int .i64 m.k, .int .i64 m.v] (by rfl) (by rfl) (World.news_of_block (cs := #[.int .i64 m.k, .int .i64 m.v]) (t := 49) (fr := (0, 0)) (heap_alloc_new wr _)) (by simp [Value.oneCell']) (by omega) (by simp [maxLen]; omega) (by omega) (by have := HBB.out.size; simp; omega) (wr.heap.size + 1) (by simp) ?_; intro gg cap4 w4 hown4 hgrow hat hlt4))
        have hs4 := hgrow.size
        simp at hs4
        have hl4 : ∀ j, j < xs.length → w4.cell? ⟨g, j, none⟩ = (xs.map intV)[j]? := fun j hj => by
          rw [hgrow.cell_far _ (by simp; omega) (Ne.symm hgrow'), ← HC.out j hj]
          exact ((Below.refl wr.heap.size wr).alloc (Nat.le_refl _) _).drew.cell (p := ⟨g, j, none⟩) hgl
        have hB4 : Below w.heap.size w w4 := Below.grown (by repeat (first | exact HBB.out | refine Below.drew ?_ | refine Below.alloc ?_ HBB.out.size _)) hgrow (by have := HBB.out.size; simp; omega) (fun j e => by
          rcases HW.out.2 with ⟨h, -⟩ | ⟨g', cap', cur, hv, hg', -⟩
          · rw [h] at e; cases e
          · rw [hv] at e
            obtain rfl : g' = j := by simpa [Value.ownBlock] using e
            exact hg')
        have hne4 : (Value.slice (some ⟨gg, 0, none⟩) (k + 1) cap4).ownBlock ≠ some g := fun e => by
          have e' : gg = g := by simpa [Value.ownBlock] using e
          rcases hat with h | h
          · exact hgrow' (by rw [h, e'])
          · omega
        have hO4 : w4.ownsRow w.heap.size 49 2 (.slice (some ⟨gg, 0, none⟩) (k + 1) cap4) (k + 1) (cellsP ((xs.take (k + 1)).map (pairAt l))) := by
          rw [HS.out, cellsP_snoc']
          exact hown4
        have R := Lib.hid (And.intro hO4 (And.intro hne4 (And.intro hB4 hl4)))
        have hg4 : g < w4.heap.size := by omega
        clear hO4 hne4 hB4 hl4 hown4 hgrow hat
        go_wp2
        go_roundw
        case rel => exact ⟨k + 1, some ⟨gg, 0, none⟩, cap4, by omega, rfl, by go_num, Lib.hid R.out.1, Lib.hid R.out.2.1, R.out.2.2.1, hg4, Lib.hid R.out.2.2.2⟩
        case measure => simp [intOf]; omega
      · obtain rfl : k = xs.length := by omega
        have hO : wr.ownsRow w.heap.size 49 2 (.slice oa3 xs.length oc3) xs.length (cellsP (xs.map (pairAt l))) := by
          have := HW.out
          rwa [List.take_length] at this
        have R := Lib.hid (And.intro hO hB)
        clear hO hB
        go_wp2
        all_goals
          go_ret
          rw [SaysP, HF.out]
          exact ⟨oa3, oc3, by rw [List.length_map]; rfl, by rw [List.length_map]; exact R.out.1, R.out.2⟩
theorem spec_PairsIn (v : Value) (l : List ND) (w : World) (h : NSl w v l) (hl : l.length ≤ 1048576) : Calls Try.prog 12 #[v] w (SaysP l w) := by
  rcases Bool.eq_false_or_eq_true (treeB l) with ht | ht
  · exact spec_pairs_go v l w h ht
  · exact spec_pairs_not v l w h hl ht
end Go.Proofs.Ytbbpnmdnnjbakaa
