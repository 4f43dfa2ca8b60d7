/- FoundIn of the program and of the model: both answer 'foundB' of the nodes and the key. -/
import Derived.Test.YtbbpnmdnnjbakaaDepth
import Derived.Deep.LoopGhost
namespace Go.Proofs.Ytbbpnmdnnjbakaa
open Go.ChangeShapes Go.WideShapes Go.ChangeAt Go.RowKit
set_option linter.unusedVariables false
set_option linter.unusedSimpArgs false

def SaysF (l : List ND) (key : Int) (w : World) (e : Ending) (w' : World) : Prop := e = .returned (.int .i64 (foundB l key)) ∧ Below w.heap.size w w'
theorem foundB_not {l : List ND} {key : Int} (h : treeB l = false) : foundB l key = 0 := by simp [foundB, h]

set_option maxRecDepth 100000 in
set_option maxHeartbeats 4000000 in
theorem impl_found_not (v : Value) (l : List ND) (key : Int) (w : World) (h : NSl w v l) (hl : l.length ≤ 1048576) (ht : treeB l = false) : Calls Try.prog 19 #[v, .int .i64 key] w (SaysF l key w) := by
  have C := impl_TreeOk v l w h hl
  have hd := Lib.hid (foundB_not (key := key) ht)
  obtain ⟨a, cap, rfl, _⟩ := h
  go_enter Try.func19, Try.ntmps19
  go_wp2_with fail
  refine C.mono ?_
  rintro e w1 ⟨rfl, hb⟩
  rw [ht]
  have HB := Lib.hid hb
  clear hb C
  go_wp2
  go_ret
  exact ⟨by rw [hd.out]; rfl, HB.out⟩

/-- A node's eight cells, kept. -/
def S1 (w : World) (b o : Nat) (n : ND) (w' : World) : Prop := b < w.heap.size ∧ Below w.heap.size w w' ∧ At8 w' b o n
theorem S1.drew {w : World} {b o : Nat} {n : ND} {w' : World} (h : S1 w b o n w') : S1 w b o n w'.drew := ⟨h.1, h.2.1.drew, h.2.2⟩
theorem S1.below {w : World} {b o : Nat} {n : ND} {w' w1 : World} (h : S1 w b o n w') (hb : Below w'.heap.size w' w1) : S1 w b o n w1 :=
  ⟨h.1, h.2.1.trans (hb.mono h.2.1.size), h.2.2.below hb (Nat.lt_of_lt_of_le h.1 h.2.1.size)⟩
theorem S1.out {w : World} {b o : Nat} {n : ND} {w' : World} (h : S1 w b o n w') {a c : Nat} (ha : n.l = (a : Int)) (hc : n.r = (c : Int)) : Below w.heap.size w w' ∧ w'.cell? ⟨b, o, none⟩ = some (.int .i64 n.k) ∧ w'.cell? ⟨b, o + 1, none⟩ = some (.int .i64 n.v) ∧ w'.cell? ⟨b, o + 2, none⟩ = some (.int .i64 a) ∧ w'.cell? ⟨b, o + 3, none⟩ = some (.int .i64 c) ∧ w'.cell? ⟨b, o + 4, none⟩ = some (.int .i64 n.o) ∧ w'.cell? ⟨b, o + 5, none⟩ = some (.bool n.g) ∧ w'.cell? ⟨b, o + 6, none⟩ = some (.int .i64 n.lt) ∧ w'.cell? ⟨b, o + 7, none⟩ = some (.int .i64 n.rt) := by
  obtain ⟨_, hb, h1⟩ := h
  simp only [At8, ha, hc] at h1
  exact ⟨hb, h1⟩

set_option maxRecDepth 100000 in
set_option maxHeartbeats 4000000 in
theorem impl_found_go (v : Value) (l : List ND) (key : Int) (w : World) (h : NSl w v l) (ht : treeB l = true) : Calls Try.prog 19 #[v, .int .i64 key] w (SaysF l key w) := by
  obtain ⟨n0, hr0, hn⟩ := tree_at ht
  obtain ⟨hL, hr, hrt, _⟩ := walk_at hr0 hn
  obtain ⟨xs, hh, t, htr, -, hh30⟩ := tree_of ht
  have C := impl_TreeOk v l w h (by have := hL.1; omega)
  have hf : foundB l key = ((findB l key xs : Nat) : Int) := by rw [foundB, ht, if_pos rfl, htr]
  obtain ⟨b, off, cap, rfl, k1, m1, s1, H1⟩ := h.at (by intro e; rw [e] at hr0; simp at hr0)
  go_enter Try.func19, Try.ntmps19
  go_wp2_with fail
  refine C.mono ?_
  rintro e w1 ⟨rfl, hb⟩
  rw [ht]
  have A1 := (H1 0 n0 hr0).below hb s1
  rw [Nat.zero_mul, Nat.add_zero] at A1
  simp only [At8, hr] at A1
  have i2 : (0 : Int) < (l.length : Int) := by have := hL.2.1; omega
  have HB := Lib.hid hb
  have HF := Lib.hid hf
  have HH := Lib.hid H1
  have HT := Lib.hid t
  clear hb hr hr0 hf C H1 t h
  go_wp2_with fail
  go_loopg [5] (hh + 1) (fun k i wr => ∃ (p : Nat) (lo hi : Int) (ys : List Nat) (h' : Nat), i = .int .i64 (p : Int) ∧ Hid (IsT l p lo hi ys h') ∧ h' < k ∧ Hid (findB l key ys = findB l key xs) ∧ Below w.heap.size w wr)
  case atStart => exact ⟨rootR l, -1, 100, xs, hh, rfl, HT, by omega, Lib.hid rfl, HB.out⟩
  case round =>
    clear A1 HB HT
    obtain ⟨p, lo, hi, ys, h', rfl, HI, hk, HE, hB⟩ := hrel
    by_cases h0 : p = 0
    · subst h0
      have hz : findB l key xs = 0 := by
        rw [← HE.out]
        have ti := HI.out
        cases ti with
        | nil lo hi => rfl
        | node _ _ _ _ _ _ _ _ _ _ h0 => exact absurd rfl h0
      have HZ := Lib.hid hz
      have HBB := Lib.hid hB
      clear hz hB
      go_wp2
      go_ret
      exact ⟨by rw [HF.out, HZ.out]; rfl, HBB.out⟩
    · obtain ⟨n, a, c, hm, ha, hc, f1, f2, f3⟩ := IsT.find_step (key := key) HI.out h0
      have hp : p < l.length := (List.getElem?_eq_some_iff.1 hm).1
      have A0 := (HH.out p n hm).below hB s1
      have HS : S1 wr b (off + p * 8) n wr := ⟨Nat.lt_of_lt_of_le s1 hB.size, Below.refl _ _, A0⟩
      have A1 := A0
      simp only [At8, ha, hc] at A1
      have t0 : ((p : Int) == 0) = false := by simpa using h0
      have i0 : (0 : Int) ≤ (p : Int) := by omega
      have i1 : (p : Int) < (l.length : Int) := by omega
      have HA := Lib.hid (And.intro ha hc)
      have F1 := Lib.hid f1
      have F2 := Lib.hid f2
      have F3 := Lib.hid f3
      have HBB := Lib.hid hB
      have hp0 : ((p : Int) != 0) = true := by simpa [bne] using h0
      clear A0 f1 f2 f3 hB hm ha hc
      by_cases hkey : n.k = key
      · have hv : findB l key xs = p := by rw [← HE.out]; exact F1.out hkey
        have HV := Lib.hid hv
        have q0 : (n.k != key) = false := by simp [hkey]
        have HK := Lib.hid hkey
        clear hv HS hkey
        go_wp2
        go_ret
        exact ⟨by rw [HF.out, HV.out]; rfl, HBB.out⟩
      · have q0 : (n.k != key) = true := by simp [bne, hkey]
        have HK := Lib.hid hkey
        have HSS := Lib.hid HS
        clear hkey HS
        have W0 := S1.out HSS.out HA.out.1 HA.out.2
        go_wp2_with fail
        go_region_held3 (fun w' => Below wr.heap.size wr w' ∧ w'.cell? ⟨b, off + p * 8, none⟩ = some (.int .i64 n.k) ∧ w'.cell? ⟨b, off + p * 8 + 1, none⟩ = some (.int .i64 n.v) ∧ w'.cell? ⟨b, off + p * 8 + 2, none⟩ = some (.int .i64 a) ∧ w'.cell? ⟨b, off + p * 8 + 3, none⟩ = some (.int .i64 c) ∧ w'.cell? ⟨b, off + p * 8 + 4, none⟩ = some (.int .i64 n.o) ∧ w'.cell? ⟨b, off + p * 8 + 5, none⟩ = some (.bool n.g) ∧ w'.cell? ⟨b, off + p * 8 + 6, none⟩ = some (.int .i64 n.lt) ∧ w'.cell? ⟨b, off + p * 8 + 7, none⟩ = some (.int .i64 n.rt))
          (first
            | exact S1.out (S1.drew HSS.out) HA.out.1 HA.out.2
            | exact S1.out (S1.below (S1.drew HSS.out) hb1) HA.out.1 HA.out.2
            | exact S1.out (S1.below (S1.below (S1.drew HSS.out) hb1) hb2) HA.out.1 HA.out.2)
          (first
            | (go_at_call 29; refine (impl_SideOf _ _ _ _ _ _ _ _ _ _).mono ?_; rintro e w1 ⟨rfl, hb1⟩)
            | (go_at_call 28; refine (impl_KidOf _ _ _ _ _ _ _ _ _ _).mono ?_; rintro e w2 ⟨rfl, hb2⟩))
        rename_i hH
        have hB3 := Lib.hid hH.1
        clear hH hb1 hb2 W0
        have hnext : ∃ (p' : Nat) (lo' hi' : Int) (ys' : List Nat) (h'' : Nat), h'' < h' ∧ Hid (IsT l p' lo' hi' ys' h'') ∧ Hid (findB l key ys' = findB l key xs) ∧ Hid (kidF (sideF key n.k) (a : Int) (c : Int) = (p' : Int)) := by
          by_cases hlt : key < n.k
          · obtain ⟨lo', hi', ys', h'', q1, q2, q3⟩ := F2.out hlt
            exact ⟨a, lo', hi', ys', h'', q1, Lib.hid q2, Lib.hid (q3.symm.trans HE.out), Lib.hid (by simp [sideF, kidF, hlt])⟩
          · obtain ⟨lo', hi', ys', h'', q1, q2, q3⟩ := F3.out (by have := HK.out; omega)
            exact ⟨c, lo', hi', ys', h'', q1, Lib.hid q2, Lib.hid (q3.symm.trans HE.out), Lib.hid (by simp [sideF, kidF, hlt])⟩
        obtain ⟨p', lo', hi', ys', h'', q1, q2, q3, q4⟩ := hnext
        go_wp2
        go_roundg (h'' + 1)
        case measure => omega
        case rel => exact ⟨p', lo', hi', ys', h'', by rw [q4.out], q2, by omega, q3, HBB.out.trans (hB3.out.mono HBB.out.size)⟩
theorem impl_FoundIn (v : Value) (l : List ND) (key : Int) (hkey : In64 key) (w : World) (h : NSl w v l) (hl : l.length ≤ 1048576) : Calls Try.prog 19 #[v, .int .i64 key] w (SaysF l key w) := by
  rcases Bool.eq_false_or_eq_true (treeB l) with ht | ht
  · exact impl_found_go v l key w h ht
  · exact impl_found_not v l key w h hl ht

/-! ### The model's -/
theorem row_at {w : World} {B n oc : Nat} {e : TypeId} {oa : Option Addr} {cs : List Value} (h : w.ownsRow B e 1 (.slice oa n oc) n cs) (hn : 0 < n) : ∃ g, oa = some ⟨g, 0, none⟩ ∧ B ≤ g ∧ g < w.heap.size ∧ ∀ j, j < n → w.cell? ⟨g, j, none⟩ = cs[j]? := by
  rcases h.2 with ⟨-, h0⟩ | ⟨g, cap, cur, hv, hb, hg, h1, h2, h3, h4⟩
  · omega
  · have hoa : oa = some ⟨g, 0, none⟩ := by cases hv; rfl
    refine ⟨g, hoa, hb, (Array.getElem?_eq_some_iff.1 hg).1, fun j hj => ?_⟩
    rw [← h4, cell_of_row w g j cur e (0, 0) hg]
    rw [List.getElem?_take_of_lt (by omega)]
    simp

set_option maxRecDepth 100000 in
set_option maxHeartbeats 4000000 in
theorem spec_found_not (v : Value) (l : List ND) (key : Int) (w : World) (h : NSl w v l) (hl : l.length ≤ 1048576) (ht : treeB l = false) : Calls Try.prog 18 #[v, .int .i64 key] w (SaysF l key w) := by
  have C := l2All_in v l w h hl
  have hd := Lib.hid (foundB_not (key := key) ht)
  obtain ⟨a, cap, rfl, _⟩ := h
  go_enter Try.func18, Try.ntmps18
  go_wp2_with fail
  refine C.mono ?_
  rintro e w1 ⟨oa, oc, rfl, hown, hb⟩
  rw [allB_ok, ht]
  have HB := Lib.hid hb
  clear hb C hown
  go_wp2_with fail
  go_loopw [7] (fun i wr => i = .int .i64 0 ∧ Below w.heap.size w wr) (fun i _ => 0)
  case atStart => exact ⟨rfl, HB.out⟩
  case round =>
    obtain ⟨rfl, hB⟩ := hrel
    have HB2 := Lib.hid hB
    clear hB
    go_wp2
    all_goals
      go_ret
      exact ⟨by rw [hd.out]; rfl, HB2.out⟩

set_option maxRecDepth 100000 in
set_option maxHeartbeats 4000000 in
theorem spec_found_go (v : Value) (l : List ND) (key : Int) (w : World) (h : NSl w v l) (ht : treeB l = true) : Calls Try.prog 18 #[v, .int .i64 key] w (SaysF l key w) := by
  obtain ⟨n0, hr0, hn⟩ := tree_at ht
  obtain ⟨hL, hr, hrt, _⟩ := walk_at hr0 hn
  obtain ⟨xs, hh, t, htr, hxs, hh30⟩ := tree_of ht
  have C := l2All_in v l w h (by have := hL.1; omega)
  have hf : foundB l key = ((findB l key xs : Nat) : Int) := by rw [foundB, ht, if_pos rfl, htr]
  have hall : allB l = (xs, true) := by rw [allB, hn, if_pos rfl, htr]
  have hat : ∀ i p, xs[i]? = some p → ∃ m, l[p]? = some m := fun i p hp => by
    obtain ⟨m, hm, _⟩ := t.rise.mem p (List.mem_of_getElem? hp)
    exact ⟨m, hm⟩
  obtain ⟨b, off, cap, rfl, k1, m1, s1, H1⟩ := h.at (by intro e; rw [e] at hr0; simp at hr0)
  go_enter Try.func18, Try.ntmps18
  go_wp2_with fail
  refine C.mono ?_
  rintro e w1 ⟨oa, oc, rfl, hown, hb⟩
  rw [hall] at hown ⊢
  have HO := Lib.hid hown
  have HB := Lib.hid hb
  have HF := Lib.hid hf
  have HH := Lib.hid H1
  have HA := Lib.hid hat
  clear hb hr hr0 hf C H1 t h hown hall hat
  go_wp2_with fail
  go_loopw [7] (fun i wr => ∃ k : Nat, k ≤ xs.length ∧ i = .int .i64 k ∧ Hid (findB l key (xs.drop k) = findB l key xs) ∧ Below w1.heap.size w1 wr) (fun i _ => xs.length - (intOf i).toNat)
  case atStart => exact ⟨0, Nat.zero_le _, rfl, Lib.hid rfl, Below.refl _ _⟩
  case round =>
    obtain ⟨k, hk, rfl, HE, hB⟩ := hrel
    by_cases hlt : k < xs.length
    · obtain ⟨p, hp⟩ : ∃ p, xs[k]? = some p := ⟨_, List.getElem?_eq_getElem hlt⟩
      obtain ⟨m, hm⟩ := HA.out k p hp
      obtain ⟨g, rfl, hg1, hg2, hg3⟩ := row_at HO.out (show 0 < xs.length by omega)
      have hpl : p < l.length := (List.getElem?_eq_some_iff.1 hm).1
      have A0 := (HH.out p m hm).below (HB.out.trans (hB.mono HB.out.size)) s1
      simp only [At8] at A0
      have A1 := A0.1
      have A2 : wr.cell? ⟨g, k, none⟩ = some (.int .i64 (p : Int)) := by
        rw [hB.cell (p := ⟨g, k, none⟩) hg2, hg3 k hlt]
        simp [hp, intV]
      have j0 : (0 : Int) ≤ (k : Int) := by omega
      have j1 : (k : Int) < (xs.length : Int) := by omega
      have i0 : (0 : Int) ≤ (p : Int) := by omega
      have i1 : (p : Int) < (l.length : Int) := by omega
      have hstep : findB l key (xs.drop k) = if m.k = key then p else findB l key (xs.drop (k + 1)) := by
        have e : xs.drop k = p :: xs.drop (k + 1) := by
          rw [List.drop_eq_getElem_cons hlt]
          congr 1
          rw [List.getElem?_eq_getElem hlt] at hp
          exact Option.some.inj hp
        rw [e, findB, hm]
      have HS := Lib.hid hstep
      have HB2 := Lib.hid hB
      clear A0 hg3 hstep hB hm hp
      by_cases hkey : m.k = key
      · have hv : findB l key xs = p := by rw [← HE.out, HS.out, if_pos hkey]
        have HV := Lib.hid hv
        have q0 : (m.k == key) = true := by simp [hkey]
        clear hv hkey
        go_wp2
        go_ret
        exact ⟨by rw [HF.out, HV.out]; rfl, HB.out.trans (HB2.out.mono HB.out.size)⟩
      · have hv : findB l key (xs.drop (k + 1)) = findB l key xs := by rw [← HE.out, HS.out, if_neg hkey]
        have HV := Lib.hid hv
        have q0 : (m.k == key) = false := by simp [hkey]
        clear hv hkey
        go_wp2
        go_roundw
        case rel => exact ⟨k + 1, by omega, by go_num, HV, HB2.out⟩
        case measure => simp [intOf]; omega
    · obtain rfl : k = xs.length := by omega
      have hz : findB l key xs = 0 := by rw [← HE.out, List.drop_length]; rfl
      have HZ := Lib.hid hz
      have HB2 := Lib.hid hB
      clear hz hB
      go_wp2
      all_goals
        go_ret
        exact ⟨by rw [HF.out, HZ.out]; rfl, HB.out.trans (HB2.out.mono HB.out.size)⟩
theorem spec_FoundIn (v : Value) (l : List ND) (key : Int) (hkey : In64 key) (w : World) (h : NSl w v l) (hl : l.length ≤ 1048576) : Calls Try.prog 18 #[v, .int .i64 key] w (SaysF l key w) := by
  rcases Bool.eq_false_or_eq_true (treeB l) with ht | ht
  · exact spec_found_go v l key w h ht
  · exact spec_found_not v l key w h hl ht
end Go.Proofs.Ytbbpnmdnnjbakaa
