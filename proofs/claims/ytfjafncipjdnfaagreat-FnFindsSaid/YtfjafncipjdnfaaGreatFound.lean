import Derived.Test.YtfjafncipjdnfaaGreatTreeSpec2
import Derived.Sort.AtCall
namespace Go.Proofs.YtfjafncipjdnfaaGreat
open Go.ChangeShapes Go.WideShapes Go.ChangeAt Go.RowKit Go.Shelf
attribute [local go_sem] Oper.semAt_some
set_option linter.unusedVariables false
set_option linter.unusedSimpArgs false
set_option maxHeartbeats 1000000 in
theorem KO (a b : Int) (w : World) : Calls Tryz.prog 89 #[iJ a, iJ b] w fun e w' => e = .returned (iJ (max a b)) ∧ Below w.heap.size w w' := by
  by_cases h : a > b
  · have hm : max a b = a := by omega
    have HM := Lib.hid hm
    clear hm
    go_enter Tryz.func89, Tryz.ntmps89
    go_wp2
    go_ret
    exact ⟨by rw [HM.out]; rfl, Below.refl _ _⟩
  · have hm : max a b = b := by omega
    have HM := Lib.hid hm
    clear hm
    go_enter Tryz.func89, Tryz.ntmps89
    go_wp2
    go_ret
    exact ⟨by rw [HM.out]; rfl, Below.refl _ _⟩
theorem nM {n : Int} (h0 : 0 ≤ n) (h1 : n ≤ 1000000) : IntKind.i64.wrap n = n := by
  simp [IntKind.wrap, IntKind.signed, IntKind.bits]
  omega
theorem pE {w w' : World} {b o : Nat} {x y : Value} {o2 : Nat} (hb : b < w.heap.size) (h1 : w.cell? ⟨b, o, none⟩ = some x) (h2 : w.cell? ⟨b, o2, none⟩ = some y) (h : Below w.heap.size w w') : Below w.heap.size w w' ∧ w'.cell? ⟨b, o, none⟩ = some x ∧ w'.cell? ⟨b, o2, none⟩ = some y :=
  ⟨h, (h.cell (p := ⟨b, o, none⟩) hb).trans h1, (h.cell (p := ⟨b, o2, none⟩) hb).trans h2⟩
set_option maxRecDepth 100000 in
set_option maxHeartbeats 4000000 in
theorem zM (b off cap n₀ : Nat) (l : List ND) (hL : BG l) {p : Nat} {lo hi : Int} {xs : List Nat} {h : Nat} (t : IsT l p lo hi xs h) : ∀ (w : World), h ≤ 100 → NAt n₀ w b off l → n₀ ≤ w.heap.size →
    Calls Tryz.prog 46 #[.slice (some ⟨b, off, none⟩) l.length cap, iJ (p : Int)] w fun e w' => e = .returned (iJ (h : Int)) ∧ Below w.heap.size w w' := by
  induction t with
  | nil lo hi =>
    intro w _ hN _
    clear hN
    go_enter Tryz.func46, Tryz.ntmps46
    go_wp2
    go_ret
    exact ⟨rfl, Below.refl _ _⟩
  | node p lo hi n a c xs ys h1 h2 h0 hn hg hl hh ha hc t1 t2 ih1 ih2 =>
    intro w hm hN hw
    have A1 := hN.2 p n hn
    have hbw : b < w.heap.size := Nat.lt_of_lt_of_le hN.1 hw
    have hp : p < l.length := (List.getElem?_eq_some_iff.1 hn).1
    simp only [At8, ha, hc] at A1
    obtain ⟨-, -, A2, A3, -⟩ := A1
    have t0 : ((p : Int) == 0) = false := by simpa using h0
    have i0 : (0 : Int) ≤ (p : Int) := by omega
    have i1 : (p : Int) < (l.length : Int) := by omega
    have C1 := Lib.hid (fun w' (hb : Below w.heap.size w w') => ih1 w' (by omega) (hN.below (hb.mono hw)) (Nat.le_trans hw hb.size))
    have C2 := Lib.hid (fun w' (hb : Below w.heap.size w w') => ih2 w' (by omega) (hN.below (hb.mono hw)) (Nat.le_trans hw hb.size))
    have D : ((1 : Int) + max (h1 : Int) (h2 : Int)) = ((1 + max h1 h2 : Nat) : Int) := by omega
    have HD := Lib.hid D
    have hm1 : (0 : Int) ≤ max (h1 : Int) (h2 : Int) ∧ max (h1 : Int) (h2 : Int) ≤ 100 := by omega
    clear ih1 ih2 D hN hn ha hc hl hh hg
    go_enter Tryz.func46, Tryz.ntmps46
    go_wp2_with fail
    go_region_held3 (fun w' => Below w.heap.size w w' ∧ w'.cell? ⟨b, off + p * 8 + 2, none⟩ = some (iJ a) ∧ w'.cell? ⟨b, off + p * 8 + 3, none⟩ = some (iJ c))
      (first
        | exact pE hbw A2 A3 (Below.refl _ _).drew
        | exact pE hbw A2 A3 ((Below.refl _ _).drew.trans (Below.mono hb1 (Nat.le_refl _)))
        | exact pE hbw A2 A3 ((Below.refl _ _).drew.trans (Below.mono hb2 (Nat.le_refl _)))
        | exact pE hbw A2 A3 (((Below.refl _ _).drew.trans (Below.mono hb1 (Nat.le_refl _))).trans (Below.mono hb2 hb1.size))
        | exact pE hbw A2 A3 (((Below.refl _ _).drew.trans (Below.mono hb2 (Nat.le_refl _))).trans (Below.mono hb1 hb2.size))
        | exact pE hbw A2 A3 ((((Below.refl _ _).drew.trans (Below.mono hb1 (Nat.le_refl _))).trans (Below.mono hb2 hb1.size)).trans (Below.mono hb3 (Nat.le_trans hb1.size hb2.size)))
        | exact pE hbw A2 A3 ((((Below.refl _ _).drew.trans (Below.mono hb2 (Nat.le_refl _))).trans (Below.mono hb1 hb2.size)).trans (Below.mono hb3 (Nat.le_trans hb2.size hb1.size))))
      (first
        | (go_at_call_has 46 a; refine (C1.out _ (by first | exact (Below.refl _ _).drew | exact ((Below.refl _ _).drew.trans (Below.mono hb2 (Nat.le_refl _))))).mono ?_; rintro e w1 ⟨rfl, hb1⟩)
        | (go_at_call_has 46 c; refine (C2.out _ (by first | exact (Below.refl _ _).drew | exact ((Below.refl _ _).drew.trans (Below.mono hb1 (Nat.le_refl _))))).mono ?_; rintro e w2 ⟨rfl, hb2⟩)
        | (go_at_call 89; refine (KO _ _ _).mono ?_; rintro e w3 ⟨rfl, hb3⟩))
    rename_i hH
    have hB := hH.1
    clear hH hb1 hb2 hb3 C1 C2
    go_wp2
    go_ret
    exact ⟨ret_i ((nM (by omega) (by omega)).trans HD.out), hB⟩
def SaysD (l : List ND) (w : World) (e : Ending) (w' : World) : Prop := e = .returned (iJ (CF l)) ∧ Below w.heap.size w w'
theorem EM {l : List ND} (h : WC l = false) : CF l = -1 := by simp [CF, h]
theorem VM {l : List ND} (h : WC l = true) : ∃ n, l[0]? = some n ∧ YA l = true := by
  have hn : YA l = true := by simp only [WC, Bool.and_eq_true] at h; exact h.1
  cases l with
  | nil => simp [YA] at hn
  | cons n r => exact ⟨n, rfl, hn⟩
set_option maxHeartbeats 1000000 in
theorem OK (v : Value) (l : List ND) (w : World) (h : NSl w v l) (hl : l.length ≤ 1048576) : Calls Tryz.prog 17 #[v] w (SaysD l w) := by
  have C := zL v l w h hl
  rcases Bool.eq_false_or_eq_true (WC l) with ht | ht
  · obtain ⟨n, hr0, hn⟩ := VM ht
    obtain ⟨hL, hr, hrt, _⟩ := qK hr0 hn
    obtain ⟨xs, hh, t, -, -, hh30⟩ := eH ht
    have hd : CF l = (hh : Int) := by rw [CF, ht, if_pos rfl, IsT.hF t (by omega)]
    obtain ⟨b, off, cap, rfl, k1, m1, s1, H1⟩ := h.at (by intro e; rw [e] at hr0; simp at hr0)
    go_enter Tryz.func17, Tryz.ntmps17
    go_wp2_with fail
    refine C.mono ?_
    rintro e w1 ⟨rfl, hb⟩
    rw [ht]
    have A1 := (H1 0 n hr0).below hb s1
    rw [Nat.zero_mul, Nat.add_zero] at A1
    simp only [At8, hr] at A1
    have i2 : (0 : Int) < (l.length : Int) := by have := hL.2.1; omega
    have C2 := zM b off cap w.heap.size l hL t w1 (by omega) (NAt.below ⟨s1, H1⟩ hb) hb.size
    have HB := Lib.hid hb
    have HD := Lib.hid hd
    clear hb hr hr0 hd C
    go_wp2_with fail
    refine C2.mono ?_
    rintro e w2 ⟨rfl, hb2⟩
    go_wp2
    go_ret
    exact ⟨by rw [HD.out]; rfl, HB.out.trans (hb2.mono HB.out.size)⟩
  · have hd := Lib.hid (EM ht)
    obtain ⟨a, cap, rfl, _⟩ := h
    go_enter Tryz.func17, Tryz.ntmps17
    go_wp2_with fail
    refine C.mono ?_
    rintro e w1 ⟨rfl, hb⟩
    rw [ht]
    have HB := Lib.hid hb
    clear hb C
    go_wp2
    go_ret
    exact ⟨by rw [hd.out]; rfl, HB.out⟩
def XO (l : List ND) (key : Int) (w : World) (e : Ending) (w' : World) : Prop := e = .returned (iJ (BF l key)) ∧ Below w.heap.size w w'
theorem CM {l : List ND} {key : Int} (h : WC l = false) : BF l key = 0 := by simp [BF, h]
def S1 (w : World) (b o : Nat) (n : ND) (w' : World) : Prop := b < w.heap.size ∧ Below w.heap.size w w' ∧ At8 w' b o n
theorem S1.drew {w : World} {b o : Nat} {n : ND} {w' : World} (h : S1 w b o n w') : S1 w b o n w'.drew := ⟨h.1, h.2.1.drew, h.2.2⟩
theorem S1.below {w : World} {b o : Nat} {n : ND} {w' w1 : World} (h : S1 w b o n w') (hb : Below w'.heap.size w' w1) : S1 w b o n w1 :=
  ⟨h.1, h.2.1.trans (hb.mono h.2.1.size), h.2.2.below hb (Nat.lt_of_lt_of_le h.1 h.2.1.size)⟩
theorem S1.out {w : World} {b o : Nat} {n : ND} {w' : World} (h : S1 w b o n w') {a c : Nat} (ha : n.l = (a : Int)) (hc : n.r = (c : Int)) : Below w.heap.size w w' ∧ w'.cell? ⟨b, o, none⟩ = some (iJ n.k) ∧ w'.cell? ⟨b, o + 1, none⟩ = some (iJ n.v) ∧ w'.cell? ⟨b, o + 2, none⟩ = some (iJ a) ∧ w'.cell? ⟨b, o + 3, none⟩ = some (iJ c) ∧ w'.cell? ⟨b, o + 4, none⟩ = some (iJ n.o) ∧ w'.cell? ⟨b, o + 5, none⟩ = some (.bool n.g) ∧ w'.cell? ⟨b, o + 6, none⟩ = some (iJ n.lt) ∧ w'.cell? ⟨b, o + 7, none⟩ = some (iJ n.rt) := by
  obtain ⟨_, hb, h1⟩ := h
  simp only [At8, ha, hc] at h1
  exact ⟨hb, h1⟩
theorem YP {w : World} {B n oc : Nat} {e : TypeId} {oa : Option Addr} {cs : List Value} (h : w.ownsRow B e 1 (.slice oa n oc) n cs) (hn : 0 < n) : ∃ g, oa = some ⟨g, 0, none⟩ ∧ B ≤ g ∧ g < w.heap.size ∧ ∀ j, j < n → w.cell? ⟨g, j, none⟩ = cs[j]? := by
  rcases h.2 with ⟨-, h0⟩ | ⟨g, cap, cur, hv, hb, hg, h1, h2, h3, h4⟩
  · omega
  · have hoa : oa = some ⟨g, 0, none⟩ := by cases hv; rfl
    refine ⟨g, hoa, hb, (Array.getElem?_eq_some_iff.1 hg).1, fun j hj => ?_⟩
    rw [← h4, cell_of_row w g j cur e (0, 0) hg]
    rw [List.getElem?_take_of_lt (by omega)]
    simp
set_option maxRecDepth 100000 in
set_option maxHeartbeats 4000000 in
theorem PI (v : Value) (l : List ND) (key : Int) (w : World) (h : NSl w v l) (hl : l.length ≤ 1048576) (ht : WC l = false) : Calls Tryz.prog 16 #[v, iJ key] w (XO l key w) := by
  have C := aJ v l w h hl
  have hd := Lib.hid (CM (key := key) ht)
  obtain ⟨a, cap, rfl, _⟩ := h
  go_enter Tryz.func16, Tryz.ntmps16
  go_wp2_with fail
  refine C.mono ?_
  rintro e w1 ⟨oa, oc, rfl, hown, hb⟩
  rw [qN, ht]
  have HB := Lib.hid hb
  clear hb C hown
  go_wp2_with fail
  go_loopw [7] (fun i wr => i = iJ 0 ∧ Below w.heap.size w wr) (fun i _ => 0)
  case atStart => exact ⟨rfl, HB.out⟩
  case round =>
    obtain ⟨rfl, hB⟩ := hrel
    have HB2 := Lib.hid hB
    clear hB
    go_wp2
    all_goals
      go_ret
      exact ⟨by rw [hd.out]; rfl, HB2.out⟩
set_option maxRecDepth 100000 in
set_option maxHeartbeats 4000000 in
theorem FJ (v : Value) (l : List ND) (key : Int) (w : World) (h : NSl w v l) (ht : WC l = true) : Calls Tryz.prog 16 #[v, iJ key] w (XO l key w) := by
  obtain ⟨n0, hr0, hn⟩ := VM ht
  obtain ⟨hL, hr, hrt, _⟩ := qK hr0 hn
  obtain ⟨xs, hh, t, htr, hxs, hh30⟩ := eH ht
  have C := aJ v l w h (by have := hL.1; omega)
  have hf : BF l key = ((lC l key xs : Nat) : Int) := by rw [BF, ht, if_pos rfl, htr]
  have hall : WH l = (xs, true) := by rw [WH, hn, if_pos rfl, htr]
  have hat : ∀ i p, xs[i]? = some p → ∃ m, l[p]? = some m := fun i p hp => by
    obtain ⟨m, hm, _⟩ := t.rise.mem p (List.mem_of_getElem? hp)
    exact ⟨m, hm⟩
  obtain ⟨b, off, cap, rfl, k1, m1, s1, H1⟩ := h.at (by intro e; rw [e] at hr0; simp at hr0)
  go_enter Tryz.func16, Tryz.ntmps16
  go_wp2_with fail
  refine C.mono ?_
  rintro e w1 ⟨oa, oc, rfl, hown, hb⟩
  rw [hall] at hown ⊢
  have HO := Lib.hid hown
  have HB := Lib.hid hb
  have HF := Lib.hid hf
  have HH := Lib.hid H1
  have HA := Lib.hid hat
  clear hb hr hr0 hf C H1 t h hown hall hat
  go_wp2_with fail
  go_loopw [7] (fun i wr => ∃ k : Nat, k ≤ xs.length ∧ i = iJ k ∧ Hid (lC l key (xs.drop k) = lC l key xs) ∧ Below w1.heap.size w1 wr) (fun i _ => xs.length - (intOf i).toNat)
  case atStart => exact ⟨0, Nat.zero_le _, rfl, Lib.hid rfl, Below.refl _ _⟩
  case round =>
    obtain ⟨k, hk, rfl, HE, hB⟩ := hrel
    by_cases hlt : k < xs.length
    · obtain ⟨p, hp⟩ : ∃ p, xs[k]? = some p := ⟨_, List.getElem?_eq_getElem hlt⟩
      obtain ⟨m, hm⟩ := HA.out k p hp
      obtain ⟨g, rfl, hg1, hg2, hg3⟩ := YP HO.out (show 0 < xs.length by omega)
      have hpl : p < l.length := (List.getElem?_eq_some_iff.1 hm).1
      have A0 := (HH.out p m hm).below (HB.out.trans (hB.mono HB.out.size)) s1
      simp only [At8] at A0
      have A1 := A0.1
      have A2 : wr.cell? ⟨g, k, none⟩ = some (iJ (p : Int)) := by
        rw [hB.cell (p := ⟨g, k, none⟩) hg2, hg3 k hlt]
        simp [hp, UL]
      have j0 : (0 : Int) ≤ (k : Int) := by omega
      have j1 : (k : Int) < (xs.length : Int) := by omega
      have i0 : (0 : Int) ≤ (p : Int) := by omega
      have i1 : (p : Int) < (l.length : Int) := by omega
      have hstep : lC l key (xs.drop k) = if m.k = key then p else lC l key (xs.drop (k + 1)) := by
        have e : xs.drop k = p :: xs.drop (k + 1) := by
          rw [List.drop_eq_getElem_cons hlt]
          congr 1
          rw [List.getElem?_eq_getElem hlt] at hp
          exact Option.some.inj hp
        rw [e, lC, hm]
      have HS := Lib.hid hstep
      have HB2 := Lib.hid hB
      clear A0 hg3 hstep hB hm hp
      by_cases hkey : m.k = key
      · have hv : lC l key xs = p := by rw [← HE.out, HS.out, if_pos hkey]
        have HV := Lib.hid hv
        have q0 : (m.k == key) = true := by simp [hkey]
        clear hv hkey
        go_wp2
        go_ret
        exact ⟨by rw [HF.out, HV.out]; rfl, HB.out.trans (HB2.out.mono HB.out.size)⟩
      · have hv : lC l key (xs.drop (k + 1)) = lC l key xs := by rw [← HE.out, HS.out, if_neg hkey]
        have HV := Lib.hid hv
        have q0 : (m.k == key) = false := by simp [hkey]
        clear hv hkey
        go_wp2
        go_roundw
        case rel => exact ⟨k + 1, by omega, by go_num, HV, HB2.out⟩
        case measure => simp [intOf]; omega
    · obtain rfl : k = xs.length := by omega
      have hz : lC l key xs = 0 := by rw [← HE.out, List.drop_length]; rfl
      have HZ := Lib.hid hz
      have HB2 := Lib.hid hB
      clear hz hB
      go_wp2
      all_goals
        go_ret
        exact ⟨by rw [HF.out, HZ.out]; rfl, HB.out.trans (HB2.out.mono HB.out.size)⟩
theorem pH (v : Value) (l : List ND) (key : Int) (hkey : qF key) (w : World) (h : NSl w v l) (hl : l.length ≤ 1048576) : Calls Tryz.prog 16 #[v, iJ key] w (XO l key w) := by
  rcases Bool.eq_false_or_eq_true (WC l) with ht | ht
  · exact FJ v l key w h ht
  · exact PI v l key w h hl ht
end Go.Proofs.YtfjafncipjdnfaaGreat
