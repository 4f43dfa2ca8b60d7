import Derived.Test.YtfjafncipjdnfaaGreatFound
namespace Go.Proofs.YtfjafncipjdnfaaGreat
open Go.ChangeShapes Go.WideShapes Go.ChangeAt Go.RowKit
set_option linter.unusedVariables false
set_option linter.unusedSimpArgs false
structure RP where
  k : Int
  v : Int
instance : Inhabited RP := ⟨⟨0, 0⟩⟩
def RP.cells (n : RP) : List Value := [iJ n.k, iJ n.v]
def XB (l : List RP) : List Value := l.flatMap RP.cells
theorem RP.cells_len (n : RP) : n.cells.length = 2 := rfl
theorem hG (l : List RP) : (XB l).length = l.length * 2 := FF _ 2 RP.cells_len l
theorem DL {l : List RP} {k : Nat} {n : RP} (h : l[k]? = some n) (j : Nat) (hj : j < 2) : (XB l)[k * 2 + j]? = n.cells[j]? := yG _ 2 RP.cells_len l k j n h hj
theorem SK {l : List RP} {k : Nat} {n : RP} (h : l[k]? = some n) : XB (l.take (k + 1)) = XB (l.take k) ++ n.cells := by
  rw [List.take_add_one, h]
  simp [XB]
def SlP (w : World) (v : Value) (l : List RP) : Prop := Sl w v 2 l.length (XB l)
theorem SlP.below {w w' : World} {v : Value} {l : List RP} (h : SlP w v l) (hb : Below w.heap.size w w') : SlP w' v l := Sl.below (by omega) h hb
def AtP (w : World) (b o : Nat) (n : RP) : Prop := w.cell? ⟨b, o, none⟩ = some (iJ n.k) ∧ w.cell? ⟨b, o + 1, none⟩ = some (iJ n.v)
theorem AtP.below {w w' : World} {b o B : Nat} {n : RP} (h : AtP w b o n) (hb : Below B w w') (hB : b < B) : AtP w' b o n := by
  have e : ∀ p, w'.cell? ⟨b, p, none⟩ = w.cell? ⟨b, p, none⟩ := fun p => hb.cell (p := ⟨b, p, none⟩) hB
  simpa only [AtP, e] using h
theorem SlP.at {w : World} {v : Value} {l : List RP} (h : SlP w v l) (hn : l ≠ []) : ∃ b off cap, v = .slice (some ⟨b, off, none⟩) l.length cap ∧ l.length ≤ cap ∧ cap ≤ maxLen ∧ b < w.heap.size ∧ ∀ k n, l[k]? = some n → AtP w b (off + k * 2) n := by
  obtain ⟨a, cap, rfl, h1, h2, h3, h4⟩ := h
  have hlen : 0 < l.length := List.length_pos_iff.2 hn
  rcases h4 with h4 | ⟨b, off, rfl, hc⟩
  · omega
  · have key : ∀ k n, l[k]? = some n → ∀ j, j < 2 → w.cell? ⟨b, off + k * 2 + j, none⟩ = n.cells[j]? := fun k n hk j hj => by
      have hkl : k < l.length := (List.getElem?_eq_some_iff.1 hk).1
      have := hc (k * 2 + j) (by rw [hG]; omega)
      rw [← Nat.add_assoc] at this
      rw [this, DL hk j hj]
    refine ⟨b, off, cap, rfl, h1, h2, ?_, fun k n hk => ?_⟩
    · have h0 := key 0 _ (List.getElem?_eq_getElem hlen) 0 (by omega)
      exact World.block_lt_of_cell? w ⟨b, _, none⟩ h0
    · have q := key k n hk
      exact ⟨q 0 (by omega), q 1 (by omega)⟩
theorem SlP.nil {w : World} {v : Value} (h : SlP w v []) : ∃ a cap, v = .slice a 0 cap := by
  obtain ⟨a, cap, rfl, _⟩ := h
  exact ⟨a, cap, rfl⟩
def S2P (w : World) (b1 o1 : Nat) (n1 : RP) (b2 o2 : Nat) (n2 : RP) (w' : World) : Prop := b1 < w.heap.size ∧ b2 < w.heap.size ∧ Below w.heap.size w w' ∧ AtP w' b1 o1 n1 ∧ AtP w' b2 o2 n2
theorem S2P.drew {w : World} {b1 o1 : Nat} {n1 : RP} {b2 o2 : Nat} {n2 : RP} {w' : World} (h : S2P w b1 o1 n1 b2 o2 n2 w') : S2P w b1 o1 n1 b2 o2 n2 w'.drew := ⟨h.1, h.2.1, h.2.2.1.drew, h.2.2.2⟩
theorem S2P.out {w : World} {b1 o1 : Nat} {n1 : RP} {b2 o2 : Nat} {n2 : RP} {w' : World} (h : S2P w b1 o1 n1 b2 o2 n2 w') : Below w.heap.size w w' ∧ w'.cell? ⟨b1, o1, none⟩ = some (iJ n1.k) ∧ w'.cell? ⟨b1, o1 + 1, none⟩ = some (iJ n1.v) ∧ w'.cell? ⟨b2, o2, none⟩ = some (iJ n2.k) ∧ w'.cell? ⟨b2, o2 + 1, none⟩ = some (iJ n2.v) := by
  obtain ⟨_, _, hb, h1, h2⟩ := h
  simp only [AtP] at h1 h2
  simp only [h1, h2, hb, and_self]
theorem S2P.below {w : World} {b1 o1 : Nat} {n1 : RP} {b2 o2 : Nat} {n2 : RP} {w' w1 : World} (h : S2P w b1 o1 n1 b2 o2 n2 w') (hb : Below w'.heap.size w' w1) : S2P w b1 o1 n1 b2 o2 n2 w1 := by
  obtain ⟨g1, g2, hw, h1, h2⟩ := h
  have hz := hw.size
  exact ⟨g1, g2, hw.trans (hb.mono hz), h1.below hb (by omega), h2.below hb (by omega)⟩
theorem takeP {α : Type} {R : List α} (h : 2 ≤ R.length) : ∃ x0 x1 T, R = [x0, x1] ++ T := by
  match R, h with
  | x0 :: x1 :: T, _ => exact ⟨x0, x1, T, rfl⟩
def vK (k : Int) : RP := ⟨k, k + 1⟩
def FD (k : Int) : Nat → List RP
  | 0 => []
  | n + 1 => vK k :: FD (k + 2) n
theorem NH (k : Int) (n : Nat) : (FD k n).length = n := by
  induction n generalizing k with
  | zero => rfl
  | succ n ih => simp [FD, ih]
theorem pL (k : Int) (n i : Nat) (h : i < n) : (FD k n)[i]? = some (vK (k + 2 * i)) := by
  induction n generalizing k i with
  | zero => omega
  | succ n ih =>
    cases i with
    | zero => simp [FD]
    | succ i =>
      simp only [FD, List.getElem?_cons_succ]
      rw [ih (k + 2) i (by omega)]
      congr 2
      omega
theorem iH (k : Int) (n i : Nat) (h : i ≤ n) : (FD k n).take i = FD k i := by
  induction n generalizing k i with
  | zero => obtain rfl : i = 0 := by omega
            rfl
  | succ n ih =>
    cases i with
    | zero => rfl
    | succ i => simp only [FD, List.take_succ_cons, ih (k + 2) i (by omega)]
def MarkToP (w : World) (g n : Nat) (m : Int) (k : Nat) (wr : World) : Prop := But g w wr ∧ ∃ R, (n - k) * 2 ≤ R.length ∧ Blk wr g 35 (XB (FD m k) ++ R)
theorem xK (m : Int) (k : Nat) : XB (FD m (k + 1)) = XB (FD m k) ++ (vK (m + 2 * k)).cells := by
  have h := SK (pL m (k + 1) k (by omega))
  rwa [iH m (k + 1) k (by omega), iH m (k + 1) (k + 1) (by omega)] at h
theorem MarkToP.step {w : World} {g n : Nat} {m : Int} {k : Nat} {wr : World} (h : MarkToP w g n m k wr) (hk : k < n) : MarkToP w g n m (k + 1) (setRow wr g (k * 2) (vK (m + 2 * k)).cells) := by
  obtain ⟨h1, R, hR, hblk⟩ := h
  have hk8 : (XB (FD m k)).length = k * 2 := by rw [hG, NH]
  obtain ⟨x0, x1, T, rfl⟩ := takeP (R := R) (by omega)
  have hb1 := hblk.setRow (vK (m + 2 * k)).cells hk8 rfl
  refine ⟨h1.trans (aF g _ wr _), T, ?_, ?_⟩
  · simp at hR; omega
  · rw [xK]
    simpa using hb1
theorem MarkToP.done {w : World} {g n cap : Nat} {m : Int} {wr : World} (h : MarkToP w g n m n wr) (h1 : n ≤ cap) (h2 : cap ≤ maxLen) : Own0 wr (.slice (some ⟨g, 0, none⟩) n cap) g 35 2 n (XB (FD m n)) ∧ But g w wr := by
  obtain ⟨q1, R, hR, hblk⟩ := h
  exact ⟨⟨cap, R, rfl, h1, h2, by rw [hG, NH], hblk⟩, q1⟩
def FC (l : List ND) (p : Nat) : RP := match l[p]? with
  | none => ⟨0, 0⟩
  | some n => ⟨n.k, n.v⟩
def NA (l : List ND) : List RP := if yB l then (lG l).1.map (FC l) else []
theorem DK : (Tryz.prog.info? 35).map (fun i => (i.zero, i.size, i.bytes)) = some (some (.agg #[iJ 0, iJ 0]), 2, 16) := by kernel_rfl
def JF (l : List ND) (w : World) (e : Ending) (w' : World) : Prop :=
  ∃ oa oc, e = .returned (.slice oa (NA l).length oc) ∧ w'.ownsRow w.heap.size 35 2 (.slice oa (NA l).length oc) (NA l).length (XB (NA l)) ∧ Below w.heap.size w w'
theorem OI {w w1 : World} (hb : Below w.heap.size w w1) : (w1.alloc (.cells #[] 35)).ownsRow w.heap.size 35 2 (.slice (some ⟨w1.heap.size, 0, none⟩) 0 0) 0 [] :=
  ⟨rfl, .inr ⟨w1.heap.size, 0, #[], rfl, hb.size, World.alloc_heap_new w1 _, Nat.le_refl _, by simp [maxLen], rfl, rfl⟩⟩
theorem OF {l : List ND} (h : yB l = false) : NA l = [] := by simp [NA, h]
theorem AG (l : List RP) (n : RP) : XB (l ++ [n]) = XB l ++ n.cells := by simp [XB]
set_option maxRecDepth 100000 in
set_option maxHeartbeats 4000000 in
theorem zH (v : Value) (l : List ND) (w : World) (h : NSl w v l) (hl : l.length ≤ 1048576) (ht : yB l = false) : Calls Tryz.prog 14 #[v] w (JF l w) := by
  have hba : Below w.heap.size w (w.alloc (.cells #[] 35)) := (Below.refl _ _).alloc (Nat.le_refl _) _
  have C := AF v l _ (h.below hba) hl
  have hd := Lib.hid (OF ht)
  obtain ⟨a, cap, rfl, _⟩ := h
  go_enter Tryz.func14, Tryz.ntmps14
  go_wp2_with fail
  refine C.mono ?_
  rintro e w1 ⟨oa, oc, rfl, hown, hb⟩
  rw [UJ, ht]
  have hrow : w1.ownsRow w.heap.size 35 2 (.slice (some ⟨w.heap.size, 0, none⟩) 0 0) 0 [] := MG (OI (Below.refl _ w)) (Nat.le_refl _) hb
  have HB := Lib.hid (And.intro hrow (hba.trans (hb.mono hba.size)))
  clear hb C hown hrow hba
  go_wp2_with fail
  go_loopw [3, 6] (fun o i wr => o = .slice (some ⟨w.heap.size, 0, none⟩) 0 0 ∧ i = iJ 0 ∧ wr = w1) (fun _ i _ => 0)
  case atStart => exact ⟨rfl, rfl, rfl⟩
  case round =>
    obtain ⟨rfl, rfl, rfl⟩ := hrel
    go_wp2
    all_goals
      go_ret
      rw [JF, hd.out]
      exact ⟨_, _, rfl, HB.out.1, HB.out.2⟩
set_option maxRecDepth 100000 in
set_option maxHeartbeats 4000000 in
theorem mI (v : Value) (l : List ND) (w : World) (h : NSl w v l) (ht : yB l = true) : Calls Tryz.prog 14 #[v] w (JF l w) := by
  obtain ⟨n0, hr0, hn⟩ := LF ht
  obtain ⟨hL, hr, hrt, _⟩ := BE hr0 hn
  obtain ⟨xs, hh, t, htr, hxs, hh30⟩ := BD ht
  have hba : Below w.heap.size w (w.alloc (.cells #[] 35)) := (Below.refl _ _).alloc (Nat.le_refl _) _
  have C := AF v l _ (h.below hba) (by have := hL.1; omega)
  have hf : NA l = xs.map (FC l) := by rw [NA, ht, if_pos rfl, htr]
  have hall : iG l = (xs, true) := by rw [iG, hn, if_pos rfl, htr]
  have hat : ∀ i p, xs[i]? = some p → ∃ m, l[p]? = some m := fun i p hp => by
    obtain ⟨m, hm, _⟩ := t.rise.mem p (List.mem_of_getElem? hp)
    exact ⟨m, hm⟩
  obtain ⟨b, off, cap, rfl, k1, m1, s1, H1⟩ := h.at (by intro e; rw [e] at hr0; simp at hr0)
  go_enter Tryz.func14, Tryz.ntmps14
  go_wp2_with fail
  refine C.mono ?_
  rintro e w1 ⟨oa, oc, rfl, hown, hb⟩
  rw [hall] at hown ⊢
  have hrow : w1.ownsRow w.heap.size 35 2 (.slice (some ⟨w.heap.size, 0, none⟩) 0 0) 0 [] := MG (OI (Below.refl _ w)) (Nat.le_refl _) hb
  have hb2 := hba.trans (hb.mono hba.size)
  have hz1 : w.heap.size + 1 ≤ w1.heap.size := by have := hb.size; simpa using this
  have HO := Lib.hid hown
  have HB := Lib.hid hb2
  have HF := Lib.hid hf
  have HH := Lib.hid H1
  have HA := Lib.hid hat
  have HR := Lib.hid hrow
  clear hb hb2 hr hr0 hf C H1 t h hown hall hat hrow hba
  rcases Nat.eq_zero_or_pos xs.length with hx0 | hx0
  · obtain rfl : xs = [] := List.length_eq_zero_iff.1 hx0
    clear hx0
    go_wp2_with fail
    go_loopw [3, 6] (fun o i wr => o = .slice (some ⟨w.heap.size, 0, none⟩) 0 0 ∧ i = iJ 0 ∧ wr = w1) (fun _ i _ => 0)
    case atStart => exact ⟨rfl, rfl, rfl⟩
    case round =>
      obtain ⟨rfl, rfl, rfl⟩ := hrel
      go_wp2
      all_goals
        go_ret
        rw [JF, HF.out]
        exact ⟨_, _, rfl, HR.out, HB.out⟩
  · obtain ⟨g, rfl, hg1, hg2, hg3⟩ := dN HO.out hx0
    obtain ⟨i0, hi0, hz0, hz1', hz2⟩ := info_parts DK
    have HG := Lib.hid hg3
    have hg1' : w.heap.size + 1 ≤ g := by simpa using hg1
    clear hg3 hg1
    go_wp2_with fail
    go_loopw [3, 6] (fun o i wr => ∃ (k : Nat) (oa3 : Option Addr) (oc3 : Nat), k ≤ xs.length ∧ o = .slice oa3 k oc3 ∧ i = iJ k ∧ Hid (wr.ownsRow w.heap.size 35 2 (.slice oa3 k oc3) k (XB ((xs.take k).map (FC l)))) ∧
        Hid ((Value.slice oa3 k oc3).ownBlock ≠ some g) ∧ Below w.heap.size w wr ∧ g < wr.heap.size ∧ Hid (∀ j, j < xs.length → wr.cell? ⟨g, j, none⟩ = (xs.map TH)[j]?)) (fun _ i _ => xs.length - (intOf i).toNat)
    case atStart => exact ⟨0, _, _, Nat.zero_le _, rfl, rfl, Lib.hid (by simpa [XB] using HR.out), Lib.hid (by simp [Value.ownBlock]; omega), HB.out, hg2, HG⟩
    case round =>
      obtain ⟨k, oa3, oc3, hk, rfl, rfl, HW, HN, hB, hgl, HC⟩ := hrel
      by_cases hlt : k < xs.length
      · obtain ⟨p, hp⟩ : ∃ p, xs[k]? = some p := ⟨_, List.getElem?_eq_getElem hlt⟩
        obtain ⟨m, hm⟩ := HA.out k p hp
        have hpl : p < l.length := (List.getElem?_eq_some_iff.1 hm).1
        have A0 := (HH.out p m hm).below hB s1
        simp only [At8] at A0
        obtain ⟨A1, A2, -⟩ := A0
        have A3 : wr.cell? ⟨g, k, none⟩ = some (iJ (p : Int)) := by
          rw [HC.out k hlt]
          simp [hp, TH]
        have j0 : (0 : Int) ≤ (k : Int) := by omega
        have j1 : (k : Int) < (xs.length : Int) := by omega
        have i0' : (0 : Int) ≤ (p : Int) := by omega
        have i1 : (p : Int) < (l.length : Int) := by omega
        have hbl : b < wr.heap.size := Nat.lt_of_lt_of_le s1 hB.size
        have hbrow : (Value.slice oa3 k oc3).ownBlock ≠ some b := by
          intro e
          rcases HW.out.2 with ⟨h, -⟩ | ⟨g', cap', cur, hv, hg', -⟩
          · rw [h] at e; cases e
          · rw [hv] at e
            obtain rfl : g' = b := by simpa [Value.ownBlock] using e
            omega
        have hgrow' : (Value.slice oa3 k oc3).ownBlock ≠ some g := HN.out
        have hstep : (xs.take (k + 1)).map (FC l) = (xs.take k).map (FC l) ++ [⟨m.k, m.v⟩] := by
          rw [List.take_add_one, hp]
          simp [FC, hm]
        have HS := Lib.hid hstep
        have HBB := Lib.hid hB
        clear hstep hB hm hp
        go_wp2_with fail
        go_region_held3 (fun w' => w'.cell? ⟨g, k, none⟩ = some (iJ (p : Int)) ∧ w'.cell? ⟨b, off + p * 8, none⟩ = some (iJ m.k) ∧ w'.cell? ⟨b, off + p * 8 + 1, none⟩ = some (iJ m.v))
          (first
            | go_keep
            | (go_split_ands
               refine ⟨?_, ?_, ?_⟩
               · (rw [hgrow.cell_far _ (by simp; omega) (Ne.symm hgrow')]; assumption)
               · (rw [hgrow.cell_far _ (by simp; omega) (Ne.symm hbrow)]; assumption)
               · (rw [hgrow.cell_far _ (by simp; omega) (Ne.symm hbrow)]; assumption)))
          ((refine step_append_lies _ (by rfl) _ _ _ (by rfl) w.heap.size 35 i0 _ 2 16 JC hi0 hz0 hz1' hz2 rfl (by omega) (.slice oa3 k oc3) k (XB ((xs.take k).map (FC l))) (by rfl) ((HW.out.alloc _).drew) ⟨wr.heap.size, 0, none⟩ 1 1 [iJ m.k, iJ m.v] (by rfl) (by rfl) (World.news_of_block (cs := #[iJ m.k, iJ m.v]) (t := 35) (fr := (0, 0)) (heap_alloc_new wr _)) (by simp [Value.oneCell']) (by omega) (by simp [maxLen]; omega) (by omega) (by have := HBB.out.size; simp; omega) (wr.heap.size + 1) (by simp) ?_; intro gg cap4 w4 hown4 hgrow hat hlt4))
        have hs4 := hgrow.size
        simp at hs4
        have hl4 : ∀ j, j < xs.length → w4.cell? ⟨g, j, none⟩ = (xs.map TH)[j]? := fun j hj => by
          rw [hgrow.cell_far _ (by simp; omega) (Ne.symm hgrow'), ← HC.out j hj]
          exact ((Below.refl wr.heap.size wr).alloc (Nat.le_refl _) _).drew.cell (p := ⟨g, j, none⟩) hgl
        have hB4 : Below w.heap.size w w4 := Below.grown (by repeat (first | exact HBB.out | refine Below.drew ?_ | refine Below.alloc ?_ HBB.out.size _)) hgrow (by have := HBB.out.size; simp; omega) (fun j e => by
          rcases HW.out.2 with ⟨h, -⟩ | ⟨g', cap', cur, hv, hg', -⟩
          · rw [h] at e; cases e
          · rw [hv] at e
            obtain rfl : g' = j := by simpa [Value.ownBlock] using e
            exact hg')
        have hne4 : (Value.slice (some ⟨gg, 0, none⟩) (k + 1) cap4).ownBlock ≠ some g := fun e => by
          have e' : gg = g := by simpa [Value.ownBlock] using e
          rcases hat with h | h
          · exact hgrow' (by rw [h, e'])
          · omega
        have hO4 : w4.ownsRow w.heap.size 35 2 (.slice (some ⟨gg, 0, none⟩) (k + 1) cap4) (k + 1) (XB ((xs.take (k + 1)).map (FC l))) := by
          rw [HS.out, AG]
          exact hown4
        have R := Lib.hid (And.intro hO4 (And.intro hne4 (And.intro hB4 hl4)))
        have hg4 : g < w4.heap.size := by omega
        clear hO4 hne4 hB4 hl4 hown4 hgrow hat
        go_wp2
        go_roundw
        case rel => exact ⟨k + 1, some ⟨gg, 0, none⟩, cap4, by omega, rfl, by go_num, Lib.hid R.out.1, Lib.hid R.out.2.1, R.out.2.2.1, hg4, Lib.hid R.out.2.2.2⟩
        case measure => simp [intOf]; omega
      · obtain rfl : k = xs.length := by omega
        have hO : wr.ownsRow w.heap.size 35 2 (.slice oa3 xs.length oc3) xs.length (XB (xs.map (FC l))) := by
          have := HW.out
          rwa [List.take_length] at this
        have R := Lib.hid (And.intro hO hB)
        clear hO hB
        go_wp2
        all_goals
          go_ret
          rw [JF, HF.out]
          exact ⟨oa3, oc3, by rw [List.length_map]; rfl, by rw [List.length_map]; exact R.out.1, R.out.2⟩
theorem DJ (v : Value) (l : List ND) (w : World) (h : NSl w v l) (hl : l.length ≤ 1048576) : Calls Tryz.prog 14 #[v] w (JF l w) := by
  rcases Bool.eq_false_or_eq_true (yB l) with ht | ht
  · exact mI v l w h ht
  · exact zH v l w h hl ht
open Go.Shelf
attribute [local go_sem] Oper.semAt_some
set_option maxRecDepth 100000 in
set_option maxHeartbeats 4000000 in
theorem XH (v : Value) (l : List ND) (w : World) (h : NSl w v l) (hl : l.length ≤ 1048576) (ht : yB l = false) : Calls Tryz.prog 8 #[v] w (JF l w) := by
  have hba : ∀ o, Below w.heap.size w (w.alloc o) := fun o => (Below.refl _ _).alloc (Nat.le_refl _) o
  have C := fun o => kD v l _ (h.below (hba o)) hl
  have hd := Lib.hid (OF ht)
  obtain ⟨a, cap, rfl, _⟩ := h
  go_enter Tryz.func8, Tryz.ntmps8
  go_wp2_with fail
  refine (C _).mono ?_
  rintro e w1 ⟨rfl, hb⟩
  rw [ht]
  have HB := Lib.hid ((hba _).trans (hb.mono (hba _).size))
  clear hb C hba
  go_wp2
  go_ret
  rw [JF, hd.out]
  exact ⟨none, 0, rfl, ⟨rfl, .inl ⟨rfl, rfl⟩⟩, HB.out⟩
def PI (w : World) (z : Nat) (nv : Value) (l : List ND) (pre : List (Nat × Nat)) (S : Nat → Prop) (W : World) : Prop :=
  ∃ oa oc, (∀ k, S k ↔ k = w.heap.size ∨ k = z ∨ (Value.slice oa pre.length oc).ownBlock = some k) ∧ Blk W w.heap.size 24 [nv] ∧ Blk W z 26 [.slice oa pre.length oc] ∧
    W.ownsRow w.heap.size 35 2 (.slice oa pre.length oc) pre.length (XB ((pre.map Prod.fst).map (FC l))) ∧ (Value.slice oa pre.length oc).ownBlock ≠ some w.heap.size ∧ (Value.slice oa pre.length oc).ownBlock ≠ some z ∧ Below w.heap.size w W
theorem KH {w : World} {B : Nat} {e : TypeId} {sz n : Nat} {v : Value} {cs : List Value} (h : w.ownsRow B e sz v n cs) {k : Nat} (hk : v.ownBlock = some k) : B ≤ k ∧ k < w.heap.size := by
  rcases h.2 with ⟨h, -⟩ | ⟨g, cap, cur, hv, hb, hg, -⟩
  · rw [h] at hk; cases hk
  · rw [hv] at hk
    obtain rfl : g = k := by simpa [Value.ownBlock] using hk
    exact ⟨hb, (Array.getElem?_eq_some_iff.1 hg).1⟩
theorem JH {w w' : World} {B : Nat} {e : TypeId} {sz n : Nat} {v : Value} {cs : List Value} (h : w.ownsRow B e sz v n cs) (hs : ∀ k, v.ownBlock = some k → w'.heap[k]? = w.heap[k]?) : w'.ownsRow B e sz v n cs := by
  rcases h with ⟨h1, h2 | ⟨g, cap, cur, hv, hg, hh, r⟩⟩
  · exact ⟨h1, .inl h2⟩
  · exact ⟨h1, .inr ⟨g, cap, cur, hv, hg, (hs g (by rw [hv]; rfl)).trans hh, r⟩⟩
set_option maxRecDepth 100000 in
set_option maxHeartbeats 4000000 in
theorem FI (v : Value) (l : List ND) (w : World) (h : NSl w v l) (ht : yB l = true) : Calls Tryz.prog 8 #[v] w (JF l w) := by
  obtain ⟨n, hr0, hn⟩ := LF ht
  obtain ⟨hL, hr, hrt, c', gs, wk, hup⟩ := BE hr0 hn
  obtain ⟨xs, hh, t, htr, hxs, hh30⟩ := BD ht
  have hgx : gs.map Prod.fst = xs := (t.walk wk (Nat.le_refl _) (fun x hx h => by cases h)).1
  have hglen : gs.length ≤ 30 := by rw [← hgx, List.length_map] at hxs; exact hxs
  have hf : NA l = (gs.map Prod.fst).map (FC l) := by rw [NA, ht, if_pos rfl, htr, hgx]
  have hba : ∀ o, Below w.heap.size w (w.alloc o) := fun o => (Below.refl _ _).alloc (Nat.le_refl _) o
  have C := fun o => kD v l _ (h.below (hba o)) (by have := hL.1; omega)
  obtain ⟨b, off, cap, rfl, k1, m1, s1, H1⟩ := h.at (by intro e; rw [e] at hr0; simp at hr0)
  refine (callsIn_wide (n := 0)).1 ?_
  refine callsIn_of_wp_marks Tryz.func8 rfl trivial ?_ rfl
  simp only [Tryz.ntmps8, List.size_toArray, List.length_cons, List.length_nil, Nat.reduceAdd, Nat.reduceSub, Array.replicate_succ, Array.replicate_zero, List.push_toArray, List.append_toArray, List.nil_append, List.cons_append]
  gi_wp2_with fail
  refine ⟨trivial, rfl, ?_⟩
  refine (callsIn_wide.2 (C _)).mono ?_
  rintro e W1 ⟨rfl, hb⟩
  rw [ht]
  have hx1 : Blk W1 w.heap.size 24 [.slice (some ⟨b, off, none⟩) l.length cap] := (hb.block _ (by simp)).trans (World.alloc_heap_new w _)
  have hb1 := (hba (.cells #[.slice (some ⟨b, off, none⟩) l.length cap] 24)).trans (hb.mono (hba _).size)
  have hz1 : w.heap.size < W1.heap.size := hx1.lt
  have c1 : ∀ o, (W1.alloc o).cell? ⟨w.heap.size, 0, none⟩ = some (.slice (some ⟨b, off, none⟩) l.length cap) := fun o => by
    rw [((Below.refl W1.heap.size W1).alloc (Nat.le_refl _) o).cell (p := ⟨w.heap.size, 0, none⟩) hx1.lt, hx1.cell]; rfl
  have H0 := Lib.hid (And.intro H1 (And.intro hf (And.intro hr (And.intro hb1 (And.intro hx1 (And.intro hup (And.intro hgx hba)))))))
  clear hb hb1 hx1 H1 hr hf C hup hgx hba
  gi_wp2_with fail
  refine ⟨trivial, rfl, ?_⟩
  refine (callsIn_wide.2 (GG _ _ _ _)).mono ?_
  rintro e W2 ⟨rfl, hW2⟩
  have HW2 := Lib.hid hW2
  clear hW2 c1
  gi_wp2_with fail
  obtain ⟨H1, hf, hr, hb1, hx1, hup, hgx, hba⟩ := H0.out
  have hW2 := HW2.out
  obtain ⟨z, hz⟩ : ∃ z, z = W1.heap.size := ⟨_, rfl⟩
  have hzw : w.heap.size < z := by rw [hz]; exact hz1
  have hs2 : W2.heap.size = z + 2 := by rw [hW2, hz]; simp
  have hb12 : Below W1.heap.size W1 W2 := by rw [hW2]; exact ((Below.refl _ _).alloc (Nat.le_refl _) _).alloc (by simp) _
  have hla : Blk W2 z 26 [sZ] := by
    rw [hW2, hz]
    exact (Below.heap_alloc _ _ _ (by simp)).trans (World.alloc_heap_new W1 _)
  have hbx : Blk W2 (z + 1) 24 [.slice (some ⟨b, off, none⟩) l.length cap] := by
    have := World.alloc_heap_new (W1.alloc (.cells #[sZ] 26)) (.cells #[.slice (some ⟨b, off, none⟩) l.length cap] 24)
    rw [World.size_alloc, ← hW2, ← hz] at this
    exact this
  have hb2 := hb1.trans (hb12.mono hb1.size)
  have hx2 := hx1.below hb12 hx1.lt
  have hN0 : NAt w.heap.size w b off l := ⟨s1, H1⟩
  rw [← hz]
  clear H0 HW2 H1 hz hW2 hb12
  refine bG (S₀ := fun k => k = w.heap.size ∨ k = z ∨ (Value.slice none 0 0).ownBlock = some k) rfl rfl w.heap.size b off cap l hL (hN0.below hb2) (by rw [hbx.cell]; rfl) n (fD l) c' gs hr0 hr wk
    (PI w z (.slice (some ⟨b, off, none⟩) l.length cap) l)
    (fun q W => False)
    ?hI ?hIs ?hIx
    ⟨none, 0, fun k => Iff.rfl, hx2, hla, ⟨rfl, .inl ⟨rfl, rfl⟩⟩, by simp [Value.ownBlock], by simp [Value.ownBlock], hb2⟩
    (fun x => { tmps := #[.slice (some ⟨b, off, none⟩) l.length cap, .pointer (some ⟨w.heap.size, 0, none⟩), sZ, .pointer (some ⟨z, 0, none⟩), iJ x.1,
      .slice (some ⟨b, off, none⟩) l.length cap, .bool true, .bool false, .slice (some ⟨b, off, none⟩) l.length cap, .func (.func 81) #[] #[.pointer (some ⟨z + 1, 0, none⟩)], iJ x.1, iJ x.2,
      uD, uD, uD, uD, uD, uD, uD, uD, uD, uD, uD, uD, uD, uD, uD], defers := [] }) ?assign ?body ?done ?stop
  case hI =>
    rintro pre S W W' ⟨oa, oc, hS, h1, h2, h3, h5, h6, h4⟩ hsep
    exact ⟨oa, oc, hS, (hsep.same _ h1.lt ((hS _).2 (.inl rfl))).trans h1, (hsep.same _ h2.lt ((hS _).2 (.inr (.inl rfl)))).trans h2, JH h3 (fun k hk => hsep.same _ (KH h3 hk).2 ((hS _).2 (.inr (.inr hk)))), h5, h6, h4.trans hsep.below⟩
  case hIs =>
    rintro pre S W ⟨oa, oc, hS, h1, h2, h3, h5, h6, h4⟩
    refine ⟨h4.size, fun k hk => ?_⟩
    rcases (hS k).1 hk with rfl | rfl | hk
    · exact h1.lt
    · exact h2.lt
    · exact (KH h3 hk).2
  case hIx =>
    rintro q W o h
    exact h
  case assign =>
    intro l' x W K hK
    dsimp only [LK]
    gi_wp2
    exact hK
  case body =>
    rintro l' pre S x W ⟨oa, oc, hS, h1, h2, h3, h5, h6, h4⟩ hx1 hx2 hpre
    obtain ⟨m, hm⟩ : ∃ m, l[x.1]? = some m := ⟨_, List.getElem?_eq_getElem hx1⟩
    have A1 := (hN0.below h4).2 x.1 m hm
    simp only [At8] at A1
    obtain ⟨A1, A2, -⟩ := A1
    have i0 : (0 : Int) ≤ (x.1 : Int) := by omega
    have i1 : (x.1 : Int) < (l.length : Int) := by omega
    have c1 : W.cell? ⟨w.heap.size, 0, none⟩ = some (.slice (some ⟨b, off, none⟩) l.length cap) := by rw [h1.cell]; rfl
    have c2 : W.cell? ⟨z, 0, none⟩ = some (.slice oa pre.length oc) := by rw [h2.cell]; rfl
    have c3 : W.frozen? ⟨z, 0, none⟩ = false := h2.free _
    gi_wp2_with fail
    have hba : Below W.heap.size W (W.alloc (.cells #[iJ m.k, iJ m.v] 35)).drew := ((Below.refl _ _).alloc (Nat.le_refl _) _).drew
    have hbz : b ≠ z := by omega
    have hwz : w.heap.size ≠ z := by omega
    have hzl := h2.lt
    have hsl := h1.lt
    have hbl : b < W.heap.size := Nat.lt_of_lt_of_le s1 h4.size
    obtain ⟨ip, hi0, hz0, hz1', hz2⟩ := info_parts DK
    have hbrow : (Value.slice oa pre.length oc).ownBlock ≠ some b := fun e => by have := (KH h3 e).1; omega
    have c2a : (W.alloc (.cells #[iJ m.k, iJ m.v] 35)).cell? ⟨z, 0, none⟩ = some (.slice oa pre.length oc) := (hba.cell (p := ⟨z, 0, none⟩) hzl).trans c2
    have fin : ∀ (gg cap4 : Nat) (W4 : World), W4.ownsRow w.heap.size 35 2 (.slice (some ⟨gg, 0, none⟩) (pre.length + 1) cap4) (pre.length + 1) (XB ((pre.map Prod.fst).map (FC l)) ++ [iJ m.k, iJ m.v]) →
        (W.alloc (.cells #[iJ m.k, iJ m.v] 35)).drew.grownBy W4 (Value.slice oa pre.length oc).ownBlock → ((Value.slice oa pre.length oc).ownBlock = some gg ∨ gg = W.heap.size + 1) →
        ∃ S', PI w z (.slice (some ⟨b, off, none⟩) l.length cap) l (pre ++ [x]) S' (W4.setCell ⟨z, 0, none⟩ (.slice (some ⟨gg, 0, none⟩) (pre.length + 1) cap4)) ∧ Mine w.heap.size S S' W (W4.setCell ⟨z, 0, none⟩ (.slice (some ⟨gg, 0, none⟩) (pre.length + 1) cap4)) := by
      intro gg cap4 W4 hown4 hgrow hat
      have hs4 := hgrow.size
      simp at hs4
      have far : ∀ k, k < W.heap.size → (Value.slice oa pre.length oc).ownBlock ≠ some k → W4.heap[k]? = W.heap[k]? := fun k hk hne => (hgrow.block k (by simp; omega) (Ne.symm hne)).trans (hba.block k hk)
      have q2 : Blk W4 z 26 [.slice oa pre.length oc] := (far z hzl h6).trans h2
      have q1 : Blk W4 w.heap.size 24 [.slice (some ⟨b, off, none⟩) l.length cap] := (far _ hsl h5).trans h1
      have hne : ∀ k, k ≠ z → (W4.setCell ⟨z, 0, none⟩ (.slice (some ⟨gg, 0, none⟩) (pre.length + 1) cap4)).heap[k]? = W4.heap[k]? := fun k hk => Below.heap_setCell W4 ⟨z, 0, none⟩ _ k hk
      have hgz : gg ≠ z := fun e => hat.elim (fun h => h6 (by rw [h, e])) (fun h => by omega)
      have hgw : gg ≠ w.heap.size := fun e => hat.elim (fun h => h5 (by rw [h, e])) (fun h => by omega)
      have hB4 : Below w.heap.size w W4 := Below.grown (h4.trans (hba.mono h4.size)) hgrow (by have := h4.size; simp; omega) (fun k e => (KH h3 e).1)
      have hlen : (pre ++ [x]).length = pre.length + 1 := by simp
      have hcs : XB (((pre ++ [x]).map Prod.fst).map (FC l)) = XB ((pre.map Prod.fst).map (FC l)) ++ [iJ m.k, iJ m.v] := by
        rw [List.map_append, List.map_append, List.map_singleton, List.map_singleton, AG]
        simp [FC, hm, RP.cells]
      refine ⟨fun k => k = w.heap.size ∨ k = z ∨ k = gg, ⟨some ⟨gg, 0, none⟩, cap4, ?_, (hne _ (by omega)).trans q1, ?_, ?_, by simpa [Value.ownBlock] using hgw, by simpa [Value.ownBlock] using hgz, hB4.setCell (p := ⟨z, 0, none⟩) (Nat.le_of_lt hzw) _⟩, ?_⟩
      · intro k
        simp [Value.ownBlock, eq_comm]
      · rw [hlen]; exact q2.set 0 _
      · rw [hlen, hcs]
        exact JH hown4 (fun k hk => hne k (fun e => hgz (by have : gg = k := (by simpa [Value.ownBlock] using hk); omega)))
      · refine ⟨((hba.mono h4.size).grown hgrow (by have := h4.size; simp; omega) (fun k e => (KH h3 e).1)).setCell (p := ⟨z, 0, none⟩) (Nat.le_of_lt hzw) _, fun k hk hs => ?_, fun k hk hs => ?_⟩
        · have hkz : k ≠ z := fun e => hs ((hS k).2 (.inr (.inl e)))
          exact (hne k hkz).trans (far k hk (fun e => hs ((hS k).2 (.inr (.inr e)))))
        · rcases hs with hs | hs | hs
          · exact (hS k).2 (.inl hs)
          · exact (hS k).2 (.inr (.inl hs))
          · subst hs
            rcases hat with h | h
            · exact (hS k).2 (.inr (.inr h))
            · omega
    refine sM (S := fun w' => w'.cell? ⟨w.heap.size, 0, none⟩ = some (.slice (some ⟨b, off, none⟩) l.length cap) ∧ w'.cell? ⟨b, off + x.1 * 8, none⟩ = some (iJ m.k) ∧ w'.cell? ⟨b, off + x.1 * 8 + 1, none⟩ = some (iJ m.v)) (by kernel_rfl) (by kernel_rfl) (fun ⟨_, _, h⟩ => h) ⟨c1, A1, A2⟩ (fun hHeld => ?_)
    refine wpAnyH_take (i := 1) (v := ?_) rfl (by kernel_rfl) (by kernel_rfl) (by kernel_rfl) (fun _ _ _ h => h) (Or.inl ⟨by rfl, ?_⟩) (by assumption) ?_
    rotate_left
    · intro w' hSw
      (try dsimp only at hSw)
      go_simp
      (try with_reducible rfl)
    simp only [Act.put, List.setIfInBounds_toArray, List.set_cons_zero, List.set_cons_succ, List.getElem_toArray, List.getElem_cons_zero, List.getElem_cons_succ]
    refine wpAnyH_take (i := 2) (v := ?_) rfl (by kernel_rfl) (by kernel_rfl) (by kernel_rfl) (fun _ _ _ h => h) (Or.inl ⟨by rfl, ?_⟩) (by assumption) ?_
    rotate_left
    · intro w' hSw
      (try dsimp only at hSw)
      go_simp
      (try with_reducible rfl)
    simp only [Act.put, List.setIfInBounds_toArray, List.set_cons_zero, List.set_cons_succ, List.getElem_toArray, List.getElem_cons_zero, List.getElem_cons_succ]
    refine wpAnyH_take (i := 3) (v := ?_) rfl (by kernel_rfl) (by kernel_rfl) (by kernel_rfl) (fun _ _ _ h => h) (Or.inl ⟨by rfl, ?_⟩) (by assumption) ?_
    rotate_left
    · intro w' hSw
      (try dsimp only at hSw)
      go_simp
      (try with_reducible rfl)
    simp only [Act.put, List.setIfInBounds_toArray, List.set_cons_zero, List.set_cons_succ, List.getElem_toArray, List.getElem_cons_zero, List.getElem_cons_succ]
    refine wpAnyH_take (i := 4) (v := ?_) rfl (by kernel_rfl) (by kernel_rfl) (by kernel_rfl) (fun _ _ _ h => h) (Or.inl ⟨by rfl, ?_⟩) (by assumption) ?_
    rotate_left
    · intro w' hSw
      (try dsimp only at hSw)
      go_simp
      (try with_reducible rfl)
    simp only [Act.put, List.setIfInBounds_toArray, List.set_cons_zero, List.set_cons_succ, List.getElem_toArray, List.getElem_cons_zero, List.getElem_cons_succ]
    refine wpAnyH_take (i := 5) (v := ?_) rfl (by kernel_rfl) (by kernel_rfl) (by kernel_rfl) (fun _ _ _ h => h) (Or.inl ⟨by rfl, ?_⟩) (by assumption) ?_
    rotate_left
    · intro w' hSw
      (try dsimp only at hSw)
      go_simp
      (try with_reducible rfl)
    simp only [Act.put, List.setIfInBounds_toArray, List.set_cons_zero, List.set_cons_succ, List.getElem_toArray, List.getElem_cons_zero, List.getElem_cons_succ]
    refine wpAnyH_take (i := 6) (v := ?_) rfl (by kernel_rfl) (by kernel_rfl) (by kernel_rfl) (fun _ _ _ h => h) (Or.inl ⟨by rfl, ?_⟩) (by assumption) ?_
    rotate_left
    · intro w' hSw
      (try dsimp only at hSw)
      go_simp
      (try with_reducible rfl)
    simp only [Act.put, List.setIfInBounds_toArray, List.set_cons_zero, List.set_cons_succ, List.getElem_toArray, List.getElem_cons_zero, List.getElem_cons_succ]
    refine wpAnyH_take (i := 7) (v := ?_) rfl (by kernel_rfl) (by kernel_rfl) (by kernel_rfl) (fun _ _ _ h => h) (Or.inl ⟨by rfl, ?_⟩) (by assumption) ?_
    rotate_left
    · intro w' hSw
      (try dsimp only at hSw)
      go_simp
      (try with_reducible rfl)
    simp only [Act.put, List.setIfInBounds_toArray, List.set_cons_zero, List.set_cons_succ, List.getElem_toArray, List.getElem_cons_zero, List.getElem_cons_succ]
    refine wpAnyH_take (i := 8) (v := ?_) rfl (by kernel_rfl) (by kernel_rfl) (by kernel_rfl) (fun _ _ _ h => h) (Or.inl ⟨by rfl, ?_⟩) (by assumption) ?_
    rotate_left
    · intro w' hSw
      (try dsimp only at hSw)
      go_simp
      (try with_reducible rfl)
    simp only [Act.put, List.setIfInBounds_toArray, List.set_cons_zero, List.set_cons_succ, List.getElem_toArray, List.getElem_cons_zero, List.getElem_cons_succ]
    refine wpAnyH_take (i := 9) (v := ?_) rfl (by kernel_rfl) (by kernel_rfl) (by kernel_rfl) (fun _ _ _ h => h) (Or.inl ⟨by rfl, ?_⟩) (by assumption) ?_
    rotate_left
    · intro w' hSw
      (try dsimp only at hSw)
      go_simp
      (try with_reducible rfl)
    simp only [Act.put, List.setIfInBounds_toArray, List.set_cons_zero, List.set_cons_succ, List.getElem_toArray, List.getElem_cons_zero, List.getElem_cons_succ]
    refine wpAnyH_take (i := 10) (v := ?_) rfl (by kernel_rfl) (by kernel_rfl) (by kernel_rfl) (fun _ _ _ h => h) (Or.inl ⟨by rfl, ?_⟩) (by assumption) ?_
    rotate_left
    · intro w' hSw
      (try dsimp only at hSw)
      go_simp
      (try with_reducible rfl)
    simp only [Act.put, List.setIfInBounds_toArray, List.set_cons_zero, List.set_cons_succ, List.getElem_toArray, List.getElem_cons_zero, List.getElem_cons_succ]
    refine wpAnyH_take (i := 11) (v := ?_) rfl (by kernel_rfl) (by kernel_rfl) (by kernel_rfl) (fun _ _ _ h => h) (Or.inl ⟨by rfl, ?_⟩) (by assumption) ?_
    rotate_left
    · intro w' hSw
      (try dsimp only at hSw)
      go_simp
      (try with_reducible rfl)
    simp only [Act.put, List.setIfInBounds_toArray, List.set_cons_zero, List.set_cons_succ, List.getElem_toArray, List.getElem_cons_zero, List.getElem_cons_succ]
    refine wpAnyH_ready (rs := [0, 12]) (by kernel_rfl) (by simp) ?_
    refine AllReadyH.cons rfl (fun K hK => ?_) (AllReadyH.cons rfl (fun K hK => ?_) AllReadyH.nil)
    · go_simp
      refine hK.out _ _ ⟨c1, A1, A2⟩ (fun hHeld2 => ?_)
      clear hK K
      try simp only [Act.put, List.setIfInBounds_toArray, List.set_cons_zero, List.set_cons_succ, List.getElem_toArray, List.getElem_cons_zero, List.getElem_cons_succ]
      refine wpAnyH_ready (rs := [12]) (by kernel_rfl) (by simp) ?_
      refine AllReadyH.cons rfl (fun K hK => ?_) AllReadyH.nil
      go_simp
      refine hK.out _ _ ⟨(hba.cell (p := ⟨w.heap.size, 0, none⟩) hsl).trans c1, (hba.cell (p := ⟨b, off + x.1 * 8, none⟩) hbl).trans A1, (hba.cell (p := ⟨b, off + x.1 * 8 + 1, none⟩) hbl).trans A2⟩ (fun hHeld2 => ?_)
      clear hK K
      try simp only [Act.put, List.setIfInBounds_toArray, List.set_cons_zero, List.set_cons_succ, List.getElem_toArray, List.getElem_cons_zero, List.getElem_cons_succ]
      refine wpAnyH_ready (rs := [13]) (by kernel_rfl) (by simp) ?_
      refine AllReadyH.cons rfl (fun K hK => ?_) AllReadyH.nil
      refine step_append_lies _ (by rfl) _ _ _ (by rfl) w.heap.size 35 ip _ 2 16 JC hi0 hz0 hz1' hz2 rfl (by omega) (.slice oa pre.length oc) pre.length (XB ((pre.map Prod.fst).map (FC l))) (by rfl) ((h3.alloc _).drew) ⟨W.heap.size, 0, none⟩ 1 1 [iJ m.k, iJ m.v] (by rfl) (by rfl) (World.news_of_block (cs := #[iJ m.k, iJ m.v]) (t := 35) (fr := (0, 0)) (heap_alloc_new W _)) (by simp [Value.oneCell']) (by omega) (by simp [maxLen]; omega) (by omega) (by have := h4.size; simp; omega) (W.heap.size + 1) (by simp) ?_
      intro gg cap4 W4 hown4 hgrow hat hlt4
      have hs4 := hgrow.size
      simp at hs4
      have far : ∀ k, k < W.heap.size → (Value.slice oa pre.length oc).ownBlock ≠ some k → W4.heap[k]? = W.heap[k]? := fun k hk hne => (hgrow.block k (by simp; omega) (Ne.symm hne)).trans (hba.block k hk)
      have q2 : Blk W4 z 26 [.slice oa pre.length oc] := (far z hzl h6).trans h2
      have q1 : Blk W4 w.heap.size 24 [.slice (some ⟨b, off, none⟩) l.length cap] := (far _ hsl h5).trans h1
      have q3 : ∀ o, W4.cell? ⟨b, o, none⟩ = W.cell? ⟨b, o, none⟩ := fun o => World.cell?_of_block (far b hbl hbrow)
      have d2 : W4.cell? ⟨z, 0, none⟩ = some (.slice oa pre.length oc) := by rw [q2.cell]; rfl
      have d1 : W4.cell? ⟨w.heap.size, 0, none⟩ = some (.slice (some ⟨b, off, none⟩) l.length cap) := by rw [q1.cell]; rfl
      have d3 : W4.frozen? ⟨z, 0, none⟩ = false := q2.free _
      refine hK.out _ _ ⟨d1, (q3 _).trans A1, (q3 _).trans A2⟩ (fun hHeld3 => ?_)
      clear hK K
      try simp only [Act.put, List.setIfInBounds_toArray, List.set_cons_zero, List.set_cons_succ, List.getElem_toArray, List.getElem_cons_zero, List.getElem_cons_succ]
      refine wpAnyH_ready (rs := [14]) (by kernel_rfl) (by simp) ?_
      refine AllReadyH.cons rfl (fun K hK => ?_) AllReadyH.nil
      go_simp
      have hne : ∀ k, k ≠ z → (W4.setCell ⟨z, 0, none⟩ (.slice (some ⟨gg, 0, none⟩) (pre.length + 1) cap4)).heap[k]? = W4.heap[k]? := fun k hk => Below.heap_setCell W4 ⟨z, 0, none⟩ _ k hk
      have e1 : (W4.setCell ⟨z, 0, none⟩ (.slice (some ⟨gg, 0, none⟩) (pre.length + 1) cap4)).cell? ⟨w.heap.size, 0, none⟩ = some (.slice (some ⟨b, off, none⟩) l.length cap) := (World.cell?_of_block (hne _ hwz)).trans d1
      have e2 : ∀ o, (W4.setCell ⟨z, 0, none⟩ (.slice (some ⟨gg, 0, none⟩) (pre.length + 1) cap4)).cell? ⟨b, o, none⟩ = W.cell? ⟨b, o, none⟩ := fun o => (World.cell?_of_block (hne b (by omega))).trans (q3 o)
      refine hK.out _ _ ⟨e1, (e2 _).trans A1, (e2 _).trans A2⟩ (fun hHeld4 => ?_)
      clear hK K
      try simp only [Act.put, List.setIfInBounds_toArray, List.set_cons_zero, List.set_cons_succ, List.getElem_toArray, List.getElem_cons_zero, List.getElem_cons_succ]
      refine wpAnyH_done (by kernel_rfl) ?_ _
      exact fin gg cap4 W4 hown4 hgrow hat
    · go_simp
      refine hK.out _ _ ⟨(hba.cell (p := ⟨w.heap.size, 0, none⟩) hsl).trans c1, (hba.cell (p := ⟨b, off + x.1 * 8, none⟩) hbl).trans A1, (hba.cell (p := ⟨b, off + x.1 * 8 + 1, none⟩) hbl).trans A2⟩ (fun hHeld2 => ?_)
      clear hK K
      try simp only [Act.put, List.setIfInBounds_toArray, List.set_cons_zero, List.set_cons_succ, List.getElem_toArray, List.getElem_cons_zero, List.getElem_cons_succ]
      refine wpAnyH_ready (rs := [0]) (by kernel_rfl) (by simp) ?_
      refine AllReadyH.cons rfl (fun K hK => ?_) AllReadyH.nil
      go_simp
      refine hK.out _ _ ⟨(hba.cell (p := ⟨w.heap.size, 0, none⟩) hsl).trans c1, (hba.cell (p := ⟨b, off + x.1 * 8, none⟩) hbl).trans A1, (hba.cell (p := ⟨b, off + x.1 * 8 + 1, none⟩) hbl).trans A2⟩ (fun hHeld2 => ?_)
      clear hK K
      try simp only [Act.put, List.setIfInBounds_toArray, List.set_cons_zero, List.set_cons_succ, List.getElem_toArray, List.getElem_cons_zero, List.getElem_cons_succ]
      refine wpAnyH_ready (rs := [13]) (by kernel_rfl) (by simp) ?_
      refine AllReadyH.cons rfl (fun K hK => ?_) AllReadyH.nil
      refine step_append_lies _ (by rfl) _ _ _ (by rfl) w.heap.size 35 ip _ 2 16 JC hi0 hz0 hz1' hz2 rfl (by omega) (.slice oa pre.length oc) pre.length (XB ((pre.map Prod.fst).map (FC l))) (by rfl) ((h3.alloc _).drew) ⟨W.heap.size, 0, none⟩ 1 1 [iJ m.k, iJ m.v] (by rfl) (by rfl) (World.news_of_block (cs := #[iJ m.k, iJ m.v]) (t := 35) (fr := (0, 0)) (heap_alloc_new W _)) (by simp [Value.oneCell']) (by omega) (by simp [maxLen]; omega) (by omega) (by have := h4.size; simp; omega) (W.heap.size + 1) (by simp) ?_
      intro gg cap4 W4 hown4 hgrow hat hlt4
      have hs4 := hgrow.size
      simp at hs4
      have far : ∀ k, k < W.heap.size → (Value.slice oa pre.length oc).ownBlock ≠ some k → W4.heap[k]? = W.heap[k]? := fun k hk hne => (hgrow.block k (by simp; omega) (Ne.symm hne)).trans (hba.block k hk)
      have q2 : Blk W4 z 26 [.slice oa pre.length oc] := (far z hzl h6).trans h2
      have q1 : Blk W4 w.heap.size 24 [.slice (some ⟨b, off, none⟩) l.length cap] := (far _ hsl h5).trans h1
      have q3 : ∀ o, W4.cell? ⟨b, o, none⟩ = W.cell? ⟨b, o, none⟩ := fun o => World.cell?_of_block (far b hbl hbrow)
      have d2 : W4.cell? ⟨z, 0, none⟩ = some (.slice oa pre.length oc) := by rw [q2.cell]; rfl
      have d1 : W4.cell? ⟨w.heap.size, 0, none⟩ = some (.slice (some ⟨b, off, none⟩) l.length cap) := by rw [q1.cell]; rfl
      have d3 : W4.frozen? ⟨z, 0, none⟩ = false := q2.free _
      refine hK.out _ _ ⟨d1, (q3 _).trans A1, (q3 _).trans A2⟩ (fun hHeld3 => ?_)
      clear hK K
      try simp only [Act.put, List.setIfInBounds_toArray, List.set_cons_zero, List.set_cons_succ, List.getElem_toArray, List.getElem_cons_zero, List.getElem_cons_succ]
      refine wpAnyH_ready (rs := [14]) (by kernel_rfl) (by simp) ?_
      refine AllReadyH.cons rfl (fun K hK => ?_) AllReadyH.nil
      go_simp
      have hne : ∀ k, k ≠ z → (W4.setCell ⟨z, 0, none⟩ (.slice (some ⟨gg, 0, none⟩) (pre.length + 1) cap4)).heap[k]? = W4.heap[k]? := fun k hk => Below.heap_setCell W4 ⟨z, 0, none⟩ _ k hk
      have e1 : (W4.setCell ⟨z, 0, none⟩ (.slice (some ⟨gg, 0, none⟩) (pre.length + 1) cap4)).cell? ⟨w.heap.size, 0, none⟩ = some (.slice (some ⟨b, off, none⟩) l.length cap) := (World.cell?_of_block (hne _ hwz)).trans d1
      have e2 : ∀ o, (W4.setCell ⟨z, 0, none⟩ (.slice (some ⟨gg, 0, none⟩) (pre.length + 1) cap4)).cell? ⟨b, o, none⟩ = W.cell? ⟨b, o, none⟩ := fun o => (World.cell?_of_block (hne b (by omega))).trans (q3 o)
      refine hK.out _ _ ⟨e1, (e2 _).trans A1, (e2 _).trans A2⟩ (fun hHeld4 => ?_)
      clear hK K
      try simp only [Act.put, List.setIfInBounds_toArray, List.set_cons_zero, List.set_cons_succ, List.getElem_toArray, List.getElem_cons_zero, List.getElem_cons_succ]
      refine wpAnyH_done (by kernel_rfl) ?_ _
      exact fin gg cap4 W4 hown4 hgrow hat
  case done =>
    rintro D S W hD ⟨oa, oc, hS, h1, h2, h3, h5, h6, h4⟩ hSD hK
    have c4 : W.cell? ⟨z, 0, none⟩ = some (.slice oa gs.length oc) := by rw [h2.cell]; rfl
    have hE := Lib.hid (show (W.putObj D (.deferred none)).ownsRow w.heap.size 35 2 (.slice oa gs.length oc) gs.length (XB ((gs.map Prod.fst).map (FC l))) ∧ Below w.heap.size w (W.putObj D (.deferred none)) from
      ⟨JH h3 (fun k hk => World.putObj_heap_other (fun e => hSD ((hS D).2 (.inr (.inr (e ▸ hk)))))), h4.grown (grownBy_putObj' W D (.deferred none)) h4.size (fun j e => by cases e; omega)⟩)
    have HF := Lib.hid hf
    clear h1 h2 h3 h4 h5 h6 hS hSD hup hf
    gi_wp2
    refine ⟨by simp, .inl ⟨_, _, rfl, run_takeDeferred hK, ?_⟩⟩
    refine ⟨.slice oa gs.length oc, by simp [results, Tryz.f8, go_sem], ?_⟩
    rw [JF, HF.out, List.length_map, List.length_map]
    exact ⟨oa, oc, rfl, hE.out.1, hE.out.2⟩
  case stop =>
    rintro D q W hD hq h hK
    exact h.elim
theorem vG (v : Value) (l : List ND) (w : World) (h : NSl w v l) (hl : l.length ≤ 1048576) : Calls Tryz.prog 8 #[v] w (JF l w) := by
  rcases Bool.eq_false_or_eq_true (yB l) with ht | ht
  · exact FI v l w h ht
  · exact XH v l w h hl ht
end Go.Proofs.YtfjafncipjdnfaaGreat
