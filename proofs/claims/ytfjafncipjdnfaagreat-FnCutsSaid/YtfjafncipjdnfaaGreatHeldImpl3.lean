import Derived.Maps.OwnSet
import Derived.Maps.OwnOps
import Derived.Test.YtfjafncipjdnfaaGreatFindImpl
namespace Go.Proofs.YtfjafncipjdnfaaGreat
open Go.ChangeShapes Go.WideShapes Go.ChangeAt Go.RowKit Go.Maps
set_option linter.unusedVariables false
set_option linter.unusedSimpArgs false
theorem lawI : Keyed Tryz.prog 2 := int_keyed bA
theorem zeroI (w : World) : (zeroValue 2).run Tryz.prog w = .ok (.int .i64 0) w := by kernel_rfl
theorem SJ {n : Int} (h : dF n) : (Lit.int .i64 n).wf = true := WalkArith.wf_i64 h
abbrev ownsI (w : World) (b n : Nat) (D : DataW Unit) : Prop := w.ownsMap Tryz.prog 2 (plainElem Tryz.prog 2) b n D
def Reads (D : DataW Unit) (f : Int → Option Int) : Prop := ∀ x, (Lit.int .i64 x).wf = true → Maps.has D (.int .i64 x) = (f x).isSome ∧ ∀ c z, f x = some c → D.atKey (.int .i64 x) z = .lit (.int .i64 c)
def MapF (w : World) (b n : Nat) (f : Int → Option Int) : Prop := ∃ D, ownsI w b n D ∧ Reads D f
theorem MapF.lt {w : World} {b n : Nat} {f : Int → Option Int} (h : MapF w b n f) : b < w.heap.size := by
  obtain ⟨D, h, -⟩ := h
  exact World.ownsMap.lt h
theorem MapF.same {w w' : World} {b n : Nat} {f : Int → Option Int} (h : MapF w b n f) (hs : w'.heap[b]? = w.heap[b]?) : MapF w' b n f := by
  obtain ⟨D, ⟨es, clock, hb, r⟩, hD⟩ := h
  exact ⟨D, ⟨es, clock, hs.trans hb, r⟩, hD⟩
theorem MapF.below {w w' : World} {b n D : Nat} {f : Int → Option Int} (h : MapF w b n f) (hb : Below D w w') (hD : b < D) : MapF w' b n f := h.same (hb.block b hD)
theorem MapF.kept {w w' : World} {b n : Nat} {row : Option Nat} {f : Int → Option Int} (h : MapF w b n f) (hg : w.grownBy w' row) (hr : row ≠ some b) : MapF w' b n f := h.same (hg.block b h.lt (fun e => hr e.symm))
theorem MapF.alloc {w : World} {b n : Nat} {f : Int → Option Int} (h : MapF w b n f) (o : Obj) : MapF (w.alloc o) b n f := h.kept (World.grownBy_alloc w o none) (by simp)
theorem MapF.made (w : World) : MapF (w.alloc (.map #[] 0)) w.heap.size 0 (fun _ => none) := ⟨.map [], World.ownsMap_made _ _ _ _, fun x _ => ⟨rfl, fun c z h => by cases h⟩⟩
theorem MapF.mono {w : World} {b n n' : Nat} {f : Int → Option Int} (h : MapF w b n f) (hn : n ≤ n') : MapF w b n' f := by
  obtain ⟨D, h, hD⟩ := h
  exact ⟨D, h.mono hn, hD⟩
theorem MapF.congr {w : World} {b n : Nat} {f g : Int → Option Int} (h : MapF w b n f) (e : ∀ x, f x = g x) : MapF w b n g := by
  obtain rfl : f = g := funext e
  exact h
theorem Reads.put {D : DataW Unit} {f : Int → Option Int} (h : Reads D f) (hD : IsMap D) (k c : Int) : Reads (D.put (.int .i64 k) (.lit (.int .i64 c))) (fun x => if x = k then some c else f x) := by
  intro x hx
  by_cases e : x = k
  · subst e
    refine ⟨by rw [has_put_same (k := .int .i64 x) hD trivial]; simp, fun c' z hc => ?_⟩
    simp at hc
    subst hc
    exact atKey_put_same (k := .int .i64 x) hD trivial _ _
  · have hne : (Lit.int .i64 x) ≠ .int .i64 k := fun h => e (by cases h; rfl)
    simp only [if_neg e]
    exact ⟨by rw [has_put_other hne]; exact (h x hx).1, fun c' z hc => by rw [atKey_put_other hne]; exact (h x hx).2 c' z hc⟩
theorem keyI {k : Int} (h : dF k) : keyOf Tryz.prog 2 (.int .i64 k) = some (.int .i64 k) := keyOf_int_mk bA (SJ h)
section
variable (w : World) {ops : Array Oper} {rest : List Oper} {o : Oper} {a : Act} {Q : Exit → Act → World → Prop}
theorem kH (hg : o.guard = none) (m x : Operand) (hop : o.op = Op.lookup 159 m x true) (b n : Nat) (f : Int → Option Int) (hm : a.eval m = .map (some b)) (h : MapF w b n f) (k : Int) (hx : a.eval x = .int .i64 k) (hk : dF k) (c : Int) (t : Bool) (hc : (f k).getD 0 = c) (ht : (f k).isSome = t)
    (hK : wpList Tryz.prog ops Q rest (a.put o.dst (.tuple #[.int .i64 c, .bool t])) w) : wpList Tryz.prog ops Q (o :: rest) a w := by
  obtain ⟨D, hown, hD⟩ := h
  refine wpList_lookup_own_ok_int w hg m x 159 hop 2 2 .i64 lawI Tryz.underlying159 bA (zeroI w) b n D hm hown (.int .i64 k) (.int .i64 k) hx (keyI hk) ?_
  intro c1 hat hwc
  obtain ⟨h1, h2⟩ := hD k (SJ hk)
  have hc1 : c1 = (f k).getD 0 := by
    cases hf : f k with
    | none =>
      rw [hf] at h1
      have := (atKey_of_not_has (k := .int .i64 k) (by simpa using h1) (.lit (.int .i64 0))).symm.trans hat
      simp at this
      simp [this]
    | some c' =>
      have := (h2 c' (.lit (.int .i64 0)) hf).symm.trans hat
      simp at this
      simp [this]
  rw [h1, hc1, hc, ht]
  exact hK
theorem NL (hg : o.guard = none) (m x v : Operand) (hop : o.op = Op.mapUpdate 159 m x v) (b n : Nat) (f : Int → Option Int) (hm : a.eval m = .map (some b)) (h : MapF w b n f) (hn : n < maxLen) (k c : Int) (hx : a.eval x = .int .i64 k) (hv : a.eval v = .int .i64 c) (hk : dF k) (hc : dF c)
    (hK : ∀ w', MapF w' b (n + 1) (fun x => if x = k then some c else f x) → w.grownBy w' (some b) → wpList Tryz.prog ops Q rest (a.put o.dst undef) w') : wpList Tryz.prog ops Q (o :: rest) a w := by
  obtain ⟨D, hown, hD⟩ := h
  refine wpList_mapUpdate_own w hg m x v 159 hop 2 2 lawI Tryz.underlying159 (plainElem Tryz.prog 2) b n D hm hown hn (.int .i64 k) (.int .i64 c) (.int .i64 k) hx hv (keyI hk) (.lit (.int .i64 c)) [] (plainElem_int bA (SJ hc)) ?_
  intro w' h1 h2
  exact hK w' ⟨_, h1, hD.put hown.isMap k c⟩ h2
end
theorem nM (l : List ND) (x : Int) : nD l 0 x = none := by
  unfold nD
  split
  · omega
  · rfl
theorem NI {l : List ND} {k : Nat} {n : ND} (h : l[k]? = some n) (x : Int) : nD l (k + 1) x = if x = (k : Int) then (if n.o = 0 then none else some (n.o - 1)) else nD l k x := by
  unfold nD
  by_cases e : x = (k : Int)
  · subst e
    simp [h]
    omega
  · rw [if_neg e]
    by_cases e2 : 0 ≤ x ∧ x < (k : Int)
    · rw [if_pos e2, if_pos (by omega)]
    · rw [if_neg e2, if_neg (by omega)]
theorem oM {l : List ND} {k : Nat} {n : ND} (h : l[k]? = some n) (h0 : n.o = 0) (x : Int) : nD l (k + 1) x = nD l k x := by
  rw [NI h]
  by_cases e : x = (k : Int)
  · subst e
    rw [if_pos rfl, if_pos h0]
    unfold nD
    rw [if_neg (by omega)]
  · rw [if_neg e]
theorem pO {l : List ND} {k : Nat} {n : ND} (h : l[k]? = some n) : nD l l.length k = if n.o = 0 then none else some (n.o - 1) := by
  have hk := (List.getElem?_eq_some_iff.1 h).1
  unfold nD
  rw [if_pos (by omega)]
  simp [h]
def uJ (f : Int → Option Int) (k : Nat) : Int := match f (k : Int) with | some c => c + 1 | none => 0
def AG (f : Int → Option Int) (l : List ND) : List ND := l.mapIdx fun i n => SE n (uJ f i)
theorem uF (f : Int → Option Int) (l : List ND) : (AG f l).length = l.length := by simp [AG]
theorem GJ {f : Int → Option Int} {l : List ND} {k : Nat} {n : ND} (h : l[k]? = some n) : (AG f l)[k]? = some (SE n (uJ f k)) := by simp [AG, h]
theorem JJ (n : ND) : SE n n.o = n := rfl
theorem SH {l : List ND} (h : FB l = true) {k : Nat} {n : ND} (hn : l[k]? = some n) : 0 ≤ n.o ∧ n.o ≤ 6 := by
  match l, h with
  | m :: r, h =>
    simp only [FB, Bool.and_eq_true, decide_eq_true_eq, List.all_eq_true] at h
    obtain ⟨-, ⟨-, h1⟩, h2⟩ := h
    have hl : MB n (m :: r).length = true := by
      match k, hn with
      | 0, hn => simp at hn; subst hn; exact h1
      | k + 1, hn =>
        simp only [List.getElem?_cons_succ] at hn
        exact (h2 n (List.mem_of_getElem? hn)).2
    simp only [MB, Bool.and_eq_true] at hl
    exact PC hl.1.1.2
theorem FK (v : Value) (l : List ND) (task : Int) (w : World) (h : NSl w v l) (hl : l.length ≤ 1048576) : Calls Tryz.prog 157 #[v, .int .i64 task] w fun e w' => e = .returned (.bool (FB l && eF task)) ∧ Below w.heap.size w w' := by
  have C := gH v l w h hl
  have D := fun w1 => LB task 0 5 w1
  rcases Bool.eq_false_or_eq_true (FB l) with hb | hb
  · go_enter Tryz.func157, Tryz.ntmps157
    go_wp2_with fail
    refine C.mono ?_
    rintro e w1 ⟨rfl, hb1⟩
    rw [hb]
    go_wp2_with (go_at_call 83; refine (D _).mono ?_; rintro e w2 ⟨rfl, rfl⟩)
    go_ret
    exact ⟨by simp [hb, eF], hb1⟩
  · go_enter Tryz.func157, Tryz.ntmps157
    go_wp2_with fail
    refine C.mono ?_
    rintro e w1 ⟨rfl, hb1⟩
    rw [hb]
    go_wp2
    go_ret
    exact ⟨by simp [hb], hb1⟩
set_option maxRecDepth 100000 in
set_option maxHeartbeats 2000000 in
theorem MF (v : Value) (l : List ND) (w : World) (h : NSl w v l) (hb : FB l = true) :
    Calls Tryz.prog 158 #[v] w fun e w' => e = .returned (.map (some w.heap.size)) ∧ MapF w' w.heap.size l.length (nD l l.length) ∧ Below w.heap.size w w' := by
  obtain ⟨hl1, hl2⟩ := gB hb
  obtain ⟨b1, o1, c1, rfl, k1, m1, s1, H1⟩ := h.at (by intro e; subst e; simp at hl1)
  have HO := Lib.hid (fun k n hn => SH hb (k := k) (n := n) hn)
  unfold maxLen at m1
  clear h hb
  have hmm := @run_makeMap Tryz.prog
  go_enter Tryz.func158, Tryz.ntmps158
  go_wp2
  go_loopw [9] (fun i wr => ∃ k : Nat, k ≤ l.length ∧ i = .int .i64 k ∧ MapF wr w.heap.size k (nD l k) ∧ Below w.heap.size w wr) (fun i _ => l.length - (intOf i).toNat)
  case atStart => exact ⟨0, Nat.zero_le _, rfl, (MapF.made w).congr (fun x => (nM l x).symm), (Below.refl _ _).alloc (Nat.le_refl _) _⟩
  case round =>
    obtain ⟨k, hk, rfl, hM, hB⟩ := hrel
    by_cases hlt : k < l.length
    · obtain ⟨n, hg⟩ : ∃ n, l[k]? = some n := ⟨_, List.getElem?_eq_getElem hlt⟩
      obtain ⟨w0, w6⟩ := HO.out k n hg
      have A1 := (H1 k n hg).below hB s1
      have i0 : (0 : Int) ≤ (k : Int) := by omega
      have i1 : (k : Int) < (l.length : Int) := by omega
      have HG := Lib.hid hg
      have HB := Lib.hid hB
      have HM := Lib.hid hM
      have hz := hB.size
      have hz2 := hM.lt
      obtain ⟨k0, v0, l0, r0, o0, g0, lt0, rt0⟩ := n
      simp only [At8] at A1
      simp only at w0 w6
      clear hg hB hM H1 hmm
      by_cases h0 : o0 = 0
      · subst h0
        go_wp2
        go_roundw
        case rel => exact ⟨k + 1, by omega, by go_num, (HM.out.alloc _).mono (by omega) |>.congr (fun x => (oM HG.out rfl x).symm), HB.out.alloc hz _⟩
        case measure => simp [intOf]; omega
      · have o1' : 1 ≤ o0 := by omega
        go_wp2_with (first
          | (at_mapUpdate; refine NL _ rfl _ _ _ rfl w.heap.size k _ rfl (HM.out.alloc _) (by unfold maxLen; omega) k (o0 - 1) rfl rfl (by unfold dF; omega) (by unfold dF; omega) ?_; intro w2 hM2 hg2; go_frame)
          | go_in)
        go_roundw
        case rel =>
          refine ⟨k + 1, by omega, by go_num, hM2.congr (fun x => ?_), (HB.out.alloc hz _).grown hg2 (by simp; omega) (fun j hj => by cases hj; exact Nat.le_refl _)⟩
          rw [NI HG.out, if_neg h0]
        case measure => simp [intOf]; omega
    · obtain rfl : k = l.length := by omega
      go_wp2
      go_ret
      exact ⟨rfl, hM, hB⟩
def PartO (f : Int → Option Int) (l : List ND) (k : Nat) (l' : List ND) : Prop := ∀ i, l'[i]? = if i < k then (l[i]?).map (fun n => SE n (uJ f i)) else l[i]?
theorem PartO.len {f : Int → Option Int} {l l' : List ND} {k : Nat} (h : PartO f l k l') : l'.length = l.length := by
  have h1 := h l'.length
  have h2 := h l.length
  simp only [List.getElem?_eq_none (Nat.le_refl _)] at h1 h2
  have a1 : l.length ≤ l'.length := by
    split at h1
    · have := h1.symm; simp at this; omega
    · have := h1.symm; simp at this; omega
  have a2 : l'.length ≤ l.length := by
    split at h2
    · simp at h2; omega
    · simp at h2; omega
  omega
theorem PartO.step {f : Int → Option Int} {l l' : List ND} {k : Nat} {n : ND} (h : PartO f l k l') (hn : l[k]? = some n) : PartO f l (k + 1) (l'.set k (SE n (uJ f k))) := by
  intro i
  have hk : k < l'.length := by rw [h.len]; exact (List.getElem?_eq_some_iff.1 hn).1
  rw [List.getElem?_set]
  by_cases e : k = i
  · subst e
    simp [hk, hn]
  · rw [if_neg e, h i]
    by_cases e2 : i < k
    · rw [if_pos e2, if_pos (by omega)]
    · rw [if_neg e2, if_neg (by omega)]
theorem PartO.done {f : Int → Option Int} {l l' : List ND} (h : PartO f l l.length l') : l' = AG f l := by
  apply List.ext_getElem?
  intro i
  rw [h i]
  simp only [AG, List.getElem?_mapIdx]
  split
  · rfl
  · rw [List.getElem?_eq_none (by omega)]; rfl
set_option maxRecDepth 100000 in
set_option maxHeartbeats 2000000 in
theorem sE (v : Value) (l : List ND) (w : World) (h : NSl w v l) (hl1 : 1 ≤ l.length) (hl2 : l.length ≤ 30) (b nn : Nat) (f : Int → Option Int) (hM : MapF w b nn f) (hf : ∀ x c, f x = some c → 0 ≤ c ∧ c ≤ 5) :
    Calls Tryz.prog 159 #[v, .map (some b)] w (EO w (AG f l)) := by
  have hne : l ≠ [] := by intro e; subst e; simp at hl1
  have C := eI v l w h hne (by omega)
  have hbl := hM.lt
  clear h
  go_enter Tryz.func159, Tryz.ntmps159
  go_wp2_with fail
  refine C.mono ?_
  rintro e w1 ⟨g, u, rfl, hg, ⟨cap, sp, rfl, q1, q2, ⟨q3, q5⟩, q4⟩, hB1⟩
  have Q5 := Lib.hid q5
  clear q5
  have hm1 := q2
  unfold maxLen at hm1
  have HP := Lib.hid q4
  have HB1 := Lib.hid hB1
  have HM := Lib.hid hM
  have HF := Lib.hid hf
  clear q4 hB1 hM hf C q3
  go_wp2
  go_loopw [13] (fun i wr => ∃ (k : Nat) (l' : List ND), k ≤ l.length ∧ i = .int .i64 k ∧ Hid (PartO f l k l') ∧ Hid (Blk wr g 37 (cellsOf l' ++ sp)) ∧ Below w.heap.size w wr) (fun i _ => l.length - (intOf i).toNat)
  case atStart => exact ⟨0, l, Nat.zero_le _, rfl, Lib.hid (fun i => by simp), HP, HB1.out⟩
  case round =>
    obtain ⟨k, l', hk, rfl, HQ, HL, hB⟩ := hrel
    by_cases hlt : k < l.length
    · obtain ⟨n, hn⟩ : ∃ n, l[k]? = some n := ⟨_, List.getElem?_eq_getElem hlt⟩
      have hn' : l'[k]? = some n := by rw [HQ.out k, if_neg (by omega)]; exact hn
      have HN := Lib.hid hn
      have HN' := Lib.hid hn'
      obtain ⟨A1, A2⟩ := HL.out.there4 hn'
      have i0 : (0 : Int) ≤ (k : Int) := by omega
      have i1 : (k : Int) < (l.length : Int) := by omega
      have hMr := HM.out.below hB hbl
      have HMr := Lib.hid hMr
      have HB := Lib.hid hB
      have hz := hB.size
      clear hn hn' hMr hB
      have hbg : b ≠ g := by omega
      have HS := Lib.hid (HMr.out.same (w' := wr.setCell ⟨g, k * 8 + 4, none⟩ (.int .i64 0)) ((But.set g (k * 8 + 4) wr (.int .i64 0)).block b (by omega) hbg))
      cases hfk : f (k : Int) with
      | none =>
        have HK := Lib.hid hfk
        clear hfk
        go_wp2_with (first
          | (at_lookup; refine kH _ rfl _ _ rfl b nn f rfl HS.out k rfl (by unfold dF; omega) 0 false (by rw [HK.out]; rfl) (by rw [HK.out]; rfl) ?_)
          | go_in)
        go_roundw
        case rel =>
          refine ⟨k + 1, _, by omega, by go_num, Lib.hid (HQ.out.step HN.out), Lib.hid ?_, (HB.out.setCell (by simpa using hg) _)⟩
          have := HL.out.set4 HN'.out 0
          simpa [uJ, HK.out] using this
        case measure => simp [intOf]; omega
      | some c =>
        have HK := Lib.hid hfk
        obtain ⟨c0, c5⟩ := HF.out _ _ hfk
        clear hfk
        go_wp2_with (first
          | (at_lookup; refine kH _ rfl _ _ rfl b nn f rfl HS.out k rfl (by unfold dF; omega) c true (by rw [HK.out]; rfl) (by rw [HK.out]; rfl) ?_)
          | go_in)
        go_roundw
        case rel =>
          refine ⟨k + 1, _, by omega, by go_num, Lib.hid (HQ.out.step HN.out), Lib.hid ?_, ((HB.out.setCell (by simpa using hg) _).setCell (by simpa using hg) _)⟩
          have h1 := HL.out.set4 HN'.out 0
          have hk' : k < l'.length := (List.getElem?_eq_some_iff.1 HN'.out).1
          have h2 := h1.set4 (k := k) (n := SE n 0) (by simp [hk']) (c + 1)
          simpa [uJ, HK.out, SE] using h2
        case measure => simp [intOf]; omega
    · obtain rfl : k = l.length := by omega
      go_wp2
      go_ret
      have e := HQ.out.done
      subst e
      refine ⟨g, _, rfl, hg, ?_, hB⟩
      rw [uF]
      have q5 := Q5.out
      simp only [List.length_append, kA] at q5
      exact ⟨cap, sp, rfl, q1, q2, ⟨by rw [kA, uF], by simp only [List.length_append, kA, uF]; exact q5⟩, HL.out⟩
theorem VL {f : Int → Option Int} {l : List ND} {at' o : Int} (ha : 0 ≤ at') (h : ∀ (k : Nat) (n : ND), l[k]? = some n → uJ f k = if (k : Int) = at' then o else n.o) : AG f l = CD l at' o := by
  apply List.ext_getElem?
  intro i
  cases hi : l[i]? with
  | none =>
    have hl := List.getElem?_eq_none_iff.1 hi
    rw [List.getElem?_eq_none (by rw [uF]; exact hl)]
    unfold CD
    split
    · rw [List.getElem?_eq_none (by simpa using hl)]
    · exact hi.symm
  | some n =>
    have hl := (List.getElem?_eq_some_iff.1 hi).1
    rw [GJ hi]
    have h1 := h i n hi
    rw [h1]
    unfold CD
    by_cases e : (i : Int) = at'
    · have e2 : at'.toNat = i := by omega
      rw [if_pos e, e2, hi]
      simp [hl]
    · rw [if_neg e, JJ]
      split
      · rw [List.getElem?_set_ne (by omega)]
        exact hi.symm
      · exact hi.symm
theorem LJ {l : List ND} {k : Nat} {n : ND} (h : l[k]? = some n) : uJ (nD l l.length) k = n.o := by
  unfold uJ
  rw [pO h]
  split
  · rename_i c hc
    split at hc
    · cases hc
    · cases hc; omega
  · rename_i hc
    split at hc
    · rename_i h0; exact h0.symm
    · cases hc
theorem uI (l : List ND) : AG (nD l l.length) l = l := by
  apply List.ext_getElem?
  intro i
  cases hi : l[i]? with
  | none => rw [List.getElem?_eq_none (by rw [uF]; exact List.getElem?_eq_none_iff.1 hi)]
  | some n =>
    rw [GJ hi]
    rw [LJ hi, JJ]
theorem UL (l : List ND) {at' : Int} (ha : 0 ≤ at') (task : Int) : AG (fun x => if x = at' then some task else nD l l.length x) l = CD l at' (task + 1) :=
  VL ha fun k n hn => by
    unfold uJ
    by_cases e : (k : Int) = at'
    · simp only [if_pos e]
    · simp only [if_neg e]
      exact LJ hn
theorem NF {l : List ND} (hb : FB l = true) : ∀ x c, nD l l.length x = some c → 0 ≤ c ∧ c ≤ 5 := by
  intro x c h
  unfold nD at h
  split at h
  · split at h
    · rename_i n hn
      have := SH hb hn
      split at h
      · cases h
      · cases h; omega
    · cases h
  · cases h
theorem EN {l : List ND} {x c : Int} (h : nD l l.length x = some c) : mC l x = true ∧ NE l x = c + 1 := by
  unfold nD at h
  split at h
  · rename_i hx
    split at h
    · rename_i n hn
      split at h
      · cases h
      · cases h
        refine ⟨by simp [mC, XA]; omega, ?_⟩
        unfold NE
        rw [hn]
        simp
    · cases h
  · cases h
theorem FN {l : List ND} {x : Int} (h : nD l l.length x = none) : mC l x = true → NE l x = 0 := by
  intro hx
  have h1 := PC hx
  unfold nD at h
  rw [if_pos (by omega)] at h
  unfold NE
  split at h
  · rename_i n hn
    split at h
    · rename_i h0; exact h0
    · cases h
  · rfl
set_option maxRecDepth 100000 in
set_option maxHeartbeats 2000000 in
theorem XH (v : Value) (l : List ND) (a task : Int) (w : World) (h : NSl w v l) (hl : l.length ≤ 1048576) (ha : dF a) :
    Calls Tryz.prog 151 #[v, .int .i64 a, .int .i64 task] w (SaysL (rB l a task) w) := by
  have C := FK v l task w h hl
  rcases Bool.eq_false_or_eq_true (FB l && eF task) with hok | hok
  · obtain ⟨hb, ht⟩ := Bool.and_eq_true_iff.1 hok
    obtain ⟨l1, l30⟩ := gB hb
    have t05 := PC ht
    obtain ⟨t0, t5⟩ := t05
    have HL : rB l a task = if mC l a && NE l a == 0 then (CD l a (task + 1), true) else (l, false) := by unfold rB; rw [hok, if_pos rfl]
    have hal : (0 : Int) ≤ (l.length : Int) - 1 := by omega
    obtain ⟨sa, sc, rfl, _⟩ := id h
    cases hf : nD l l.length a with
    | some c =>
      obtain ⟨q1, q2⟩ := EN hf
      have hne : ¬ c + 1 = 0 := by have := NF hb a c hf; omega
      have HR : rB l a task = (l, false) := by rw [HL, q1, q2]; simp [hne]
      rw [HR]
      have HH := Lib.hid h
      have HF := Lib.hid hf
      clear HL HR h hf hne q1 q2
      go_enter Tryz.func151, Tryz.ntmps151
      go_wp2_with fail
      refine C.mono ?_
      rintro e w1 ⟨rfl, hB1⟩
      rw [hok]
      go_wp2_with fail
      refine (MF _ l w1 (HH.out.below hB1) hb).mono ?_
      rintro e w2 ⟨rfl, hM2, hB2⟩
      have hB2' := hB1.trans (hB2.mono hB1.size)
      have hz := hB1.size
      go_wp2_with (first
        | (at_lookup; refine kH _ rfl _ _ rfl w1.heap.size l.length (nD l l.length) rfl hM2 a rfl ha c true (by rw [HF.out]; rfl) (by rw [HF.out]; rfl) ?_))
      refine (sE _ l w2 (HH.out.below hB2') l1 l30 _ _ _ hM2 (NF hb)).mono ?_
      rintro e w3 ⟨g, u, rfl, hg, hO, hB3⟩
      rw [uI] at hO
      go_wp2
      go_ret2
      exact SaysL.fresh hB2' hg hO l1 hB3
    | none =>
      have q0 := FN hf
      have HH := Lib.hid h
      have HF := Lib.hid hf
      rcases Bool.eq_false_or_eq_true (mC l a) with hh | hh
      · have q1 := q0 hh
        have HR : rB l a task = (CD l a (task + 1), true) := by rw [HL, hh, q1]; simp
        rw [HR]
        have ha0 := (PC hh).1
        have HH' := Lib.hid (show XA a 0 ((l.length : Int) - 1) = true from hh)
        clear HL HR h hf q0 q1 hh
        go_enter Tryz.func151, Tryz.ntmps151
        go_wp2_with fail
        refine C.mono ?_
        rintro e w1 ⟨rfl, hB1⟩
        rw [hok]
        go_wp2_with fail
        refine (MF _ l w1 (HH.out.below hB1) hb).mono ?_
        rintro e w2 ⟨rfl, hM2, hB2⟩
        have hB2' := hB1.trans (hB2.mono hB1.size)
        have hz := hB1.size
        go_wp2_with (first
          | (at_lookup; refine kH _ rfl _ _ rfl w1.heap.size l.length (nD l l.length) rfl hM2 a rfl ha 0 false (by rw [HF.out]; rfl) (by rw [HF.out]; rfl) ?_)
          | (go_at_call 83; refine (LB _ _ _ _).mono ?_; rintro e w3 ⟨rfl, rfl⟩; rw [HH'.out])
          | (at_mapUpdate; refine NL _ rfl _ _ _ rfl w1.heap.size l.length (nD l l.length) rfl hM2 (by unfold maxLen; omega) a task rfl rfl ha (by unfold dF; omega) ?_; intro w4 hM4 hg4))
        have hB4 := hB2'.grown hg4 hB2'.size (fun j hj => by cases hj; exact hz)
        refine (sE _ l w4 (HH.out.below hB4) l1 l30 _ _ _ hM4 (fun x c hx => by
          split at hx
          · cases hx; omega
          · exact NF hb x c hx)).mono ?_
        rintro e w5 ⟨g, u, rfl, hg, hO, hB5⟩
        rw [UL l ha0] at hO
        go_wp2
        go_ret2
        exact SaysL.fresh hB4 hg hO (by rw [BF]; exact l1) hB5
      · have HR : rB l a task = (l, false) := by rw [HL, hh]; simp
        rw [HR]
        have HH' := Lib.hid (show XA a 0 ((l.length : Int) - 1) = false from hh)
        clear HL HR h hf q0 hh
        go_enter Tryz.func151, Tryz.ntmps151
        go_wp2_with fail
        refine C.mono ?_
        rintro e w1 ⟨rfl, hB1⟩
        rw [hok]
        go_wp2_with fail
        refine (MF _ l w1 (HH.out.below hB1) hb).mono ?_
        rintro e w2 ⟨rfl, hM2, hB2⟩
        have hB2' := hB1.trans (hB2.mono hB1.size)
        have hz := hB1.size
        go_wp2_with (first
          | (at_lookup; refine kH _ rfl _ _ rfl w1.heap.size l.length (nD l l.length) rfl hM2 a rfl ha 0 false (by rw [HF.out]; rfl) (by rw [HF.out]; rfl) ?_)
          | (go_at_call 83; refine (LB _ _ _ _).mono ?_; rintro e w3 ⟨rfl, rfl⟩; rw [HH'.out]))
        refine (sE _ l w2 (HH.out.below hB2') l1 l30 _ _ _ hM2 (NF hb)).mono ?_
        rintro e w3 ⟨g, u, rfl, hg, hO, hB3⟩
        rw [uI] at hO
        go_wp2
        go_ret2
        exact SaysL.fresh hB2' hg hO l1 hB3
  · have HR : rB l a task = ([], false) := by unfold rB; rw [hok]; rfl
    rw [HR]
    go_enter Tryz.func151, Tryz.ntmps151
    go_wp2_with fail
    refine C.mono ?_
    rintro e w1 ⟨rfl, hB1⟩
    rw [hok]
    go_wp2
    go_ret2
    exact ⟨_, rfl, OwnR.nil _ _ _ _ _ _ _ (by simp [maxLen]), hB1⟩
end Go.Proofs.YtfjafncipjdnfaaGreat
