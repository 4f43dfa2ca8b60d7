import Derived.Test.YtfjafncipjdnfaaGreatTree
import Derived.Test.YtfjafncipjdnfaaGreatStep12
namespace Go.Proofs.YtfjafncipjdnfaaGreat
set_option linter.unusedVariables false
set_option linter.unusedSimpArgs false
theorem IsT.agree {l l' : List ND} {p : Nat} {lo hi : Int} {xs : List Nat} {h : Nat} (t : IsT l p lo hi xs h) (e : ∀ x ∈ xs, l'[x]? = l[x]?) : IsT l' p lo hi xs h := by
  induction t with
  | nil lo hi => exact .nil lo hi
  | node p lo hi n a b xs ys h1 h2 h0 hn hg hl hh ha hb t1 t2 ih1 ih2 =>
    exact .node p lo hi n a b xs ys h1 h2 h0 (by rw [e p (by simp)]; exact hn) hg hl hh ha hb (ih1 fun x hx => e x (by simp [hx])) (ih2 fun x hx => e x (by simp [hx]))
theorem IsT.in_list {l : List ND} {p : Nat} {lo hi : Int} {xs : List Nat} {h : Nat} (t : IsT l p lo hi xs h) : ∀ x ∈ xs, x < l.length ∧ x ≠ 0 := by
  induction t with
  | nil lo hi => intro x hx; cases hx
  | node p lo hi n a b xs ys h1 h2 h0 hn hg hl hh ha hb t1 t2 ih1 ih2 =>
    intro x hx
    rcases List.mem_append.1 hx with hx | hx
    · exact ih1 x hx
    · rcases List.mem_cons.1 hx with rfl | hx
      · exact ⟨(List.getElem?_eq_some_iff.1 hn).1, h0⟩
      · exact ih2 x hx
theorem IsT.root {l : List ND} {p : Nat} {lo hi : Int} {xs : List Nat} {h : Nat} (t : IsT l p lo hi xs h) (h0 : p ≠ 0) : p ∈ xs ∧ ∃ m, l[p]? = some m ∧ 1 ≤ h ∧ lo < m.k ∧ m.k < hi := by
  cases t with
  | nil lo hi => exact absurd rfl h0
  | node p lo hi n a b xs ys h1 h2 _ hn hg hl hh ha hb t1 t2 => exact ⟨by simp, n, hn, by omega, hl, hh⟩
def mD (l : List ND) (key : Int) : Nat → Nat → Nat
  | 0, p => p
  | f + 1, p => match l[p]? with
    | none => p
    | some n => match l[(XA (VA key n.k) n.l n.r).toNat]? with
      | none => p
      | some m => if XA (VA key n.k) n.l n.r = 0 then p else if m.k = key then p else mD l key f (XA (VA key n.k) n.l n.r).toNat
def jF (key v : Int) : ND := ⟨key, v, 0, 0, 0, false, 0, 0⟩
def eD (l : List ND) (q : Nat) (n : ND) (s key v : Int) : List ND := l.set q (MB n s (l.length : Int)) ++ [jF key v]
theorem XI {l : List ND} {q : Nat} {n : ND} {s key v : Int} (hq : q < l.length) : (eD l q n s key v)[q]? = some (MB n s (l.length : Int)) := by
  unfold eD
  rw [List.getElem?_append_left (by rw [List.length_set]; exact hq), List.getElem?_set_self hq]
theorem pE {l : List ND} {q x : Nat} {n : ND} {s key v : Int} (hx : x < l.length) (h : q ≠ x) : (eD l q n s key v)[x]? = l[x]? := by
  unfold eD
  rw [List.getElem?_append_left (by rw [List.length_set]; exact hx), List.getElem?_set_ne h]
theorem xL {l : List ND} {q : Nat} {n : ND} {s key v : Int} : (eD l q n s key v)[l.length]? = some (jF key v) := by
  unfold eD
  rw [List.getElem?_append_right (by rw [List.length_set]; exact Nat.le_refl _), List.length_set, Nat.sub_self]
  rfl
theorem EF {l : List ND} {q : Nat} {n : ND} {s key v lo hi : Int} (h0 : 0 < l.length) (h1 : lo < key) (h2 : key < hi) : IsT (eD l q n s key v) l.length lo hi [l.length] 1 :=
  .node l.length lo hi (jF key v) 0 0 [] [] 0 0 (by omega) xL rfl h1 h2 rfl rfl (.nil _ _) (.nil _ _)
def BO (l : List ND) (key : Int) (q : Nat) (keep : List ND → Prop) : Prop :=
  ∃ n, l[q]? = some n ∧ n.k ≠ key ∧ ((∃ (r : Nat) (m : ND), XA (VA key n.k) n.l n.r = (r : Int) ∧ r ≠ 0 ∧ l[r]? = some m ∧ m.k = key) ∨ (XA (VA key n.k) n.l n.r = 0 ∧ ∀ v, keep (eD l q n (VA key n.k) key v)))
theorem ZN {l : List ND} {key : Int} (hl0 : 0 < l.length) {p : Nat} {lo hi : Int} {xs : List Nat} {h : Nat} (t : IsT l p lo hi xs h) : ∀ {f : Nat}, p ≠ 0 → lo < key → key < hi → (∀ n, l[p]? = some n → n.k ≠ key) → h ≤ f →
    mD l key f p ∈ xs ∧ BO l key (mD l key f p) (fun l' => ∃ xs' h', IsT l' p lo hi xs' h') := by
  induction t with
  | nil lo hi => intro f h0; exact absurd rfl h0
  | node p lo hi n a b xs ys h1 h2 hp hn hg hl hh ha hb t1 t2 ih1 ih2 =>
    intro f _ hk1 hk2 hne hf
    obtain ⟨f, rfl⟩ : ∃ e, f = e + 1 := ⟨f - 1, by omega⟩
    have hnk := hne n hn
    have hnd := (IsT.node p lo hi n a b xs ys h1 h2 hp hn hg hl hh ha hb t1 t2).rise.nodup
    have hpl := (List.getElem?_eq_some_iff.1 hn).1
    have i1 := t1.in_list
    have i2 := t2.in_list
    rw [List.nodup_append] at hnd
    obtain ⟨d1, d2, d3⟩ := hnd
    rw [List.nodup_cons] at d2
    have dp1 : ∀ x ∈ xs, p ≠ x := fun x hx e => d3 x hx p (by simp) e.symm
    have dp2 : ∀ x ∈ ys, p ≠ x := fun x hx e => d2.1 (e ▸ hx)
    by_cases hlt : key < n.k
    · have hs : VA key n.k = 0 := if_pos hlt
      have hkid : XA (VA key n.k) n.l n.r = (a : Int) := by rw [hs, ← ha]; rfl
      by_cases ha0 : a = 0
      · have e : mD l key (f + 1) p = p := by
          simp only [mD, hn, hkid, ha0]
          cases l[(((0 : Nat) : Int)).toNat]? <;> simp
        rw [e]
        refine ⟨by simp, n, hn, hnk, .inr ⟨by rw [hkid, ha0]; rfl, fun v => ?_⟩⟩
        refine ⟨[l.length] ++ p :: ys, _, .node p lo hi (MB n (VA key n.k) (l.length : Int)) l.length b [l.length] ys 1 h2 hp (XI hpl) hg hl hh ?_ ?_ (EF hl0 hk1 hlt) (t2.agree fun x hx => pE (i2 x hx).1 (dp2 x hx))⟩
        · rw [hs]; rfl
        · rw [hs]; exact hb
      · obtain ⟨hax, m, hm, hm1, hm2, hm3⟩ := t1.root ha0
        by_cases hmk : m.k = key
        · have e : mD l key (f + 1) p = p := by
            simp only [mD, hn, hkid, Int.toNat_natCast, hm]
            rw [if_neg (by omega), if_pos hmk]
          rw [e]
          exact ⟨by simp, n, hn, hnk, .inl ⟨a, m, hkid, ha0, hm, hmk⟩⟩
        · have e : mD l key (f + 1) p = mD l key f a := by
            simp only [mD, hn, hkid, Int.toNat_natCast, hm]
            rw [if_neg (by omega), if_neg hmk]
          rw [e]
          obtain ⟨q1, k, q2, q3, q4⟩ := ih1 (f := f) ha0 hk1 hlt (fun n' hn' => by rw [hm] at hn'; cases hn'; exact hmk) (by omega)
          refine ⟨by simp [q1], k, q2, q3, ?_⟩
          rcases q4 with q4 | ⟨q4, q5⟩
          · exact .inl q4
          · refine .inr ⟨q4, fun v => ?_⟩
            obtain ⟨xs', h', t'⟩ := q5 v
            exact ⟨xs' ++ p :: ys, _, .node p lo hi n a b xs' ys h' h2 hp (by rw [pE hpl (dp1 _ q1).symm]; exact hn) hg hl hh ha hb t' (t2.agree fun x hx => pE (i2 x hx).1 (fun e => d3 _ q1 x (by simp [hx]) e))⟩
    · have hgt : n.k < key := by omega
      have hs : VA key n.k = 1 := if_neg hlt
      have hkid : XA (VA key n.k) n.l n.r = (b : Int) := by rw [hs, ← hb]; rfl
      by_cases hb0 : b = 0
      · have e : mD l key (f + 1) p = p := by
          simp only [mD, hn, hkid, hb0]
          cases l[(((0 : Nat) : Int)).toNat]? <;> simp
        rw [e]
        refine ⟨by simp, n, hn, hnk, .inr ⟨by rw [hkid, hb0]; rfl, fun v => ?_⟩⟩
        refine ⟨xs ++ p :: [l.length], _, .node p lo hi (MB n (VA key n.k) (l.length : Int)) a l.length xs [l.length] h1 1 hp (XI hpl) hg hl hh ?_ ?_ (t1.agree fun x hx => pE (i1 x hx).1 (dp1 x hx)) (EF hl0 hgt hk2)⟩
        · rw [hs]; exact ha
        · rw [hs]; rfl
      · obtain ⟨hbx, m, hm, hm1, hm2, hm3⟩ := t2.root hb0
        by_cases hmk : m.k = key
        · have e : mD l key (f + 1) p = p := by
            simp only [mD, hn, hkid, Int.toNat_natCast, hm]
            rw [if_neg (by omega), if_pos hmk]
          rw [e]
          exact ⟨by simp, n, hn, hnk, .inl ⟨b, m, hkid, hb0, hm, hmk⟩⟩
        · have e : mD l key (f + 1) p = mD l key f b := by
            simp only [mD, hn, hkid, Int.toNat_natCast, hm]
            rw [if_neg (by omega), if_neg hmk]
          rw [e]
          obtain ⟨q1, k, q2, q3, q4⟩ := ih2 (f := f) hb0 hgt hk2 (fun n' hn' => by rw [hm] at hn'; cases hn'; exact hmk) (by omega)
          refine ⟨by simp [q1], k, q2, q3, ?_⟩
          rcases q4 with q4 | ⟨q4, q5⟩
          · exact .inl q4
          · refine .inr ⟨q4, fun v => ?_⟩
            obtain ⟨xs', h', t'⟩ := q5 v
            exact ⟨xs ++ p :: xs', _, .node p lo hi n a b xs xs' h1 h' hp (by rw [pE hpl (dp2 _ q1).symm]; exact hn) hg hl hh ha hb (t1.agree fun x hx => pE (i1 x hx).1 (fun e => d3 x hx _ (by simp [q1]) e.symm)) t'⟩
theorem xN {x lo hi : Int} : ZA x lo hi = true ↔ lo ≤ x ∧ x ≤ hi := by simp [ZA]
theorem rL {n : ND} {m m' : Int} (h : rB n m = true) (hm : m ≤ m') : rB n m' = true := by
  simp only [rB, Bool.and_eq_true, xN] at h ⊢
  omega
theorem jH {n : ND} {m : Int} {s kid : Int} (h : rB n m = true) (h0 : 0 ≤ kid ∧ kid < m) : rB (MB n s kid) m = true := by
  simp only [rB, MB, DB, cB, Bool.and_eq_true, xN] at h ⊢
  refine ⟨⟨⟨⟨?_, ?_⟩, h.1.1.2⟩, h.1.2⟩, h.2⟩ <;> split <;> omega
theorem sL {key v m : Int} (hk : 0 ≤ key ∧ key ≤ 99) (hv : 0 ≤ v ∧ v ≤ 999) (hm : 1 ≤ m) : SD (jF key v) = true ∧ rB (jF key v) m = true := by
  simp only [SD, rB, jF, Bool.and_eq_true, xN]
  omega
theorem gH {l : List ND} {q : Nat} {n : ND} {s key v : Int} (h : PA l = true) (hn : l[q]? = some n) (hlen : l.length ≤ 29) (hs : q = 0 → s ≠ 0) (hk : 0 ≤ key ∧ key ≤ 99) (hv : 0 ≤ v ∧ v ≤ 999) : PA (eD l q n s key v) = true := by
  have hq : q < l.length := (List.getElem?_eq_some_iff.1 hn).1
  have lf := sL (m := (l.length : Int) + 1) hk hv (by omega)
  match l, h, hn, hlen, hq, lf with
  | m :: r, h, hn, hlen, hq, lf =>
    simp only [PA, Bool.and_eq_true, decide_eq_true_eq, List.all_eq_true] at h
    obtain ⟨⟨a1, a2⟩, ⟨b1, b2⟩, b3⟩ := h
    have key1 : ∀ x : ND, rB x (((m :: r).length : Nat) : Int) = true → rB x (((m :: r).length + 1 : Nat) : Int) = true := fun x hx => rL hx (by omega)
    cases q with
    | zero =>
      simp at hn
      subst hn
      have e : eD (m :: r) 0 m s key v = MB m s (((m :: r).length : Nat) : Int) :: (r ++ [jF key v]) := rfl
      rw [e]
      have len : (MB m s (((m :: r).length : Nat) : Int) :: (r ++ [jF key v])).length = (m :: r).length + 1 := by simp
      simp only [PA, Bool.and_eq_true, decide_eq_true_eq, List.all_eq_true]
      rw [len]
      refine ⟨⟨by omega, by omega⟩, ⟨?_, jH (key1 m b2) (by simp; omega)⟩, fun x hx => ?_⟩
      · have hs0 := hs rfl
        simp only [KC, MB, DB, Bool.and_eq_true] at b1 ⊢
        rw [if_neg hs0]
        exact b1
      · rcases List.mem_append.1 hx with hx | hx
        · exact ⟨(b3 x hx).1, key1 x (b3 x hx).2⟩
        · rw [List.mem_singleton] at hx
          subst hx
          exact ⟨lf.1, by have := lf.2; simpa using this⟩
    | succ q =>
      have hn' : r[q]? = some n := by simpa using hn
      have e : eD (m :: r) (q + 1) n s key v = m :: (r.set q (MB n s (((m :: r).length : Nat) : Int)) ++ [jF key v]) := rfl
      rw [e]
      have len : (m :: (r.set q (MB n s (((m :: r).length : Nat) : Int)) ++ [jF key v])).length = (m :: r).length + 1 := by simp
      simp only [PA, Bool.and_eq_true, decide_eq_true_eq, List.all_eq_true]
      rw [len]
      refine ⟨⟨by omega, by omega⟩, ⟨b1, key1 m b2⟩, fun x hx => ?_⟩
      rcases List.mem_append.1 hx with hx | hx
      · rcases List.mem_or_eq_of_mem_set hx with hx | rfl
        · exact ⟨(b3 x hx).1, key1 x (b3 x hx).2⟩
        · have := b3 n (List.mem_of_getElem? hn')
          exact ⟨by have h1 := this.1; simp only [SD, MB] at h1 ⊢; exact h1, jH (key1 n this.2) (by simp; omega)⟩
      · rw [List.mem_singleton] at hx
        subst hx
        exact ⟨lf.1, by have := lf.2; simpa using this⟩
theorem aK {l : List ND} (h : PA l = true) {xs : List Nat} {hh : Nat} (t : IsT l (fD l) (-1) 100 xs hh) : yB l = true := by
  have hL := nD h
  have e := t.sw (f := 31) (out := []) (by have := vH l (-1) 100; have := hL.1; omega) (by have := IsT.len hL.1 t; simpa using this)
  simp only [yB, lG, h, e, Bool.and_self]
def TE (l : List ND) (key : Int) : Nat := mD l key 32 0
def DF (l : List ND) (key v : Int) : List ND :=
  match l[TE l key]? with
  | some n => if XA (VA key n.k) n.l n.r = 0 then eD l (TE l key) n (VA key n.k) key v else l
  | none => l
theorem pK {l : List ND} {key : Int} (ht : yB l = true) (hlen : l.length ≤ 29) (hk : 0 ≤ key ∧ key ≤ 99) : BO l key (TE l key) (fun l' => ∀ v, 0 ≤ v ∧ v ≤ 999 → l' = eD l (TE l key) ((l[TE l key]?).getD (jF 0 0)) (VA key ((l[TE l key]?).getD (jF 0 0)).k) key v → yB l' = true) := by
  have hnb : PA l = true := by simp only [yB, Bool.and_eq_true] at ht; exact ht.1
  obtain ⟨xs, hh, t, -, -, hh30⟩ := BD ht
  have hL := nD hnb
  match l, hnb, ht, hlen, t, hL with
  | n :: r, hnb, ht, hlen, t, hL =>
    have hnb2 := hnb
    simp only [PA, Bool.and_eq_true, decide_eq_true_eq, List.all_eq_true] at hnb2
    obtain ⟨-, ⟨b1, b2⟩, -⟩ := hnb2
    have hk1 : n.k = -1 := by simp only [KC, Bool.and_eq_true, beq_iff_eq] at b1; exact b1.1.1.1
    have hs : VA key n.k = 1 := if_neg (by omega)
    obtain ⟨a, b, e1, e2, e3, e4⟩ := MJ b2
    have hrr : fD (n :: r) = b := by simp [fD, e2]
    have hkid : XA (VA key n.k) n.l n.r = (b : Int) := by rw [hs, e2]; rfl
    rw [hrr] at t
    have h0 : (n :: r)[0]? = some n := rfl
    by_cases hb0 : b = 0
    · have e : TE (n :: r) key = 0 := by
        simp only [TE, mD, h0, hkid, hb0]
        cases (n :: r)[(((0 : Nat) : Int)).toNat]? <;> simp
      rw [e]
      refine ⟨n, h0, by omega, .inr ⟨by rw [hkid, hb0]; rfl, fun v v' hv el => ?_⟩⟩
      rw [el]
      simp only [h0, Option.getD_some]
      refine aK (xs := [(n :: r).length]) (hh := 1) (gH hnb h0 hlen (fun _ => by omega) hk hv) ?_
      have : fD (eD (n :: r) 0 n (VA key n.k) key v') = (n :: r).length := by rw [hs]; simp [fD, eD, MB, cB]
      rw [this]
      exact EF (by simp) (by omega) (by omega)
    · obtain ⟨hbx, m, hm, hm1, hm2, hm3⟩ := t.root hb0
      by_cases hmk : m.k = key
      · have e : TE (n :: r) key = 0 := by
          simp only [TE, mD, h0, hkid, Int.toNat_natCast, hm]
          rw [if_neg (by omega), if_pos hmk]
        rw [e]
        exact ⟨n, h0, by omega, .inl ⟨b, m, hkid, hb0, hm, hmk⟩⟩
      · have e : TE (n :: r) key = mD (n :: r) key 31 b := by
          show mD (n :: r) key 32 0 = _
          rw [mD]
          simp only [h0, hkid, Int.toNat_natCast, hm]
          rw [if_neg (by omega), if_neg hmk]
        rw [e]
        obtain ⟨q1, n', q2, q3, q4⟩ := ZN (by simp) t (f := 31) (key := key) hb0 (by omega) (by omega) (fun n' hn' => by rw [hm] at hn'; cases hn'; exact hmk) (by omega)
        refine ⟨n', q2, q3, ?_⟩
        rcases q4 with q4 | ⟨q4, q5⟩
        · exact .inl q4
        · refine .inr ⟨q4, fun v v' hv el => ?_⟩
          rw [el]
          simp only [q2, Option.getD_some]
          obtain ⟨xs', h', t'⟩ := q5 v'
          have hq0 := (t.in_list _ q1).2
          refine aK (gH hnb q2 hlen (fun e => absurd e hq0) hk hv) (xs := xs') (hh := h') ?_
          have : fD (eD (n :: r) (mD (n :: r) key 31 b) n' (VA key n'.k) key v') = b := by
            obtain ⟨j, hj⟩ : ∃ j, mD (n :: r) key 31 b = j + 1 := ⟨mD (n :: r) key 31 b - 1, by omega⟩
            rw [hj, ← hrr]
            rfl
          rw [this]
          exact t'
theorem vL {l : List ND} {key v : Int} (ht : yB l = true) (hlen : l.length ≤ 29) (hk : 0 ≤ key ∧ key ≤ 99) (hv : 0 ≤ v ∧ v ≤ 999) : yB (DF l key v) = true ∧ (DF l key v).length ≤ l.length + 1 := by
  obtain ⟨n, hn, -, h⟩ := pK ht hlen hk
  have e : DF l key v = if XA (VA key n.k) n.l n.r = 0 then eD l (TE l key) n (VA key n.k) key v else l := by
    unfold DF
    rw [hn]
  rw [e]
  clear e
  split
  · rename_i hkid
    rcases h with ⟨r, m, h1, h2, -⟩ | ⟨-, h2⟩
    · rw [hkid] at h1
      omega
    · refine ⟨h2 v v hv ?_, by simp [eD]⟩
      rw [hn]
      rfl
  · exact ⟨ht, Nat.le_succ _⟩
end Go.Proofs.YtfjafncipjdnfaaGreat
