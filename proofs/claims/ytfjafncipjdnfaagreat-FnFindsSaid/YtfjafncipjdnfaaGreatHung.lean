import Derived.Test.YtfjafncipjdnfaaGreatTree
import Derived.Test.YtfjafncipjdnfaaGreatDrawNode
namespace Go.Proofs.YtfjafncipjdnfaaGreat
set_option linter.unusedVariables false
set_option linter.unusedSimpArgs false
theorem IsT.agree {l l' : List ND} {p : Nat} {lo hi : Int} {xs : List Nat} {h : Nat} (t : IsT l p lo hi xs h) (e : ∀ x ∈ xs, l'[x]? = l[x]?) : IsT l' p lo hi xs h := by
  induction t with
  | nil lo hi => exact .nil lo hi
  | node p lo hi n a b xs ys h1 h2 h0 hn hg hl hh ha hb t1 t2 ih1 ih2 =>
    exact .node p lo hi n a b xs ys h1 h2 h0 (by rw [e p (by simp)]; exact hn) hg hl hh ha hb (ih1 fun x hx => e x (by simp [hx])) (ih2 fun x hx => e x (by simp [hx]))
theorem IsT.in_list {l : List ND} {p : Nat} {lo hi : Int} {xs : List Nat} {h : Nat} (t : IsT l p lo hi xs h) : ∀ x ∈ xs, x < l.length ∧ x ≠ 0 := by
  induction t with
  | nil lo hi => intro x hx; cases hx
  | node p lo hi n a b xs ys h1 h2 h0 hn hg hl hh ha hb t1 t2 ih1 ih2 =>
    intro x hx
    rcases List.mem_append.1 hx with hx | hx
    · exact ih1 x hx
    · rcases List.mem_cons.1 hx with rfl | hx
      · exact ⟨(List.getElem?_eq_some_iff.1 hn).1, h0⟩
      · exact ih2 x hx
theorem IsT.root {l : List ND} {p : Nat} {lo hi : Int} {xs : List Nat} {h : Nat} (t : IsT l p lo hi xs h) (h0 : p ≠ 0) : p ∈ xs ∧ ∃ m, l[p]? = some m ∧ 1 ≤ h ∧ lo < m.k ∧ m.k < hi := by
  cases t with
  | nil lo hi => exact absurd rfl h0
  | node p lo hi n a b xs ys h1 h2 _ hn hg hl hh ha hb t1 t2 => exact ⟨by simp, n, hn, by omega, hl, hh⟩
def SD (l : List ND) (key : Int) : Nat → Nat → Nat
  | 0, p => p
  | f + 1, p => match l[p]? with
    | none => p
    | some n => match l[(RA (cB key n.k) n.l n.r).toNat]? with
      | none => p
      | some m => if RA (cB key n.k) n.l n.r = 0 then p else if m.k = key then p else SD l key f (RA (cB key n.k) n.l n.r).toNat
def aG (key v : Int) : ND := ⟨key, v, 0, 0, 0, false, 0, 0⟩
def JD (l : List ND) (q : Nat) (n : ND) (s key v : Int) : List ND := l.set q (WB n s (l.length : Int)) ++ [aG key v]
theorem gK {l : List ND} {q : Nat} {n : ND} {s key v : Int} (hq : q < l.length) : (JD l q n s key v)[q]? = some (WB n s (l.length : Int)) := by
  unfold JD
  rw [List.getElem?_append_left (by rw [List.length_set]; exact hq), List.getElem?_set_self hq]
theorem ZE {l : List ND} {q x : Nat} {n : ND} {s key v : Int} (hx : x < l.length) (h : q ≠ x) : (JD l q n s key v)[x]? = l[x]? := by
  unfold JD
  rw [List.getElem?_append_left (by rw [List.length_set]; exact hx), List.getElem?_set_ne h]
theorem BM {l : List ND} {q : Nat} {n : ND} {s key v : Int} : (JD l q n s key v)[l.length]? = some (aG key v) := by
  unfold JD
  rw [List.getElem?_append_right (by rw [List.length_set]; exact Nat.le_refl _), List.length_set, Nat.sub_self]
  rfl
theorem vG {l : List ND} {q : Nat} {n : ND} {s key v lo hi : Int} (h0 : 0 < l.length) (h1 : lo < key) (h2 : key < hi) : IsT (JD l q n s key v) l.length lo hi [l.length] 1 :=
  .node l.length lo hi (aG key v) 0 0 [] [] 0 0 (by omega) BM rfl h1 h2 rfl rfl (.nil _ _) (.nil _ _)
def OP (l : List ND) (key : Int) (q : Nat) (keep : List ND → Prop) : Prop :=
  ∃ n, l[q]? = some n ∧ n.k ≠ key ∧ ((∃ (r : Nat) (m : ND), RA (cB key n.k) n.l n.r = (r : Int) ∧ r ≠ 0 ∧ l[r]? = some m ∧ m.k = key) ∨ (RA (cB key n.k) n.l n.r = 0 ∧ ∀ v, keep (JD l q n (cB key n.k) key v)))
theorem kP {l : List ND} {key : Int} (hl0 : 0 < l.length) {p : Nat} {lo hi : Int} {xs : List Nat} {h : Nat} (t : IsT l p lo hi xs h) : ∀ {f : Nat}, p ≠ 0 → lo < key → key < hi → (∀ n, l[p]? = some n → n.k ≠ key) → h ≤ f →
    SD l key f p ∈ xs ∧ OP l key (SD l key f p) (fun l' => ∃ xs' h', IsT l' p lo hi xs' h') := by
  induction t with
  | nil lo hi => intro f h0; exact absurd rfl h0
  | node p lo hi n a b xs ys h1 h2 hp hn hg hl hh ha hb t1 t2 ih1 ih2 =>
    intro f _ hk1 hk2 hne hf
    obtain ⟨f, rfl⟩ : ∃ e, f = e + 1 := ⟨f - 1, by omega⟩
    have hnk := hne n hn
    have hnd := (IsT.node p lo hi n a b xs ys h1 h2 hp hn hg hl hh ha hb t1 t2).rise.nodup
    have hpl := (List.getElem?_eq_some_iff.1 hn).1
    have i1 := t1.in_list
    have i2 := t2.in_list
    rw [List.nodup_append] at hnd
    obtain ⟨d1, d2, d3⟩ := hnd
    rw [List.nodup_cons] at d2
    have dp1 : ∀ x ∈ xs, p ≠ x := fun x hx e => d3 x hx p (by simp) e.symm
    have dp2 : ∀ x ∈ ys, p ≠ x := fun x hx e => d2.1 (e ▸ hx)
    by_cases hlt : key < n.k
    · have hs : cB key n.k = 0 := if_pos hlt
      have hkid : RA (cB key n.k) n.l n.r = (a : Int) := by rw [hs, ← ha]; rfl
      by_cases ha0 : a = 0
      · have e : SD l key (f + 1) p = p := by
          simp only [SD, hn, hkid, ha0]
          cases l[(((0 : Nat) : Int)).toNat]? <;> simp
        rw [e]
        refine ⟨by simp, n, hn, hnk, .inr ⟨by rw [hkid, ha0]; rfl, fun v => ?_⟩⟩
        refine ⟨[l.length] ++ p :: ys, _, .node p lo hi (WB n (cB key n.k) (l.length : Int)) l.length b [l.length] ys 1 h2 hp (gK hpl) hg hl hh ?_ ?_ (vG hl0 hk1 hlt) (t2.agree fun x hx => ZE (i2 x hx).1 (dp2 x hx))⟩
        · rw [hs]; rfl
        · rw [hs]; exact hb
      · obtain ⟨hax, m, hm, hm1, hm2, hm3⟩ := t1.root ha0
        by_cases hmk : m.k = key
        · have e : SD l key (f + 1) p = p := by
            simp only [SD, hn, hkid, Int.toNat_natCast, hm]
            rw [if_neg (by omega), if_pos hmk]
          rw [e]
          exact ⟨by simp, n, hn, hnk, .inl ⟨a, m, hkid, ha0, hm, hmk⟩⟩
        · have e : SD l key (f + 1) p = SD l key f a := by
            simp only [SD, hn, hkid, Int.toNat_natCast, hm]
            rw [if_neg (by omega), if_neg hmk]
          rw [e]
          obtain ⟨q1, k, q2, q3, q4⟩ := ih1 (f := f) ha0 hk1 hlt (fun n' hn' => by rw [hm] at hn'; cases hn'; exact hmk) (by omega)
          refine ⟨by simp [q1], k, q2, q3, ?_⟩
          rcases q4 with q4 | ⟨q4, q5⟩
          · exact .inl q4
          · refine .inr ⟨q4, fun v => ?_⟩
            obtain ⟨xs', h', t'⟩ := q5 v
            exact ⟨xs' ++ p :: ys, _, .node p lo hi n a b xs' ys h' h2 hp (by rw [ZE hpl (dp1 _ q1).symm]; exact hn) hg hl hh ha hb t' (t2.agree fun x hx => ZE (i2 x hx).1 (fun e => d3 _ q1 x (by simp [hx]) e))⟩
    · have hgt : n.k < key := by omega
      have hs : cB key n.k = 1 := if_neg hlt
      have hkid : RA (cB key n.k) n.l n.r = (b : Int) := by rw [hs, ← hb]; rfl
      by_cases hb0 : b = 0
      · have e : SD l key (f + 1) p = p := by
          simp only [SD, hn, hkid, hb0]
          cases l[(((0 : Nat) : Int)).toNat]? <;> simp
        rw [e]
        refine ⟨by simp, n, hn, hnk, .inr ⟨by rw [hkid, hb0]; rfl, fun v => ?_⟩⟩
        refine ⟨xs ++ p :: [l.length], _, .node p lo hi (WB n (cB key n.k) (l.length : Int)) a l.length xs [l.length] h1 1 hp (gK hpl) hg hl hh ?_ ?_ (t1.agree fun x hx => ZE (i1 x hx).1 (dp1 x hx)) (vG hl0 hgt hk2)⟩
        · rw [hs]; exact ha
        · rw [hs]; rfl
      · obtain ⟨hbx, m, hm, hm1, hm2, hm3⟩ := t2.root hb0
        by_cases hmk : m.k = key
        · have e : SD l key (f + 1) p = p := by
            simp only [SD, hn, hkid, Int.toNat_natCast, hm]
            rw [if_neg (by omega), if_pos hmk]
          rw [e]
          exact ⟨by simp, n, hn, hnk, .inl ⟨b, m, hkid, hb0, hm, hmk⟩⟩
        · have e : SD l key (f + 1) p = SD l key f b := by
            simp only [SD, hn, hkid, Int.toNat_natCast, hm]
            rw [if_neg (by omega), if_neg hmk]
          rw [e]
          obtain ⟨q1, k, q2, q3, q4⟩ := ih2 (f := f) hb0 hgt hk2 (fun n' hn' => by rw [hm] at hn'; cases hn'; exact hmk) (by omega)
          refine ⟨by simp [q1], k, q2, q3, ?_⟩
          rcases q4 with q4 | ⟨q4, q5⟩
          · exact .inl q4
          · refine .inr ⟨q4, fun v => ?_⟩
            obtain ⟨xs', h', t'⟩ := q5 v
            exact ⟨xs ++ p :: xs', _, .node p lo hi n a b xs xs' h1 h' hp (by rw [ZE hpl (dp2 _ q1).symm]; exact hn) hg hl hh ha hb (t1.agree fun x hx => ZE (i1 x hx).1 (fun e => d3 x hx _ (by simp [q1]) e.symm)) t'⟩
theorem MO {x lo hi : Int} : aB x lo hi = true ↔ lo ≤ x ∧ x ≤ hi := by simp [aB]
theorem xM {n : ND} {m m' : Int} (h : AB n m = true) (hm : m ≤ m') : AB n m' = true := by
  simp only [AB, Bool.and_eq_true, MO] at h ⊢
  omega
theorem mI {n : ND} {m : Int} {s kid : Int} (h : AB n m = true) (h0 : 0 ≤ kid ∧ kid < m) : AB (WB n s kid) m = true := by
  simp only [AB, WB, KB, pB, Bool.and_eq_true, MO] at h ⊢
  refine ⟨⟨⟨⟨?_, ?_⟩, h.1.1.2⟩, h.1.2⟩, h.2⟩ <;> split <;> omega
theorem yM {key v m : Int} (hk : 0 ≤ key ∧ key ≤ 99) (hv : 0 ≤ v ∧ v ≤ 999) (hm : 1 ≤ m) : nE (aG key v) = true ∧ AB (aG key v) m = true := by
  simp only [nE, AB, aG, Bool.and_eq_true, MO]
  omega
theorem jI {l : List ND} {q : Nat} {n : ND} {s key v : Int} (h : YA l = true) (hn : l[q]? = some n) (hlen : l.length ≤ 29) (hs : q = 0 → s ≠ 0) (hk : 0 ≤ key ∧ key ≤ 99) (hv : 0 ≤ v ∧ v ≤ 999) : YA (JD l q n s key v) = true := by
  have hq : q < l.length := (List.getElem?_eq_some_iff.1 hn).1
  have lf := yM (m := (l.length : Int) + 1) hk hv (by omega)
  match l, h, hn, hlen, hq, lf with
  | m :: r, h, hn, hlen, hq, lf =>
    simp only [YA, Bool.and_eq_true, decide_eq_true_eq, List.all_eq_true] at h
    obtain ⟨⟨a1, a2⟩, ⟨b1, b2⟩, b3⟩ := h
    have key1 : ∀ x : ND, AB x (((m :: r).length : Nat) : Int) = true → AB x (((m :: r).length + 1 : Nat) : Int) = true := fun x hx => xM hx (by omega)
    cases q with
    | zero =>
      simp at hn
      subst hn
      have e : JD (m :: r) 0 m s key v = WB m s (((m :: r).length : Nat) : Int) :: (r ++ [aG key v]) := rfl
      rw [e]
      have len : (WB m s (((m :: r).length : Nat) : Int) :: (r ++ [aG key v])).length = (m :: r).length + 1 := by simp
      simp only [YA, Bool.and_eq_true, decide_eq_true_eq, List.all_eq_true]
      rw [len]
      refine ⟨⟨by omega, by omega⟩, ⟨?_, mI (key1 m b2) (by simp; omega)⟩, fun x hx => ?_⟩
      · have hs0 := hs rfl
        simp only [nD, WB, KB, Bool.and_eq_true] at b1 ⊢
        rw [if_neg hs0]
        exact b1
      · rcases List.mem_append.1 hx with hx | hx
        · exact ⟨(b3 x hx).1, key1 x (b3 x hx).2⟩
        · rw [List.mem_singleton] at hx
          subst hx
          exact ⟨lf.1, by have := lf.2; simpa using this⟩
    | succ q =>
      have hn' : r[q]? = some n := by simpa using hn
      have e : JD (m :: r) (q + 1) n s key v = m :: (r.set q (WB n s (((m :: r).length : Nat) : Int)) ++ [aG key v]) := rfl
      rw [e]
      have len : (m :: (r.set q (WB n s (((m :: r).length : Nat) : Int)) ++ [aG key v])).length = (m :: r).length + 1 := by simp
      simp only [YA, Bool.and_eq_true, decide_eq_true_eq, List.all_eq_true]
      rw [len]
      refine ⟨⟨by omega, by omega⟩, ⟨b1, key1 m b2⟩, fun x hx => ?_⟩
      rcases List.mem_append.1 hx with hx | hx
      · rcases List.mem_or_eq_of_mem_set hx with hx | rfl
        · exact ⟨(b3 x hx).1, key1 x (b3 x hx).2⟩
        · have := b3 n (List.mem_of_getElem? hn')
          exact ⟨by have h1 := this.1; simp only [nE, WB] at h1 ⊢; exact h1, mI (key1 n this.2) (by simp; omega)⟩
      · rw [List.mem_singleton] at hx
        subst hx
        exact ⟨lf.1, by have := lf.2; simpa using this⟩
theorem sL {l : List ND} (h : YA l = true) {xs : List Nat} {hh : Nat} (t : IsT l (UD l) (-1) 100 xs hh) : WC l = true := by
  have hL := mE h
  have e := t.sw (f := 31) (out := []) (by have := LI l (-1) 100; have := hL.1; omega) (by have := IsT.len hL.1 t; simpa using this)
  simp only [WC, fH, h, e, Bool.and_self]
def GF (l : List ND) (key : Int) : Nat := SD l key 32 0
def uG (l : List ND) (key v : Int) : List ND :=
  match l[GF l key]? with
  | some n => if RA (cB key n.k) n.l n.r = 0 then JD l (GF l key) n (cB key n.k) key v else l
  | none => l
theorem GL {l : List ND} {key : Int} (ht : WC l = true) (hlen : l.length ≤ 29) (hk : 0 ≤ key ∧ key ≤ 99) : OP l key (GF l key) (fun l' => ∀ v, 0 ≤ v ∧ v ≤ 999 → l' = JD l (GF l key) ((l[GF l key]?).getD (aG 0 0)) (cB key ((l[GF l key]?).getD (aG 0 0)).k) key v → WC l' = true) := by
  have hnb : YA l = true := by simp only [WC, Bool.and_eq_true] at ht; exact ht.1
  obtain ⟨xs, hh, t, -, -, hh30⟩ := eH ht
  have hL := mE hnb
  match l, hnb, ht, hlen, t, hL with
  | n :: r, hnb, ht, hlen, t, hL =>
    have hnb2 := hnb
    simp only [YA, Bool.and_eq_true, decide_eq_true_eq, List.all_eq_true] at hnb2
    obtain ⟨-, ⟨b1, b2⟩, -⟩ := hnb2
    have hk1 : n.k = -1 := by simp only [nD, Bool.and_eq_true, beq_iff_eq] at b1; exact b1.1.1.1
    have hs : cB key n.k = 1 := if_neg (by omega)
    obtain ⟨a, b, e1, e2, e3, e4⟩ := UK b2
    have hrr : UD (n :: r) = b := by simp [UD, e2]
    have hkid : RA (cB key n.k) n.l n.r = (b : Int) := by rw [hs, e2]; rfl
    rw [hrr] at t
    have h0 : (n :: r)[0]? = some n := rfl
    by_cases hb0 : b = 0
    · have e : GF (n :: r) key = 0 := by
        simp only [GF, SD, h0, hkid, hb0]
        cases (n :: r)[(((0 : Nat) : Int)).toNat]? <;> simp
      rw [e]
      refine ⟨n, h0, by omega, .inr ⟨by rw [hkid, hb0]; rfl, fun v v' hv el => ?_⟩⟩
      rw [el]
      simp only [h0, Option.getD_some]
      refine sL (xs := [(n :: r).length]) (hh := 1) (jI hnb h0 hlen (fun _ => by omega) hk hv) ?_
      have : UD (JD (n :: r) 0 n (cB key n.k) key v') = (n :: r).length := by rw [hs]; simp [UD, JD, WB, pB]
      rw [this]
      exact vG (by simp) (by omega) (by omega)
    · obtain ⟨hbx, m, hm, hm1, hm2, hm3⟩ := t.root hb0
      by_cases hmk : m.k = key
      · have e : GF (n :: r) key = 0 := by
          simp only [GF, SD, h0, hkid, Int.toNat_natCast, hm]
          rw [if_neg (by omega), if_pos hmk]
        rw [e]
        exact ⟨n, h0, by omega, .inl ⟨b, m, hkid, hb0, hm, hmk⟩⟩
      · have e : GF (n :: r) key = SD (n :: r) key 31 b := by
          show SD (n :: r) key 32 0 = _
          rw [SD]
          simp only [h0, hkid, Int.toNat_natCast, hm]
          rw [if_neg (by omega), if_neg hmk]
        rw [e]
        obtain ⟨q1, n', q2, q3, q4⟩ := kP (by simp) t (f := 31) (key := key) hb0 (by omega) (by omega) (fun n' hn' => by rw [hm] at hn'; cases hn'; exact hmk) (by omega)
        refine ⟨n', q2, q3, ?_⟩
        rcases q4 with q4 | ⟨q4, q5⟩
        · exact .inl q4
        · refine .inr ⟨q4, fun v v' hv el => ?_⟩
          rw [el]
          simp only [q2, Option.getD_some]
          obtain ⟨xs', h', t'⟩ := q5 v'
          have hq0 := (t.in_list _ q1).2
          refine sL (jI hnb q2 hlen (fun e => absurd e hq0) hk hv) (xs := xs') (hh := h') ?_
          have : UD (JD (n :: r) (SD (n :: r) key 31 b) n' (cB key n'.k) key v') = b := by
            obtain ⟨j, hj⟩ : ∃ j, SD (n :: r) key 31 b = j + 1 := ⟨SD (n :: r) key 31 b - 1, by omega⟩
            rw [hj, ← hrr]
            rfl
          rw [this]
          exact t'
theorem AM {l : List ND} {key v : Int} (ht : WC l = true) (hlen : l.length ≤ 29) (hk : 0 ≤ key ∧ key ≤ 99) (hv : 0 ≤ v ∧ v ≤ 999) : WC (uG l key v) = true ∧ (uG l key v).length ≤ l.length + 1 := by
  obtain ⟨n, hn, -, h⟩ := GL ht hlen hk
  have e : uG l key v = if RA (cB key n.k) n.l n.r = 0 then JD l (GF l key) n (cB key n.k) key v else l := by
    unfold uG
    rw [hn]
  rw [e]
  clear e
  split
  · rename_i hkid
    rcases h with ⟨r, m, h1, h2, -⟩ | ⟨-, h2⟩
    · rw [hkid] at h1
      omega
    · refine ⟨h2 v v hv ?_, by simp [JD]⟩
      rw [hn]
      rfl
  · exact ⟨ht, Nat.le_succ _⟩
theorem RK {l : List ND} {p : Nat} {n : ND} (h : l[p]? = some n) : nd l (p : Int) = n := by simp [nd, h]
theorem eO {l : List ND} {key : Int} {p : Nat} {lo hi : Int} {xs : List Nat} {h : Nat} (t : IsT l p lo hi xs h) {H : HD} (hkid : RA H.side (nd l H.prev).l (nd l H.prev).r = (p : Int)) (hkey : H.k = key) :
    DC l H = { H with at_ := 3, cur := ((lC l key xs : Nat) : Int) } ∨ ∃ (p' : Nat) (lo' hi' : Int) (xs' : List Nat) (h' : Nat) (s : Int), h' < h ∧ IsT l p' lo' hi' xs' h' ∧ lC l key xs = lC l key xs' ∧ (p ≠ 0 ∧ p < l.length) ∧ (s = 0 ∨ s = 1) ∧ DC l H = { H with prev := (p : Int), cur := (p : Int), side := s } ∧ RA s (nd l p).l (nd l p).r = (p' : Int) := by
  by_cases h0 : p = 0
  · left
    subst h0
    have : xs = [] := by
      cases t with
      | nil => rfl
      | node _ _ _ _ _ _ _ _ _ _ hp => exact absurd rfl hp
    subst this
    unfold DC
    rw [hkid]
    rfl
  · obtain ⟨n, a, b, hn, ha, hb, f1, f2, f3⟩ := t.find_step (key := key) h0
    have hpl := (List.getElem?_eq_some_iff.1 hn).1
    have hp0 : ((p : Int) == 0) = false := by simp; omega
    have hnd := RK hn
    by_cases hk : n.k = key
    · left
      rw [f1 hk]
      unfold DC
      simp only [hkid, hnd, hkey, hk, hp0, beq_self_eq_true, Bool.or_true, if_true]
    · right
      have hk' : (n.k == key) = false := by simpa using hk
      by_cases hlt : key < n.k
      · obtain ⟨lo', hi', ys, h', e1, e2, e3⟩ := f2 hlt
        refine ⟨a, lo', hi', ys, h', 0, e1, e2, e3, ⟨h0, hpl⟩, .inl rfl, ?_, by rw [hnd, ← ha]; rfl⟩
        unfold DC
        simp only [hkid, hnd, hkey, hp0, hk', Bool.or_self, Bool.false_eq_true, if_false, cB, hlt, if_true]
      · obtain ⟨lo', hi', ys, h', e1, e2, e3⟩ := f3 (by omega)
        refine ⟨b, lo', hi', ys, h', 1, e1, e2, e3, ⟨h0, hpl⟩, .inr rfl, ?_, by rw [hnd, ← hb]; rfl⟩
        unfold DC
        simp only [hkid, hnd, hkey, hp0, hk', Bool.or_self, Bool.false_eq_true, if_false, cB, hlt]
def cM (m : Nat) (k : Int) : List Int := (List.replicate m 0).set 0 k
theorem MM (m : Nat) (k : Int) : (cM m k).length = m := by simp [cM]
theorem AI {m : Nat} {k : Int} (h1 : 1 ≤ m) (h2 : m ≤ 4) (hk : k = 0 ∨ k = 1 ∨ k = 2) : MB (cM m k) = true := by
  have hm : m = 1 ∨ m = 2 ∨ m = 3 ∨ m = 4 := by omega
  rcases hm with rfl | rfl | rfl | rfl <;> rcases hk with rfl | rfl | rfl <;> rfl
theorem RO {m : Nat} (k : Int) (h1 : 1 ≤ m) : YD (cM m k) 0 = cM m (k + 1) := by
  obtain ⟨j, rfl⟩ : ∃ j, m = j + 1 := ⟨m - 1, by omega⟩
  rfl
def dC (key at_ prev cur side tag : Int) : HD := ⟨at_, 1, key, 0, prev, cur, side, tag, 0, 0, 0, 0, -1, false, 0, 0, 0⟩
theorem nG {key a prev cur side tag : Int} (hk : 0 ≤ key ∧ key ≤ 99) (ha : 1 ≤ a ∧ a ≤ 4) (hp : 0 ≤ prev ∧ prev ≤ 29) (hc : 0 ≤ cur ∧ cur ≤ 29) (hs : side = 0 ∨ side = 1) (ht : 0 ≤ tag ∧ tag ≤ 10000) : TA (dC key a prev cur side tag) = true := by
  have hs' : 0 ≤ side ∧ side ≤ 1 := by omega
  have e1 : IB 1 key 0 = true := by simp [IB, aB]; omega
  have e2 : ∀ x lo hi : Int, lo ≤ x ∧ x ≤ hi → aB x lo hi = true := fun x lo hi h => by simp [aB]; exact h
  simp only [TA, gE, BD, TF, dC, e1, List.all_cons, List.all_nil, e2 a 0 26 (by omega), e2 prev 0 29 hp, e2 cur 0 29 hc, e2 side 0 1 hs', e2 tag 0 10000 ht]
  rfl
def LookS (l : List ND) (key : Int) (tgt D m : Nat) (n : Int) (c : List Int) (H : HD) : Prop :=
  0 ≤ n ∧ ((n = 0 ∧ c = cM m 0 ∧ H = dC key 1 0 0 0 0) ∨
  (∃ (prev cur side : Int) (p : Nat) (lo hi : Int) (xs : List Nat) (h : Nat), c = cM m 1 ∧ H = dC key 2 prev cur side 0 ∧ TB l prev = true ∧ TB l cur = true ∧ (side = 0 ∨ side = 1) ∧ RA side (nd l prev).l (nd l prev).r = (p : Int) ∧ IsT l p lo hi xs h ∧ lC l key xs = tgt ∧ n + h ≤ D + 1) ∨
  (∃ (prev side : Int), c = cM m 1 ∧ H = dC key 3 prev tgt side 0 ∧ TB l prev = true ∧ (side = 0 ∨ side = 1) ∧ n ≤ D + 2) ∨
  (∃ (prev side tag : Int), c = cM m 1 ∧ H = dC key 4 prev tgt side tag ∧ TB l prev = true ∧ (side = 0 ∨ side = 1) ∧ (0 ≤ tag ∧ tag ≤ 10000) ∧ n ≤ D + 3) ∨
  (c = cM m 2 ∧ H = (if tgt = 0 then FA 2 0 else FA 1 (nd l tgt).v) ∧ n ≤ D + 4))
theorem LookS.bound {l : List ND} {key : Int} {tgt D m : Nat} {n : Int} {c : List Int} {H : HD} (h : LookS l key tgt D m n c H) : n ≤ D + 4 := by
  obtain ⟨-, h | ⟨_, _, _, _, _, _, _, _, -, -, -, -, -, -, -, -, h⟩ | ⟨_, _, -, -, -, -, h⟩ | ⟨_, _, _, -, -, -, -, -, h⟩ | ⟨-, -, h⟩⟩ := h <;> omega
theorem LookS.rest {l : List ND} {key : Int} {tgt D m : Nat} {n : Int} {c : List Int} {H : HD} (h : LookS l key tgt D m n c H) (h0 : H.at_ = 0) : c = cM m 2 ∧ H = (if tgt = 0 then FA 2 0 else FA 1 (nd l tgt).v) := by
  obtain ⟨-, ⟨-, -, rfl⟩ | ⟨_, _, _, _, _, _, _, _, -, rfl, -⟩ | ⟨_, _, -, rfl, -⟩ | ⟨_, _, _, -, rfl, -⟩ | ⟨h1, h2, -⟩⟩ := h
  · simp [dC] at h0
  · simp [dC] at h0
  · simp [dC] at h0
  · simp [dC] at h0
  · exact ⟨h1, h2⟩
theorem wG {l : List ND} (hl : YA l = true) {i : Int} (h : TB l i = true) : 0 ≤ i ∧ i ≤ 29 := by
  have := (uB hl).2
  have := NC h
  omega
theorem BH {l : List ND} {p : Nat} (h : p < l.length) : TB l (p : Int) = true := by simp [TB, aB]; omega
theorem yH {l : List ND} (hl : YA l = true) {c : List Int} (hc : MB c = true) {key a prev cur side tag : Int} (hk : 0 ≤ key ∧ key ≤ 99) (ha : 1 ≤ a ∧ a ≤ 4) (hp : TB l prev = true) (hcu : TB l cur = true) (hs : side = 0 ∨ side = 1) (ht : 0 ≤ tag ∧ tag ≤ 10000) : QB l c 0 (dC key a prev cur side tag) 1 4 = true := by
  have h1 := nG hk ha (wG hl hp) (wG hl hcu) hs ht
  have h2 := (uB hl).1
  have h3 := (mC hc).1
  have h0 : TB l 0 = true := by simp [TB, aB]; omega
  have hin : aB (0 : Int) 0 ((c.length : Int) - 1) = true := by simp [aB]; omega
  have hat : aB a 1 4 = true := by simp [aB]; omega
  simp [QB, PA, hl, hc, h1, hin, TF, dC, hp, hcu, h0] at *
  exact hat
theorem YE {l : List ND} (hl : YA l = true) {c : List Int} (hc : MB c = true) {H : HD} (hh : TA H = true) : UA l c H = (l, c, H, true) := by
  simp [UA, PA, hl, hc, hh]
theorem WP {l : List ND} (hl : YA l = true) {i : Int} (hi : TB l i = true) (s : Int) (hs : s = 0 ∨ s = 1) : 0 ≤ RA s (nd l i).lt (nd l i).rt ∧ RA s (nd l i).lt (nd l i).rt ≤ 10000 := by
  obtain ⟨k, n, rfl, e, hk, hg⟩ := pD hi
  rw [e]
  have hlk : AB n l.length = true := by
    match l, hl, hg with
    | m :: r, hl, hg =>
      simp only [YA, Bool.and_eq_true, List.all_eq_true] at hl
      cases k with
      | zero =>
        simp at hg
        subst hg
        exact hl.2.1.2
      | succ k => exact (hl.2.2 n (List.mem_of_getElem? (by simpa using hg))).2
  simp only [AB, Bool.and_eq_true] at hlk
  have a1 := NC hlk.1.2
  have a2 := NC hlk.2
  rcases hs with rfl | rfl
  · exact a1
  · exact a2
theorem mP {l : List ND} (hl : YA l = true) {p : Nat} (hp : p < l.length) (h0 : p ≠ 0) : TA (FA 1 (nd l p).v) = true := by
  have hv : 0 ≤ (nd l p).v ∧ (nd l p).v ≤ 999 := by
    obtain ⟨n, hn⟩ : ∃ n, l[p]? = some n := ⟨_, List.getElem?_eq_getElem hp⟩
    rw [RK hn]
    match l, hl, hn with
    | m :: r, hl, hn =>
      cases p with
      | zero => exact absurd rfl h0
      | succ p =>
        simp only [YA, Bool.and_eq_true, List.all_eq_true] at hl
        have := (hl.2.2 n (List.mem_of_getElem? (by simpa using hn))).1
        simp only [nE, Bool.and_eq_true] at this
        exact NC this.2
  have e1 : aB (nd l p).v 0 999 = true := by simp [aB]; exact hv
  simp only [TA, gE, BD, TF, FA, e1, List.all_cons, List.all_nil]
  rfl
theorem lJ {l : List ND} {key : Int} : ∀ {xs : List Nat}, (∀ x ∈ xs, x < l.length ∧ x ≠ 0) → lC l key xs = 0 ∨ (lC l key xs < l.length ∧ lC l key xs ≠ 0)
  | [], _ => .inl rfl
  | x :: r, h => by
    have ih := lJ (l := l) (key := key) (xs := r) (fun y hy => h y (by simp [hy]))
    rw [lC]
    split
    · exact ih
    · split
      · exact .inr (h x (by simp))
      · exact ih
theorem PN {l : List ND} {key : Int} {tgt D m : Nat} {n : Int} {c : List Int} {H : HD} (ht : WC l = true) (hk : 0 ≤ key ∧ key ≤ 99) (hm : 1 ≤ m ∧ m ≤ 4) (hD : CF l = (D : Int)) (htg : BF l key = (tgt : Int)) (h : LookS l key tgt D m n c H) (h0 : H.at_ ≠ 0) :
    ∃ c' H', XB l c 0 H = (l, c', H', true) ∧ LookS l key tgt D m (n + 1) c' H' := by
  have hl : YA l = true := by simp only [WC, Bool.and_eq_true] at ht; exact ht.1
  have hlen := (uB hl).1
  obtain ⟨xs0, hh0, t0, e0, hx30, hh30⟩ := eH ht
  have hD' : D = hh0 := by
    have : CF l = ((hF l 31 (UD l) : Nat) : Int) := by simp [CF, ht]
    rw [this, t0.hF (by omega)] at hD
    omega
  have htg' : lC l key xs0 = tgt := by
    have : BF l key = ((lC l key (fH l).1 : Nat) : Int) := by simp [BF, ht]
    rw [this, e0] at htg
    exact Int.ofNat.inj htg
  have htn : tgt = 0 ∨ (tgt < l.length ∧ tgt ≠ 0) := by
    rw [← htg']
    exact lJ t0.in_list
  have htl : tgt < l.length := by omega
  have hz : TB l 0 = true := by simp [TB, aB]; omega
  obtain ⟨hn0, h⟩ := h
  rcases h with ⟨rfl, rfl, rfl⟩ | ⟨prev, cur, side, p, lo, hi, xs, hh, rfl, rfl, hp, hc, hs, hkid, t, htx, hb⟩ | ⟨prev, side, rfl, rfl, hp, hs, hb⟩ | ⟨prev, side, tag, rfl, rfl, hp, hs, hta, hb⟩ | ⟨rfl, rfl, hb⟩
  · refine ⟨cM m 1, dC key 2 0 0 1 0, ?_, by omega, .inr (.inl ⟨0, 0, 1, UD l, -1, 100, xs0, hh0, rfl, rfl, hz, hz, .inr rfl, ?_, t0, htg', by omega⟩)⟩
    · unfold XB
      rw [yH hl (AI hm.1 hm.2 (.inl rfl)) hk (by omega) hz hz (.inl rfl) (by omega)]
      have e : YD (cM m 0) 0 = cM m 1 := RO 0 hm.1
      simp only [Bool.not_true, Bool.false_eq_true, if_false]
      rw [e]
      have hh : TA (dC key 2 0 0 1 0) = true := nG hk (by omega) (by omega) (by omega) (.inr rfl) (by omega)
      exact YE hl (AI hm.1 hm.2 (.inr (.inl rfl))) hh
    · match l, hl with
      | r :: s, hl =>
        obtain ⟨-, h2, -⟩ := UM hl
        show r.r = _
        exact h2
  · have hcan := yH hl (AI hm.1 hm.2 (.inr (.inl rfl))) hk (a := 2) (by omega) hp hc hs (tag := 0) (by omega)
    have hok := AI (k := 1) hm.1 hm.2 (.inr (.inl rfl))
    have hf : XB l (cM m 1) 0 (dC key 2 prev cur side 0) = UA l (cM m 1) (DC l (dC key 2 prev cur side 0)) := by
      unfold XB
      rw [hcan]
      rfl
    rw [hf]
    rcases eO (key := key) t (H := dC key 2 prev cur side 0) hkid rfl with e | ⟨p', lo', hi', xs', h', s', e1, e2, e3, ⟨e4, e4'⟩, e5, e6, e7⟩
    · have e' : DC l (dC key 2 prev cur side 0) = dC key 3 prev tgt side 0 := by rw [e, htx]; rfl
      have hh : TA (dC key 3 prev tgt side 0) = true := nG hk (by omega) (wG hl hp) (wG hl (BH htl)) hs (by omega)
      rw [e']
      refine ⟨cM m 1, dC key 3 prev tgt side 0, YE hl hok hh, by omega, .inr (.inr (.inl ⟨prev, side, rfl, rfl, hp, hs, by omega⟩))⟩
    · have e6' : DC l (dC key 2 prev cur side 0) = dC key 2 p p s' 0 := e6
      have hpb := BH (l := l) e4'
      have hh : TA (dC key 2 p p s' 0) = true := nG hk (by omega) (wG hl hpb) (wG hl hpb) e5 (by omega)
      rw [e6']
      refine ⟨cM m 1, dC key 2 p p s' 0, YE hl hok hh, by omega, .inr (.inl ⟨p, p, s', p', lo', hi', xs', h', rfl, rfl, hpb, hpb, e5, e7, e2, by rw [← e3]; exact htx, by omega⟩)⟩
  · have hcan := yH hl (AI hm.1 hm.2 (.inr (.inl rfl))) hk (a := 3) (by omega) hp (BH htl) hs (tag := 0) (by omega)
    have hok := AI (k := 1) hm.1 hm.2 (.inr (.inl rfl))
    have htag := WP hl hp side hs
    refine ⟨cM m 1, dC key 4 prev tgt side (RA side (nd l prev).lt (nd l prev).rt), ?_, by omega, .inr (.inr (.inr (.inl ⟨prev, side, _, rfl, rfl, hp, hs, htag, by omega⟩)))⟩
    unfold XB
    rw [hcan]
    have hh : TA (dC key 4 prev tgt side (RA side (nd l prev).lt (nd l prev).rt)) = true := nG hk (by omega) (wG hl hp) (wG hl (BH htl)) hs htag
    exact YE hl hok hh
  · have hcan := yH hl (AI hm.1 hm.2 (.inr (.inl rfl))) hk (a := 4) (by omega) hp (BH htl) hs hta
    have hok := AI (k := 2) hm.1 hm.2 (.inr (.inr rfl))
    have e : YD (cM m 1) 0 = cM m 2 := RO 1 hm.1
    refine ⟨cM m 2, if tgt = 0 then FA 2 0 else FA 1 (nd l tgt).v, ?_, by omega, .inr (.inr (.inr (.inr ⟨rfl, rfl, by omega⟩)))⟩
    have hf : XB l (cM m 1) 0 (dC key 4 prev tgt side tag) = UA l (cM m 2) (fC l (dC key 4 prev tgt side tag)) := by
      unfold XB
      rw [hcan, e]
      rfl
    rw [hf]
    rcases htn with h1 | ⟨h1, h2⟩
    · subst h1
      exact YE hl hok rfl
    · have hne : (((tgt : Nat) : Int) != 0) = true := by simp; omega
      have : fC l (dC key 4 prev tgt side tag) = FA 1 (nd l tgt).v := by
        unfold fC dC
        simp only [hne, beq_self_eq_true, Bool.and_true, if_true]
      rw [this, if_neg h2]
      exact YE hl hok (mP hl h1 h2)
  · exfalso
    apply h0
    split <;> rfl
open Go.ChangeShapes Go.WideShapes Go.ChangeAt Go.RowKit
set_option maxRecDepth 100000
set_option maxHeartbeats 16000000
theorem tN {P : Program} {Q : Exit → Act → World → Prop} {c : Code} (I : Nat → Act → World → Prop) (h0 : ∀ a w, ¬ I 0 a w) (h : ∀ n a w, I (n + 1) a w → c.wp P (Exit.then (I n) Q) a w) {n : Nat} {a : Act} {w : World} (hI : I n a w) : (Code.loop c).wp P Q a w := by
  refine wp_loop_rounds n ?_
  revert a w
  induction n with
  | zero => intro a w hI; exact absurd hI (h0 a w)
  | succ n ih =>
    intro a w hI;refine (show c.wp P (Exit.then (Code.rounds P c Q n) Q) a w from wp_mono (h n a w hI) fun e a' w' hh => ?_);cases e with
    | normal => exact ih hh
    | _ => exact hh
theorem DN {l : List ND} {key : Int} {f p : Nat} {n : ND} (hn : l[p]? = some n) (h : RA (cB key n.k) n.l n.r = 0) : SD l key f p = p := by
  cases f with
  | zero => rfl
  | succ f =>
    rw [SD, hn];simp only [h];cases l[(0 : Int).toNat]? <;> simp
theorem rM {l : List ND} {key : Int} {f p r : Nat} {n m : ND} (hn : l[p]? = some n) (h : RA (cB key n.k) n.l n.r = (r : Int)) (hm : l[r]? = some m) (hk : m.k = key) : SD l key f p = p := by
  cases f with
  | zero => rfl
  | succ f =>
    rw [SD, hn];simp only [h, Int.toNat_natCast, hm]
    split <;> first | rfl | rw [if_pos hk]
theorem jP {l : List ND} {key : Int} {f p r : Nat} {n m : ND} (hn : l[p]? = some n) (h : RA (cB key n.k) n.l n.r = (r : Int)) (h0 : r ≠ 0) (hm : l[r]? = some m) (hk : m.k ≠ key) : SD l key (f + 1) p = SD l key f r := by
  rw [SD, hn];simp only [h, Int.toNat_natCast, hm];rw [if_neg (by omega), if_neg hk]
theorem RN (l : List ND) (key v : Int) (g0 k0 : Nat) (p0 : List Value) (L : List Bk) (w00 w0 : World) (hM0 : Mem w00 w0 ((g0, 37, cellsOf l ++ p0) :: L)) (q1 : l.length ≤ k0) (q2 : k0 ≤ maxLen) (q5 : (cellsOf l ++ p0).length = k0 * 8) (ht : WC l = true) (hlen : l.length ≤ 29) (hkey : 0 ≤ key ∧ key ≤ 99) :
    Calls Tryz.prog 27 #[.slice (some ⟨g0, 0, none⟩) l.length k0, iJ key, iJ v] w0 (IH w00 L (fun s => s) (uG l key v)) := by
  have hnb : YA l = true := by simp only [WC, Bool.and_eq_true] at ht; exact ht.1
  have hL := mE hnb;have hl1 := hL.2.1;have hM := hM0
  go_enter Tryz.func27, Tryz.ntmps27
  refine sr fun _ cn1 => ?_;refine np (sZ) ?_;go_frame;refine wz cn1 ?_;clear cn1;refine sr fun _ cn2 => ?_;refine np (iJ 0) ?_;go_frame;refine wz cn2 ?_;clear cn2;refine wp_block ?_;refine tN (fun f act w => ∃ (f' : Nat) (p : Nat) (U1 : Nat → Value), f = f' + 1 ∧ act = ⟨#[sa g0 l.length k0, iJ key, iJ v, uD, uD, uD, (U1 0), (iJ (p : Int)), (U1 1), (U1 2), (U1 3), (U1 4), (U1 5), (U1 6), (U1 7), (U1 8), (U1 9), (U1 10), (U1 11), (U1 12), (U1 13), (U1 14), (U1 15), (U1 16), (U1 17), (U1 18), (U1 19), (U1 20), (U1 21), (U1 22), (U1 23), (U1 24), (U1 25), (U1 26), (U1 27), (U1 28), (U1 29), (U1 30), (U1 31), (U1 32), (U1 33), (U1 34), (U1 35), (U1 36), (U1 37), (U1 38), (U1 39), (U1 40), (U1 41), (U1 42)], []⟩ ∧ Mem w00 w ((g0, 37, (cellsOf l ++ p0)) :: L) ∧ SD l key f' p = GF l key ∧ p < l.length) (fun a w h => by obtain ⟨f', p, U1, h, -⟩ := h; omega) ?_ (n := 33) ⟨32, 0, (fun i => [sZ, uD, uD, uD, uD, uD, uD, uD, uD, uD, uD, uD, uD, uD, uD, uD, uD, uD, uD, uD, uD, uD, uD, uD, uD, uD, uD, uD, uD, uD, uD, uD, uD, uD, uD, uD, uD, uD, uD, uD, uD, uD, uD].getD i undef), rfl, rfl, hM, rfl, by omega⟩;clear hM;rintro f act w ⟨f', p, U1, hf', rfl, hM, hseek, hpl⟩;obtain rfl : f = f' := by omega
  clear hf';obtain ⟨⟨npk, npv, npl, npr, npo, npg, nplt, nprt⟩, hnp⟩ : ∃ n, l[p]? = some n := ⟨_, List.getElem?_eq_getElem hpl⟩;obtain ⟨kc, hkc, hlc⟩ : ∃ r : Nat, (RA (cB key npk) npl npr) = (r : Int) ∧ r < l.length := by
    obtain ⟨a, b, h1, h2, h3, h4⟩ := hL.2.2.1 p _ hnp
    by_cases hlt : key < npk
    · rw [show cB key npk = 0 from if_pos hlt]; exact ⟨a, h1, h3⟩
    · rw [show cB key npk = 1 from if_neg hlt]; exact ⟨b, h2, h4⟩
  obtain ⟨⟨nck, ncv, ncl, ncr, nco, ncg, nclt, ncrt⟩, hnc⟩ : ∃ n, l[kc]? = some n := ⟨_, List.getElem?_eq_getElem hlc⟩;refine wp_block ?_;refine sr fun _ cn3 => ?_;refine np (sa g0 l.length k0) <| np (iJ (p : Int)) ?_;go_frame;refine VA (by kernel_rfl) 24 37 _ _ rfl g0 0 l.length k0 8 p rfl rfl rfl (by omega) fA lA ?_;go_frame;refine uC (by kernel_rfl) hM 0 rfl 37 _ rfl (0 + p * 8) rfl IA (ND.cells ⟨npk, npv, npl, npr, npo, npg, nplt, nprt⟩) lA (VB hnp) ?_;go_frame;refine np (iJ key) ?_;refine nc (iG npk npv npl npr npo npg nplt nprt key _) ?_;rintro e W1 ⟨rfl, hb⟩;refine ⟨_, rfl, ?_⟩;replace hM := hM.call hb;go_frame;refine np (iJ (cB key npk)) ?_;go_frame;refine wz cn3 ?_;clear cn3;refine sr fun _ cn4 => ?_;refine np (sa g0 l.length k0) <| np (iJ (p : Int)) ?_;go_frame;refine VA (by kernel_rfl) 24 37 _ _ rfl g0 0 l.length k0 8 p rfl rfl rfl (by omega) fA lA ?_;go_frame;refine uC (by kernel_rfl) hM 0 rfl 37 _ rfl (0 + p * 8) rfl IA (ND.cells ⟨npk, npv, npl, npr, npo, npg, nplt, nprt⟩) lA (VB hnp) ?_;go_frame;refine np (iJ (cB key npk)) ?_;refine nc (fD npk npv npl npr npo npg nplt nprt (cB key npk) _) ?_;rintro e W2 ⟨rfl, hb⟩;refine ⟨_, rfl, ?_⟩;replace hM := hM.call hb;go_frame;refine np (iJ (RA (cB key npk) npl npr)) ?_;go_frame;refine wz cn4 ?_;clear cn4;refine wp_seq_k fun Kn5 cn5 => ?_;refine sr fun _ cn6 => ?_;refine np (iJ (RA (cB key npk) npl npr)) <| np (.bool ((RA (cB key npk) npl npr) == 0)) ?_;go_frame;refine wz cn6 ?_;clear cn6;rcases tf (((RA (cB key npk) npl npr) == 0)) with hx1 | hx1;rw [hx1];refine wp_cond_true rfl ?_;refine sr fun _ cn7 => ?_;refine np (sa g0 l.length k0) <| np (iJ (p : Int)) <| np (sa g0 l.length k0) <| np (iJ (p : Int)) ?_;go_frame;refine VA (by kernel_rfl) 24 37 _ _ rfl g0 0 l.length k0 8 p rfl rfl rfl (by omega) fA lA ?_;go_frame;refine uC (by kernel_rfl) hM 0 rfl 37 _ rfl (0 + p * 8) rfl IA (ND.cells ⟨npk, npv, npl, npr, npo, npg, nplt, nprt⟩) lA (VB hnp) ?_;go_frame;refine np (iJ (cB key npk)) <| np (sa g0 l.length k0) <| np (iJ (l.length : Int)) ?_;refine nc (PE npk npv npl npr npo npg nplt nprt (cB key npk) (l.length : Int) _) ?_;rintro e W3 ⟨rfl, hb⟩;refine ⟨_, rfl, ?_⟩;replace hM := hM.call hb;go_frame;refine VA (by kernel_rfl) 24 37 _ _ rfl g0 0 l.length k0 8 p rfl rfl rfl (by omega) fA lA ?_;go_frame;refine WE (by kernel_rfl) hM 0 rfl 37 _ _ rfl rfl (0 + p * 8) rfl (ND.cells ⟨npk, npv, (KB (cB key npk) (l.length : Int) npl), (pB (cB key npk) (l.length : Int) npr), npo, npg, nplt, nprt⟩) rfl lA (rE hpl) (ID _) ?_;clear hM;intro W4 hM; rw [MD hpl] at hM;refine wz cn7 ?_;clear cn7;refine sr fun _ cn8 => ?_;refine np (sa g0 l.length k0) <| np (iJ key) <| np (iJ v) <| np (.agg (ND.cells ⟨key, v, 0, 0, 0, false, 0, 0⟩).toArray) ?_;go_frame;refine vC (by kernel_rfl) hM 37 1 (ND.cells ⟨key, v, 0, 0, 0, false, 0, 0⟩) (fun w => by kernel_rfl) ?_;clear hM;intro g1 W5 hM;go_frame;refine XE (by kernel_rfl) hM 1 rfl 0 rfl _ _ 24 rfl fA lF rfl (by decide) l.length k0 1 1 rfl q1 q2 (by simp [jA]) (by rw [UC]; exact q5) rfl rfl (ID _) (by decide) (by (try unfold maxLen); omega) (by (try unfold maxLen); omega) ?_;clear hM;intro ga'1 ka'2 pa'3 W6 qa'4 qb'5 qe'6 hM;rw [IF _ (⟨key, v, 0, 0, 0, false, 0, 0⟩) _] at hM qe'6;go_frame;refine np (sa ga'1 (l.length + 1) ka'2) ?_;go_frame;refine wz cn8 ?_;clear cn8;refine wp_ret ?_;simp only [Exit.then, Exit.inBlock];have hk0 : (RA (cB key npk) npl npr) = 0 := by simpa using hx1
  have hR : uG l key v = ((l.set p ⟨npk, npv, (KB (cB key npk) (l.length : Int) npl), (pB (cB key npk) (l.length : Int) npr), npo, npg, nplt, nprt⟩) ++ [⟨key, v, 0, 0, 0, false, 0, 0⟩]) := by
    unfold uG;rw [← hseek, DN hnp hk0, hnp];exact if_pos hk0
  rw [hR];have hN : (((l.set p ⟨npk, npv, (KB (cB key npk) (l.length : Int) npl), (pB (cB key npk) (l.length : Int) npr), npo, npg, nplt, nprt⟩) ++ [⟨key, v, 0, 0, 0, false, 0, 0⟩]) : List ND).length = (l.length + 1) := by simp
  exact bodyPost_ret (v := sa ga'1 (l.length + 1) ka'2) (FB 6 rfl rfl) rfl ⟨ga'1, ka'2, pa'3, congrArg (fun q : Nat => Ending.returned (Value.slice (some ⟨ga'1, 0, none⟩) q ka'2)) hN.symm, ⟨by rw [hN]; exact qa'4, qb'5, qe'6⟩, (hM.pull 1 rfl).sub (fun i => if i = 0 then 0 else i + 1) (fun i x hx => by cases i with | zero => exact hx | succ i => rw [if_neg (by omega)]; exact hx) (fun i j _ _ e => by (try simp only at e); split at e <;> split at e <;> omega)⟩;rw [hx1];refine wp_cond_false rfl ?_;refine wp_skip ?_;refine cn5 _ _ ?_;clear cn5;refine wp_seq_k fun Kn7 cn7 => ?_;refine sr fun _ cn8 => ?_;refine np (sa g0 l.length k0) <| np (iJ (RA (cB key npk) npl npr)) ?_;go_frame;refine VA (by kernel_rfl) 24 37 _ _ rfl g0 0 l.length k0 8 kc rfl rfl hkc (by omega) fA lA ?_;go_frame;refine np (pt g0 (0 + kc * 8)) <| ng hM 0 rfl (0 + kc * 8) bA (FC (j := 0) hnc rfl) <| np (iJ key) <| np (.bool (nck == key)) ?_;go_frame;refine wz cn8 ?_;clear cn8;rcases tf ((nck == key)) with hx2 | hx2;rw [hx2];refine wp_cond_true rfl ?_;refine sr fun _ cn9 => ?_;refine np (sa g0 l.length k0) <| np (sa g0 l.length k0) ?_;go_frame;refine wz cn9 ?_;clear cn9;refine wp_ret ?_;simp only [Exit.then, Exit.inBlock];have hck : nck = key := by simpa using hx2
  have hk0 : (RA (cB key npk) npl npr) ≠ 0 := by simpa using hx1
  have hR : uG l key v = l := by
    unfold uG;rw [← hseek, rM hnp hkc hnc hck, hnp];exact if_neg hk0
  rw [hR];exact bodyPost_ret (v := sa g0 l.length k0) (FB 6 rfl rfl) rfl ⟨g0, k0, p0, rfl, ⟨q1, q2, q5⟩, hM⟩;rw [hx2];refine wp_cond_false rfl ?_;refine wp_skip ?_;refine cn7 _ _ ?_;clear cn7;refine uA ?_;refine np (iJ (RA (cB key npk) npl npr)) <| np (iJ (RA (cB key npk) npl npr)) ?_;go_frame;refine mB ?_;have hk0 : kc ≠ 0 := by intro e; rw [hkc, e] at hx1; simp at hx1
  have hck : nck ≠ key := by simpa using hx2
  cases f with
  | zero =>
    exfalso
    obtain ⟨n', q1, q2, q3⟩ := GL ht hlen hkey;rw [← hseek] at q1;have q1' : l[p]? = some n' := q1;rw [hnp] at q1';cases q1';rcases q3 with ⟨r, m, r1, r2, r3, r4⟩ | ⟨r1, -⟩
    · have : kc = r := by have r1' := r1; simp only at r1'; omega
      subst this;rw [hnc] at r3;cases r3;exact hck r4
    · have r1' := r1; simp only at r1'; omega
  | succ f =>
    rw [hkc];exact ⟨f, kc, (fun i => [(U1 0), iJ (cB key npk), iJ (kc : Int), sa g0 l.length k0, iJ (p : Int), pt g0 (0 + p * 8), .agg (ND.cells ⟨npk, npv, npl, npr, npo, npg, nplt, nprt⟩).toArray, iJ key, iJ (cB key npk), sa g0 l.length k0, iJ (p : Int), pt g0 (0 + p * 8), .agg (ND.cells ⟨npk, npv, npl, npr, npo, npg, nplt, nprt⟩).toArray, iJ (cB key npk), iJ (kc : Int), iJ (kc : Int), .bool false, (U1 17), (U1 18), (U1 19), (U1 20), (U1 21), (U1 22), (U1 23), (U1 24), (U1 25), (U1 26), (U1 27), (U1 28), (U1 29), (U1 30), (U1 31), (U1 32), (U1 33), sa g0 l.length k0, iJ (kc : Int), pt g0 (0 + kc * 8), pt g0 (0 + kc * 8), iJ nck, iJ key, .bool false, (U1 41), iJ (kc : Int)].getD i undef), rfl, rfl, hM, (jP hnp hkc hk0 hnc hck).symm.trans hseek, hlc⟩
end Go.Proofs.YtfjafncipjdnfaaGreat
