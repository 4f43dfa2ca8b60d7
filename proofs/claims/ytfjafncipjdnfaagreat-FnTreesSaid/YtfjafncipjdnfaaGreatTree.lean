import Derived.Test.YtfjafncipjdnfaaGreatNodesSpec
namespace Go.Proofs.YtfjafncipjdnfaaGreat
set_option linter.unusedVariables false
set_option linter.unusedSimpArgs false
def KE (l : List ND) : Prop := l.length ≤ 30 ∧ 1 ≤ l.length ∧ (∀ (i : Nat) (n : ND), l[i]? = some n → ∃ a b : Nat, n.l = (a : Int) ∧ n.r = (b : Int) ∧ a < l.length ∧ b < l.length) ∧ (∀ (i : Nat) (n : ND), 1 ≤ i → l[i]? = some n → 0 ≤ n.k ∧ n.k ≤ 99)
theorem MJ {n : ND} {m : Nat} (h : rB n m = true) : ∃ a b : Nat, n.l = (a : Int) ∧ n.r = (b : Int) ∧ a < m ∧ b < m := by
  simp only [rB, Bool.and_eq_true] at h
  obtain ⟨⟨⟨⟨h1, h2⟩, _⟩, _⟩, _⟩ := h
  have h1 := QC h1
  have h2 := QC h2
  exact ⟨n.l.toNat, n.r.toNat, by omega, by omega, by omega, by omega⟩
theorem nD {l : List ND} (h : PA l = true) : KE l := by
  cases l with
  | nil => simp [PA] at h
  | cons n r =>
    simp only [PA, Bool.and_eq_true, decide_eq_true_eq, List.all_eq_true] at h
    obtain ⟨⟨h1, h2⟩, ⟨h3, h4⟩, h5⟩ := h
    refine ⟨h2, h1, fun i m hm => ?_, fun i m hi hm => ?_⟩
    · cases i with
      | zero => simp at hm; subst hm; exact MJ h4
      | succ j => exact MJ (h5 m (List.mem_of_getElem? (by simpa using hm))).2
    · obtain ⟨j, rfl⟩ : ∃ j, i = j + 1 := ⟨i - 1, by omega⟩
      have h6 := (h5 m (List.mem_of_getElem? (by simpa using hm))).1
      simp only [SD, Bool.and_eq_true] at h6
      exact QC h6.1
inductive Wk (l : List ND) : List Nat → Nat → Nat → List Nat → List (Nat × Nat) → Prop
  | zero (c : List Nat) (d : Nat) : Wk l c 0 d c []
  | seen (c : List Nat) (p d : Nat) : p ≠ 0 → p ∈ c → Wk l c p d c [(p, d)]
  | node (c : List Nat) (p d : Nat) (n : ND) (a b : Nat) (c1 c2 : List Nat) (g1 g2 : List (Nat × Nat)) : p ≠ 0 → p ∉ c → l[p]? = some n → n.l = (a : Int) → n.r = (b : Int) →
      Wk l (p :: c) a (d + 1) c1 g1 → Wk l c1 b (d + 1) c2 g2 → Wk l c p d c2 (g1 ++ (p, d) :: g2)
def left (l : List ND) (c : List Nat) : Nat := ((List.range l.length).filter fun i => decide (i ∉ c)).length
theorem QF {α : Type} {f g : α → Bool} {x : α} : ∀ {l : List α}, (∀ y, g y = true → f y = true) → x ∈ l → f x = true → g x = false → (l.filter g).length < (l.filter f).length
  | [], _, hx, _, _ => by cases hx
  | y :: l, hs, hx, hf, hg => by
    have hle : ∀ m : List α, (m.filter g).length ≤ (m.filter f).length := fun m => by
      induction m with
      | nil => simp
      | cons z m ih =>
        by_cases h1 : g z = true
        · have h2 := hs z h1
          simp [List.filter_cons, h1, h2, ih]
        · by_cases h2 : f z = true
          · simp [List.filter_cons, h1, h2]; omega
          · simp [List.filter_cons, h1, h2, ih]
    rcases List.mem_cons.1 hx with rfl | hx
    · have := hle l
      simp [List.filter_cons, hf, hg]; omega
    · have ih := QF hs hx hf hg
      by_cases h1 : g y = true
      · have h2 := hs y h1
        simp [List.filter_cons, h1, h2, ih]
      · by_cases h2 : f y = true
        · simp [List.filter_cons, h1, h2]; omega
        · simp [List.filter_cons, h1, h2, ih]
theorem PG {l : List ND} {c : List Nat} {p : Nat} (h : p < l.length) (hc : p ∉ c) : left l (p :: c) < left l c := by
  refine QF (x := p) ?_ (by simpa using h) (by simpa using hc) (by simp)
  intro y hy
  simp at hy ⊢
  exact hy.2
theorem PH {l : List ND} {c c' : List Nat} (h : ∀ x ∈ c, x ∈ c') : left l c' ≤ left l c := by
  unfold left
  generalize List.range l.length = r
  induction r with
  | nil => simp
  | cons y r ih =>
    by_cases h1 : y ∈ c'
    · by_cases h2 : y ∈ c
      · simpa [List.filter_cons, h1, h2] using ih
      · simp [List.filter_cons, h1, h2] at ih ⊢; omega
    · have h2 : y ∉ c := fun e => h1 (h y e)
      simpa [List.filter_cons, h1, h2] using ih
theorem Wk.sub {l : List ND} {c : List Nat} {p d : Nat} {c' : List Nat} {g : List (Nat × Nat)} (h : Wk l c p d c' g) : ∀ x ∈ c, x ∈ c' := by
  induction h with
  | zero c d => exact fun x hx => hx
  | seen c p d _ _ => exact fun x hx => hx
  | node c p d n a b c1 c2 g1 g2 h0 hc hn ha hb w1 w2 ih1 ih2 => exact fun x hx => ih2 x (ih1 x (List.mem_cons_of_mem _ hx))
theorem Wk.given {l : List ND} {c : List Nat} {p d : Nat} {c' : List Nat} {g : List (Nat × Nat)} (h : Wk l c p d c' g) : ∀ x ∈ c', x ∈ c ∨ x ∈ g.map Prod.fst := by
  induction h with
  | zero c d => exact fun x hx => .inl hx
  | seen c p d _ _ => exact fun x hx => .inl hx
  | node c p d n a b c1 c2 g1 g2 h0 hc hn ha hb w1 w2 ih1 ih2 =>
    intro x hx
    rcases ih2 x hx with h | h
    · rcases ih1 x h with h | h
      · rcases List.mem_cons.1 h with rfl | h
        · exact .inr (by simp)
        · exact .inl h
      · exact .inr (by simp at h ⊢; exact .inl h)
    · exact .inr (by simp at h ⊢; exact .inr (.inr h))
theorem Wk.exists {l : List ND} (hL : KE l) : ∀ (m : Nat) (c : List Nat) (p d : Nat), left l c ≤ m → p < l.length → ∃ c' g, Wk l c p d c' g
  | m, c, p, d, hm, hp => by
    by_cases h0 : p = 0
    · subst h0; exact ⟨_, _, .zero c d⟩
    by_cases hc : p ∈ c
    · exact ⟨_, _, .seen c p d h0 hc⟩
    have hlt := PG hp hc
    obtain ⟨n, hn⟩ : ∃ n, l[p]? = some n := ⟨_, List.getElem?_eq_getElem hp⟩
    obtain ⟨a, b, ha, hb, la, lb⟩ := hL.2.2.1 p n hn
    match m, hm with
    | 0, hm => omega
    | m + 1, hm =>
      obtain ⟨c1, g1, w1⟩ := Wk.exists hL m (p :: c) a (d + 1) (by omega) la
      obtain ⟨c2, g2, w2⟩ := Wk.exists hL m c1 b (d + 1) (by have := PH (l := l) w1.sub; omega) lb
      exact ⟨_, _, .node c p d n a b c1 c2 g1 g2 h0 hc hn ha hb w1 w2⟩
theorem Wk.there {l : List ND} (hL : KE l) {c : List Nat} {p d : Nat} {c' : List Nat} {g : List (Nat × Nat)} (h : Wk l c p d c' g) : p < l.length → ∀ x ∈ g, x.1 ≠ 0 ∧ x.1 < l.length ∧ x.2 ≤ d + left l c := by
  induction h with
  | zero c d => intro _ x hx; cases hx
  | seen c p d h0 hc =>
    intro hp x hx
    simp at hx
    subst hx
    exact ⟨h0, hp, by simp⟩
  | node c p d n a b c1 c2 g1 g2 h0 hc hn ha hb w1 w2 ih1 ih2 =>
    intro hp x hx
    obtain ⟨a', b', ha', hb', la, lb⟩ := hL.2.2.1 p n hn
    obtain rfl : a = a' := by omega
    obtain rfl : b = b' := by omega
    have hlt := PG hp hc
    have hle := PH (l := l) w1.sub
    rcases List.mem_append.1 hx with hx | hx
    · obtain ⟨h1, h2, h3⟩ := ih1 la x hx
      exact ⟨h1, h2, by omega⟩
    · rcases List.mem_cons.1 hx with rfl | hx
      · exact ⟨h0, hp, by simp⟩
      · obtain ⟨h1, h2, h3⟩ := ih2 lb x hx
        exact ⟨h1, h2, by omega⟩
inductive IsT (l : List ND) : Nat → Int → Int → List Nat → Nat → Prop
  | nil (lo hi : Int) : IsT l 0 lo hi [] 0
  | node (p : Nat) (lo hi : Int) (n : ND) (a b : Nat) (xs ys : List Nat) (h1 h2 : Nat) : p ≠ 0 → l[p]? = some n → n.g = false → lo < n.k → n.k < hi → n.l = (a : Int) → n.r = (b : Int) →
      IsT l a lo n.k xs h1 → IsT l b n.k hi ys h2 → IsT l p lo hi (xs ++ p :: ys) (1 + max h1 h2)
def Rise (l : List ND) : Int → Int → List Nat → Prop
  | lo, hi, [] => True
  | lo, hi, p :: r => ∃ n, l[p]? = some n ∧ n.g = false ∧ lo < n.k ∧ n.k < hi ∧ Rise l n.k hi r
theorem Rise.split {l : List ND} {hi : Int} {p : Nat} {ys : List Nat} : ∀ {xs : List Nat} {lo : Int}, Rise l lo hi (xs ++ p :: ys) ↔ ∃ n, l[p]? = some n ∧ n.g = false ∧ lo < n.k ∧ n.k < hi ∧ Rise l lo n.k xs ∧ Rise l n.k hi ys
  | [], lo => by simp [Rise]
  | x :: xs, lo => by
    simp only [List.cons_append, Rise]
    constructor
    · rintro ⟨m, m1, m2, m3, m4, m5⟩
      obtain ⟨n, n1, n2, n3, n4, n5, n6⟩ := Rise.split.1 m5
      exact ⟨n, n1, n2, by omega, n4, ⟨m, m1, m2, m3, n3, n5⟩, n6⟩
    · rintro ⟨n, n1, n2, n3, n4, ⟨m, m1, m2, m3, m4, m5⟩, n6⟩
      exact ⟨m, m1, m2, m3, by omega, Rise.split.2 ⟨n, n1, n2, m4, n4, m5, n6⟩⟩
theorem Rise.mem {l : List ND} {hi : Int} : ∀ {xs : List Nat} {lo : Int}, Rise l lo hi xs → ∀ x ∈ xs, ∃ n, l[x]? = some n ∧ lo < n.k ∧ n.k < hi
  | [], _, _, x, hx => by cases hx
  | y :: ys, lo, ⟨n, h1, h2, h3, h4, h5⟩, x, hx => by
    rcases List.mem_cons.1 hx with rfl | hx
    · exact ⟨n, h1, h3, h4⟩
    · obtain ⟨m, m1, m2, m3⟩ := h5.mem x hx
      exact ⟨m, m1, by omega, m3⟩
theorem IsT.rise {l : List ND} {p : Nat} {lo hi : Int} {xs : List Nat} {h : Nat} (t : IsT l p lo hi xs h) : Rise l lo hi xs := by
  induction t with
  | nil lo hi => trivial
  | node p lo hi n a b xs ys h1 h2 h0 hn hg hl hh ha hb t1 t2 ih1 ih2 => exact Rise.split.2 ⟨n, hn, hg, hl, hh, ih1, ih2⟩
theorem JK : ∀ (ds : List Nat) (m : Nat), m ≤ ds.foldl max m
  | [], m => by simp
  | d :: ds, m => by have := JK ds (max m d); simp only [List.foldl_cons]; omega
theorem IsT.walk {l : List ND} {p : Nat} {lo hi : Int} {xs : List Nat} {h : Nat} (t : IsT l p lo hi xs h) :
    ∀ {c : List Nat} {d : Nat} {c' : List Nat} {g : List (Nat × Nat)}, Wk l c p d c' g → 1 ≤ d → (∀ x ∈ xs, x ∉ c) → g.map Prod.fst = xs ∧ ∀ m, max (d - 1) ((g.map Prod.snd).foldl max m) = max m (d - 1 + h) := by
  induction t with
  | nil lo hi =>
    intro c d c' g w hd1 _
    cases w with
    | zero c d => exact ⟨rfl, fun m => by simp; omega⟩
    | seen c p d h0 hc => exact absurd rfl h0
    | node c p d n a b c1 c2 g1 g2 h0 hc hn ha hb w1 w2 => exact absurd rfl h0
  | node p lo hi n a b xs ys h1 h2 h0 hn hg hl hh ha hb t1 t2 ih1 ih2 =>
    intro c d c' g w hd1 hd
    cases w with
    | zero c d => exact absurd rfl h0
    | seen c p d h0' hc => exact absurd hc (hd p (by simp))
    | node c p d n' a' b' c1 c2 g1 g2 h0' hc hn' ha' hb' w1 w2 =>
      rw [hn] at hn'
      cases hn'
      obtain rfl : a' = a := by omega
      obtain rfl : b' = b := by omega
      have r1 := t1.rise
      have r2 := t2.rise
      obtain ⟨e1, f1⟩ := ih1 w1 (by omega) (fun x hx hxc => by
        rcases List.mem_cons.1 hxc with rfl | hxc
        · obtain ⟨m, m1, m2, m3⟩ := r1.mem _ hx
          rw [hn] at m1; cases m1; omega
        · exact hd x (by simp [hx]) hxc)
      obtain ⟨e2, f2⟩ := ih2 w2 (by omega) (fun x hx hxc => by
        obtain ⟨m, m1, m2, m3⟩ := r2.mem _ hx
        rcases w1.given x hxc with hq | hq
        · rcases List.mem_cons.1 hq with rfl | hq
          · rw [hn] at m1; cases m1; omega
          · exact hd x (by simp [hx]) hq
        · rw [e1] at hq
          obtain ⟨m', m1', m2', m3'⟩ := r1.mem _ hq
          rw [m1] at m1'; cases m1'; omega)
      refine ⟨by simp [e1, e2], fun m => ?_⟩
      have q1 := f1 m
      simp only [List.map_append, List.map_cons, List.foldl_append, List.foldl_cons]
      generalize (g1.map Prod.snd).foldl max m = F1 at q1 ⊢
      have q2 := f2 (max F1 d)
      have q3 := JK (g2.map Prod.snd) (max F1 d)
      generalize (g2.map Prod.snd).foldl max (max F1 d) = F2 at q2 q3 ⊢
      omega
theorem Wk.tree {l : List ND} {c : List Nat} {p d : Nat} {c' : List Nat} {g : List (Nat × Nat)} (w : Wk l c p d c' g) :
    ∀ {lo hi : Int}, (∀ x ∈ c, ∀ n, l[x]? = some n → n.k ≤ lo ∨ hi ≤ n.k) → Rise l lo hi (g.map Prod.fst) → ∃ h, IsT l p lo hi (g.map Prod.fst) h := by
  induction w with
  | zero c d => intro lo hi _ _; exact ⟨0, .nil lo hi⟩
  | seen c p d h0 hc =>
    intro lo hi hx ⟨n, hn, _, h1, h2, _⟩
    have := hx p hc n hn
    omega
  | node c p d n a b c1 c2 g1 g2 h0 hc hn ha hb w1 w2 ih1 ih2 =>
    intro lo hi hx hr
    simp only [List.map_append, List.map_cons] at hr ⊢
    obtain ⟨n', hn', hg, h1, h2, r1, r2⟩ := Rise.split.1 hr
    rw [hn] at hn'
    cases hn'
    obtain ⟨e1, t1⟩ := ih1 (lo := lo) (hi := n.k) (fun x hxc m hm => by
      rcases List.mem_cons.1 hxc with rfl | hxc
      · rw [hn] at hm; cases hm; omega
      · have := hx x hxc m hm; omega) r1
    obtain ⟨e2, t2⟩ := ih2 (lo := n.k) (hi := hi) (fun x hxc m hm => by
      rcases w1.given x hxc with hq | hq
      · rcases List.mem_cons.1 hq with rfl | hq
        · rw [hn] at hm; cases hm; omega
        · have := hx x hq m hm; omega
      · obtain ⟨m', m1, m2, m3⟩ := r1.mem _ hq
        rw [hm] at m1; cases m1; omega) r2
    exact ⟨_, .node p lo hi n a b _ _ e1 e2 h0 hn hg h1 h2 ha hb t1 t2⟩
def sw (l : List ND) : Nat → Nat → Int → Int → List Nat → List Nat × Bool
  | 0, _, _, _, out => (out, false)
  | f + 1, p, lo, hi, out => if p = 0 then (out, true) else match l[p]? with
    | none => (out, false)
    | some n => if n.g || decide (n.k ≤ lo) || decide (hi ≤ n.k) || decide (30 ≤ out.length) then (out, false) else
      if (sw l f n.l.toNat lo n.k out).2 then sw l f n.r.toNat n.k hi ((sw l f n.l.toNat lo n.k out).1 ++ [p]) else sw l f n.l.toNat lo n.k out
def many (l : List ND) (lo hi : Int) : Nat := (l.filter fun n => decide (lo < n.k) && decide (n.k < hi)).length
theorem TI {l : List ND} {p : Nat} {n : ND} {lo hi : Int} (hn : l[p]? = some n) (h1 : lo < n.k) (h2 : n.k < hi) : many l lo n.k < many l lo hi := by
  refine QF (x := n) ?_ (List.mem_of_getElem? hn) (by simp [h1, h2]) (by simp)
  intro y hy
  simp at hy ⊢
  omega
theorem OH {l : List ND} {p : Nat} {n : ND} {lo hi : Int} (hn : l[p]? = some n) (h1 : lo < n.k) (h2 : n.k < hi) : many l n.k hi < many l lo hi := by
  refine QF (x := n) ?_ (List.mem_of_getElem? hn) (by simp [h1, h2]) (by simp)
  intro y hy
  simp at hy ⊢
  omega
theorem qH {l : List ND} : ∀ {f p : Nat} {lo hi : Int} {out : List Nat}, KE l → (sw l f p lo hi out).2 = true → ∃ xs h, IsT l p lo hi xs h ∧ (sw l f p lo hi out).1 = out ++ xs
  | 0, p, lo, hi, out, _, h => by simp [sw] at h
  | f + 1, p, lo, hi, out, hL, h => by
    rw [sw] at h ⊢
    by_cases h0 : p = 0
    · subst h0
      exact ⟨[], 0, .nil lo hi, by simp⟩
    simp only [h0, if_false] at h ⊢
    cases hn : l[p]? with
    | none => simp [hn] at h
    | some n =>
      simp only [hn] at h ⊢
      by_cases hb : (n.g || decide (n.k ≤ lo) || decide (hi ≤ n.k) || decide (30 ≤ out.length)) = true
      · simp [hb] at h
      have hb' := (Bool.not_eq_true _).mp hb
      simp only [hb', Bool.false_eq_true, if_false] at h ⊢
      by_cases hq : (sw l f n.l.toNat lo n.k out).2 = true
      · simp only [hq, if_true] at h ⊢
        obtain ⟨xs, h1, t1, e1⟩ := qH hL hq
        obtain ⟨ys, h2, t2, e2⟩ := qH hL h
        obtain ⟨a, b, ha, hb2, la, lb⟩ := hL.2.2.1 p n hn
        rw [ha, Int.toNat_natCast] at t1
        rw [hb2, Int.toNat_natCast] at t2
        simp at hb'
        refine ⟨_, _, .node p lo hi n a b xs ys h1 h2 h0 hn (by simpa using hb'.1.1.1) (by omega) (by omega) ha hb2 t1 t2, ?_⟩
        rw [e2, e1]
        simp
      · simp [hq] at h
theorem IsT.sw {l : List ND} {p : Nat} {lo hi : Int} {xs : List Nat} {h : Nat} (t : IsT l p lo hi xs h) :
    ∀ {f : Nat} {out : List Nat}, many l lo hi < f → out.length + xs.length ≤ 30 → sw l f p lo hi out = (out ++ xs, true) := by
  induction t with
  | nil lo hi =>
    intro f out hf _
    obtain ⟨f, rfl⟩ : ∃ e, f = e + 1 := ⟨f - 1, by omega⟩
    simp [Go.Proofs.YtfjafncipjdnfaaGreat.sw]
  | node p lo hi n a b xs ys h1 h2 h0 hn hg hl hh ha hb t1 t2 ih1 ih2 =>
    intro f out hf ho
    obtain ⟨f, rfl⟩ : ∃ e, f = e + 1 := ⟨f - 1, by omega⟩
    have m1 := TI hn hl hh
    have m2 := OH hn hl hh
    simp at ho
    have e1 := ih1 (f := f) (out := out) (by omega) (by omega)
    have e2 := ih2 (f := f) (out := out ++ xs ++ [p]) (by omega) (by simp; omega)
    have g0 : (n.g || decide (n.k ≤ lo) || decide (hi ≤ n.k) || decide (30 ≤ out.length)) = false := by
      simp [hg]; omega
    simp only [Go.Proofs.YtfjafncipjdnfaaGreat.sw, h0, if_false, hn, g0, Bool.false_eq_true, ha, hb, Int.toNat_natCast, e1, if_true, e2]
    simp
theorem QI : ∀ {xs : List Nat} {m : Nat}, xs.Nodup → (∀ x ∈ xs, x < m) → xs.length ≤ m
  | xs, 0, _, h => by
    cases xs with
    | nil => simp
    | cons x r => exact absurd (h x (by simp)) (by omega)
  | xs, m + 1, hn, h => by
    have h1 := QI (xs := xs.erase m) (m := m) (hn.erase m) (fun x hx => by
      have h2 := h x (List.mem_of_mem_erase hx)
      have h3 : x ≠ m := fun e => by subst e; exact hn.not_mem_erase hx
      omega)
    rw [List.length_erase] at h1
    split at h1 <;> omega
theorem Rise.nodup {l : List ND} {hi : Int} : ∀ {xs : List Nat} {lo : Int}, Rise l lo hi xs → xs.Nodup
  | [], _, _ => .nil
  | x :: r, lo, ⟨n, h1, h2, h3, h4, h5⟩ => by
    refine List.nodup_cons.2 ⟨fun hx => ?_, h5.nodup⟩
    obtain ⟨m, m1, m2, m3⟩ := h5.mem x hx
    rw [h1] at m1; cases m1; omega
theorem IsT.len {l : List ND} (hl : l.length ≤ 30) {p : Nat} {lo hi : Int} {xs : List Nat} {h : Nat} (t : IsT l p lo hi xs h) : xs.length ≤ 30 := by
  have := QI (m := l.length) t.rise.nodup (fun x hx => by obtain ⟨n, hn, _⟩ := t.rise.mem x hx; exact (List.getElem?_eq_some_iff.1 hn).1)
  omega
def HasT (l : List ND) (p : Nat) (xs : List Nat) (h : Nat) : Prop := IsT l p (-1) 100 xs h
theorem aN {l : List ND} (hL : KE l) {p : Nat} {f : Nat} (hf : many l (-1) 100 < f) : (sw l f p (-1) 100 []).2 = true ↔ ∃ xs h, HasT l p xs h ∧ sw l f p (-1) 100 [] = (xs, true) := by
  constructor
  · intro h
    obtain ⟨xs, hh, t, e⟩ := qH hL h
    refine ⟨xs, hh, t, ?_⟩
    rw [List.nil_append] at e
    rw [← e, ← h]
  · rintro ⟨xs, hh, t, e⟩
    rw [e]
def kI (l : List ND) : Int → List Nat → Bool
  | _, [] => true
  | last, p :: r => match l[p]? with
    | none => false
    | some n => !n.g && decide (last < n.k) && kI l n.k r
theorem ZJ {l : List ND} (hL : KE l) : ∀ {xs : List Nat} {lo : Int}, (∀ x ∈ xs, x ≠ 0) → (kI l lo xs = true ↔ Rise l lo 100 xs)
  | [], lo, _ => by simp [kI, Rise]
  | x :: xs, lo, h0 => by
    cases hn : l[x]? with
    | none => simp [kI, Rise, hn]
    | some n =>
      have hk := hL.2.2.2 x n (by have := h0 x (by simp); omega) hn
      have ih := ZJ hL (xs := xs) (lo := n.k) (fun y hy => h0 y (by simp [hy]))
      have h100 : n.k < 100 := by omega
      simp [kI, Rise, hn, ih, h100, and_assoc]
theorem FO {l : List ND} (hL : KE l) {p : Nat} (hp : p < l.length) {c : List Nat} {g : List (Nat × Nat)} (w : Wk l [] p 1 c g) {f : Nat} (hf : many l (-1) 100 < f) :
    kI l (-1) (g.map Prod.fst) = (sw l f p (-1) 100 []).2 := by
  rw [Bool.eq_iff_iff, ZJ hL (fun x hx => by
    obtain ⟨y, hy, rfl⟩ := List.mem_map.1 hx
    exact (w.there hL hp y hy).1)]
  constructor
  · intro h
    obtain ⟨e, t⟩ := w.tree (fun x hx => by cases hx) h
    rw [t.sw hf (by have := t.len hL.1; simpa using this)]
  · intro h
    obtain ⟨xs, hh, t, e⟩ := (aN hL hf).1 h
    rw [(t.walk w (Nat.le_refl _) (fun x hx h => by cases h)).1]
    exact t.rise
def fD (l : List ND) : Nat := match l with | [] => 0 | n :: _ => n.r.toNat
def lG (l : List ND) : List Nat × Bool := sw l 31 (fD l) (-1) 100 []
def yB (l : List ND) : Bool := PA l && (lG l).2
theorem vH (l : List ND) (lo hi : Int) : many l lo hi ≤ l.length := List.length_filter_le _ _
def kF (l : List ND) : Int → List Nat → Int
  | last, [] => last
  | last, p :: r => match l[p]? with
    | none => kF l last r
    | some n => kF l n.k r
theorem eG {l : List ND} {p : Nat} {n : ND} (hn : l[p]? = some n) : ∀ (xs : List Nat) (lo : Int), kF l lo (xs ++ [p]) = n.k
  | [], lo => by simp [kF, hn]
  | x :: xs, lo => by
    simp only [List.cons_append, kF]
    rcases h : l[x]? with _ | m
    · exact eG hn xs lo
    · exact eG hn xs m.k
theorem YJ {l : List ND} {p : Nat} {n : ND} (hn : l[p]? = some n) : ∀ (xs : List Nat) (lo : Int), kI l lo (xs ++ [p]) = (kI l lo xs && (!n.g && decide (kF l lo xs < n.k)))
  | [], lo => by
    simp only [List.nil_append, kI, kF, hn, Bool.and_true, Bool.true_and]
    rfl
  | x :: xs, lo => by
    obtain h | ⟨m, h⟩ : l[x]? = none ∨ ∃ m, l[x]? = some m := by cases l[x]? <;> simp
    · simp [kI, kF, h]
    · simp only [List.cons_append, kI, kF, h, YJ hn xs m.k, Bool.and_assoc]
theorem yH {l : List ND} : ∀ {xs ys : List Nat} {lo : Int}, xs <+: ys → kI l lo xs = false → kI l lo ys = false
  | [], _, _, _, h => by simp [kI] at h
  | x :: xs, ys, lo, ⟨r, hr⟩, h => by
    subst hr
    simp only [List.cons_append, kI] at h ⊢
    cases hx : l[x]? with
    | none => rfl
    | some m =>
      simp only [hx] at h ⊢
      by_cases hg : (!m.g && decide (lo < m.k)) = true
      · rw [hg, Bool.true_and] at h ⊢
        exact yH ⟨r, rfl⟩ h
      · rw [Bool.not_eq_true] at hg
        rw [hg]
        rfl
theorem SN {n : ND} {r : List ND} (h : PA (n :: r) = true) : KE (n :: r) ∧ n.r = ((fD (n :: r) : Nat) : Int) ∧ fD (n :: r) < (n :: r).length ∧
    ∃ c gs, Wk (n :: r) [] (fD (n :: r)) 1 c gs ∧ kI (n :: r) (-1) (gs.map Prod.fst) = (lG (n :: r)).2 := by
  have hL := nD h
  obtain ⟨a, b, ha, hb, la, lb⟩ := hL.2.2.1 0 n rfl
  have e : fD (n :: r) = b := by simp [fD, hb]
  obtain ⟨c, gs, w⟩ := Wk.exists hL _ [] b 1 (Nat.le_refl _) lb
  rw [e]
  refine ⟨hL, hb, lb, c, gs, w, ?_⟩
  have := FO hL lb w (f := 31) (by have := vH (n :: r) (-1) 100; have := hL.1; omega)
  rw [this, lG, e]
def hF (l : List ND) : Nat → Nat → Nat
  | 0, _ => 0
  | f + 1, p => if p = 0 then 0 else match l[p]? with
    | none => 0
    | some n => 1 + max (hF l f n.l.toNat) (hF l f n.r.toNat)
theorem IsT.hF {l : List ND} {p : Nat} {lo hi : Int} {xs : List Nat} {h : Nat} (t : IsT l p lo hi xs h) : ∀ {f : Nat}, h ≤ f → hF l f p = h := by
  induction t with
  | nil lo hi => intro f _; cases f <;> simp [Go.Proofs.YtfjafncipjdnfaaGreat.hF]
  | node p lo hi n a b xs ys h1 h2 h0 hn hg hl hh ha hb t1 t2 ih1 ih2 =>
    intro f hf
    obtain ⟨f, rfl⟩ : ∃ e, f = e + 1 := ⟨f - 1, by omega⟩
    simp only [Go.Proofs.YtfjafncipjdnfaaGreat.hF, h0, if_false, hn, ha, hb, Int.toNat_natCast]
    rw [ih1 (f := f) (by omega), ih2 (f := f) (by omega)]
theorem IsT.height_le {l : List ND} {p : Nat} {lo hi : Int} {xs : List Nat} {h : Nat} (t : IsT l p lo hi xs h) : h ≤ xs.length := by
  induction t with
  | nil lo hi => simp
  | node p lo hi n a b xs ys h1 h2 h0 hn hg hl hh ha hb t1 t2 ih1 ih2 => simp; omega
theorem BD {l : List ND} (h : yB l = true) : ∃ xs hh, IsT l (fD l) (-1) 100 xs hh ∧ lG l = (xs, true) ∧ xs.length ≤ 30 ∧ hh ≤ 30 := by
  simp only [yB, Bool.and_eq_true] at h
  have hL := nD h.1
  obtain ⟨xs, hh, t, e⟩ := (aN hL (f := 31) (p := fD l) (by have := vH l (-1) 100; have := hL.1; omega)).1 h.2
  have h1 := IsT.len hL.1 t
  have h2 := IsT.height_le t
  exact ⟨xs, hh, t, e, h1, by omega⟩
def fC (l : List ND) : Int := if yB l then ((hF l 31 (fD l) : Nat) : Int) else -1
def VB (l : List ND) (key : Int) : List Nat → Nat
  | [] => 0
  | p :: r => match l[p]? with
    | none => VB l key r
    | some n => if n.k = key then p else VB l key r
def RD (l : List ND) (key : Int) : Int := if yB l then ((VB l key (lG l).1 : Nat) : Int) else 0
theorem eI {l : List ND} {key : Int} : ∀ {xs : List Nat}, (∀ x ∈ xs, ∃ n, l[x]? = some n ∧ n.k ≠ key) → VB l key xs = 0
  | [], _ => rfl
  | x :: xs, h => by
    obtain ⟨n, hn, hk⟩ := h x (by simp)
    simp only [VB, hn, hk, if_false]
    exact eI (fun y hy => h y (by simp [hy]))
theorem gF {l : List ND} {key : Int} : ∀ {xs ys : List Nat}, (∀ x ∈ xs, ∃ n, l[x]? = some n ∧ n.k ≠ key) → VB l key (xs ++ ys) = VB l key ys
  | [], _, _ => rfl
  | x :: xs, ys, h => by
    obtain ⟨n, hn, hk⟩ := h x (by simp)
    simp only [List.cons_append, VB, hn, hk, if_false]
    exact gF (fun y hy => h y (by simp [hy]))
theorem gG {l : List ND} {key : Int} : ∀ {xs ys : List Nat}, (∀ y ∈ ys, ∃ n, l[y]? = some n ∧ n.k ≠ key) → VB l key (xs ++ ys) = VB l key xs
  | [], ys, h => eI h
  | x :: xs, ys, h => by
    simp only [List.cons_append, VB]
    cases l[x]? with
    | none => exact gG h
    | some n =>
      by_cases hk : n.k = key
      · simp only [hk, if_true]
      · simp only [hk, if_false]; exact gG h
theorem IsT.find_step {l : List ND} {p : Nat} {lo hi : Int} {xs : List Nat} {h : Nat} {key : Int} (t : IsT l p lo hi xs h) (h0 : p ≠ 0) : ∃ n a b, l[p]? = some n ∧ n.l = ((a : Nat) : Int) ∧ n.r = ((b : Nat) : Int) ∧
    (n.k = key → VB l key xs = p) ∧ (key < n.k → ∃ lo hi ys h', h' < h ∧ IsT l a lo hi ys h' ∧ VB l key xs = VB l key ys) ∧ (n.k < key → ∃ lo hi ys h', h' < h ∧ IsT l b lo hi ys h' ∧ VB l key xs = VB l key ys) := by
  cases t with
  | nil lo hi => exact absurd rfl h0
  | node p lo hi n a b xs ys h1 h2 _ hn hg hl hh ha hb t1 t2 =>
    have r1 := t1.rise
    have r2 := t2.rise
    refine ⟨n, a, b, hn, ha, hb, fun e => ?_, fun e => ⟨lo, n.k, xs, h1, by omega, t1, ?_⟩, fun e => ⟨n.k, hi, ys, h2, by omega, t2, ?_⟩⟩
    · rw [gF (fun x hx => by obtain ⟨m, m1, m2, m3⟩ := r1.mem x hx; exact ⟨m, m1, by omega⟩)]
      simp only [VB, hn, e, if_true]
    · refine gG (fun y hy => ?_)
      rcases List.mem_cons.1 hy with rfl | hy
      · exact ⟨n, hn, by omega⟩
      · obtain ⟨m, m1, m2, m3⟩ := r2.mem y hy; exact ⟨m, m1, by omega⟩
    · rw [gF (fun x hx => by obtain ⟨m, m1, m2, m3⟩ := r1.mem x hx; exact ⟨m, m1, by omega⟩)]
      have hk : n.k ≠ key := by omega
      simp only [VB, hn, hk, if_false]
end Go.Proofs.YtfjafncipjdnfaaGreat
