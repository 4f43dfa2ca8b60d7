import Derived.Test.YtfjafncipjdnfaaGreatReads
import Derived.Deep.AppendLies
namespace Go.Proofs.YtfjafncipjdnfaaGreat
open Go.ChangeShapes Go.WideShapes Go.ChangeAt Go.RowKit
set_option linter.unusedVariables false
set_option linter.unusedSimpArgs false
theorem Mem.pull {w0 w : World} {L : List Bk} (h : Mem w0 w L) (i : Nat) {b : Bk} (hi : L[i]? = some b) : Mem w0 w (b :: L.eraseIdx i) :=
  h.sub (fun j => if j = 0 then i else if j - 1 < i then j - 1 else j) (fun j c hj => by
    cases j with
    | zero => simp only [if_true]; simpa using hi.trans (by simpa using hj)
    | succ j =>
      simp only [List.getElem?_cons_succ, List.getElem?_eraseIdx] at hj
      simp only [Nat.succ_ne_zero, if_false, Nat.add_sub_cancel]
      split at hj
      · rw [if_pos (by assumption)]; exact hj
      · rw [if_neg (by assumption)]; exact hj) (fun j k _ _ e => by
    try simp only at e
    split at e <;> split at e <;> (try split at e) <;> (try split at e) <;> omega)
theorem Mem.moved {w0 w W : World} {L : List Bk} (h : Mem w0 w L) (i : Nat) {g g' : Nat} {t t' : TypeId} {cs cs' : List Value} (hi : L[i]? = some (g, t, cs)) (hb : But g w W) (hB : Blk W g' t' cs') (hg : g' = g ∨ w.heap.size ≤ g') : Mem w0 W (L.set i (g', t', cs')) := by
  have hil : i < L.length := (List.getElem?_eq_some_iff.1 hi).1
  have hbase := h.base i hi
  refine ⟨h.below.trans (hb.below hbase h.size), fun j g1 t1 c1 hj => ?_, fun j k g1 t1 t2 c1 c2 hj hk => ?_⟩
  · by_cases e : i = j
    · subst e
      rw [List.getElem?_set_self hil] at hj
      simp only [Option.some.injEq, Prod.mk.injEq] at hj
      obtain ⟨rfl, rfl, rfl⟩ := hj
      exact ⟨by have := h.size; omega, hB⟩
    · rw [List.getElem?_set_ne e] at hj
      refine ⟨h.base j hj, hb.blk (h.blk j hj) ?_⟩
      intro e2
      subst e2
      exact e (h.apart i j _ _ _ _ _ hi hj)
  · have key : ∀ (j : Nat) (t1 : TypeId) (c1 : List Value), j ≠ i → (L.set i (g', t', cs'))[j]? = some (g1, t1, c1) → g1 < w.heap.size ∧ g1 ≠ g := fun j t1 c1 hne hj => by
      rw [List.getElem?_set_ne (Ne.symm hne)] at hj
      refine ⟨h.lt j hj, fun e => ?_⟩
      subst e
      exact hne (h.apart j i _ _ _ _ _ hj hi)
    have at_i : ∀ (j : Nat) (t1 : TypeId) (c1 : List Value), j = i → (L.set i (g', t', cs'))[j]? = some (g1, t1, c1) → g1 = g' := fun j t1 c1 hne hj => by
      subst hne
      rw [List.getElem?_set_self hil] at hj
      simp only [Option.some.injEq, Prod.mk.injEq] at hj
      exact hj.1.symm
    by_cases ej : j = i
    · by_cases ek : k = i
      · omega
      · have h1 := at_i j t1 c1 ej hj
        have h2 := key k t2 c2 ek hk
        omega
    · by_cases ek : k = i
      · have h1 := at_i k t2 c2 ek hk
        have h2 := key j t1 c1 ej hj
        omega
      · rw [List.getElem?_set_ne (Ne.symm ej)] at hj
        rw [List.getElem?_set_ne (Ne.symm ek)] at hk
        exact h.apart j k g1 t1 t2 c1 c2 hj hk
theorem LO {w : World} {g1 g2 : Nat} {t1 t2 : TypeId} {c1 c2 : List Value} (h1 : Blk w g1 t1 c1) (h2 : Blk w g2 t2 c2) (ht : t1 ≠ t2) : g1 ≠ g2 := by
  intro e
  subst e
  unfold Blk at h1 h2
  rw [h1] at h2
  simp only [Option.some.injEq, Obj.cells.injEq] at h2
  exact ht h2.2.1
theorem Mem.two {w W : World} {g1 g2 : Nat} {t1 t2 : TypeId} {c1 c2 : List Value} (hb : Below w.heap.size w W) (h1 : Blk W g1 t1 c1) (h2 : Blk W g2 t2 c2) (k1 : w.heap.size ≤ g1) (k2 : w.heap.size ≤ g2) (ht : t1 ≠ t2) : Mem w W [(g1, t1, c1), (g2, t2, c2)] := by
  have hne := LO h1 h2 ht
  refine ⟨hb, fun i g t cs hi => ?_, fun i j g t t' cs cs' hi hj => ?_⟩
  · match i, hi with
    | 0, hi => simp at hi; obtain ⟨rfl, rfl, rfl⟩ := hi; exact ⟨k1, h1⟩
    | 1, hi => simp at hi; obtain ⟨rfl, rfl, rfl⟩ := hi; exact ⟨k2, h2⟩
    | (i + 2), hi => simp at hi
  · match i, j, hi, hj with
    | 0, 0, _, _ => rfl
    | 1, 1, _, _ => rfl
    | 0, 1, hi, hj => simp at hi hj; omega
    | 1, 0, hi, hj => simp at hi hj; omega
    | (i + 2), _, hi, _ => simp at hi
    | 0, (j + 2), _, hj => simp at hj
    | 1, (j + 2), _, hj => simp at hj
section
variable {P : Program}
theorem BK {o : Oper} {a : Act} {w0 w : World} {L : List Bk} {K : Act → World → Prop} {Q : Exit → Act → World → Prop} (hM : Mem w0 w L) (i : Nat) {g : Nat} {T : TypeId} {xs p : List Value} (hi : L[i]? = some (g, T, xs ++ p)) (j : Nat) {b : Nat} {T' : TypeId} {news : List Value} (hj : L[j]? = some (b, T', news))
    (x y : Operand) (t : TypeId) (ho : o.op = .call { callee := .builtin .append, args := #[x, y], argTypes := #[t, t] }) {z : Value} {sz by_ : Nat} (ht : P.underlying t = some (.slice T)) (hT : (P.info? T).map (fun i => (i.zero, i.size, i.bytes)) = some (some z, sz, by_)) (hz : z.cells.size = sz) (hsz : 0 < sz)
    (n k m c : Nat) (hx : a.eval x = .slice (some ⟨g, 0, none⟩) n k) (hk : n ≤ k) (hkm : k ≤ maxLen) (hxs : xs.length = n * sz) (hp : (xs ++ p).length = k * sz) (hy : a.eval y = .slice (some ⟨b, 0, none⟩) m c) (hl : news.length = m * sz) (h1 : news.all (·.oneCell') = true) (hm : 0 < m) (h63 : n + m ≤ maxLen) (hby : (n + m) * by_ ≤ 140737488355328)
    (hK : ∀ (g' k' : Nat) (p' : List Value) (W : World), n + m ≤ k' → k' ≤ maxLen → (xs ++ news ++ p').length = k' * sz → Mem w0 W (L.set i (g', T, xs ++ news ++ p')) → K (a.put o.dst (.slice (some ⟨g', 0, none⟩) (n + m) k')) W) : o.wp P a w K Q := by
  obtain ⟨i0, hi0, hz0, hz1, hz2⟩ := info_parts hT
  have hB := hM.blk i hi
  have hN := hM.blk j hj
  refine wp_append_lies w x y t ho g T i0 z sz by_ ht hi0 hz0 hz1 hz2 hz hsz _ n xs hx ⟨hxs, .inr ⟨g, k, (xs ++ p).toArray, rfl, Nat.le_refl _, hB, hk, hkm, by simpa using hp, by simp [← hxs]⟩⟩ ⟨b, 0, none⟩ m c news hy hl (fun q u hu => ?_) (fun u hu => List.all_eq_true.1 h1 u hu) hm h63 hby (Nat.le_of_lt hB.lt) w.heap.size rfl ?_
  · have hadd : (⟨b, 0, none⟩ : Addr).add q = ⟨b, 0 + q, none⟩ := by unfold Addr.add; split <;> simp_all
    rw [hadd, Nat.zero_add, hN.cell]
    exact hu
  · intro g' k' W hown hgrow hat hlt
    have hbut : But g w W := ⟨hgrow.os, hgrow.tape, hgrow.output, hgrow.size, fun q hq hne => hgrow.block q hq (by simp [Value.ownBlock]; exact hne)⟩
    obtain ⟨hxl, ⟨h0, -⟩ | ⟨g2, k2, cur, hv, hb2, hh, c1, c2, c3, c4⟩⟩ := hown
    · simp at h0
    · simp only [Value.slice.injEq, Option.some.injEq, Addr.mk.injEq, and_true, true_and] at hv
      obtain ⟨rfl, rfl⟩ := hv
      have hcur : cur = (xs ++ news ++ cur.toList.drop ((n + m) * sz)).toArray := by
        rw [← c4, List.take_append_drop]
      have hBlk : Blk W g' T (xs ++ news ++ cur.toList.drop ((n + m) * sz)) := by
        unfold Blk
        rw [hh, ← hcur]
      refine hK g' k' (cur.toList.drop ((n + m) * sz)) W c1 c2 ?_ (hM.moved i hi hbut hBlk ?_)
      · have := congrArg Array.size hcur
        simp only [List.size_toArray] at this
        rw [← this, c3]
      · rcases hat with h | h
        · left; simpa [Value.ownBlock] using h.symm
        · right; omega
theorem RE {ops : Array Oper} {rest : List Oper} {o : Oper} {a : Act} {w0 w : World} {L : List Bk} {Q : Exit → Act → World → Prop} (hw : Region.wanted o (yielded ops a.tmps) = true) (hM : Mem w0 w L) (i : Nat) {g : Nat} {T : TypeId} {xs p : List Value} (hi : L[i]? = some (g, T, xs ++ p)) (j : Nat) {b : Nat} {T' : TypeId} {news : List Value} (hj : L[j]? = some (b, T', news))
    (x y : Operand) (t : TypeId) (ho : o.op = .call { callee := .builtin .append, args := #[x, y], argTypes := #[t, t] }) {z : Value} {sz by_ : Nat} (ht : P.underlying t = some (.slice T)) (hT : (P.info? T).map (fun i => (i.zero, i.size, i.bytes)) = some (some z, sz, by_)) (hz : z.cells.size = sz) (hsz : 0 < sz)
    (n k m c : Nat) (hx : a.eval x = .slice (some ⟨g, 0, none⟩) n k) (hk : n ≤ k) (hkm : k ≤ maxLen) (hxs : xs.length = n * sz) (hp : (xs ++ p).length = k * sz) (hy : a.eval y = .slice (some ⟨b, 0, none⟩) m c) (hl : news.length = m * sz) (h1 : news.all (·.oneCell') = true) (hm : 0 < m) (h63 : n + m ≤ maxLen) (hby : (n + m) * by_ ≤ 140737488355328)
    (h : ∀ (g' k' : Nat) (p' : List Value) (W : World), n + m ≤ k' → k' ≤ maxLen → (xs ++ news ++ p').length = k' * sz → Mem w0 W (L.set i (g', T, xs ++ news ++ p')) → WL P ops Q rest (a.put o.dst (.slice (some ⟨g', 0, none⟩) (n + m) k')) W) : WL P ops Q (o :: rest) a w :=
  ⟨BigFrame.wpList_want hw fun K hK => BK hM i hi j hj x y t ho ht hT hz hsz n k m c hx hk hkm hxs hp hy hl h1 hm h63 hby fun g' k' p' W c1 c2 c3 hM' => hK _ _ (h g' k' p' W c1 c2 c3 hM').out⟩
theorem ZC {ops : Array Oper} {rest : List Oper} {o : Oper} {a : Act} {w0 w : World} {L : List Bk} {Q : Exit → Act → World → Prop} (hw : Region.wanted o (yielded ops a.tmps) = true) (hM : Mem w0 w L) (T : TypeId) (n : Nat) (cs : List Value) (hr : ∀ w : World, (execOp a.eval o).run P w = .ok (.value (.slice (some ⟨w.heap.size, 0, none⟩) n n)) (w.alloc (.cells cs.toArray T)))
    (h : ∀ g W, Mem w0 W ((g, T, cs) :: L) → WL P ops Q rest (a.put o.dst (.slice (some ⟨g, 0, none⟩) n n)) W) : WL P ops Q (o :: rest) a w :=
  ⟨BigFrame.wpList_want hw fun K hK => by
    unfold Oper.wp
    rw [hr w]
    exact hK _ _ (h _ _ (hM.alloc cs T)).out⟩
theorem oE {ops : Array Oper} {Q : Exit → Act → World → Prop} {S : World → Prop} {fuel : Nat} {listed : Array Bool} {a : Act} {w0 w : World} {L : List Bk} {i : Nat} {o : Oper} (ho : ops[i]? = some o) (hw : Region.wanted o (yielded ops a.tmps) = true)
    (hM : Mem w0 w L) (j : Nat) {g : Nat} {t : TypeId} {cs : List Value} (hi : L[j]? = some (g, t, cs))
    (ty : TypeId) (x y : Operand) (hop : o.op = .store ty x y) (hd : o.dst = none) (off : Nat) (hx : a.eval x = .pointer (some ⟨g, off, none⟩)) (cs' : List Value) (hy : a.eval y = .agg cs'.toArray) (hn : (P.info? ty).map (·.size) = some cs'.length) (hl : off + cs'.length ≤ cs.length) (h1 : cs'.all (·.oneCell') = true)
    (hK : ∀ W, Mem w0 W (L.set j (g, t, LD cs off cs')) → S W ∧ WA P ops Q S fuel (listed.setIfInBounds i true) a W) : WO P ops Q S fuel listed a w i :=
  TD ho hw fun K h => zK hM j hi ty x y hop hd off hx cs' hy hn hl h1 fun W hm => h _ _ (hK W hm).1 (hK W hm).2
theorem jM {ops : Array Oper} {Q : Exit → Act → World → Prop} {S : World → Prop} {fuel : Nat} {listed : Array Bool} {a : Act} {w0 w : World} {L : List Bk} {i : Nat} {o : Oper} (ho : ops[i]? = some o) (hw : Region.wanted o (yielded ops a.tmps) = true)
    (hM : Mem w0 w L) (j : Nat) {g : Nat} {t : TypeId} {cs : List Value} (hi : L[j]? = some (g, t, cs))
    (ty : TypeId) (x y : Operand) (hop : o.op = .store ty x y) (hd : o.dst = none) (k : Nat) (hx : a.eval x = .pointer (some ⟨g, k, none⟩)) (v : Value) (hy : a.eval y = v) (hv : v.cells = #[v]) (h1 : v.oneCell' = true) (hn : (P.info? ty).map (·.size) = some 1) (hk : k < cs.length)
    (hK : ∀ W, Mem w0 W (L.set j (g, t, cs.set k v)) → S W ∧ WA P ops Q S fuel (listed.setIfInBounds i true) a W) : WO P ops Q S fuel listed a w i :=
  TD ho hw fun K h => AK hM j hi ty x y hop hd k hx v hy hv h1 hn hk fun W hm => h _ _ (hK W hm).1 (hK W hm).2
end
theorem OD {l : List ND} {p : List Value} {k : Nat} (hk : k < l.length) : 0 + k * 8 + 8 ≤ (cellsOf l ++ p).length := by rw [List.length_append, iA]; omega
theorem LB {l : List ND} {p : List Value} {k j : Nat} (hk : k < l.length) (hj : j < 8) : 0 + k * 8 + j < (cellsOf l ++ p).length := by rw [List.length_append, iA]; omega
theorem JJ {l : List ND} {k : Nat} {n : ND} (hn : l[k]? = some n) (p : List Value) : cellsOf l ++ p = cellsOf (l.take k) ++ (n.cells ++ (cellsOf (l.drop (k + 1)) ++ p)) ∧ (cellsOf (l.take k)).length = k * 8 := by
  have hk : k < l.length := (List.getElem?_eq_some_iff.1 hn).1
  have hm' : l[k] = n := by rw [List.getElem?_eq_getElem hk] at hn; simpa using hn
  have e1 : l = l.take k ++ (n :: l.drop (k + 1)) := by rw [← hm', ← List.drop_eq_getElem_cons hk, List.take_append_drop]
  refine ⟨?_, by rw [iA]; simp; omega⟩
  conv => lhs; rw [e1]
  simp [cellsOf]
theorem LC {l : List ND} {p : List Value} {k : Nat} {n : ND} (hn : l[k]? = some n) : ((cellsOf l ++ p).drop (0 + k * 8)).take n.cells.length = n.cells := by
  obtain ⟨e, el⟩ := JJ hn p
  rw [e, Nat.zero_add, ← el, List.drop_left, List.take_left]
theorem uC {l : List ND} {p : List Value} {k j : Nat} {n : ND} {v : Value} (hn : l[k]? = some n) (hv : n.cells[j]? = some v) : (cellsOf l ++ p)[0 + k * 8 + j]? = some v := by
  obtain ⟨e, el⟩ := JJ hn p
  have hj : j < n.cells.length := (List.getElem?_eq_some_iff.1 hv).1
  rw [e, Nat.zero_add, ← el, List.getElem?_append_right (by omega), Nat.add_sub_cancel_left, List.getElem?_append_left hj]
  exact hv
theorem kC {l : List ND} {p : List Value} {k j : Nat} {n n' : ND} {v : Value} (hn : l[k]? = some n) (hj : j < 8) (hv : n.cells.set j v = n'.cells) : (cellsOf l ++ p).set (0 + k * 8 + j) v = cellsOf (l.set k n') ++ p := by
  have hk : k < l.length := (List.getElem?_eq_some_iff.1 hn).1
  have hl8 : n.cells.length = 8 := rfl
  obtain ⟨e, el⟩ := JJ hn p
  obtain ⟨e', el'⟩ := JJ (l := l.set k n') (List.getElem?_set_self hk) p
  rw [e, e', List.take_set_of_le (Nat.le_refl _), List.drop_set_of_lt (by omega)]
  rw [Nat.zero_add, ← el, List.set_append_right _ _ (by omega), Nat.add_sub_cancel_left, List.set_append_left _ _ (by omega), hv]
theorem cD {l : List ND} {p : List Value} {k : Nat} (n' : ND) : (cellsOf (l.set k n') ++ p).length = (cellsOf l ++ p).length := by simp [iA]
theorem PF (l : List ND) (n : ND) (p : List Value) : cellsOf l ++ n.cells ++ p = cellsOf (l ++ [n]) ++ p := by simp [cellsOf]
end Go.Proofs.YtfjafncipjdnfaaGreat
