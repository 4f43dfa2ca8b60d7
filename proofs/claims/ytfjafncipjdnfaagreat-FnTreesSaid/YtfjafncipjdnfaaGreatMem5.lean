import Derived.LoopN
import Derived.Test.YtfjafncipjdnfaaGreatRecs
namespace Go.Proofs.YtfjafncipjdnfaaGreat
open Go.ChangeShapes Go.WideShapes Go.ChangeAt Go.RowKit
set_option linter.unusedVariables false
set_option linter.unusedSimpArgs false
section
variable {P : Program}
theorem GA {ops : Array Oper} {Q : Exit → Act → World → Prop} {S : World → Prop} {fuel : Nat} {listed : Array Bool} {a : Act} {w0 w : World} {L : List Bk} {ix : Nat} (d : Option Tmp) {o : Oper} (hix : ops[ix]? = some o) (hd : o.dst = d) (hw : Region.wanted o (yielded ops a.tmps) = true)
    (hM : Mem w0 w L) (T : TypeId) (n : Nat) (cs : List Value) (hr : ∀ w : World, (execOp a.eval o).run P w = .ok (.value (.slice (some ⟨w.heap.size, 0, none⟩) n n)) (w.alloc (.cells cs.toArray T)))
    (h : ∀ g W, Mem w0 W ((g, T, cs) :: L) → S W ∧ WA P ops Q S fuel (listed.setIfInBounds ix true) (a.put d (.slice (some ⟨g, 0, none⟩) n n)) W) : WO P ops Q S fuel listed a w ix := by
  subst hd
  exact TD hix hw fun K hK => by
    unfold Oper.wp
    rw [hr w]
    exact hK _ _ (h _ _ (hM.alloc cs T)).1 (h _ _ (hM.alloc cs T)).2
end
section
variable {P : Program}
theorem zM {o : Oper} {a : Act} {w0 w : World} {L : List Bk} {K : Act → World → Prop} {Q : Exit → Act → World → Prop} (hM : Mem w0 w L) (i : Nat) {g : Nat} {T : TypeId} {xs p : List Value} (hi : L[i]? = some (g, T, xs ++ p))
    (x y : Operand) (t : TypeId) (ho : o.op = .call { callee := .builtin .append, args := #[x, y], argTypes := #[t, t] }) {z : Value} {sz by_ : Nat} (ht : P.underlying t = some (.slice T)) (hT : (P.info? T).map (fun i => (i.zero, i.size, i.bytes)) = some (some z, sz, by_)) (hz : z.cells.size = sz) (hsz : 0 < sz)
    (n k m c : Nat) (hx : a.eval x = .slice (some ⟨g, 0, none⟩) n k) (hk : n ≤ k) (hkm : k ≤ maxLen) (hxs : xs.length = n * sz) (hp : (xs ++ p).length = k * sz) {b off : Nat} {news : List Value} (hy : a.eval y = .slice (some ⟨b, off, none⟩) m c) (hl : news.length = m * sz) (hnews : ∀ j u, news[j]? = some u → w.cell? ⟨b, off + j, none⟩ = some u) (h1 : ∀ u ∈ news, u.oneCell' = true) (hm : 0 < m) (h63 : n + m ≤ maxLen) (hby : (n + m) * by_ ≤ 140737488355328)
    (hK : ∀ (g' k' : Nat) (p' : List Value) (W : World), n + m ≤ k' → k' ≤ maxLen → (xs ++ news ++ p').length = k' * sz → Mem w0 W (L.set i (g', T, xs ++ news ++ p')) → K (a.put o.dst (.slice (some ⟨g', 0, none⟩) (n + m) k')) W) : o.wp P a w K Q := by
  obtain ⟨i0, hi0, hz0, hz1, hz2⟩ := info_parts hT
  have hB := hM.blk i hi
  refine wp_append_lies w x y t ho g T i0 z sz by_ ht hi0 hz0 hz1 hz2 hz hsz _ n xs hx ⟨hxs, .inr ⟨g, k, (xs ++ p).toArray, rfl, Nat.le_refl _, hB, hk, hkm, by simpa using hp, by simp [← hxs]⟩⟩ ⟨b, off, none⟩ m c news hy hl (fun q u hu => ?_) h1 hm h63 hby (Nat.le_of_lt hB.lt) w.heap.size rfl ?_
  · have hadd : (⟨b, off, none⟩ : Addr).add q = ⟨b, off + q, none⟩ := by unfold Addr.add; split <;> simp_all
    rw [hadd]
    exact hnews q u hu
  · intro g' k' W hown hgrow hat hlt
    have hbut : But g w W := ⟨hgrow.os, hgrow.tape, hgrow.output, hgrow.size, fun q hq hne => hgrow.block q hq (by simp [Value.ownBlock]; exact hne)⟩
    obtain ⟨hxl, ⟨h0, -⟩ | ⟨g2, k2, cur, hv, hb2, hh, c1, c2, c3, c4⟩⟩ := hown
    · simp at h0
    · simp only [Value.slice.injEq, Option.some.injEq, Addr.mk.injEq, and_true, true_and] at hv
      obtain ⟨rfl, rfl⟩ := hv
      have hcur : cur = (xs ++ news ++ cur.toList.drop ((n + m) * sz)).toArray := by
        rw [← c4, List.take_append_drop]
      have hBlk : Blk W g' T (xs ++ news ++ cur.toList.drop ((n + m) * sz)) := by
        unfold Blk
        rw [hh, ← hcur]
      refine hK g' k' (cur.toList.drop ((n + m) * sz)) W c1 c2 ?_ (hM.moved i hi hbut hBlk ?_)
      · have := congrArg Array.size hcur
        simp only [List.size_toArray] at this
        rw [← this, c3]
      · rcases hat with h | h
        · left; simpa [Value.ownBlock] using h.symm
        · right; omega
theorem aB {ops : Array Oper} {Q : Exit → Act → World → Prop} {S : World → Prop} {fuel : Nat} {listed : Array Bool} {a : Act} {w0 w : World} {L : List Bk} {ix : Nat} (d : Option Tmp) {o : Oper} (hix : ops[ix]? = some o) (hd : o.dst = d) (hw : Region.wanted o (yielded ops a.tmps) = true)
    (hM : Mem w0 w L) (i : Nat) {g : Nat} {T : TypeId} {xs p : List Value} (hi : L[i]? = some (g, T, xs ++ p))
    (x y : Operand) (t : TypeId) (ho : o.op = .call { callee := .builtin .append, args := #[x, y], argTypes := #[t, t] }) {z : Value} {sz by_ : Nat} (ht : P.underlying t = some (.slice T)) (hT : (P.info? T).map (fun i => (i.zero, i.size, i.bytes)) = some (some z, sz, by_)) (hz : z.cells.size = sz) (hsz : 0 < sz)
    (n k m c : Nat) (hx : a.eval x = .slice (some ⟨g, 0, none⟩) n k) (hk : n ≤ k) (hkm : k ≤ maxLen) (hxs : xs.length = n * sz) (hp : (xs ++ p).length = k * sz) {b off : Nat} {news : List Value} (hy : a.eval y = .slice (some ⟨b, off, none⟩) m c) (hl : news.length = m * sz) (hnews : ∀ j u, news[j]? = some u → w.cell? ⟨b, off + j, none⟩ = some u) (h1 : ∀ u ∈ news, u.oneCell' = true) (hm : 0 < m) (h63 : n + m ≤ maxLen) (hby : (n + m) * by_ ≤ 140737488355328)
    (hK : ∀ (g' k' : Nat) (p' : List Value) (W : World), n + m ≤ k' → k' ≤ maxLen → (xs ++ news ++ p').length = k' * sz → Mem w0 W (L.set i (g', T, xs ++ news ++ p')) → S W ∧ WA P ops Q S fuel (listed.setIfInBounds ix true) (a.put d (.slice (some ⟨g', 0, none⟩) (n + m) k')) W) : WO P ops Q S fuel listed a w ix := by
  subst hd
  exact TD hix hw fun K h => zM hM i hi x y t ho ht hT hz hsz n k m c hx hk hkm hxs hp hy hl hnews h1 hm h63 hby fun g' k' p' W c1 c2 c3 hm' => h _ _ (hK g' k' p' W c1 c2 c3 hm').1 (hK g' k' p' W c1 c2 c3 hm').2
theorem AM {o : Oper} {a : Act} {w0 w : World} {L : List Bk} {K : Act → World → Prop} {Q : Exit → Act → World → Prop} (hM : Mem w0 w L) (j : Nat) {b : Nat} {T T' : TypeId} {news : List Value} (hj : L[j]? = some (b, T', news))
    (x y : Operand) (t : TypeId) (ho : o.op = .call { callee := .builtin .append, args := #[x, y], argTypes := #[t, t] }) {z : Value} {sz by_ : Nat} (ht : P.underlying t = some (.slice T)) (hT : (P.info? T).map (fun i => (i.zero, i.size, i.bytes)) = some (some z, sz, by_)) (hz : z.cells.size = sz) (hsz : 0 < sz)
    (m c : Nat) (hx : a.eval x = sZ) (hy : a.eval y = .slice (some ⟨b, 0, none⟩) m c) (hl : news.length = m * sz) (h1 : news.all (·.oneCell') = true) (hm : 0 < m) (h63 : m ≤ maxLen) (hby : m * by_ ≤ 140737488355328)
    (hK : ∀ (g' k' : Nat) (p' : List Value) (W : World), m ≤ k' → k' ≤ maxLen → (news ++ p').length = k' * sz → Mem w0 W ((g', T, news ++ p') :: L) → K (a.put o.dst (.slice (some ⟨g', 0, none⟩) m k')) W) : o.wp P a w K Q := by
  obtain ⟨i0, hi0, hz0, hz1, hz2⟩ := info_parts hT
  have hN := hM.blk j hj
  refine wp_append_lies w x y t ho w.heap.size T i0 z sz by_ ht hi0 hz0 hz1 hz2 hz hsz _ 0 [] hx ⟨by simp, .inl ⟨rfl, rfl⟩⟩ ⟨b, 0, none⟩ m c news hy hl (fun q u hu => ?_) (fun u hu => List.all_eq_true.1 h1 u hu) hm (by omega) (by rw [Nat.zero_add]; exact hby) (Nat.le_refl _) w.heap.size rfl ?_
  · have hadd : (⟨b, 0, none⟩ : Addr).add q = ⟨b, 0 + q, none⟩ := by unfold Addr.add; split <;> simp_all
    rw [hadd, Nat.zero_add, hN.cell]
    exact hu
  · intro g' k' W hown hgrow hat hlt
    have hg : g' = w.heap.size := by
      rcases hat with h | h
      · simp [Value.ownBlock] at h
      · exact h
    have hb : Below w.heap.size w W := ⟨hgrow.os, hgrow.tape, hgrow.output, hgrow.size, fun q hq => hgrow.block q hq (by simp [Value.ownBlock])⟩
    obtain ⟨hxl, ⟨h0, -⟩ | ⟨g2, k2, cur, hv, hb2, hh, c1, c2, c3, c4⟩⟩ := hown
    · simp at h0
    · simp only [Value.slice.injEq, Option.some.injEq, Addr.mk.injEq, and_true, true_and] at hv
      obtain ⟨rfl, rfl⟩ := hv
      have hcur : cur = (news ++ cur.toList.drop ((0 + m) * sz)).toArray := by
        have e : cur.toList.take ((0 + m) * sz) = news := by simpa using c4
        rw [← e, List.take_append_drop]
      have hBlk : Blk W g' T (news ++ cur.toList.drop ((0 + m) * sz)) := by
        unfold Blk
        rw [hh, ← hcur]
      rw [Nat.zero_add]
      refine hK g' k' (cur.toList.drop ((0 + m) * sz)) W (by omega) c2 ?_ (hM.got hb (by omega) hBlk)
      have := congrArg Array.size hcur
      simp only [List.size_toArray] at this
      rw [← this, c3]
theorem YF {ops : Array Oper} {Q : Exit → Act → World → Prop} {S : World → Prop} {fuel : Nat} {listed : Array Bool} {a : Act} {w0 w : World} {L : List Bk} {ix : Nat} (d : Option Tmp) {o : Oper} (hix : ops[ix]? = some o) (hd : o.dst = d) (hw : Region.wanted o (yielded ops a.tmps) = true)
    (hM : Mem w0 w L) (j : Nat) {b : Nat} {T T' : TypeId} {news : List Value} (hj : L[j]? = some (b, T', news))
    (x y : Operand) (t : TypeId) (ho : o.op = .call { callee := .builtin .append, args := #[x, y], argTypes := #[t, t] }) {z : Value} {sz by_ : Nat} (ht : P.underlying t = some (.slice T)) (hT : (P.info? T).map (fun i => (i.zero, i.size, i.bytes)) = some (some z, sz, by_)) (hz : z.cells.size = sz) (hsz : 0 < sz)
    (m c : Nat) (hx : a.eval x = sZ) (hy : a.eval y = .slice (some ⟨b, 0, none⟩) m c) (hl : news.length = m * sz) (h1 : news.all (·.oneCell') = true) (hm : 0 < m) (h63 : m ≤ maxLen) (hby : m * by_ ≤ 140737488355328)
    (hK : ∀ (g' k' : Nat) (p' : List Value) (W : World), m ≤ k' → k' ≤ maxLen → (news ++ p').length = k' * sz → Mem w0 W ((g', T, news ++ p') :: L) → S W ∧ WA P ops Q S fuel (listed.setIfInBounds ix true) (a.put d (.slice (some ⟨g', 0, none⟩) m k')) W) : WO P ops Q S fuel listed a w ix := by
  subst hd
  exact TD hix hw fun K h => AM hM j hj x y t ho ht hT hz hsz m c hx hy hl h1 hm h63 hby fun g' k' p' W c1 c2 c3 hm' => h _ _ (hK g' k' p' W c1 c2 c3 hm').1 (hK g' k' p' W c1 c2 c3 hm').2
theorem FG {ops : Array Oper} {Q : Exit → Act → World → Prop} {S : World → Prop} {fuel : Nat} {listed : Array Bool} {a : Act} {w0 w : World} {L : List Bk} {ix : Nat} (d : Option Tmp) {o : Oper} (hix : ops[ix]? = some o) (hd : o.dst = d) (hw : Region.wanted o (yielded ops a.tmps) = true)
    (hM : Mem w0 w L) (i : Nat) {g : Nat} {T : TypeId} {xs p : List Value} (hi : L[i]? = some (g, T, xs ++ p)) (j : Nat) {b : Nat} {T' : TypeId} {news : List Value} (hj : L[j]? = some (b, T', news))
    (x y : Operand) (t : TypeId) (ho : o.op = .call { callee := .builtin .append, args := #[x, y], argTypes := #[t, t] }) {z : Value} {sz by_ : Nat} (ht : P.underlying t = some (.slice T)) (hT : (P.info? T).map (fun i => (i.zero, i.size, i.bytes)) = some (some z, sz, by_)) (hz : z.cells.size = sz) (hsz : 0 < sz)
    (n k m c : Nat) (hx : a.eval x = .slice (some ⟨g, 0, none⟩) n k) (hk : n ≤ k) (hkm : k ≤ maxLen) (hxs : xs.length = n * sz) (hp : (xs ++ p).length = k * sz) (hy : a.eval y = .slice (some ⟨b, 0, none⟩) m c) (hl : news.length = m * sz) (h1 : news.all (·.oneCell') = true) (hm : 0 < m) (h63 : n + m ≤ maxLen) (hby : (n + m) * by_ ≤ 140737488355328)
    (hK : ∀ (g' k' : Nat) (p' : List Value) (W : World), n + m ≤ k' → k' ≤ maxLen → (xs ++ news ++ p').length = k' * sz → Mem w0 W (L.set i (g', T, xs ++ news ++ p')) → S W ∧ WA P ops Q S fuel (listed.setIfInBounds ix true) (a.put d (.slice (some ⟨g', 0, none⟩) (n + m) k')) W) : WO P ops Q S fuel listed a w ix := by
  subst hd
  exact TD hix hw fun K h => BK hM i hi j hj x y t ho ht hT hz hsz n k m c hx hk hkm hxs hp hy hl h1 hm h63 hby fun g' k' p' W c1 c2 c3 hm' => h _ _ (hK g' k' p' W c1 c2 c3 hm').1 (hK g' k' p' W c1 c2 c3 hm').2
end
theorem xD {P : Program} {f : Operand → Value} {o : Oper} {w : World} (x y : Operand) (t T : TypeId) (ho : o.op = .call { callee := .builtin .append, args := #[x, y], argTypes := #[t, t] }) (ht : P.underlying t = some (.slice T)) {zz : Option Value} {sz by_ : Nat} (hT : (P.info? T).map (fun i => (i.zero, i.size, i.bytes)) = some (zz, sz, by_))
    (ad : Addr) (n k : Nat) (hx : f x = .slice (some ad) n k) (hn : n ≤ k) (a : Option Addr) (c : Nat) (hy : f y = .slice a 0 c) : (execOp f o).run P w = .ok (.value (.slice (some ad) n k)) w := by
  cases hq : P.info? T with
  | none => simp [hq] at hT
  | some i =>
    have hs : (sizeOf T).run P w = .ok i.size w := by simp [sizeOf, typeInfo, hq]
    have hf : (Builtin.firstCells i.size 0 (.slice a 0 c)).run P w = .ok #[] w := by
      cases a with
      | none => simp [Builtin.firstCells]
      | some b => exact run_firstCells_some (P := P) w i.size 0 b 0 c [] (by simp) (fun j v hv => by simp at hv)
    unfold execOp
    simp [ho, resolve, invoke, builtin, hx, hy, Builtin.append_, run_underlying ht, hs, Builtin.lenOf, hf, hn, storeCells]
theorem EB {w0 w : World} {L : List Bk} (hM : Mem w0 w L) {R : Type} {F : R → List Value} {l : List R} {b off : Nat} (hb : b < w0.heap.size) (hc : ∀ i, i < (lC F l).length → w0.cell? ⟨b, off + i, none⟩ = (lC F l)[i]?) : ∀ j u, (lC F l)[j]? = some u → w.cell? ⟨b, off + j, none⟩ = some u := fun j u hu => by
  rw [hM.below.cell (p := ⟨b, off + j, none⟩) hb, hc j (List.getElem?_eq_some_iff.1 hu).1, hu]
theorem eB {R : Type} {F : R → List Value} (h : ∀ r, (F r).all (·.oneCell') = true) (l : List R) : ∀ u ∈ lC F l, u.oneCell' = true := by
  intro u hu
  obtain ⟨n, -, hn⟩ := List.mem_flatMap.1 hu
  exact List.all_eq_true.1 (h n) u hn
theorem SlR.all {R : Type} {F : R → List Value} {z : Nat} (hF : ∀ r, (F r).length = z) {w : World} {v : Value} {l : List R} (hz : 0 < z) (h : SlR F z w v l) (hn : l ≠ []) : ∃ b off cap, v = .slice (some ⟨b, off, none⟩) l.length cap ∧ l.length ≤ cap ∧ cap ≤ maxLen ∧ b < w.heap.size ∧ (∀ k n, l[k]? = some n → ∀ j v, (F n)[j]? = some v → w.cell? ⟨b, off + k * z + j, none⟩ = some v) ∧ ∀ i, i < (lC F l).length → w.cell? ⟨b, off + i, none⟩ = (lC F l)[i]? := by
  obtain ⟨b, off, cap, rfl, h1, h2, h3, h4⟩ := SlR.at hF hz h hn
  refine ⟨b, off, cap, rfl, h1, h2, h3, h4, ?_⟩
  obtain ⟨a, cap', hv, -, -, -, h6⟩ := h
  cases hv
  have hlen : 0 < l.length := List.length_pos_iff.2 hn
  rcases h6 with h6 | ⟨b', off', e, hc⟩
  · omega
  · cases e
    exact hc
end Go.Proofs.YtfjafncipjdnfaaGreat
