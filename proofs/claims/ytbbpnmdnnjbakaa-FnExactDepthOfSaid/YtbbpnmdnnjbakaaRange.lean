/- A range over the iterator: what the loop's owner must show of his body, and what he has behind the loop. -/
import Derived.Test.YtbbpnmdnnjbakaaIter2
namespace Go.Proofs.Ytbbpnmdnnjbakaa
open Go.ChangeShapes Go.WideShapes Go.ChangeAt Go.RowKit Go.Shelf
set_option linter.unusedVariables false
set_option linter.unusedSimpArgs false

theorem Sep.put {n₀ : Nat} {S : Nat → Prop} {W : World} {k : Nat} (o : Obj) (h0 : n₀ ≤ k) (hk : ¬ S k) (hs : n₀ ≤ W.heap.size) : Sep n₀ S W (W.putObj k o) :=
  ⟨(Below.refl _ _).grown (grownBy_putObj' W k o) hs (fun j e => by cases e; exact h0), fun j hj hs => World.putObj_heap_other (fun e => hk (e ▸ hs))⟩
/-- How the body of a round may be left. -/
def BodyPost (n₀ : Nat) (I : List (Nat × Nat) → (Nat → Prop) → World → Prop) (Ix : List (Nat × Nat) → World → Prop) (xs : List (Nat × Nat)) (S : Nat → Prop) (W : World) : Exit → Act → World → Prop
  | .normal, _, W' => ∃ S', I xs S' W' ∧ Mine n₀ S S' W W'
  | .ret, _, W' => Ix xs W' ∧ W.heap.size ≤ W'.heap.size ∧ ∀ k, k < W.heap.size → ¬ S k → W'.heap[k]? = W.heap[k]?
  | _, _, _ => False

theorem range_walk {g : Operand} {ps : Array Tmp} {assign body : Code} {Q : Exit → Act → World → Prop} {a : Act} {w : World} {n bx : Nat}
    (hg : a.eval g = .func (.func 37) #[] #[.pointer (some ⟨bx, 0, none⟩)]) (hps : ps.size = 2)
    (n₀ b off cap : Nat) (ns : List ND) (hL : Links ns) (hN : NAt n₀ w b off ns) (hx : w.cell? ⟨bx, 0, none⟩ = some (.slice (some ⟨b, off, none⟩) ns.length cap))
    (root : ND) (rt : Nat) (c' : List Nat) (gs : List (Nat × Nat)) (hr0 : ns[0]? = some root) (hr : root.r = (rt : Int)) (wk : Wk ns [] rt 1 c' gs)
    (I : List (Nat × Nat) → (Nat → Prop) → World → Prop) (Ix : List (Nat × Nat) → World → Prop)
    (hI : ∀ pre S W W', I pre S W → Sep n₀ S W W' → I pre S W') (hIs : ∀ pre S W, I pre S W → n₀ ≤ W.heap.size ∧ ∀ k, S k → k < W.heap.size)
    (hIx : ∀ q W o, Ix q W → Ix q (W.putObj (w.heap.size + 1) o)) (S₀ : Nat → Prop) (h0 : I [] S₀ w) (a₁ : Nat × Nat → Act)
    (hassign : ∀ (l : Nat) (x : Nat × Nat) (W : World) (K : Act → World → Prop), K (a₁ x) W →
      assign.wpIn (Fence.wide.inRound l) 0 Try.prog (Exit.then K (fun _ _ _ => False)) { tmps := (ps.zip (enc2 x)).foldl (fun t (p, v) => t.setIfInBounds p v) a.tmps, defers := [] } W)
    (hbody : ∀ (l : Nat) (pre : List (Nat × Nat)) (S : Nat → Prop) (x : Nat × Nat) (W : World), I pre S W → x.1 < ns.length → x.2 ≤ 100 → pre.length < gs.length → body.wpIn (Fence.wide.inRound l) 0 Try.prog (BodyPost n₀ I Ix (pre ++ [x]) S W) (a₁ x) W)
    (hdone : ∀ (D : Nat) (S : Nat → Prop) (W : World), w.heap.size ≤ D → I gs S W → ¬ S D → W.heap[D]? = some (.deferred (some [])) → Q .normal { a with defers := { target := .collected D, args := #[] } :: a.defers } W)
    (hstop : ∀ (D : Nat) (q : List (Nat × Nat)) (W : World), w.heap.size ≤ D → q <+: gs → Ix q W → W.heap[D]? = some (.deferred (some [])) → Code.ret.wpIn Fence.wide n Try.prog Q { a with defers := { target := .collected D, args := #[] } :: a.defers } W) :
    (Code.rangeFunc g ps assign body).wpIn Fence.wide n Try.prog Q a w := by
  refine wpIn_rangeFunc ?_
  intro fn hfn
  obtain ⟨rec, hrec⟩ : ∃ rec : LoopState → Option Code → Loop, rec = fun st pe => { state := st, pending := pe, fn, tmps := a.tmps, params := ps, assign, body, defers := w.heap.size } := ⟨_, rfl⟩
  obtain ⟨W1, hW1⟩ : ∃ W1, (w.alloc (.deferred (some []))).alloc (.loop (rec .ready none)) = W1 := ⟨_, rfl⟩
  have hz1 : W1.heap.size = w.heap.size + 2 := by rw [← hW1]; simp
  have hL1 : W1.heap[w.heap.size + 1]? = some (.loop (rec .ready none)) := by
    have := World.alloc_heap_new (w.alloc (.deferred (some []))) (.loop (rec .ready none))
    rw [World.size_alloc, hW1] at this
    exact this
  have hK1 : W1.heap[w.heap.size]? = some (.deferred (some [])) := by
    rw [← hW1]; exact (Below.heap_alloc _ _ _ (by simp)).trans (World.alloc_heap_new w _)
  have hb0 := hIs _ _ _ h0
  have hb1 : Below w.heap.size w W1 := by rw [← hW1]; exact ((Below.refl _ w).alloc (Nat.le_refl _) _).alloc (by simp) _
  have hS1 : Sep n₀ S₀ w W1 := ⟨hb1.mono hb0.1, fun k hk _ => hb1.block k hk⟩
  have hx1 : W1.cell? ⟨bx, 0, none⟩ = some (.slice (some ⟨b, off, none⟩) ns.length cap) := (hb1.cell (p := ⟨bx, 0, none⟩) (World.block_lt_of_cell? w ⟨bx, 0, none⟩ hx)).trans hx
  refine ⟨w.heap.size + 1, [{ target := .collected w.heap.size, args := #[] }], W1, { target := .fn (.func 37) #[.pointer (some ⟨bx, 0, none⟩)], args := #[.func (.yield (w.heap.size + 1)) #[] #[]] }, W1, 37,
    #[.func (.yield (w.heap.size + 1)) #[] #[], .pointer (some ⟨bx, 0, none⟩)], W1, ?_, ?_, fun _ _ => trivial, ?_, fun h => (by cases h), ?_⟩
  · rw [← hW1, hrec]; exact run_enterLoop_outer _ _ _ _ _
  · simp only [resolve, hg]
    simp [go_sem]
  · have := enters_of Try.func37 (by kernel_rfl) rfl #[.func (.yield (w.heap.size + 1)) #[] #[], .pointer (some ⟨bx, 0, none⟩)] W1
    simp [invoke, go_sem, this]
  obtain ⟨J, hJd⟩ : ∃ J : List (Nat × Nat) → (Nat → Prop) → World → Prop, J = fun pre T W => ∃ S, (∀ k, T k ↔ S k ∨ k = w.heap.size ∨ k = w.heap.size + 1) ∧ I pre S W ∧ W.heap[w.heap.size + 1]? = some (.loop (rec .ready none)) ∧ W.heap[w.heap.size]? = some (.deferred (some [])) ∧ ¬ S w.heap.size ∧ ¬ S (w.heap.size + 1) := ⟨_, rfl⟩
  obtain ⟨Jx, hJxd⟩ : ∃ Jx : List (Nat × Nat) → World → Prop, Jx = fun q W => Ix q W ∧ W.heap[w.heap.size + 1]? = some (.loop (rec .done (some .ret))) ∧ W.heap[w.heap.size]? = some (.deferred (some [])) := ⟨_, rfl⟩
  have hJ : Bides n₀ J := by
    subst hJd
    refine ⟨?_, ?_⟩
    · rintro pre T W W' ⟨S, hT, hi, hl, hk, hs⟩ hsep
      have hl' := (Array.getElem?_eq_some_iff.1 hl).1
      exact ⟨S, hT, hI _ _ _ _ hi ⟨hsep.below, fun k h1 h2 => hsep.same k h1 ((hT k).2 (.inl h2))⟩, (hsep.same _ hl' ((hT _).2 (by simp))).trans hl, (hsep.same _ (by omega) ((hT _).2 (by simp))).trans hk, hs⟩
    · rintro pre T W ⟨S, hT, hi, hl, hk, hs⟩
      have hl' := (Array.getElem?_eq_some_iff.1 hl).1
      refine ⟨(hIs _ _ _ hi).1, fun k h => ?_⟩
      rcases (hT k).1 h with h | h | h
      · exact (hIs _ _ _ hi).2 k h
      · omega
      · omega
  have hY : Rounds (w.heap.size + 1) n₀ ns.length gs.length J Jx := by
    intro pre T x W hj hx1 hx2 hx3
    rw [hJd] at hj
    obtain ⟨S, hT, hi, hl, hk, hsB, hsL⟩ := hj
    have hlt : w.heap.size + 1 < W.heap.size := (Array.getElem?_eq_some_iff.1 hl).1
    have hn0 := (hIs _ _ _ hi).1
    have hy := run_yield (P := Try.prog) (args := enc2 x) hl (by rw [hrec]; exact hps.symm)
    rw [hrec] at hy
    refine ⟨fn, _, assign, body, hy, roundIn_of_wpIn hfn (hassign _ x W _ ⟨_, run_beginRound hl (by rw [hrec]), ?_⟩)⟩
    obtain ⟨Wb, hWb⟩ : ∃ Wb, W.putObj (w.heap.size + 1) (.loop { rec .ready none with state := .busy }) = Wb := ⟨_, rfl⟩
    have hsb : Sep n₀ S W Wb := by rw [← hWb]; exact Sep.put _ (by omega) hsL hn0
    have hzb : Wb.heap.size = W.heap.size := by rw [← hWb]; simp
    have hlb : Wb.heap[w.heap.size + 1]? = some (.loop { rec .ready none with state := .busy }) := by rw [← hWb]; exact World.putObj_heap_same hlt
    have hkb : Wb.heap[w.heap.size]? = some (.deferred (some [])) := by rw [← hWb]; exact (World.putObj_heap_other (by omega)).trans hk
    have hob : ∀ k, k ≠ w.heap.size + 1 → Wb.heap[k]? = W.heap[k]? := fun k h => by rw [← hWb]; exact World.putObj_heap_other h
    rw [hWb]
    refine wpIn_mono (hbody _ pre S x Wb (hI _ _ _ _ hi hsb) hx1 hx2 hx3) ?_
    rintro e a3 W3 hp
    cases e with
    | normal =>
      obtain ⟨S', hi3, hm⟩ := hp
      have hl3 : W3.heap[w.heap.size + 1]? = some (.loop { rec .ready none with state := .busy }) := (hm.same _ (by omega) hsL).trans hlb
      have hr := run_endRound (P := Try.prog) none hl3
      rw [hrec] at hr
      have hsB' : ¬ S' w.heap.size := fun h => hsB (hm.new _ (by omega) h)
      have hsL' : ¬ S' (w.heap.size + 1) := fun h => hsL (hm.new _ (by omega) h)
      have hz3 := hm.below.size
      refine ⟨_, _, hr, .inl ⟨rfl, fun k => S' k ∨ k = w.heap.size ∨ k = w.heap.size + 1, ?_, ?_⟩⟩
      · rw [hJd]
        refine ⟨S', fun k => Iff.rfl, hI _ _ _ _ hi3 (Sep.put _ (by omega) hsL' (hIs _ _ _ hi3).1), ?_, (World.putObj_heap_other (by omega)).trans ((hm.same _ (by omega) hsB).trans hkb), hsB', hsL'⟩
        rw [hrec]
        exact World.putObj_heap_same (by omega)
      · refine ⟨(hsb.below.trans hm.below).trans (Sep.put (S := S') _ (by omega) hsL' (hIs _ _ _ hi3).1).below, fun k h1 h2 => ?_, fun k h1 h2 => ?_⟩
        · have h3 : ¬ S k := fun h => h2 ((hT k).2 (.inl h))
          have h4 : k ≠ w.heap.size + 1 := fun h => h2 ((hT k).2 (.inr (.inr h)))
          exact (World.putObj_heap_other h4).trans ((hm.same k (by omega) h3).trans (hob k h4))
        · rcases h2 with h2 | h2
          · exact (hT k).2 (.inl (hm.new k (by omega) h2))
          · exact (hT k).2 (.inr h2)
    | ret =>
      obtain ⟨hi3, hz3, hs3⟩ := hp
      have hl3 : W3.heap[w.heap.size + 1]? = some (.loop { rec .ready none with state := .busy }) := (hs3 _ (by omega) hsL).trans hlb
      have hr := run_endRound (P := Try.prog) (some .ret) hl3
      rw [hrec] at hr
      refine ⟨_, _, hr, .inr ⟨rfl, ?_⟩⟩
      rw [hJxd]
      refine ⟨hIx _ _ _ hi3, ?_, (World.putObj_heap_other (by omega)).trans ((hs3 _ (by omega) hsB).trans hkb)⟩
      rw [hrec]
      exact World.putObj_heap_same (by omega)
    | exit id => exact hp.elim
    | goto t => exact hp.elim
    | panic ch => exact hp.elim
    | outgrown => exact hp.elim
  have hj1 : J [] (fun k => S₀ k ∨ k = w.heap.size ∨ k = w.heap.size + 1) W1 := by
    rw [hJd]
    exact ⟨S₀, fun k => Iff.rfl, hI _ _ _ _ h0 hS1, hL1, hK1, fun h => by have := hb0.2 _ h; omega, fun h => by have := hb0.2 _ h; omega⟩
  refine (iter_in (w.heap.size + 1) n₀ b off cap bx ns hL J Jx hJ root hr0 hr wk hY (n - 1) _ W1 (hN.below hS1.below) hx1 hj1).mono ?_
  rintro e W2 ⟨⟨v, rfl⟩, (⟨T, hj⟩ | ⟨q, hq, hj⟩)⟩
  · rw [hJd] at hj
    obtain ⟨S, hT, hi, hl, hk, hsB, hsL⟩ := hj
    have hend := run_endLoop (P := Try.prog) hl (by rw [hrec]; simp)
    rw [hrec] at hend
    exact ⟨none, _, hend, hdone _ S _ (Nat.le_refl _) (hI _ _ _ _ hi (Sep.put _ (by omega) hsL (hIs _ _ _ hi).1)) hsB ((World.putObj_heap_other (by omega)).trans hk)⟩
  · rw [hJxd] at hj
    obtain ⟨hi, hl, hk⟩ := hj
    have hend := run_endLoop (P := Try.prog) hl (by rw [hrec]; simp)
    rw [hrec] at hend
    exact ⟨some .ret, _, hend, hstop _ q _ (Nat.le_refl _) hq (hIx _ _ _ hi) ((World.putObj_heap_other (by omega)).trans hk)⟩
end Go.Proofs.Ytbbpnmdnnjbakaa
