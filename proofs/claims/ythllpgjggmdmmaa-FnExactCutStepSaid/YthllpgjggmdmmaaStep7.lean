/- Copies of what is shared, and what comes of a step: the model. -/
import Derived.Test.YthllpgjggmdmmaaShared
import Derived.Test.YthllpgjggmdmmaaTypes
import Derived.Test.YthllpgjggmdmmaaReads
namespace Go.Proofs.Ythllpgjggmdmmaa
open Go.ChangeShapes Go.WideShapes Go.ChangeAt Go.RowKit
set_option linter.unusedVariables false
set_option linter.unusedSimpArgs false

/-- Nodes and counts that a call hands back, each in a block of its own. -/
def Copied (w : World) (l : List ND) (c : List Int) (e : Ending) (w' : World) : Prop :=
  ∃ (g1 g2 c1 c2 : Nat) (p1 p2 : List Value), e = .returned (.agg #[.slice (some ⟨g1, 0, none⟩) l.length c1, .slice (some ⟨g2, 0, none⟩) c.length c2]) ∧ (l.length ≤ c1 ∧ c1 ≤ maxLen ∧ c.length ≤ c2 ∧ c2 ≤ maxLen ∧ (cellsOf l ++ p1).length = c1 * 8 ∧ (cellsI c ++ p2).length = c2 * 1) ∧
    Mem w w' [(g1, 52, cellsOf l ++ p1), (g2, 2, cellsI c ++ p2)]
theorem ne_types : (52 : TypeId) ≠ 2 := by decide

set_option maxRecDepth 100000 in
set_option maxHeartbeats 4000000 in
theorem spec_l7Copy (u x : Value) (l : List ND) (c : List Int) (w0 : World) (h1 : NSl w0 u l) (h2 : SlI w0 x c) (hl0 : l ≠ []) (hc0 : c ≠ []) (hl : l.length ≤ 1048576) (hc : c.length ≤ 1048576) :
    Calls Try.prog 16 #[.agg #[u, x]] w0 (Copied w0 l c) := by
  have hM := Mem.start w0
  go_enter Try.func16, Try.ntmps16
  refine wp_seq_k fun Kn1 cn1 => ?_
  refine wl_region ?_
  refine wl_box (by kernel_rfl) hM 33 _ rfl [u, x] rfl ?_
  clear hM; intro g1 W1 hM
  go_frame
  refine wl_alloc (by kernel_rfl) hM 33 rfl [.slice none 0 0, .slice none 0 0] Z_impl_Shared ?_
  clear hM; intro g2 W2 hM
  go_frame
  refine wl_nil ?_
  refine cn1 _ _ ?_
  clear cn1
  refine wp_seq_k fun Kn2 cn2 => ?_
  refine wp_region_inv_tail 7 (fun D act w => ∃ (s3 s4 s5 s6 s7 s8 s9 : Value) (E : List Bk), act = ⟨#[.agg #[u, x], .pointer (some ⟨g1, 0, none⟩), .pointer (some ⟨g2, 0, none⟩), s3, s4, s5, s6, s7, s8, s9], []⟩ ∧ Mem w0 w (E ++ [(g2, 33, [Value.slice none 0 0, .slice none 0 0]), (g1, 33, [u, x])]) ∧ (D 0 → s3 = .pointer (some ⟨g1, 0, none⟩)) ∧ (D 1 → s4 = u) ∧ (D 2 → ∃ (g k : Nat) (p : List Value), s5 = .slice (some ⟨g, 0, none⟩) l.length k ∧ (l.length ≤ k ∧ k ≤ maxLen ∧ (cellsOf l ++ p).length = k * 8) ∧ (g, 52, cellsOf l ++ p) ∈ E) ∧ (D 3 → s6 = .pointer (some ⟨g1, 1, none⟩)) ∧ (D 4 → s7 = x) ∧ (D 5 → ∃ (g k : Nat) (p : List Value), s8 = .slice (some ⟨g, 0, none⟩) c.length k ∧ (c.length ≤ k ∧ k ≤ maxLen ∧ (cellsI c ++ p).length = k * 1) ∧ (g, 2, cellsI c ++ p) ∈ E) ∧ (D 6 → ∃ (g k : Nat) (p : List Value) (g' k' : Nat) (p' : List Value), s9 = .agg #[.slice (some ⟨g, 0, none⟩) l.length k, .slice (some ⟨g', 0, none⟩) c.length k'] ∧ (l.length ≤ k ∧ k ≤ maxLen ∧ c.length ≤ k' ∧ k' ≤ maxLen ∧ (cellsOf l ++ p).length = k * 8 ∧ (cellsI c ++ p').length = k' * 1) ∧ (g, 52, cellsOf l ++ p) ∈ E ∧ (g', 2, cellsI c ++ p') ∈ E)) (by kernel_rfl) (by kernel_rfl) (by kernel_rfl) (by simp) ?_ ?_ ?_
  · exact ⟨undef, undef, undef, undef, undef, undef, undef, [], rfl, hM.drew, fun h => h.elim, fun h => h.elim, fun h => h.elim, fun h => h.elim, fun h => h.elim, fun h => h.elim, fun h => h.elim⟩
  · intro i o ho hi
    have hh : i = 0 ∨ i = 1 ∨ i = 2 ∨ i = 3 ∨ i = 4 ∨ i = 5 ∨ i = 6 := by omega
    clear hi
    rcases hh with rfl | rfl | rfl | rfl | rfl | rfl | rfl
    all_goals
      simp only [List.getElem?_toArray, List.getElem?_cons_zero, List.getElem?_cons_succ, Option.some.injEq] at ho
      subst ho
      rintro D act w K hpre ⟨s3, s4, s5, s6, s7, s8, s9, E, rfl, hM, f0, f1, f2, f3, f4, f5, f6⟩ hK
    · refine step_want (by kernel_rfl) ?_; exact m_pure (.pointer (some ⟨g1, 0, none⟩)) (by kernel_rfl) (hK.out _ _ ⟨_, _, _, _, _, _, _, _, rfl, hM, fun _ => rfl, fun hD => f1 (hD.resolve_right (by decide)), fun hD => f2 (hD.resolve_right (by decide)), fun hD => f3 (hD.resolve_right (by decide)), fun hD => f4 (hD.resolve_right (by decide)), fun hD => f5 (hD.resolve_right (by decide)), fun hD => f6 (hD.resolve_right (by decide))⟩)
    · obtain rfl := f0 (hpre ⟨0, .data⟩ (by simp) rfl)
      refine step_want (by kernel_rfl) ?_; exact m_loadc hM.tail 1 rfl 31 _ rfl 0 rfl Try.underlying31 rfl rfl (hK.out _ _ ⟨_, _, _, _, _, _, _, _, rfl, hM, fun hD => f0 (hD.resolve_right (by decide)), fun _ => rfl, fun hD => f2 (hD.resolve_right (by decide)), fun hD => f3 (hD.resolve_right (by decide)), fun hD => f4 (hD.resolve_right (by decide)), fun hD => f5 (hD.resolve_right (by decide)), fun hD => f6 (hD.resolve_right (by decide))⟩)
    · obtain rfl := f1 (hpre ⟨1, .data⟩ (by simp) rfl)
      refine step_want (by kernel_rfl) ?_
      refine m_call 41 #[s4] (by kernel_rfl) (spec_copy s4 l w (h1.below (hM.below.mono (Nat.le_refl _))) hl0 hl) ?_
      rintro e W ⟨g, v, rfl, hg, ⟨k, p, rfl, hk, hm, ⟨-, hx⟩, hO⟩, hb⟩
      exact ⟨_, rfl, hK.out _ _ ⟨_, _, _, _, _, _, _, (_ :: E), rfl, hM.got hb hg hO, fun hD => f0 (hD.resolve_right (by decide)), fun hD => f1 (hD.resolve_right (by decide)), fun _ => ⟨g, k, p, rfl, ⟨hk, hm, hx⟩, List.mem_cons_self⟩, fun hD => f3 (hD.resolve_right (by decide)), fun hD => f4 (hD.resolve_right (by decide)), fun hD => by obtain ⟨g, k, p, h1, h2, h3⟩ := f5 (hD.resolve_right (by decide)); exact ⟨g, k, p, h1, h2, List.mem_cons_of_mem _ h3⟩, fun hD => by obtain ⟨g, k, p, g', k', p', h1, h2, h3, h4⟩ := f6 (hD.resolve_right (by decide)); exact ⟨g, k, p, g', k', p', h1, h2, List.mem_cons_of_mem _ h3, List.mem_cons_of_mem _ h4⟩⟩⟩
    · refine step_want (by kernel_rfl) ?_; exact m_pure (.pointer (some ⟨g1, 1, none⟩)) (by kernel_rfl) (hK.out _ _ ⟨_, _, _, _, _, _, _, _, rfl, hM, fun hD => f0 (hD.resolve_right (by decide)), fun hD => f1 (hD.resolve_right (by decide)), fun hD => f2 (hD.resolve_right (by decide)), fun _ => rfl, fun hD => f4 (hD.resolve_right (by decide)), fun hD => f5 (hD.resolve_right (by decide)), fun hD => f6 (hD.resolve_right (by decide))⟩)
    · obtain rfl := f3 (hpre ⟨3, .data⟩ (by simp) rfl)
      refine step_want (by kernel_rfl) ?_; exact m_loadc hM.tail 1 rfl 23 _ rfl 1 rfl Try.underlying23 rfl rfl (hK.out _ _ ⟨_, _, _, _, _, _, _, _, rfl, hM, fun hD => f0 (hD.resolve_right (by decide)), fun hD => f1 (hD.resolve_right (by decide)), fun hD => f2 (hD.resolve_right (by decide)), fun hD => f3 (hD.resolve_right (by decide)), fun _ => rfl, fun hD => f5 (hD.resolve_right (by decide)), fun hD => f6 (hD.resolve_right (by decide))⟩)
    · obtain rfl := f4 (hpre ⟨4, .data⟩ (by simp) rfl)
      refine step_want (by kernel_rfl) ?_
      refine m_call 42 #[s7] (by kernel_rfl) (spec_copyI s7 c w (h2.below (hM.below.mono (Nat.le_refl _))) hc0 hc) ?_
      rintro e W ⟨g, v, rfl, hg, ⟨k, p, rfl, hk, hm, ⟨-, hx⟩, hO⟩, hb⟩
      exact ⟨_, rfl, hK.out _ _ ⟨_, _, _, _, _, _, _, (_ :: E), rfl, hM.got hb hg hO, fun hD => f0 (hD.resolve_right (by decide)), fun hD => f1 (hD.resolve_right (by decide)), fun hD => by obtain ⟨g, k, p, h1, h2, h3⟩ := f2 (hD.resolve_right (by decide)); exact ⟨g, k, p, h1, h2, List.mem_cons_of_mem _ h3⟩, fun hD => f3 (hD.resolve_right (by decide)), fun hD => f4 (hD.resolve_right (by decide)), fun _ => ⟨g, k, p, rfl, ⟨hk, hm, hx⟩, List.mem_cons_self⟩, fun hD => by obtain ⟨g, k, p, g', k', p', h1, h2, h3, h4⟩ := f6 (hD.resolve_right (by decide)); exact ⟨g, k, p, g', k', p', h1, h2, List.mem_cons_of_mem _ h3, List.mem_cons_of_mem _ h4⟩⟩⟩
    · obtain ⟨g, k, p, rfl, ⟨a1, a2, a5⟩, b1⟩ := f2 (hpre ⟨2, .data⟩ (by simp) rfl)
      obtain ⟨g', k', p', rfl, ⟨a3, a4, a6⟩, b2⟩ := f5 (hpre ⟨5, .data⟩ (by simp) rfl)
      refine step_want (by kernel_rfl) ?_; exact m_pure (.agg #[.slice (some ⟨g, 0, none⟩) l.length k, .slice (some ⟨g', 0, none⟩) c.length k']) (by kernel_rfl) (hK.out _ _ ⟨_, _, _, _, _, _, _, _, rfl, hM, fun hD => f0 (hD.resolve_right (by decide)), fun hD => f1 (hD.resolve_right (by decide)), fun hD => f2 (hD.resolve_right (by decide)), fun hD => f3 (hD.resolve_right (by decide)), fun hD => f4 (hD.resolve_right (by decide)), fun hD => f5 (hD.resolve_right (by decide)), fun _ => ⟨g, k, p, g', k', p', rfl, ⟨a1, a2, a3, a4, a5, a6⟩, b1, b2⟩⟩)
  · intro D act w' hD hI
    obtain ⟨s3, s4, s5, s6, s7, s8, s9, E, rfl, hM', f0, f1, f2, f3, f4, f5, f6⟩ := hI
    obtain ⟨m1, k1, p1, m2, k2, p2, rfl, ⟨q1, q2, q3, q4, q5, q6⟩, e1, e2⟩ := f6 (hD 6 (by decide))
    clear hM
    have hM := hM'.front2 e1 e2 (fun h => ne_types (congrArg (fun b => b.2.1) h))
    refine WL.out ?_
    simp only [List.drop_succ_cons, List.drop_zero, List.toList_toArray]
    refine wl_store (by kernel_rfl) hM 2 rfl 33 _ _ rfl rfl rfl [.slice (some ⟨m1, 0, none⟩) l.length k1, .slice (some ⟨m2, 0, none⟩) c.length k2] rfl I_impl_Shared rfl rfl ?_
    clear hM; intro W3 hM
    refine wl_nil ?_
    refine cn2 _ _ ?_
    clear cn2
    refine wp_ret ?_
    exact bodyPost_ret (ret_row rfl hM 2 rfl rfl Try.underlying33 I_impl_Shared) rfl ⟨m1, m2, k1, k2, p1, p2, rfl, ⟨q1, q2, q3, q4, q5, q6⟩, hM.sub (fun i => i) (fun i b hb => by match i, hb with | 0, hb => exact hb | 1, hb => exact hb | (n + 2), hb => simp at hb) (fun i j _ _ e => e)⟩
end Go.Proofs.Ythllpgjggmdmmaa
