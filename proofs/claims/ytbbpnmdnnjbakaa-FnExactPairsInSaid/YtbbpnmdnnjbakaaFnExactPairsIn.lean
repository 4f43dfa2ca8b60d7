/- FnExactPairsIn: whatever the arguments are, the law answers true and leaves them as they were. No condition. -/
import Derived.Test.YtbbpnmdnnjbakaaOpen
import Derived.Test.YtbbpnmdnnjbakaaPairsImpl
namespace Go.Proofs.Ytbbpnmdnnjbakaa.fnExactPairsIn
open Go.ChangeShapes Go.WideShapes Go.ChangeAt Go.RowKit
set_option linter.unusedVariables false
set_option linter.unusedSimpArgs false

theorem row_sl {w : World} {B : Nat} {e : TypeId} {sz n oc : Nat} {oa : Option Addr} {cs : List Value} (hsz : 0 < sz) (h : w.ownsRow B e sz (.slice oa n oc) n cs) : Sl w (.slice oa n oc) sz n cs := by
  rcases Nat.eq_zero_or_pos n with h0 | h0
  · subst h0
    have hl : cs = [] := List.length_eq_zero_iff.1 (by rw [h.1]; simp)
    subst hl
    rcases h.2 with ⟨hv, -⟩ | ⟨g, cap, cur, hv, hb, hg, h1, h2, -⟩
    · cases hv
      exact ⟨none, 0, rfl, Nat.le_refl _, by simp [maxLen], by simp, .inl rfl⟩
    · cases hv
      exact ⟨_, _, rfl, h1, h2, by simp, .inl rfl⟩
  · obtain ⟨g, cap, hv, hb, hg⟩ := h.form h0
    cases hv
    exact (own_of_row h).sl
theorem pairs_len (l : List ND) : (pairsB l).length ≤ 30 := by
  unfold pairsB
  split
  · rename_i h
    obtain ⟨xs, hh, t, e, h1, -⟩ := tree_of h
    rw [List.length_map, e]
    exact h1
  · simp
theorem mark_row (oa : Option Addr) (n oc B : Nat) (cs : List Value) (m : Int) (w : World) (h : w.ownsRow B 49 2 (.slice oa n oc) n cs) (hn : n ≤ 1048576) (m0 : 0 ≤ m) (m1 : m ≤ 1099511627776) :
    Calls Try.prog 16 #[.slice oa n oc, .int .i64 m] w fun e w' => e = .returned (.int .i64 (m + 2 * n)) ∧ SlP w' (.slice oa n oc) (markLP m n) ∧ w.grownBy w' (Value.slice oa n oc).ownBlock := by
  rcases Nat.eq_zero_or_pos n with h0 | h0
  · subst h0
    have hs := row_sl (by omega) h
    obtain ⟨a, cap, hv, -, hc, -⟩ := hs
    cases hv
    refine (markPairS_nil oa oc m w m0 m1).mono ?_
    rintro e w' ⟨rfl, hb⟩
    exact ⟨ret_i (by omega), ⟨oa, oc, rfl, Nat.zero_le _, hc, rfl, .inl rfl⟩, hb.os, hb.tape, hb.output, hb.size, fun k hk _ => hb.block k hk⟩
  · obtain ⟨g, cap, hv, hb, hg⟩ := h.form h0
    cases hv
    refine (markPairS_own _ g n cs m w (own_of_row h) hn m0 m1).mono ?_
    rintro e w' ⟨rfl, hO, hB⟩
    refine ⟨rfl, ?_, hB.os, hB.tape, hB.output, hB.size, fun k hk hne => hB.block k hk (fun e => hne (by rw [e]; rfl))⟩
    have := hO.sl
    rw [← markLP_len m n] at this
    unfold SlP
    rwa [markLP_len] at this ⊢

set_option maxHeartbeats 2000000 in
theorem walk (v : Value) (l : List ND) (w : World) (h : NSl w v l) :
    Calls Try.prog 4 #[v] w fun e w' => e = .returned (.bool true) ∧ Below w.heap.size w w' := by
  by_cases hl : l.length ≤ 1048576
  · obtain ⟨a, cap, rfl, _⟩ := id h
    have z0 : ¬ ((1048576 : Nat) : Int) - (l.length : Int) < 0 := by omega
    have z1 : ¬ (1 + 8 * (l.length : Int) < 0) := by omega
    have hpl := pairs_len l
    have z2 : ¬ (1 + 2 * ((pairsB l).length : Int) < 0) := by omega
    have H := Lib.hid h
    clear h
    go_enter Try.func4, Try.ntmps4
    go_wp2_with fail
    refine (szNodeS_in _ _ _ 1048576 _ hl (by omega)).mono ?_
    rintro e w1 ⟨rfl, rfl⟩
    go_wp2_with fail
    refine (toNodeS_any _ l _ H.out hl).mono ?_
    rintro e w1 ⟨g1, u1, rfl, hg1, hO1, hB1⟩
    go_wp2_with fail
    refine (spec_PairsIn _ l _ hO1.sl hl).mono ?_
    rintro e w2 ⟨oa2, oc2, rfl, hR2, hB2⟩
    have hB2' := hB1.trans (hB2.mono hB1.size)
    go_wp2_with fail
    refine (toNodeS_any _ l _ (H.out.below hB2') hl).mono ?_
    rintro e w3 ⟨g3, u3, rfl, hg3, hO3, hB3⟩
    have hB3' := hB2'.trans (hB3.mono hB2'.size)
    have hR3 := row_below hR2 (Nat.le_refl _) hB3
    go_wp2_with fail
    refine (impl_PairsIn _ l _ hO3.sl hl).mono ?_
    rintro e w4 ⟨oa4, oc4, rfl, hP4, hB4⟩
    have hB4' := hB3'.trans (hB4.mono hB3'.size)
    have hO4 := hO3.below hB4 hO3.lt
    have hR4 := row_below hR3 (Nat.le_refl _) hB4
    go_wp2_with fail
    refine (eqPairS_same _ _ (pairsB l) _ (row_sl (by omega) hP4) (row_sl (by omega) hR4)).mono ?_
    rintro e w5 ⟨rfl, hB5⟩
    have hB5' := hB4'.trans (hB5.mono hB4'.size)
    have hO5 := hO4.below hB5 hO4.lt
    have hR5 := row_below hR4 (Nat.le_refl _) hB5
    have hP5 := row_below hP4 (Nat.le_refl _) hB5
    go_wp2_with fail
    refine (toNodeS_any _ l _ (H.out.below hB5') hl).mono ?_
    rintro e w6 ⟨g6, u6, rfl, hg6, hO6, hB6⟩
    have hB6' := hB5'.trans (hB6.mono hB5'.size)
    have hO7 := hO5.below hB6 hO5.lt
    have hR6 := row_below hR5 (Nat.le_refl _) hB6
    have hP6 := row_below hP5 (Nat.le_refl _) hB6
    go_wp2_with fail
    refine (eqNodeS_same _ _ l _ hO7.sl hO6.sl).mono ?_
    rintro e w7 ⟨rfl, hB7⟩
    have hB7' := hB6'.trans (hB7.mono hB6'.size)
    have hO8 := hO7.below hB7 hO7.lt
    have hR7 := row_below hR6 (Nat.le_refl _) hB7
    have hP7 := row_below hP6 (Nat.le_refl _) hB7
    go_wp2_with fail
    refine (markNodeS_own _ g3 l.length _ 1 _ hO8 hl (by omega) (by omega)).mono ?_
    rintro e w8 ⟨rfl, hM8, hU8⟩
    have s1 := hB1.size
    have s2 := hB2.size
    have s3 := hB3.size
    have l3 := hO3.lt
    have lR : ∀ k, (Value.slice oa2 (pairsB l).length oc2).ownBlock = some k → k < w2.heap.size := fun k hk => (row_lt hR2 hk).2
    have lP : ∀ k, (Value.slice oa4 (pairsB l).length oc4).ownBlock = some k → w3.heap.size ≤ k := fun k hk => (row_lt hP4 hk).1
    have hR8 := row_same hR7 (fun k hk => hU8.block k (row_lt hR7 hk).2 (fun e => by have := lR k hk; omega))
    have hP8 := row_same hP7 (fun k hk => hU8.block k (row_lt hP7 hk).2 (fun e => by have := lP k hk; omega))
    have s7 := hB7'.size
    have hB8' := hB7'.trans (hU8.below (B := w.heap.size) (by omega) s7)
    go_wp2_with fail
    refine (eqPairS_same _ _ (pairsB l) _ (row_sl (by omega) hP8) (row_sl (by omega) hR8)).mono ?_
    rintro e w9 ⟨rfl, hB9⟩
    have hB9' := hB8'.trans (hB9.mono hB8'.size)
    have hR9 := row_below hR8 (Nat.le_refl _) hB9
    have hP9 := row_below hP8 (Nat.le_refl _) hB9
    go_wp2_with fail
    refine (mark_row _ _ _ _ _ 1 _ hP9 (by omega) (by omega) (by omega)).mono ?_
    rintro e w10 ⟨rfl, hQ10, hG10⟩
    have hR10 := row_same hR9 (fun k hk => hG10.block k (row_lt hR9 hk).2 (fun e => by have := lR k hk; have := lP k e.symm; omega))
    have hB10' := hB9'.grown hG10 hB9'.size (fun k e => by have := lP k e; omega)
    go_wp2_with fail
    refine (heldPairS_same _ _ 1 _ hQ10 (by omega) (by omega) (by omega)).mono ?_
    rintro e w11 ⟨rfl, rfl⟩
    go_wp2_with fail
    refine (toNodeS_any _ l _ (H.out.below hB10') hl).mono ?_
    rintro e w12 ⟨g12, u12, rfl, hg12, hO12, hB12⟩
    have hB12' := hB10'.trans (hB12.mono hB10'.size)
    have hR12 := row_below hR10 (Nat.le_refl _) hB12
    have hQ12 := hQ10.below hB12
    go_wp2_with fail
    refine (impl_PairsIn _ l _ hO12.sl hl).mono ?_
    rintro e w13 ⟨oa13, oc13, rfl, hP13, hB13⟩
    have hB13' := hB12'.trans (hB13.mono hB12'.size)
    have hR13 := row_below hR12 (Nat.le_refl _) hB13
    have hQ13 := hQ12.below hB13
    go_wp2_with fail
    refine (eqPairS_same _ _ (pairsB l) _ (row_sl (by omega) hP13) (row_sl (by omega) hR13)).mono ?_
    rintro e w14 ⟨rfl, hB14⟩
    have hB14' := hB13'.trans (hB14.mono hB13'.size)
    have hQ14 := hQ13.below hB14
    go_wp2_with fail
    refine (heldPairS_same _ _ 1 _ hQ14 (by omega) (by omega) (by omega)).mono ?_
    rintro e w15 ⟨rfl, rfl⟩
    go_wp2
    go_ret
    exact ⟨rfl, hB14'⟩
  · obtain ⟨a, cap, rfl, hc1, hc2, _⟩ := h
    go_enter Try.func4, Try.ntmps4
    go_wp2_with fail
    refine (szNodeS_out _ _ _ 1048576 _ (by omega) (by omega) (by omega)).mono ?_
    rintro e w1 ⟨rfl, rfl⟩
    go_wp2
    go_ret
    exact ⟨rfl, Below.refl _ _⟩

set_option maxRecDepth 100000 in
theorem lifted (os : Os) (started : os.Started) (H : Type) (enc : TypeId × Value → H) :
    ReturnsInHanded {} Try.checked os 4 .any (Rows.fnExactPairsInSpec.pre6 enc Try.prog Try.f4 Rows.fnExactPairsInRow.domain false) (Rows.fnExactPairsInSpec.post enc Try.prog Try.f4 false true false false) := by
  refine returnsInHanded_of_change (C := Try.checked) own started (by kernel_rfl) Try.func4
    (ChangeSpec.witness6 (enc := enc) (C := Try.checked) false ⟨#[], #[.slice none 0 0], []⟩ 8 (by kernel_rfl) (by kernel_rfl) (by kernel_rfl) (by kernel_rfl)) ?_
  intro W base args ds gs before hval0 hW hcnd _
  have hval : ∀ (j : Nat) t v, Try.f4.params[j]? = some t → args[j]? = some v → Value.okWide Try.prog W .any base t v := hval0
  have hW' := hW
  obtain ⟨p, q, hA0, hV, rfl, hfz, hnd⟩ := hW
  have hA : DataW.TrodAll enc Try.prog W 0 (fun _ => true) true Try.f4.params.toList args.toList ds p := hA0
  rw [Try.params4] at hA hval
  obtain ⟨v0, vs0, d0, ds0, p0, q0, hargs, rfl, rfl, h0, r0⟩ := trodAll_cons hA
  obtain ⟨rfl, rfl, rfl⟩ := trodAll_nil r0
  obtain rfl : args = #[v0] := by cases args; simp_all
  obtain ⟨rfl, rfl⟩ := trodVars_none hV
  have k0 := h0
  have lt0 : ∀ x ∈ p0, x.block < W.heap.size := by obtain ⟨m, hm⟩ := k0; exact DataW.trod_lt m _ _ _ hm
  obtain ⟨l_0, hl_0⟩ := open_nodes (hval 0 22 v0 rfl rfl) h0
  clear hA0 hval0
  refine (walk v0 l_0 W hl_0).mono fun e W' ⟨he, bel⟩ => ?_
  subst he
  exact ⟨_, rfl, _, _, _, [], _, [], hW', trodAll_mk1 (shut_bool Try.underlying4 _), (trodAll_cons_mk (Below.trod laidOut (by kernel_rfl) (of_decide_eq_true (by kernel_rfl)) k0 bel lt0) trodAll_mk0), rfl, bel.frame _, fun h => by cases h⟩

theorem over : Rows.fnExactPairsInRow.holds Try.pinned (OpenSpec.ofChange Rows.fnExactPairsInSpec) :=
  OpenClaim.holds_of_wide 4 Try.f4 rfl rfl rfl rfl rfl rfl rfl ⟨rfl, rfl, rfl, rfl, rfl⟩ rfl rfl rfl rfl rfl (by kernel_rfl) Try.func4 (by kernel_rfl)
    (of_decide_eq_true (by kernel_rfl)) (by unfold Func.isWrapper; rw [if_neg (of_decide_eq_false (by kernel_rfl))]; exact ⟨rfl, rfl⟩)
    (fun os started H enc _ => lifted os started H enc)

theorem proved : Rows.FnExactPairsInSaid := over
end Go.Proofs.Ytbbpnmdnnjbakaa.fnExactPairsIn
