/- FnExactCutStep: whatever the arguments are, the law answers true and leaves them as they were. No condition. -/
import Derived.Test.YthllpgjggmdmmaaCutStepDone
import Derived.Test.YthllpgjggmdmmaaCutStepNot
namespace Go.Proofs.Ythllpgjggmdmmaa.fnExactCutStep
open Go.ChangeShapes Go.WideShapes Go.ChangeAt Go.RowKit
set_option linter.unusedVariables false
set_option linter.unusedSimpArgs false

set_option maxRecDepth 100000 in
set_option maxHeartbeats 8000000 in
theorem walk (ua : Option Addr) (uc : Nat) (xa : Option Addr) (xc : Nat) (l : List ND) (c : List Int) (task : Int) (h : HD) (w0 : World) (h1 : NSl w0 (.slice ua l.length uc) l) (h2 : SlI w0 (.slice xa c.length xc) c) (ht : In64 task) (_ : h.Fits) :
    Calls Try.prog 3 #[.agg #[.slice ua l.length uc, .slice xa c.length xc], .int .i64 task, h.val] w0 fun e w' => e = .returned (.bool true) ∧ Below w0.heap.size w0 w' := by
  rcases Nat.lt_or_ge 1048576 (l.length + c.length) with hz | hz
  · skip
    have hn : l.length ≤ maxLen := by obtain ⟨a, k, e, h1', h2', -⟩ := h1; omega
    have hm : c.length ≤ maxLen := by obtain ⟨a, k, e, h1', h2', -⟩ := h2; omega
    unfold HD.val
    have hM := Mem.start w0
    go_enter Try.func3, Try.ntmps3
    refine wp_seq_k fun Kn1 cn1 => ?_
    refine wl_region ?_
    refine wl_box (by kernel_rfl) hM 25 _ rfl [.slice ua l.length uc, .slice xa c.length xc] rfl ?_
    clear hM; intro g1 W1 hM
    go_frame
    refine wl_box (by kernel_rfl) hM 29 _ rfl (HD.cells h) rfl ?_
    clear hM; intro g2 W2 hM
    go_frame
    refine wl_pure (by kernel_rfl) (.bool false) (by kernel_rfl) ?_
    go_frame
    refine wl_nil ?_
    refine cn1 _ _ ?_
    clear cn1
    refine wp_seq_k fun Kn2 cn2 => ?_
    refine wl_region ?_
    refine wl_pure (by kernel_rfl) (.int .i64 1048576) (by kernel_rfl) ?_
    go_frame
    refine wl_nil ?_
    refine cn2 _ _ ?_
    clear cn2
    refine wp_seq_k fun Kn3 cn3 => ?_
    refine wl_region ?_
    refine wl_load (by kernel_rfl) hM 1 rfl 25 _ rfl rfl Try.underlying25 I_laws_Shared ?_
    go_frame
    refine wl_pure (by kernel_rfl) (.int .i64 1048576) (by kernel_rfl) ?_
    go_frame
    refine wl_call (by kernel_rfl) 4 #[.agg #[.slice ua l.length uc, .slice xa c.length xc], .int .i64 1048576] (by kernel_rfl) (szShared_over ua l.length uc xa c.length xc _ hz hn hm) ?_
    rintro e W3 ⟨rfl, hb⟩
    refine ⟨_, rfl, ?_⟩
    replace hM := hM.call hb
    go_frame
    refine wl_pure (by kernel_rfl) (.int .i64 (-1)) (by kernel_rfl) ?_
    go_frame
    refine wl_nil ?_
    refine cn3 _ _ ?_
    clear cn3
    refine wp_seq_k fun Kn4 cn4 => ?_
    refine wp_seq_k fun Kn5 cn5 => ?_
    refine wl_region ?_
    refine wl_pure (by kernel_rfl) (.int .i64 (-1)) (by kernel_rfl) ?_
    go_frame
    refine wl_pure (by kernel_rfl) (.bool true) (by kernel_rfl) ?_
    go_frame
    refine wl_nil ?_
    refine cn5 _ _ ?_
    clear cn5
    refine wp_cond_true rfl ?_
    refine wp_seq_k fun Kn6 cn6 => ?_
    refine wl_region ?_
    refine wl_pure (by kernel_rfl) (.bool true) (by kernel_rfl) ?_
    go_frame
    refine wl_nil ?_
    refine cn6 _ _ ?_
    clear cn6
    refine wp_ret ?_
    simp only [Exit.then, Exit.inBlock]
    exact bodyPost_ret (v := .bool true) (ret_tmp 6 rfl rfl) rfl ⟨rfl, hM.below⟩
  · have hl : l.length ≤ 1048576 := by omega
    have hc : c.length ≤ 1048576 := by omega
    have hS := fun (w : World) (u x : Value) (h1 : NSl w u l) (h2 : SlI w x c) => spec_CutStep u x l c task h w h1 h2 hl hc
    have hI := fun (w : World) (ua : Option Addr) (uc : Nat) (xa : Option Addr) (xc : Nat) (h1 : NSl w (.slice ua l.length uc) l) (h2 : SlI w (.slice xa c.length xc) c) => impl_CutStep ua uc xa xc l c task h w h1 h2 hl hc
    rcases cutR_cases l c task h with ⟨lo, co, ho, bo, e, ⟨hlo, hlo'⟩, ⟨hco, hco'⟩⟩ | e
    · rw [e] at hS hI
      exact fnExactCutStep_Done ua uc xa xc l c task h lo co ho hlo hlo' hco hco' bo w0 h1 h2 hz hS hI
    · rw [e] at hS hI
      exact fnExactCutStep_Not ua uc xa xc l c task h w0 h1 h2 hz hS hI

set_option maxRecDepth 100000 in
theorem lifted (os : Os) (started : os.Started) (H : Type) (enc : TypeId × Value → H) :
    ReturnsInHanded {} Try.checked os 3 .any (Rows.fnExactCutStepSpec.pre6 enc Try.prog Try.f3 Rows.fnExactCutStepRow.domain false) (Rows.fnExactCutStepSpec.post enc Try.prog Try.f3 false true false false) := by
  refine returnsInHanded_of_change (C := Try.checked) own started (by kernel_rfl) Try.func3
    (ChangeSpec.witness6 (enc := enc) (C := Try.checked) false ⟨#[], #[.agg #[.slice none 0 0, .slice none 0 0], .int .i64 0, .agg #[.int .i64 0, .int .i64 0, .int .i64 0, .int .i64 0, .int .i64 0, .int .i64 0, .int .i64 0, .int .i64 0, .int .i64 0, .int .i64 0, .int .i64 0, .int .i64 0, .int .i64 0, .bool false, .int .i64 0, .int .i64 0, .int .i64 0]], []⟩ 8 (by kernel_rfl) (by kernel_rfl) (by kernel_rfl) (by kernel_rfl)) ?_
  intro W base args ds gs before hval0 hW hcnd _
  have hval : ∀ (j : Nat) t v, Try.f3.params[j]? = some t → args[j]? = some v → Value.okWide Try.prog W .any base t v := hval0
  have hW' := hW
  obtain ⟨p, q, hA0, hV, rfl, hfz, hnd⟩ := hW
  have hA : DataW.TrodAll enc Try.prog W 0 (fun _ => true) true Try.f3.params.toList args.toList ds p := hA0
  rw [Try.params3] at hA hval
  obtain ⟨v0, vs0, d0, ds0, p0, q0, hargs, rfl, rfl, h0, r0⟩ := trodAll_cons hA
  obtain ⟨v1, vs1, d1, ds1, p1, q1, rfl, rfl, rfl, h1, r1⟩ := trodAll_cons r0
  obtain ⟨v2, vs2, d2, ds2, p2, q2, rfl, rfl, rfl, h2, r2⟩ := trodAll_cons r1
  obtain ⟨rfl, rfl, rfl⟩ := trodAll_nil r2
  obtain rfl : args = #[v0, v1, v2] := by cases args; simp_all
  obtain ⟨rfl, rfl⟩ := trodVars_none hV
  have k0 := h0
  have lt0 : ∀ x ∈ p0, x.block < W.heap.size := by obtain ⟨m, hm⟩ := k0; exact DataW.trod_lt m _ _ _ hm
  obtain ⟨ua, uc, xa, xc, l_0, c_0, rfl, hl_0, hc_0⟩ := open_shared (hval 0 25 v0 rfl rfl) h0
  obtain ⟨a1, rfl, rfl, rfl, w1⟩ := open_int Try.underlying2 (hval 1 2 v1 rfl rfl) h1
  have k2 := h2
  have lt2 : ∀ x ∈ p2, x.block < W.heap.size := by obtain ⟨m, hm⟩ := k2; exact DataW.trod_lt m _ _ _ hm
  obtain ⟨h_2, rfl, bd2⟩ := open_hand (hval 2 29 v2 rfl rfl) h2
  clear hA0 hval0
  refine (walk ua uc xa xc l_0 c_0 a1 h_2 W hl_0 hc_0 (in64_wf w1) bd2).mono fun e W' ⟨he, bel⟩ => ?_
  subst he
  exact ⟨_, rfl, _, _, _, [], _, [], hW', trodAll_mk1 (shut_bool Try.underlying4 _), (trodAll_cons_mk (Below.trod laidOut (by kernel_rfl) (of_decide_eq_true (by kernel_rfl)) k0 bel lt0) (trodAll_cons_mk (shut_int Try.underlying2 w1) (trodAll_cons_mk (Below.trod laidOut (by kernel_rfl) (of_decide_eq_true (by kernel_rfl)) k2 bel lt2) trodAll_mk0))), rfl, bel.frame _, fun h => by cases h⟩

theorem over : Rows.fnExactCutStepRow.holds Try.pinned (OpenSpec.ofChange Rows.fnExactCutStepSpec) :=
  OpenClaim.holds_of_wide 3 Try.f3 rfl rfl rfl rfl rfl rfl rfl ⟨rfl, rfl, rfl, rfl, rfl⟩ rfl rfl rfl rfl rfl (by kernel_rfl) Try.func3 (by kernel_rfl)
    (of_decide_eq_true (by kernel_rfl)) (by unfold Func.isWrapper; rw [if_neg (of_decide_eq_false (by kernel_rfl))]; exact ⟨rfl, rfl⟩)
    (fun os started H enc _ => lifted os started H enc)

theorem proved : Rows.FnExactCutStepSaid := over
end Go.Proofs.Ythllpgjggmdmmaa.fnExactCutStep
