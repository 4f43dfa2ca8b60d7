/- FnExactSharedOk: whatever the arguments are, the law answers true and leaves them as they were. No condition. -/
import Derived.Test.YtoamnecoiicljaaLawShared
namespace Go.Proofs.Ytoamnecoiicljaa.fnExactSharedOk
open Go.ChangeShapes Go.WideShapes Go.ChangeAt Go.RowKit
set_option linter.unusedVariables false
set_option linter.unusedSimpArgs false

set_option maxRecDepth 100000 in
set_option maxHeartbeats 8000000 in
theorem walk (ua : Option Addr) (uc : Nat) (xa : Option Addr) (xc : Nat) (l : List ND) (c : List Int) (w0 : World) (h1 : NSl w0 (.slice ua l.length uc) l) (h2 : SlI w0 (.slice xa c.length xc) c) :
    Calls Try.prog 3 #[.agg #[.slice ua l.length uc, .slice xa c.length xc]] w0 fun e w' => e = .returned (.bool true) ∧ Below w0.heap.size w0 w' := by
  rcases Nat.lt_or_ge 1048576 (l.length + c.length) with hz | hz
  · skip
    have hn : l.length ≤ maxLen := by obtain ⟨a, k, e, h1', h2', -⟩ := h1; omega
    have hm : c.length ≤ maxLen := by obtain ⟨a, k, e, h1', h2', -⟩ := h2; omega
    have hM := Mem.start w0
    go_enter Try.func3, Try.ntmps3
    refine wp_seq_k fun Kn1 cn1 => ?_
    refine wl_region ?_
    refine wl_box (by kernel_rfl) hM 25 _ rfl [.slice ua l.length uc, .slice xa c.length xc] rfl ?_
    clear hM; intro g1 W1 hM
    go_frame
    refine wl_pure (by kernel_rfl) (.bool false) (by kernel_rfl) ?_
    go_frame
    refine wl_nil ?_
    refine cn1 _ _ ?_
    clear cn1
    refine wp_seq_k fun Kn2 cn2 => ?_
    refine wl_region ?_
    refine wl_pure (by kernel_rfl) (.int .i64 1048576) (by kernel_rfl) ?_
    go_frame
    refine wl_nil ?_
    refine cn2 _ _ ?_
    clear cn2
    refine wp_seq_k fun Kn3 cn3 => ?_
    refine wl_region ?_
    refine wl_load (by kernel_rfl) hM 0 rfl 25 _ rfl rfl Try.underlying25 I_laws_Shared ?_
    go_frame
    refine wl_pure (by kernel_rfl) (.int .i64 1048576) (by kernel_rfl) ?_
    go_frame
    refine wl_call (by kernel_rfl) 5 #[.agg #[.slice ua l.length uc, .slice xa c.length xc], .int .i64 1048576] (by kernel_rfl) (szShared_over ua l.length uc xa c.length xc _ hz hn hm) ?_
    rintro e W2 ⟨rfl, hb⟩
    refine ⟨_, rfl, ?_⟩
    replace hM := hM.call hb
    go_frame
    refine wl_pure (by kernel_rfl) (.int .i64 (-1)) (by kernel_rfl) ?_
    go_frame
    refine wl_nil ?_
    refine cn3 _ _ ?_
    clear cn3
    refine wp_seq_k fun Kn4 cn4 => ?_
    refine wp_seq_k fun Kn5 cn5 => ?_
    refine wl_region ?_
    refine wl_pure (by kernel_rfl) (.int .i64 (-1)) (by kernel_rfl) ?_
    go_frame
    refine wl_pure (by kernel_rfl) (.bool true) (by kernel_rfl) ?_
    go_frame
    refine wl_nil ?_
    refine cn5 _ _ ?_
    clear cn5
    refine wp_cond_true rfl ?_
    refine wp_seq_k fun Kn6 cn6 => ?_
    refine wl_region ?_
    refine wl_pure (by kernel_rfl) (.bool true) (by kernel_rfl) ?_
    go_frame
    refine wl_nil ?_
    refine cn6 _ _ ?_
    clear cn6
    refine wp_ret ?_
    simp only [Exit.then, Exit.inBlock]
    exact bodyPost_ret (v := .bool true) (ret_tmp 2 rfl rfl) rfl ⟨rfl, hM.below⟩
  · skip
    have hl : l.length ≤ 1048576 := by omega
    have hc : c.length ≤ 1048576 := by omega
    have hzz : decide ((1048576 - (l.length : Int) - (c.length : Int)) < 0) = false := by simp; omega
    have hM := Mem.start w0
    go_enter Try.func3, Try.ntmps3
    refine wp_seq_k fun Kn1 cn1 => ?_
    refine wl_region ?_
    refine wl_box (by kernel_rfl) hM 25 _ rfl [.slice ua l.length uc, .slice xa c.length xc] rfl ?_
    clear hM; intro g1 W1 hM
    go_frame
    refine wl_pure (by kernel_rfl) (.bool false) (by kernel_rfl) ?_
    go_frame
    refine wl_nil ?_
    refine cn1 _ _ ?_
    clear cn1
    refine wp_seq_k fun Kn2 cn2 => ?_
    refine wl_region ?_
    refine wl_pure (by kernel_rfl) (.int .i64 1048576) (by kernel_rfl) ?_
    go_frame
    refine wl_nil ?_
    refine cn2 _ _ ?_
    clear cn2
    refine wp_seq_k fun Kn3 cn3 => ?_
    refine wl_region ?_
    refine wl_load (by kernel_rfl) hM 0 rfl 25 _ rfl rfl Try.underlying25 I_laws_Shared ?_
    go_frame
    refine wl_pure (by kernel_rfl) (.int .i64 1048576) (by kernel_rfl) ?_
    go_frame
    refine wl_call (by kernel_rfl) 5 #[.agg #[.slice ua l.length uc, .slice xa c.length xc], .int .i64 1048576] (by kernel_rfl) (szShared_in ua l.length uc xa c.length xc _ hz) ?_
    rintro e W2 ⟨rfl, hb⟩
    refine ⟨_, rfl, ?_⟩
    replace hM := hM.call hb
    go_frame
    refine wl_pure (by kernel_rfl) (.int .i64 (1048576 - (l.length : Int) - (c.length : Int))) (by kernel_rfl) ?_
    go_frame
    refine wl_nil ?_
    refine cn3 _ _ ?_
    clear cn3
    refine wp_seq_k fun Kn4 cn4 => ?_
    refine wp_seq_k fun Kn5 cn5 => ?_
    refine wl_region ?_
    refine wl_pure (by kernel_rfl) (.int .i64 (1048576 - (l.length : Int) - (c.length : Int))) (by kernel_rfl) ?_
    go_frame
    refine wl_pureB (by kernel_rfl) (b := decide ((1048576 - (l.length : Int) - (c.length : Int)) < 0)) (by kernel_rfl) (hzz) ?_
    go_frame
    refine wl_nil ?_
    refine cn5 _ _ ?_
    clear cn5
    refine wp_cond_false rfl ?_
    refine wp_skip ?_
    refine cn4 _ _ ?_
    clear cn4
    refine wp_seq_k fun Kn6 cn6 => ?_
    refine wl_region ?_
    refine wl_load (by kernel_rfl) hM 0 rfl 25 _ rfl rfl Try.underlying25 I_laws_Shared ?_
    go_frame
    refine wl_call (by kernel_rfl) 7 #[.agg #[.slice ua l.length uc, .slice xa c.length xc]] (by kernel_rfl) (toShared_any (.slice ua l.length uc) (.slice xa c.length xc) l c _ (h1.below hM.below) (h2.below hM.below) hl hc) ?_
    rintro e W3 ⟨ma'1, mb'2, ka'3, kb'4, pa'5, pb'6, rfl, ⟨qa'7, qb'8, qc'9, qd'10⟩, hMc⟩
    refine ⟨_, rfl, ?_⟩
    replace hM := hM.join hMc
    go_frame
    refine wl_call (by kernel_rfl) 6 #[.agg #[.slice (some ⟨ma'1, 0, none⟩) l.length ka'3, .slice (some ⟨mb'2, 0, none⟩) c.length kb'4]] (by kernel_rfl) (spec_SharedOk (.slice (some ⟨ma'1, 0, none⟩) l.length ka'3) (.slice (some ⟨mb'2, 0, none⟩) c.length kb'4) l c _ (nsl_blk (hM.blk 0 rfl) qa'7 qb'8) (sli_blk (hM.blk 1 rfl) qc'9 qd'10) hl hc) ?_
    rintro e W4 ⟨rfl, hb⟩
    refine ⟨_, rfl, ?_⟩
    replace hM := hM.call hb
    go_frame
    refine wl_pure (by kernel_rfl) (.bool (sharedB l c)) (by kernel_rfl) ?_
    go_frame
    refine wl_nil ?_
    refine cn6 _ _ ?_
    clear cn6
    refine wp_seq_k fun Kn7 cn7 => ?_
    refine wl_region ?_
    refine wl_load (by kernel_rfl) hM 2 rfl 25 _ rfl rfl Try.underlying25 I_laws_Shared ?_
    go_frame
    refine wl_call (by kernel_rfl) 7 #[.agg #[.slice ua l.length uc, .slice xa c.length xc]] (by kernel_rfl) (toShared_any (.slice ua l.length uc) (.slice xa c.length xc) l c _ (h1.below hM.below) (h2.below hM.below) hl hc) ?_
    rintro e W5 ⟨ma'11, mb'12, ka'13, kb'14, pa'15, pb'16, rfl, ⟨qa'17, qb'18, qc'19, qd'20⟩, hMc⟩
    refine ⟨_, rfl, ?_⟩
    replace hM := hM.join hMc
    go_frame
    refine wl_alloc (by kernel_rfl) hM 30 rfl [.slice none 0 0, .slice none 0 0] Z_impl_Shared ?_
    clear hM; intro g2 W6 hM
    go_frame
    refine wl_store (by kernel_rfl) hM 0 rfl 30 _ _ rfl rfl rfl [.slice (some ⟨ma'11, 0, none⟩) l.length ka'13, .slice (some ⟨mb'12, 0, none⟩) c.length kb'14] rfl I_impl_Shared rfl rfl ?_
    clear hM; intro W7 hM
    refine wl_nil ?_
    refine cn7 _ _ ?_
    clear cn7
    refine wp_seq_k fun Kn8 cn8 => ?_
    refine wl_region ?_
    refine wl_load (by kernel_rfl) hM 0 rfl 30 _ rfl rfl Try.underlying30 I_impl_Shared ?_
    go_frame
    refine wl_call (by kernel_rfl) 8 #[.agg #[.slice (some ⟨ma'11, 0, none⟩) l.length ka'13, .slice (some ⟨mb'12, 0, none⟩) c.length kb'14]] (by kernel_rfl) (impl_SharedOk (.slice (some ⟨ma'11, 0, none⟩) l.length ka'13) (.slice (some ⟨mb'12, 0, none⟩) c.length kb'14) l c _ (nsl_blk (hM.blk 1 rfl) qa'17 qb'18) (sli_blk (hM.blk 2 rfl) qc'19 qd'20) hl hc) ?_
    rintro e W8 ⟨rfl, hb⟩
    refine ⟨_, rfl, ?_⟩
    replace hM := hM.call hb
    go_frame
    refine wl_pure (by kernel_rfl) (.bool (sharedB l c)) (by kernel_rfl) ?_
    go_frame
    refine wl_nil ?_
    refine cn8 _ _ ?_
    clear cn8
    refine wp_seq_k fun Kn9 cn9 => ?_
    refine wp_seq_k fun Kn10 cn10 => ?_
    refine wl_region ?_
    refine wl_pure (by kernel_rfl) (.bool (sharedB l c)) (by kernel_rfl) ?_
    go_frame
    refine wl_pure (by kernel_rfl) (.bool (sharedB l c)) (by kernel_rfl) ?_
    go_frame
    refine wl_pureB (by kernel_rfl) (b := ((sharedB l c) != (sharedB l c))) (by kernel_rfl) ((bne_self_eq_false _)) ?_
    go_frame
    refine wl_nil ?_
    refine cn10 _ _ ?_
    clear cn10
    refine wp_cond_false rfl ?_
    refine wp_skip ?_
    refine cn9 _ _ ?_
    clear cn9
    refine wp_seq_k fun Kn11 cn11 => ?_
    refine wp_seq_k fun Kn12 cn12 => ?_
    -- region 10, drawn: one after the other
    refine wa_start (fun w => Below w0.heap.size w0 w ∧ Blk w g2 30 [.slice (some ⟨ma'11, 0, none⟩) l.length ka'13, .slice (some ⟨mb'12, 0, none⟩) c.length kb'14] ∧ Blk w g1 25 [.slice ua l.length uc, .slice xa c.length xc]) 5 rfl (by kernel_rfl) ?_
    replace hM := hM.drew
    refine wa_take 0 (some 22) (.agg #[.slice (some ⟨ma'11, 0, none⟩) l.length ka'13, .slice (some ⟨mb'12, 0, none⟩) c.length kb'14]) rfl rfl (by kernel_rfl) (by kernel_rfl) (by kernel_rfl) (fun _ _ _ h => h) (by kernel_rfl) (fun w hS => r_load hS.2.1 30 _ rfl rfl Try.underlying30 I_impl_Shared) ⟨hM.below, hM.blk 0 rfl, hM.blk 5 rfl⟩ ?_
    go_frame
    refine wa_take 1 (some 23) (.agg #[.slice ua l.length uc, .slice xa c.length xc]) rfl rfl (by kernel_rfl) (by kernel_rfl) (by kernel_rfl) (fun _ _ _ h => h) (by kernel_rfl) (fun w hS => r_load hS.2.2 25 _ rfl rfl Try.underlying25 I_laws_Shared) ⟨hM.below, hM.blk 0 rfl, hM.blk 5 rfl⟩ ?_
    go_frame
    refine wa_one 2 (by kernel_rfl) ?_
    refine wo_call (some 24) rfl rfl (by kernel_rfl) 7 #[.agg #[.slice ua l.length uc, .slice xa c.length xc]] (by kernel_rfl) (toShared_any (.slice ua l.length uc) (.slice xa c.length xc) l c _ (h1.below hM.below) (h2.below hM.below) hl hc) ?_
    rintro e W9 ⟨ma'21, mb'22, ka'23, kb'24, pa'25, pb'26, rfl, ⟨qa'27, qb'28, qc'29, qd'30⟩, hMc⟩
    replace hM := hM.join hMc
    refine ⟨_, rfl, ⟨hM.below, hM.blk 2 rfl, hM.blk 7 rfl⟩, ?_⟩
    go_frame
    refine wa_one 3 (by kernel_rfl) ?_
    refine wo_call (some 25) rfl rfl (by kernel_rfl) 9 #[.agg #[.slice (some ⟨ma'11, 0, none⟩) l.length ka'13, .slice (some ⟨mb'12, 0, none⟩) c.length kb'14], .agg #[.slice (some ⟨ma'21, 0, none⟩) l.length ka'23, .slice (some ⟨mb'22, 0, none⟩) c.length kb'24]] (by kernel_rfl) (eqShared_same (.slice (some ⟨ma'11, 0, none⟩) l.length ka'13) (.slice (some ⟨mb'12, 0, none⟩) c.length kb'14) (.slice (some ⟨ma'21, 0, none⟩) l.length ka'23) (.slice (some ⟨mb'22, 0, none⟩) c.length kb'24) l c _ (nsl_blk (hM.blk 3 rfl) qa'17 qb'18) (nsl_blk (hM.blk 0 rfl) qa'27 qb'28) (sli_blk (hM.blk 4 rfl) qc'19 qd'20) (sli_blk (hM.blk 1 rfl) qc'29 qd'30)) ?_
    rintro e W10 ⟨rfl, hb⟩
    replace hM := hM.call hb
    refine ⟨_, rfl, ⟨hM.below, hM.blk 2 rfl, hM.blk 7 rfl⟩, ?_⟩
    go_frame
    refine wa_take 4 (some 26) (.bool false) rfl rfl (by kernel_rfl) (by kernel_rfl) (by kernel_rfl) (fun _ _ _ h => h) (by kernel_rfl) (fun w hS => by kernel_rfl) ⟨hM.below, hM.blk 2 rfl, hM.blk 7 rfl⟩ ?_
    go_frame
    refine wa_done (by kernel_rfl) ?_
    refine cn12 _ _ ?_
    clear cn12
    refine wp_cond_false rfl ?_
    refine wp_skip ?_
    refine cn11 _ _ ?_
    clear cn11
    refine wp_seq_k fun Kn13 cn13 => ?_
    refine wl_region ?_
    refine wl_pure (by kernel_rfl) (.bool true) (by kernel_rfl) ?_
    go_frame
    refine wl_nil ?_
    refine cn13 _ _ ?_
    clear cn13
    refine wp_ret ?_
    exact bodyPost_ret (v := .bool true) (ret_tmp 2 rfl rfl) rfl ⟨rfl, hM.below⟩

set_option maxRecDepth 100000 in
theorem lifted (os : Os) (started : os.Started) (H : Type) (enc : TypeId × Value → H) :
    ReturnsInHanded {} Try.checked os 3 .any (Rows.fnExactSharedOkSpec.pre6 enc Try.prog Try.f3 Rows.fnExactSharedOkRow.domain false) (Rows.fnExactSharedOkSpec.post enc Try.prog Try.f3 false true false false) := by
  refine returnsInHanded_of_change (C := Try.checked) own started (by kernel_rfl) Try.func3
    (ChangeSpec.witness6 (enc := enc) (C := Try.checked) false ⟨#[], #[.agg #[.slice none 0 0, .slice none 0 0]], []⟩ 8 (by kernel_rfl) (by kernel_rfl) (by kernel_rfl) (by kernel_rfl)) ?_
  intro W base args ds gs before hval0 hW hcnd _
  have hval : ∀ (j : Nat) t v, Try.f3.params[j]? = some t → args[j]? = some v → Value.okWide Try.prog W .any base t v := hval0
  have hW' := hW
  obtain ⟨p, q, hA0, hV, rfl, hfz, hnd⟩ := hW
  have hA : DataW.TrodAll enc Try.prog W 0 (fun _ => true) true Try.f3.params.toList args.toList ds p := hA0
  rw [Try.params3] at hA hval
  obtain ⟨v0, vs0, d0, ds0, p0, q0, hargs, rfl, rfl, h0, r0⟩ := trodAll_cons hA
  obtain ⟨rfl, rfl, rfl⟩ := trodAll_nil r0
  obtain rfl : args = #[v0] := by cases args; simp_all
  obtain ⟨rfl, rfl⟩ := trodVars_none hV
  have k0 := h0
  have lt0 : ∀ x ∈ p0, x.block < W.heap.size := by obtain ⟨m, hm⟩ := k0; exact DataW.trod_lt m _ _ _ hm
  obtain ⟨ua, uc, xa, xc, l_0, c_0, rfl, hl_0, hc_0⟩ := open_shared (hval 0 25 v0 rfl rfl) h0
  clear hA0 hval0
  refine (walk ua uc xa xc l_0 c_0 W hl_0 hc_0).mono fun e W' ⟨he, bel⟩ => ?_
  subst he
  exact ⟨_, rfl, _, _, _, [], _, [], hW', trodAll_mk1 (shut_bool Try.underlying4 _), (trodAll_cons_mk (Below.trod laidOut (by kernel_rfl) (of_decide_eq_true (by kernel_rfl)) k0 bel lt0) trodAll_mk0), rfl, bel.frame _, fun h => by cases h⟩

theorem over : Rows.fnExactSharedOkRow.holds Try.pinned (OpenSpec.ofChange Rows.fnExactSharedOkSpec) :=
  OpenClaim.holds_of_wide 3 Try.f3 rfl rfl rfl rfl rfl rfl rfl ⟨rfl, rfl, rfl, rfl, rfl⟩ rfl rfl rfl rfl rfl (by kernel_rfl) Try.func3 (by kernel_rfl)
    (of_decide_eq_true (by kernel_rfl)) (by unfold Func.isWrapper; rw [if_neg (of_decide_eq_false (by kernel_rfl))]; exact ⟨rfl, rfl⟩)
    (fun os started H enc _ => lifted os started H enc)

theorem proved : Rows.FnExactSharedOkSaid := over
end Go.Proofs.Ytoamnecoiicljaa.fnExactSharedOk
