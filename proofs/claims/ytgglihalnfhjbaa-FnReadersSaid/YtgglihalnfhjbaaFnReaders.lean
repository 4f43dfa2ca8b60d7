/- FnReaders: whatever the bytes are that the law draws from, it answers true and leaves them as they were. No condition. -/
import Derived.Test.YtgglihalnfhjbaaOpenB
import Derived.Test.YtgglihalnfhjbaaReaderLaw
namespace Go.Proofs.Ytgglihalnfhjbaa.fnReaders
open Go.ChangeShapes Go.WideShapes Go.ChangeAt Go.RowKit
set_option linter.unusedVariables false
set_option linter.unusedSimpArgs false

set_option maxRecDepth 100000 in
set_option maxHeartbeats 8000000 in
theorem walk (v : Value) (l : List Int) (w : World) (h : Bts w.heap.size w v l) :
    Calls Try.prog 3 #[v] w fun e w' => e = .returned (.bool true) ∧ Below w.heap.size w w' := by
  obtain ⟨⟨a, c, rfl, hc1, hc2, -⟩, -⟩ := id h
  by_cases hl : l.length ≤ 4096
  · have z0 : ¬ (l.length : Int) > 4096 := by omega
    have HZ : decide ((l.length : Int) > 4096) = false := by simpa using z0
    have H := Lib.hid h
    have HZZ := Lib.hid HZ
    clear h HZ
    go_enter Try.func3, Try.ntmps3
    go_wp2_with fail
    refine (big_any _ _ _ _).mono ?_
    rintro e w0 ⟨rfl, rfl⟩
    rw [HZZ.out]
    go_wp2_with fail
    refine (DrawCounted_any _ l w H.out hl).mono ?_
    rintro e w1 ⟨u, r, t, rfl, hS1, h16, hB1⟩
    have s1 := hB1.size
    obtain ⟨a1, c1, rfl, -⟩ := id hS1
    go_wp2_with fail
    refine (impl_Counted _ r t w1 hS1 (by omega)).mono ?_
    have hrlen := countR_len r t
    generalize hR : countR r t = R at hrlen
    obtain ⟨rl, rb⟩ := R
    rintro e w2 ⟨x, rfl, hX2, hB2⟩
    have s2 := hB2.size
    have hB2' := hB1.trans (hB2.mono hB1.size)
    have hS2 := hS1.below hB2
    obtain ⟨ax, cx, rfl, kx, mx⟩ := hX2.slice
    go_wp2_with fail
    refine (spec_Counted _ r t w2 hS2 (by omega)).mono ?_
    rw [hR]
    rintro e w3 ⟨y, rfl, hY3, hB3⟩
    have s3 := hB3.size
    have hB3' := hB2'.trans (hB3.mono hB2'.size)
    have hS3 := hS2.below hB3
    have hX3 := hX2.below hB3 (Nat.le_refl _)
    obtain ⟨ay, cy, rfl, ky, my⟩ := hY3.slice
    go_wp2_with fail
    refine (DrawCountsOk_any _ l w3 (Bts.below (H.out.below hB3') (Below.refl _ _) |> fun q => ⟨q.1, q.2.1, fun hn g hg => Nat.lt_of_lt_of_le (q.2.2 hn g hg) hB3'.size⟩) hl).mono ?_
    rintro e w4 ⟨m, q, rfl, hM4, q16, hB4⟩
    have s4 := hB4.size
    have hB4' := hB3'.trans (hB4.mono hB3'.size)
    have hS4 := hS3.below hB4
    have hX4 := hX3.below hB4 (by omega)
    have hY4 := hY3.below hB4 (Nat.le_refl _)
    obtain ⟨am, cm, rfl, -⟩ := id hM4
    go_wp2_with fail
    refine (likeInts_same _ _ rl w4 hX4.sl hY4.sl).mono ?_
    rintro e w5 ⟨rfl, hB5⟩
    have s5 := hB5.size
    have hB5' := hB4'.trans (hB5.mono hB4'.size)
    have hS5 := hS4.below hB5
    have hX5 := hX4.below hB5 (by omega)
    have hM5 := hM4.below hB5
    go_wp2_with fail
    refine (impl_CountsOk _ q w5 hM5 (by omega)).mono ?_
    rintro e w6 ⟨rfl, hB6⟩
    have s6 := hB6.size
    have hB6' := hB5'.trans (hB6.mono hB5'.size)
    have hS6 := hS5.below hB6
    have hX6 := hX5.below hB6 (by omega)
    have hM6 := hM5.below hB6
    go_wp2_with fail
    refine (spec_CountsOk _ q w6 hM6 (by omega)).mono ?_
    rintro e w6' ⟨rfl, rfl⟩
    go_wp2_with fail
    refine (impl_Walking _ q w6 hM6 (by omega)).mono ?_
    rintro e w7 ⟨p, rfl, hP7, hB7⟩
    have s7 := hB7.size
    have hB7' := hB6'.trans (hB7.mono hB6'.size)
    have hS7 := hS6.below hB7
    have hX7 := hX6.below hB7 (by omega)
    have hM7 := hM6.below hB7
    go_wp2_with fail
    refine (spec_Walking _ q w7 hM7 (by omega)).mono ?_
    rintro e w8 ⟨p', rfl, hQ8, hB8⟩
    have s8 := hB8.size
    have hB8' := hB7'.trans (hB8.mono hB7'.size)
    have hS8 := hS7.below hB8
    have hX8 := hX7.below hB8 (by omega)
    have hP8 := hP7.below hB8 (Nat.le_refl _)
    go_wp2_with fail
    refine (likeInts_same _ _ (walkR q) w8 hP8.sl hQ8.sl).mono ?_
    rintro e w9 ⟨rfl, hB9⟩
    have s9 := hB9.size
    have hB9' := hB8'.trans (hB9.mono hB8'.size)
    have hS9 := hS8.below hB9
    have hX9 : SlI w9 _ rl := (hX8.below hB9 (by omega)).sl
    have HH := Lib.hid (And.intro hB9' (And.intro hS9 hX9))
    clear hB2 hB2' hB3 hB3' hB4 hB4' hB5 hB5' hB6 hB6' hB7 hB7' hB8 hB8' hB9 hB9' hS1 hS2 hS3 hS4 hS5 hS6 hS7 hS8 hS9 hX2 hX3 hX4 hX5 hX6 hX7 hX8 hX9 hM4 hM5 hM6 hM7 hP7 hP8 hQ8 hY3 hY4 hB1
    cases rb
    · go_wp2
      go_ret
      exact ⟨rfl, HH.out.1⟩
    · obtain ⟨m1, m2⟩ := walk_one hR
      go_wp2_with fail
      refine (impl_Counted _ rl t w9 HH.out.2.2 (by omega)).mono ?_
      generalize hR2 : countR rl t = R2
      obtain ⟨zl, zb⟩ := R2
      have hzlen := countR_len rl t
      rw [hR2] at hzlen
      simp only at hrlen hzlen
      rintro e w10 ⟨z, rfl, hZ10, hB10⟩
      have s10 := hB10.size
      have hB10' := HH.out.1.trans (hB10.mono HH.out.1.size)
      have hS10 := HH.out.2.1.below hB10
      have hX10 := HH.out.2.2.below hB10
      obtain ⟨az, cz, rfl, kz, mz⟩ := hZ10.slice
      go_wp2_with fail
      refine (impl_Walking _ r w10 hS10 (by omega)).mono ?_
      rintro e w11 ⟨p1, rfl, hP11, hB11⟩
      have s11 := hB11.size
      have hB11' := hB10'.trans (hB11.mono hB10'.size)
      have hS11 := hS10.below hB11
      have hX11 := hX10.below hB11
      have hZ11 := hZ10.below hB11 (Nat.le_refl _)
      obtain ⟨ap, cp, rfl, kp, mp⟩ := hP11.slice
      go_wp2_with fail
      refine (impl_Walking _ rl w11 hX11 (by omega)).mono ?_
      rintro e w12 ⟨p2, rfl, hP12, hB12⟩
      have s12 := hB12.size
      have hB12' := hB11'.trans (hB12.mono hB11'.size)
      have hS12 := hS11.below hB12
      have hX12 := hX11.below hB12
      have hZ12 := hZ11.below hB12 (by omega)
      obtain ⟨ap2, cp2, rfl, kp2, mp2⟩ := hP12.slice
      have wl := walkR_len r
      have b0 : (((walkR rl).length : Int) = ((walkR r).length : Int) + 1) ∨ (¬ ((walkR rl).length : Int) = ((walkR r).length : Int) + 1 ∧ ((walkR rl).length : Int) = ((walkR r).length : Int) - 1) := by omega
      have M1 := Lib.hid m1
      have HW := Lib.hid (fun z h => walk_two (z := z) hR h)
      have HR2 := Lib.hid hR2
      clear m1 m2 hR hR2 HH
      generalize hn1 : (walkR rl).length = n1 at b0 hP12
      generalize hn0 : (walkR r).length = n0 at b0 hP11
      rcases b0 with b0 | ⟨b0, b1⟩
      all_goals
        go_wp2_with fail
        refine (impl_CountsOk _ rl w12 hX12 (by omega)).mono ?_
        rintro e w13 ⟨rfl, hB13⟩
        rw [M1.out]
        have s13 := hB13.size
        have hB13' := hB12'.trans (hB13.mono hB12'.size)
        have hS13 := hS12.below hB13
        have hZ13 := hZ12.below hB13 (by omega)
        cases zb
        · go_wp2
          go_ret
          exact ⟨rfl, hB13'⟩
        · go_wp2_with fail
          refine (impl_Walking _ zl w13 hZ13.sl (by omega)).mono ?_
          rw [HW.out zl HR2.out]
          rintro e w14 ⟨p3, rfl, hP14, hB14⟩
          have s14 := hB14.size
          have hB14' := hB13'.trans (hB14.mono hB13'.size)
          have hS14 := hS13.below hB14
          go_wp2_with fail
          refine (impl_Walking _ r w14 hS14 (by omega)).mono ?_
          rintro e w15 ⟨p4, rfl, hP15, hB15⟩
          have hB15' := hB14'.trans (hB15.mono hB14'.size)
          have hP15' := hP14.below hB15 (Nat.le_refl _)
          go_wp2_with fail
          refine (likeInts_same _ _ (walkR r) w15 hP15'.sl hP15.sl).mono ?_
          rintro e w16 ⟨rfl, hB16⟩
          have hB16' := hB15'.trans (hB16.mono hB15'.size)
          go_wp2
          go_ret
          exact ⟨rfl, hB16'⟩
  · have HZ : decide ((l.length : Int) > 4096) = true := by simp; omega
    have HZZ := Lib.hid HZ
    clear HZ h
    go_enter Try.func3, Try.ntmps3
    go_wp2_with fail
    refine (big_any _ _ _ _).mono ?_
    rintro e w0 ⟨rfl, rfl⟩
    rw [HZZ.out]
    go_wp2
    go_ret
    exact ⟨rfl, Below.refl _ _⟩

set_option maxRecDepth 100000 in
theorem lifted (os : Os) (started : os.Started) (H : Type) (enc : TypeId × Value → H) :
    ReturnsInHanded {} Try.checked os 3 .any (Rows.fnReadersSpec.pre6 enc Try.prog Try.f3 Rows.fnReadersRow.domain false) (Rows.fnReadersSpec.post enc Try.prog Try.f3 false true false false) := by
  refine returnsInHanded_of_change (C := Try.checked) own started (by kernel_rfl) Try.func3
    (ChangeSpec.witness6 (enc := enc) (C := Try.checked) false ⟨#[], #[.slice none 0 0], []⟩ 8 (by kernel_rfl) (by kernel_rfl) (by kernel_rfl) (by kernel_rfl)) ?_
  intro W base args ds gs before hval0 hW hcnd _
  have hval : ∀ (j : Nat) t v, Try.f3.params[j]? = some t → args[j]? = some v → Value.okWide Try.prog W .any base t v := hval0
  have hW' := hW
  obtain ⟨p, q, hA0, hV, rfl, hfz, hnd⟩ := hW
  have hA : DataW.TrodAll enc Try.prog W 0 (fun _ => true) true Try.f3.params.toList args.toList ds p := hA0
  rw [Try.params3] at hA hval
  obtain ⟨v0, vs0, d0, ds0, p0, q0, hargs, rfl, rfl, h0, r0⟩ := trodAll_cons hA
  obtain ⟨rfl, rfl, rfl⟩ := trodAll_nil r0
  obtain rfl : args = #[v0] := by cases args; simp_all
  obtain ⟨rfl, rfl⟩ := trodVars_none hV
  have k0 := h0
  have lt0 : ∀ x ∈ p0, x.block < W.heap.size := by obtain ⟨m, hm⟩ := k0; exact DataW.trod_lt m _ _ _ hm
  obtain ⟨l_0, hl_0⟩ := open_bytes (hval 0 22 v0 rfl rfl) h0
  clear hA0 hval0
  refine (walk v0 l_0 W hl_0).mono fun e W' ⟨he, bel⟩ => ?_
  subst he
  exact ⟨_, rfl, _, _, _, [], _, [], hW', trodAll_mk1 (shut_bool Try.underlying4 _), (trodAll_cons_mk (Below.trod laidOut (by kernel_rfl) (of_decide_eq_true (by kernel_rfl)) k0 bel lt0) trodAll_mk0), rfl, bel.frame _, fun h => by cases h⟩

theorem over : Rows.fnReadersRow.holds Try.pinned (OpenSpec.ofChange Rows.fnReadersSpec) :=
  OpenClaim.holds_of_wide 3 Try.f3 rfl rfl rfl rfl rfl rfl rfl ⟨rfl, rfl, rfl, rfl, rfl⟩ rfl rfl rfl rfl rfl (by kernel_rfl) Try.func3 (by kernel_rfl)
    (of_decide_eq_true (by kernel_rfl)) (by unfold Func.isWrapper; rw [if_neg (of_decide_eq_false (by kernel_rfl))]; exact ⟨rfl, rfl⟩)
    (fun os started H enc _ => lifted os started H enc)

theorem proved : Rows.FnReadersSaid := over
end Go.Proofs.Ytgglihalnfhjbaa.fnReaders
