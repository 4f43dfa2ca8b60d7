/- A call in a world: the model. -/
import Derived.Test.YtbfndoajchibbaaGreatShort
import Derived.Test.YtbfndoajchibbaaGreatShort2
import Derived.Test.YtbfndoajchibbaaGreatStepW
namespace Go.Proofs.YtbfndoajchibbaaGreat
open Go.ChangeShapes Go.WideShapes Go.ChangeAt Go.RowKit
set_option linter.unusedVariables false
set_option maxRecDepth 100000
set_option maxHeartbeats 16000000
set_option linter.unusedSimpArgs false

theorem world_ne {d : WD} (h : worldB d = true) : d.l ≠ [] ∧ d.c ≠ [] ∧ d.hs ≠ [] ∧ (0 ≤ d.now ∧ d.now ≤ 20000) := by
  simp only [worldB, Bool.and_eq_true, sharedB] at h
  obtain ⟨⟨⟨⟨⟨⟨h1, h2⟩, h3⟩, h4⟩, h5⟩, h6⟩, h7⟩ := h
  have n1 := (nodes_some h1).1
  have n2 := (countsB_some h2).1
  have e3 : (d.hs.length : Int) = (d.c.length : Int) := by simpa using h3
  refine ⟨fun e => ?_, fun e => ?_, fun e => ?_, inB_t h5⟩
  · rw [e] at n1; simp at n1
  · rw [e] at n2; simp at n2
  · rw [e] at e3; simp at e3; omega
def askedR (d : WD) (who c k v : Int) : WD × Int :=
  if !worldB d || !inB who 0 ((d.hs.length : Int) - 1) then (WD.zero, 3)
  else if (calledR (handAt d who) c k v).2 != 0 then (d, (calledR (handAt d who) c k v).2)
  else if d.now == 20000 then (d, 1)
  else (⟨d.l, d.c, d.hs.set who.toNat { (calledR (handAt d who) c k v).1 with begin_ := d.now + 1 }, d.ds, d.now + 1⟩, (calledR (handAt d who) c k v).2)

theorem spec_Asked1 (u x y z : Value) (d : WD) (who c k v : Int) (w0 : World) (hw : SlW w0 u x y z d) (hr : Room d) (hH : d.hs ≠ []) :
    Calls Tryz.prog 43 #[.agg #[u, x, y, z, .int .i64 d.now], .int .i64 who, .agg #[.int .i64 c, .int .i64 k, .int .i64 v]] w0 (SaysW (fun w => .tuple #[w, .int .i64 (askedR d who c k v).2]) (askedR d who c k v).1 w0) := by
  have HW := hw
  obtain ⟨h1, h2, h3, h4⟩ := hw
  have H1 := h1
  have H2 := h2
  have H3 := h3
  have H4 := h4
  obtain ⟨r1, r2, r3, r4⟩ := id hr
  obtain ⟨a1, i1, rfl, -⟩ := h1
  obtain ⟨a2, i2, rfl, -⟩ := h2
  obtain ⟨b3, off3, i3, rfl, kk3, mm3, s3, G3, A3⟩ := SlR.all hd_len (by omega) h3 hH
  obtain ⟨a4, i4, rfl, -⟩ := h4
  have hM := Mem.start w0
  go_enter Tryz.func43, Tryz.ntmps43
  refine wp_seq_k fun _ cn1 => wl_region ?_
  refine nx hM 59 [.slice a1 d.l.length i1, .slice a2 d.c.length i2, .slice (some ⟨b3, off3, none⟩) d.hs.length i3, .slice a4 d.ds.length i4, .int .i64 d.now] ?_
  clear hM; intro g1 W1 hM
  refine nx hM 71 [.int .i64 c, .int .i64 k, .int .i64 v] ?_
  clear hM; intro g2 W2 hM
  refine na hM [.slice none 0 0, .slice none 0 0, .slice none 0 0, .slice none 0 0, .int .i64 0] Z_impl_World ?_
  clear hM; intro g3 W3 hM
  refine np (.int .i64 0) ?_
  go_frame
  refine wl_nil (cn1 _ _ ?_)
  clear cn1
  refine wp_seq_k fun Kn2 cn2 => ?_
  refine wp_seq_k fun _ cn3 => wl_region ?_
  refine nl hM 2 rfl Tryz.underlying59 I_impl_World ?_
  refine nc (spec_WorldOk (.slice a1 d.l.length i1) (.slice a2 d.c.length i2) (.slice (some ⟨b3, off3, none⟩) d.hs.length i3) (.slice a4 d.ds.length i4) d _ (HW.below hM.below) hr) ?_
  rintro e W4 ⟨rfl, hb⟩
  refine ⟨_, rfl, ?_⟩
  replace hM := hM.call hb
  go_frame
  rcases tf ((worldB d)) with hx3 | hx3
  rw [hx3]
  obtain ⟨hL, hC, -, hnow⟩ := world_ne hx3
  refine np (.bool false) ?_
  refine np (.bool false) ?_
  refine nl hM 2 rfl Tryz.underlying59 I_impl_World ?_
  refine np (.int .i64 who) ?_
  go_frame
  refine nC #[.agg #[.slice a1 d.l.length i1, .slice a2 d.c.length i2, .slice (some ⟨b3, off3, none⟩) d.hs.length i3, .slice a4 d.ds.length i4, .int .i64 d.now], .int .i64 who] (spec_l13Task (.slice a1 d.l.length i1) (.slice a2 d.c.length i2) _ d.hs.length _ _ d.now who _ (by omega)) ?_
  rintro e W5 ⟨rfl, hb⟩
  refine ⟨_, rfl, ?_⟩
  replace hM := hM.call hb
  go_frame
  rcases tf ((inB who 0 ((d.hs.length : Int) - 1))) with hx4 | hx4
  rw [hx4]
  have hwho : 0 ≤ who ∧ who < d.hs.length := by have := inB_t hx4; omega
  obtain ⟨kw, hkw, hkl⟩ : ∃ k : Nat, who = (k : Int) ∧ k < d.hs.length := ⟨who.toNat, by omega, by omega⟩
  obtain ⟨hh, hhw⟩ : ∃ h, d.hs[kw]? = some h := ⟨_, List.getElem?_eq_getElem hkl⟩
  have tkw : who.toNat = kw := by omega
  have hat : handAt d who = hh := by simp [handAt, tkw, hhw]
  refine np (.bool false) ?_
  refine np (.bool false) ?_
  go_frame
  refine wl_nil (cn3 _ _ ?_)
  clear cn3
  refine wp_cond_false rfl ?_
  refine wp_skip ?_
  refine cn2 _ _ ?_
  clear cn2
  refine wp_seq_k fun _ cn4 => wl_region ?_
  refine nl hM 2 rfl Tryz.underlying59 I_impl_World ?_
  refine nc (spec_l13Copy (.slice a1 d.l.length i1) (.slice a2 d.c.length i2) (.slice (some ⟨b3, off3, none⟩) d.hs.length i3) (.slice a4 d.ds.length i4) d _ (HW.below hM.below) hr hL hC hH) ?_
  rintro e W6 ⟨m1, m2, m3, m4, k1, k2, k3, k4, p1, p2, p3, p4, rfl, ⟨q1, q2, q3, q4, q5, qC⟩, ⟨q6, q7, q8⟩, ⟨q9, qA, qB⟩, hMc⟩
  refine ⟨_, rfl, ?_⟩
  replace hM := hM.join hMc
  go_frame
  refine na hM [.slice none 0 0, .slice none 0 0, .slice none 0 0, .slice none 0 0, .int .i64 0] Z_impl_World ?_
  clear hM; intro g4 W7 hM
  refine nS hM 0 rfl [.slice (some ⟨m1, 0, none⟩) d.l.length k1, .slice (some ⟨m2, 0, none⟩) d.c.length k2, .slice (some ⟨m3, 0, none⟩) d.hs.length k3, .slice (some ⟨m4, 0, none⟩) d.ds.length k4, .int .i64 d.now] I_impl_World rfl ?_
  clear hM; intro W8 hM
  refine wl_nil (cn4 _ _ ?_)
  clear cn4
  refine wp_seq_k fun Kn5 cn5 => ?_
  refine wa_join (fun act W => ∃ (g5 : Nat), act = ⟨#[.agg #[.slice a1 d.l.length i1, .slice a2 d.c.length i2, .slice (some ⟨b3, off3, none⟩) d.hs.length i3, .slice a4 d.ds.length i4, .int .i64 d.now], .int .i64 who, .agg #[.int .i64 c, .int .i64 k, .int .i64 v], .pointer (some ⟨g1, 0, none⟩), undef, .pointer (some ⟨g2, 0, none⟩), .pointer (some ⟨g3, 0, none⟩), .int .i64 0, .pointer (some ⟨g4, 0, none⟩), .pointer (some ⟨g5, 0, none⟩), .int .i64 ((calledR hh c k v).2), .agg #[.slice a1 d.l.length i1, .slice a2 d.c.length i2, .slice (some ⟨b3, off3, none⟩) d.hs.length i3, .slice a4 d.ds.length i4, .int .i64 d.now], .bool true, .bool false, .bool false, .agg #[.slice a1 d.l.length i1, .slice a2 d.c.length i2, .slice (some ⟨b3, off3, none⟩) d.hs.length i3, .slice a4 d.ds.length i4, .int .i64 d.now], .int .i64 who, .bool true, .bool false, .bool false, undef, .agg #[.slice a1 d.l.length i1, .slice a2 d.c.length i2, .slice (some ⟨b3, off3, none⟩) d.hs.length i3, .slice a4 d.ds.length i4, .int .i64 d.now], .agg #[.slice (some ⟨m1, 0, none⟩) d.l.length k1, .slice (some ⟨m2, 0, none⟩) d.c.length k2, .slice (some ⟨m3, 0, none⟩) d.hs.length k3, .slice (some ⟨m4, 0, none⟩) d.ds.length k4, .int .i64 d.now], .tuple #[.agg (HD.cells ((calledR hh c k v).1)).toArray, .int .i64 ((calledR hh c k v).2)], .pointer (some ⟨g1, 2, none⟩), .slice (some ⟨b3, off3, none⟩) d.hs.length i3, .int .i64 who, .pointer (some ⟨b3, off3 + kw * 17, none⟩), .agg (HD.cells hh).toArray, .agg #[.int .i64 c, .int .i64 k, .int .i64 v], .tuple #[.agg (HD.cells ((calledR hh c k v).1)).toArray, .int .i64 ((calledR hh c k v).2)], .agg (HD.cells ((calledR hh c k v).1)).toArray, .int .i64 ((calledR hh c k v).2), undef, undef, undef, undef, undef, undef, undef, undef, undef, undef, undef, undef, undef, undef, undef, undef, undef, undef, undef, undef, undef, undef], []⟩ ∧ Mem w0 W [(g5, 73, (HD.cells ((calledR hh c k v).1))), (g4, 59, [.slice (some ⟨m1, 0, none⟩) d.l.length k1, .slice (some ⟨m2, 0, none⟩) d.c.length k2, .slice (some ⟨m3, 0, none⟩) d.hs.length k3, .slice (some ⟨m4, 0, none⟩) d.ds.length k4, .int .i64 d.now]), (m1, 49, (cellsOf d.l ++ p1)), (m2, 2, (cellsI d.c ++ p2)), (m3, 73, (cellsH d.hs ++ p3)), (m4, 113, (cellsD d.ds ++ p4)), (g3, 59, [.slice none 0 0, .slice none 0 0, .slice none 0 0, .slice none 0 0, .int .i64 0]), (g2, 71, [.int .i64 c, .int .i64 k, .int .i64 v]), (g1, 59, [.slice a1 d.l.length i1, .slice a2 d.c.length i2, .slice (some ⟨b3, off3, none⟩) d.hs.length i3, .slice a4 d.ds.length i4, .int .i64 d.now])]) ?_ ?_
  clear hM
  rintro act W12 ⟨g5, rfl, hM⟩
  refine cn5 _ _ ?_
  clear cn5
  refine wp_seq_k fun Kn6 cn6 => ?_
  refine wp_seq_k fun _ cn7 => wl_region ?_
  refine np (.int .i64 ((calledR hh c k v).2)) ?_
  refine np (.bool ((calledR hh c k v).2 != 0)) ?_
  go_frame
  refine wl_nil (cn7 _ _ ?_)
  clear cn7
  rcases tf (((calledR hh c k v).2 != 0)) with hx5 | hx5
  rw [hx5]
  refine wp_cond_true rfl ?_
  refine wp_seq_k fun _ cn8 => wl_region ?_
  refine nl hM 1 rfl Tryz.underlying59 I_impl_World ?_
  refine np (.int .i64 ((calledR hh c k v).2)) ?_
  refine nS hM 6 rfl [.slice (some ⟨m1, 0, none⟩) d.l.length k1, .slice (some ⟨m2, 0, none⟩) d.c.length k2, .slice (some ⟨m3, 0, none⟩) d.hs.length k3, .slice (some ⟨m4, 0, none⟩) d.ds.length k4, .int .i64 d.now] I_impl_World rfl ?_
  clear hM; intro W13 hM
  refine np (.int .i64 ((calledR hh c k v).2)) ?_
  go_frame
  refine wl_nil (cn8 _ _ ?_)
  clear cn8
  refine wp_ret ?_
  simp only [Exit.then, Exit.inBlock]
  have hR : askedR d who c k v = (⟨d.l, d.c, d.hs, d.ds, d.now⟩, (calledR hh c k v).2) := by simp [askedR, hx3, hx4, hx5, hat, tkw]
  rw [hR]
  refine bodyPost_ret (ret_two (p := 6) (u := 7) (v := .int .i64 ((calledR hh c k v).2)) rfl hM 6 rfl rfl rfl Tryz.underlying59 I_impl_World) rfl ⟨[(m1, 49, (cellsOf d.l ++ p1)), (m2, 2, (cellsI d.c ++ p2)), (m3, 73, (cellsH d.hs ++ p3)), (m4, 113, (cellsD d.ds ++ p4))], _, _, _, _, rfl, ⟨RowIn.mk (by first | rfl | (simp; done)) (cellsOf_len _) q1 q2 (by first | exact q5 | (simpa [cellsOf_len, cellsI_len, cellsH_len, cellsD_len] using q5)) (List.mem_of_getElem? (i := 0) rfl), RowIn.mk (by first | rfl | (simp; done)) (cellsI_len1 _) q3 q4 (by first | exact qC | (simpa [cellsOf_len, cellsI_len, cellsH_len, cellsD_len] using qC)) (List.mem_of_getElem? (i := 1) rfl), RowIn.mk (by first | rfl | (simp; done)) (cellsH_len _) q6 q7 (by first | exact q8 | (simpa [cellsOf_len, cellsI_len, cellsH_len, cellsD_len] using q8)) (List.mem_of_getElem? (i := 2) rfl), RowIn.mk (by first | rfl | (simp; done)) (cellsD_len _) q9 qA (by first | exact qB | (simpa [cellsOf_len, cellsI_len, cellsH_len, cellsD_len] using qB)) (List.mem_of_getElem? (i := 3) rfl)⟩, ?_⟩
  replace hM := hM.pull 5 rfl
  replace hM := hM.pull 5 rfl
  replace hM := hM.pull 5 rfl
  replace hM := hM.pull 5 rfl
  exact hM.four
  rw [hx5]
  refine wp_cond_false rfl ?_
  refine wp_skip ?_
  refine cn6 _ _ ?_
  clear cn6
  refine wp_seq_k fun Kn8 cn8 => ?_
  refine wp_seq_k fun _ cn9 => wl_region ?_
  refine np (.pointer (some ⟨g1, 4, none⟩)) ?_
  refine ng hM 8 rfl 4 Tryz.underlying2 rfl ?_
  refine np (.bool (d.now == 20000)) ?_
  go_frame
  refine wl_nil (cn9 _ _ ?_)
  clear cn9
  rcases tf ((d.now == 20000)) with hx6 | hx6
  rw [hx6]
  refine wp_cond_true rfl ?_
  refine wp_seq_k fun _ cn10 => wl_region ?_
  refine nl hM 1 rfl Tryz.underlying59 I_impl_World ?_
  refine nS hM 6 rfl [.slice (some ⟨m1, 0, none⟩) d.l.length k1, .slice (some ⟨m2, 0, none⟩) d.c.length k2, .slice (some ⟨m3, 0, none⟩) d.hs.length k3, .slice (some ⟨m4, 0, none⟩) d.ds.length k4, .int .i64 d.now] I_impl_World rfl ?_
  clear hM; intro W13 hM
  refine np (.int .i64 1) ?_
  go_frame
  refine wl_nil (cn10 _ _ ?_)
  clear cn10
  refine wp_ret ?_
  simp only [Exit.then, Exit.inBlock]
  have hR : askedR d who c k v = (⟨d.l, d.c, d.hs, d.ds, d.now⟩, 1) := by simp [askedR, hx3, hx4, hx5, hx6, hat, tkw]
  rw [hR]
  refine bodyPost_ret (ret_two (p := 6) (u := 7) (v := .int .i64 1) rfl hM 6 rfl rfl rfl Tryz.underlying59 I_impl_World) rfl ⟨[(m1, 49, (cellsOf d.l ++ p1)), (m2, 2, (cellsI d.c ++ p2)), (m3, 73, (cellsH d.hs ++ p3)), (m4, 113, (cellsD d.ds ++ p4))], _, _, _, _, rfl, ⟨RowIn.mk (by first | rfl | (simp; done)) (cellsOf_len _) q1 q2 (by first | exact q5 | (simpa [cellsOf_len, cellsI_len, cellsH_len, cellsD_len] using q5)) (List.mem_of_getElem? (i := 0) rfl), RowIn.mk (by first | rfl | (simp; done)) (cellsI_len1 _) q3 q4 (by first | exact qC | (simpa [cellsOf_len, cellsI_len, cellsH_len, cellsD_len] using qC)) (List.mem_of_getElem? (i := 1) rfl), RowIn.mk (by first | rfl | (simp; done)) (cellsH_len _) q6 q7 (by first | exact q8 | (simpa [cellsOf_len, cellsI_len, cellsH_len, cellsD_len] using q8)) (List.mem_of_getElem? (i := 2) rfl), RowIn.mk (by first | rfl | (simp; done)) (cellsD_len _) q9 qA (by first | exact qB | (simpa [cellsOf_len, cellsI_len, cellsH_len, cellsD_len] using qB)) (List.mem_of_getElem? (i := 3) rfl)⟩, ?_⟩
  replace hM := hM.pull 5 rfl
  replace hM := hM.pull 5 rfl
  replace hM := hM.pull 5 rfl
  replace hM := hM.pull 5 rfl
  exact hM.four
  rw [hx6]
  refine wp_cond_false rfl ?_
  refine wp_skip ?_
  refine cn8 _ _ ?_
  clear cn8
  refine wp_seq_k fun _ cn10 => wl_region ?_
  refine np (.pointer (some ⟨g1, 4, none⟩)) ?_
  refine ng hM 8 rfl 4 Tryz.underlying2 rfl ?_
  refine nI (d.now + 1) ?_
  refine np (.pointer (some ⟨g4, 4, none⟩)) ?_
  refine nk hM 1 rfl 4 (.int .i64 (d.now + 1)) I_int64 (by first | (simp; done) | exact Nat.le_of_ble_eq_true (by kernel_rfl)) ?_
  clear hM; intro W13 hM
  refine wl_nil (cn10 _ _ ?_)
  clear cn10
  refine wp_seq_k fun _ cn11 => wl_region ?_
  refine np (.pointer (some ⟨g4, 4, none⟩)) ?_
  refine ng hM 1 rfl 4 Tryz.underlying2 rfl ?_
  refine np (.pointer (some ⟨g5, 14, none⟩)) ?_
  refine nk hM 0 rfl 14 (.int .i64 (d.now + 1)) I_int64 (by simp [HD.cells, splice_len]) ?_
  clear hM; intro W14 hM
  refine wl_nil (cn11 _ _ ?_)
  clear cn11
  refine wp_seq_k fun _ cn12 => wl_region ?_
  refine np (.pointer (some ⟨g4, 2, none⟩)) ?_
  refine ng hM 1 rfl 2 Tryz.underlying56 rfl ?_
  refine np (.int .i64 who) ?_
  refine nl hM 0 rfl Tryz.underlying73 I_impl_Hand ?_
  go_frame
  refine wl_index (by kernel_rfl) 56 73 _ _ rfl m3 0 d.hs.length k3 17 kw rfl rfl hkw (by omega) Tryz.underlying56 I_impl_Hand ?_
  go_frame
  refine wl_storep (by kernel_rfl) hM 4 rfl 73 _ _ rfl rfl (0 + kw * 17) rfl (HD.cells { (calledR hh c k v).1 with begin_ := (d.now + 1) }) rfl I_impl_Hand (hand_room hkl) (hd_one' _) ?_
  clear hM; intro W15 hM; rw [splice_hand hkl] at hM
  refine wl_nil (cn12 _ _ ?_)
  clear cn12
  refine wp_seq_k fun _ cn13 => wl_region ?_
  refine nl hM 1 rfl Tryz.underlying59 I_impl_World ?_
  refine np (.int .i64 ((calledR hh c k v).2)) ?_
  refine nS hM 6 rfl [.slice (some ⟨m1, 0, none⟩) d.l.length k1, .slice (some ⟨m2, 0, none⟩) d.c.length k2, .slice (some ⟨m3, 0, none⟩) d.hs.length k3, .slice (some ⟨m4, 0, none⟩) d.ds.length k4, .int .i64 (d.now + 1)] I_impl_World rfl ?_
  clear hM; intro W16 hM
  refine np (.int .i64 ((calledR hh c k v).2)) ?_
  go_frame
  refine wl_nil (cn13 _ _ ?_)
  clear cn13
  refine wp_ret ?_
  have hR : askedR d who c k v = (⟨d.l, d.c, (d.hs.set kw { (calledR hh c k v).1 with begin_ := (d.now + 1) }), d.ds, (d.now + 1)⟩, (calledR hh c k v).2) := by simp [askedR, hx3, hx4, hx5, hx6, hat, tkw]
  rw [hR]
  refine bodyPost_ret (ret_two (p := 6) (u := 7) (v := .int .i64 ((calledR hh c k v).2)) rfl hM 6 rfl rfl rfl Tryz.underlying59 I_impl_World) rfl ⟨[(m1, 49, (cellsOf d.l ++ p1)), (m2, 2, (cellsI d.c ++ p2)), (m3, 73, (cellsH (d.hs.set kw { (calledR hh c k v).1 with begin_ := (d.now + 1) }) ++ p3)), (m4, 113, (cellsD d.ds ++ p4))], _, _, _, _, rfl, ⟨RowIn.mk (by first | rfl | (simp; done)) (cellsOf_len _) q1 q2 (by first | exact q5 | (simpa [cellsOf_len, cellsI_len, cellsH_len, cellsD_len] using q5)) (List.mem_of_getElem? (i := 0) rfl), RowIn.mk (by first | rfl | (simp; done)) (cellsI_len1 _) q3 q4 (by first | exact qC | (simpa [cellsOf_len, cellsI_len, cellsH_len, cellsD_len] using qC)) (List.mem_of_getElem? (i := 1) rfl), RowIn.mk (by first | rfl | (simp; done)) (cellsH_len _) q6 q7 (by first | exact q8 | (simpa [cellsOf_len, cellsI_len, cellsH_len, cellsD_len] using q8)) (List.mem_of_getElem? (i := 2) rfl), RowIn.mk (by first | rfl | (simp; done)) (cellsD_len _) q9 qA (by first | exact qB | (simpa [cellsOf_len, cellsI_len, cellsH_len, cellsD_len] using qB)) (List.mem_of_getElem? (i := 3) rfl)⟩, ?_⟩
  replace hM := hM.pull 5 rfl
  replace hM := hM.pull 5 rfl
  replace hM := hM.pull 5 rfl
  replace hM := hM.pull 5 rfl
  exact hM.four
  refine wa_start (fun w => Below w0.heap.size w0 w ∧ Blk w g1 59 [.slice a1 d.l.length i1, .slice a2 d.c.length i2, .slice (some ⟨b3, off3, none⟩) d.hs.length i3, .slice a4 d.ds.length i4, .int .i64 d.now] ∧ Blk w g2 71 [.int .i64 c, .int .i64 k, .int .i64 v]) 13 rfl (by kernel_rfl) ?_
  replace hM := hM.drew
  refine wt 0 (some 24) (.pointer (some ⟨g1, 2, none⟩)) ⟨hM.below, hM.blk 7 rfl, hM.blk 6 rfl⟩ ?_
  go_frame
  refine wq 1 (some 25) (.slice (some ⟨b3, off3, none⟩) d.hs.length i3) ⟨hM.below, hM.blk 7 rfl, hM.blk 6 rfl⟩ rfl (fun w hS => r_loadc hS.2.1 56 _ rfl 2 rfl Tryz.underlying56 rfl rfl) ?_
  refine wt 2 (some 26) (.int .i64 who) ⟨hM.below, hM.blk 7 rfl, hM.blk 6 rfl⟩ ?_
  go_frame
  refine wq 3 (some 27) (.pointer (some ⟨b3, off3 + kw * 17, none⟩)) ⟨hM.below, hM.blk 7 rfl, hM.blk 6 rfl⟩ rfl (fun w hS => r_index 56 73 _ _ rfl b3 off3 d.hs.length i3 17 kw rfl rfl hkw (by omega) Tryz.underlying56 I_impl_Hand) ?_
  go_frame
  refine wq 4 (some 28) (.agg (HD.cells hh).toArray) ⟨hM.below, hM.blk 7 rfl, hM.blk 6 rfl⟩ rfl (fun w hS => r_cells 73 _ rfl b3 (off3 + kw * 17) rfl Tryz.underlying73 (HD.cells hh) I_impl_Hand (row_far (Mem.ofBelow hS.1) s3 (G3 kw hh hhw))) ?_
  go_frame
  refine wq 5 (some 29) (.agg #[.int .i64 c, .int .i64 k, .int .i64 v]) ⟨hM.below, hM.blk 7 rfl, hM.blk 6 rfl⟩ rfl (fun w hS => r_load hS.2.2 71 _ rfl rfl Tryz.underlying71 I_impl_Call) ?_
  go_frame
  refine w2 6 10 ?_ ?_
  refine oc (some 30) (spec_Called hh c k v _) ?_
  rintro e W9 ⟨rfl, hb⟩
  replace hM := hM.call hb
  refine ⟨_, rfl, wk ⟨hM.below, hM.blk 7 rfl, hM.blk 6 rfl⟩ fun hs => ?_⟩
  go_frame
  refine wt 7 (some 23) (.tuple #[.agg (HD.cells ((calledR hh c k v).1)).toArray, .int .i64 ((calledR hh c k v).2)]) hs ?_
  refine wt 8 (some 31) (.agg (HD.cells ((calledR hh c k v).1)).toArray) hs ?_
  refine wt 9 (some 32) (.int .i64 ((calledR hh c k v).2)) hs ?_
  go_frame
  refine wn 10 ?_
  refine oa (some 9) hM (HD.cells HD.zero) Z_impl_Hand ?_
  clear hM; intro g5 W10 hM
  refine ⟨⟨hM.below, hM.blk 8 rfl, hM.blk 7 rfl⟩, ?_⟩
  go_frame
  refine wn 11 ?_
  refine oS hM 0 rfl (HD.cells ((calledR hh c k v).1)) I_impl_Hand (hd_one' _) ?_
  clear hM; intro W11 hM
  refine wk ⟨hM.below, hM.blk 8 rfl, hM.blk 7 rfl⟩ fun hs => ?_
  refine wt 12 (some 10) (.int .i64 ((calledR hh c k v).2)) hs ?_
  go_frame
  refine wJ ?_
  exact ⟨g5, rfl, hM⟩
  refine oa (some 9) hM (HD.cells HD.zero) Z_impl_Hand ?_
  clear hM; intro g5 W9 hM
  refine ⟨⟨hM.below, hM.blk 8 rfl, hM.blk 7 rfl⟩, ?_⟩
  go_frame
  refine wn 6 ?_
  refine oc (some 30) (spec_Called hh c k v _) ?_
  rintro e W10 ⟨rfl, hb⟩
  replace hM := hM.call hb
  refine ⟨_, rfl, wk ⟨hM.below, hM.blk 8 rfl, hM.blk 7 rfl⟩ fun hs => ?_⟩
  go_frame
  refine wt 7 (some 23) (.tuple #[.agg (HD.cells ((calledR hh c k v).1)).toArray, .int .i64 ((calledR hh c k v).2)]) hs ?_
  refine wt 8 (some 31) (.agg (HD.cells ((calledR hh c k v).1)).toArray) hs ?_
  refine wt 9 (some 32) (.int .i64 ((calledR hh c k v).2)) hs ?_
  go_frame
  refine wn 11 ?_
  refine oS hM 0 rfl (HD.cells ((calledR hh c k v).1)) I_impl_Hand (hd_one' _) ?_
  clear hM; intro W11 hM
  refine wk ⟨hM.below, hM.blk 8 rfl, hM.blk 7 rfl⟩ fun hs => ?_
  refine wt 12 (some 10) (.int .i64 ((calledR hh c k v).2)) hs ?_
  go_frame
  refine wJ ?_
  exact ⟨g5, rfl, hM⟩
  rw [hx4]
  refine np (.bool true) ?_
  refine np (.bool true) ?_
  go_frame
  refine wl_nil (cn3 _ _ ?_)
  clear cn3
  refine wp_cond_true rfl ?_
  refine wp_seq_k fun _ cn4 => wl_region ?_
  refine np (.agg #[.slice none 0 0, .slice none 0 0, .slice none 0 0, .slice none 0 0, .int .i64 0]) ?_
  refine nS hM 0 rfl [.slice none 0 0, .slice none 0 0, .slice none 0 0, .slice none 0 0, .int .i64 0] I_impl_World rfl ?_
  clear hM; intro W6 hM
  refine np (.int .i64 3) ?_
  go_frame
  refine wl_nil (cn4 _ _ ?_)
  clear cn4
  refine wp_ret ?_
  simp only [Exit.then, Exit.inBlock]
  have hR : askedR d who c k v = (WD.zero, 3) := by simp [askedR, hx3, hx4]
  rw [hR]
  exact bodyPost_ret (ret_two (p := 6) (u := 7) (v := .int .i64 3) rfl hM 0 rfl rfl rfl Tryz.underlying59 I_impl_World) rfl ⟨[], _, _, _, _, rfl, ⟨RowIn.nil, RowIn.nil, RowIn.nil, RowIn.nil⟩, hM.only⟩
  rw [hx3]
  refine np (.bool true) ?_
  refine np (.bool true) ?_
  iterate 4 refine ns ?_
  refine np (.bool true) ?_
  go_frame
  refine wl_nil (cn3 _ _ ?_)
  clear cn3
  refine wp_cond_true rfl ?_
  refine wp_seq_k fun _ cn4 => wl_region ?_
  refine np (.agg #[.slice none 0 0, .slice none 0 0, .slice none 0 0, .slice none 0 0, .int .i64 0]) ?_
  refine nS hM 0 rfl [.slice none 0 0, .slice none 0 0, .slice none 0 0, .slice none 0 0, .int .i64 0] I_impl_World rfl ?_
  clear hM; intro W5 hM
  refine np (.int .i64 3) ?_
  go_frame
  refine wl_nil (cn4 _ _ ?_)
  clear cn4
  refine wp_ret ?_
  simp only [Exit.then, Exit.inBlock]
  have hR : askedR d who c k v = (WD.zero, 3) := by simp [askedR, hx3]
  rw [hR]
  exact bodyPost_ret (ret_two (p := 6) (u := 7) (v := .int .i64 3) rfl hM 0 rfl rfl rfl Tryz.underlying59 I_impl_World) rfl ⟨[], _, _, _, _, rfl, ⟨RowIn.nil, RowIn.nil, RowIn.nil, RowIn.nil⟩, hM.only⟩

theorem spec_Asked0 (u x y z : Value) (d : WD) (who c k v : Int) (w0 : World) (hw : SlW w0 u x y z d) (hr : Room d) (hH : d.hs = []) :
    Calls Tryz.prog 43 #[.agg #[u, x, y, z, .int .i64 d.now], .int .i64 who, .agg #[.int .i64 c, .int .i64 k, .int .i64 v]] w0 (SaysW (fun w => .tuple #[w, .int .i64 (askedR d who c k v).2]) (askedR d who c k v).1 w0) := by
  have hwf : worldB d = false := by
    rcases tf (worldB d) with e | e
    · exact absurd hH (world_ne e).2.2.1
    · exact e
  have HW := hw
  obtain ⟨h1, h2, h3, h4⟩ := hw
  have H1 := h1
  have H2 := h2
  have H3 := h3
  have H4 := h4
  obtain ⟨r1, r2, r3, r4⟩ := id hr
  obtain ⟨a1, i1, rfl, -⟩ := h1
  obtain ⟨a2, i2, rfl, -⟩ := h2
  obtain ⟨a3, i3, rfl, -⟩ := h3
  obtain ⟨a4, i4, rfl, -⟩ := h4
  have hM := Mem.start w0
  go_enter Tryz.func43, Tryz.ntmps43
  refine wp_seq_k fun _ cn1 => wl_region ?_
  refine nx hM 59 [.slice a1 d.l.length i1, .slice a2 d.c.length i2, .slice a3 d.hs.length i3, .slice a4 d.ds.length i4, .int .i64 d.now] ?_
  clear hM; intro g1 W1 hM
  refine nx hM 71 [.int .i64 c, .int .i64 k, .int .i64 v] ?_
  clear hM; intro g2 W2 hM
  refine na hM [.slice none 0 0, .slice none 0 0, .slice none 0 0, .slice none 0 0, .int .i64 0] Z_impl_World ?_
  clear hM; intro g3 W3 hM
  refine np (.int .i64 0) ?_
  go_frame
  refine wl_nil (cn1 _ _ ?_)
  clear cn1
  refine wp_seq_k fun Kn2 cn2 => ?_
  refine wp_seq_k fun _ cn3 => wl_region ?_
  refine nl hM 2 rfl Tryz.underlying59 I_impl_World ?_
  refine nc (spec_WorldOk (.slice a1 d.l.length i1) (.slice a2 d.c.length i2) (.slice a3 d.hs.length i3) (.slice a4 d.ds.length i4) d _ (HW.below hM.below) hr) ?_
  rintro e W4 ⟨rfl, hb⟩
  refine ⟨.bool false, rb hwf, ?_⟩
  replace hM := hM.call hb
  go_frame
  refine np (.bool true) ?_
  refine np (.bool true) ?_
  iterate 4 refine ns ?_
  refine np (.bool true) ?_
  go_frame
  refine wl_nil (cn3 _ _ ?_)
  clear cn3
  refine wp_cond_true rfl ?_
  refine wp_seq_k fun _ cn4 => wl_region ?_
  refine np (.agg #[.slice none 0 0, .slice none 0 0, .slice none 0 0, .slice none 0 0, .int .i64 0]) ?_
  refine nS hM 0 rfl [.slice none 0 0, .slice none 0 0, .slice none 0 0, .slice none 0 0, .int .i64 0] I_impl_World rfl ?_
  clear hM; intro W5 hM
  refine np (.int .i64 3) ?_
  go_frame
  refine wl_nil (cn4 _ _ ?_)
  clear cn4
  refine wp_ret ?_
  simp only [Exit.then, Exit.inBlock]
  have hR : askedR d who c k v = (WD.zero, 3) := by simp [askedR, hwf]
  rw [hR]
  exact bodyPost_ret (ret_two (p := 6) (u := 7) (v := .int .i64 3) rfl hM 0 rfl rfl rfl Tryz.underlying59 I_impl_World) rfl ⟨[], _, _, _, _, rfl, ⟨RowIn.nil, RowIn.nil, RowIn.nil, RowIn.nil⟩, hM.only⟩
theorem spec_Asked (u x y z : Value) (d : WD) (who c k v : Int) (w0 : World) (hw : SlW w0 u x y z d) (hr : Room d) :
    Calls Tryz.prog 43 #[.agg #[u, x, y, z, .int .i64 d.now], .int .i64 who, .agg #[.int .i64 c, .int .i64 k, .int .i64 v]] w0 (SaysW (fun w => .tuple #[w, .int .i64 (askedR d who c k v).2]) (askedR d who c k v).1 w0) := by
  by_cases hH : d.hs = []
  · exact spec_Asked0 u x y z d who c k v w0 hw hr hH
  · exact spec_Asked1 u x y z d who c k v w0 hw hr hH
end Go.Proofs.YtbfndoajchibbaaGreat
