import Derived.Test.YtfjafncipjdnfaaGreatHand2
namespace Go.Proofs.YtfjafncipjdnfaaGreat
open Go.ChangeShapes Go.WideShapes Go.ChangeAt Go.RowKit
set_option linter.unusedVariables false
set_option maxRecDepth 100000
set_option maxHeartbeats 16000000
set_option linter.unusedSimpArgs false
theorem PC (h : HD) (c k v : Int) (w0 : World) :
    Calls Tryz.prog 29 #[h.val, .agg #[.int .i64 c, .int .i64 k, .int .i64 v]] w0 fun e w' => e = .returned (.tuple #[(xA h c k v).1.val, .int .i64 (xA h c k v).2]) ∧ Below w0.heap.size w0 w' := by
  unfold HD.val;have hM := Mem.start w0
  go_enter Tryz.func29, Tryz.ntmps29
  refine sr fun _ cn1 => ?_;refine nx hM 45 (HD.cells h) ?_;clear hM;intro g1 W1 hM;refine nx hM 43 [.int .i64 c, .int .i64 k, .int .i64 v] ?_;clear hM;intro g2 W2 hM;refine na hM (HD.cells HD.zero) vA ?_;clear hM;intro g3 W3 hM;refine np (.int .i64 0) ?_;go_frame;refine wz cn1 ?_;clear cn1;refine wp_seq_k fun Kn2 cn2 => ?_;refine wp_block ?_;refine wp_seq_k fun Kn3 cn3 => ?_;rcases tf ((SA h)) with hx1 | hx1
  · refine wA ?_
    refine nl hM 2 rfl dA aA ?_;refine nc (OC h _) ?_;rintro e W4 ⟨rfl, hb⟩;refine ⟨.bool true, rb hx1, ?_⟩;replace hM := hM.call hb;go_frame;refine np (.bool false) <| np (.bool false) ?_;go_frame;refine wz cn3 ?_;clear cn3;refine wp_cond_false rfl ?_;refine sr fun _ cn4 => ?_;refine np (pt g1 0) <| ng hM 2 rfl 0 bA rfl <| np (.bool (h.at_ != 0)) <| np (.bool (h.at_ != 0)) ?_;go_frame;refine wz cn4 ?_;clear cn4;rcases tf ((h.at_ != 0)) with hx2 | hx2
    · rw [hx2]
      refine wp_cond_true rfl ?_;refine sr fun _ cn5 => ?_;refine nl hM 2 rfl dA aA ?_;refine nS hM 0 rfl (HD.cells h) aA (jA _) ?_;clear hM;intro W5 hM;refine np (.int .i64 1) ?_;go_frame;refine wz cn5 ?_;clear cn5;refine wp_ret ?_;simp only [Exit.then, Exit.inBlock];have hR : xA h c k v = (h, 1) := by simp [xA, EA, IL, hx1, hx2]
      rw [hR];exact bodyPost_ret (zB (p := 4) (u := 5) (v := .int .i64 1) rfl hM 0 rfl rfl rfl dA aA) rfl ⟨rfl, hM.below⟩
    · rw [hx2]
      refine wp_cond_false rfl ?_;refine wp_seq_k fun Kn5 cn5 => ?_;rcases tf ((RC c k v)) with hx3 | hx3
      · refine wA ?_
        refine nl hM 1 rfl mC cC ?_;refine nc (DE c k v _) ?_;rintro e W5 ⟨rfl, hb⟩;refine ⟨.bool true, rb hx3, ?_⟩;replace hM := hM.call hb;go_frame;refine np (.bool false) <| np (.bool false) ?_;go_frame;refine wz cn5 ?_;clear cn5;refine wp_cond_false rfl ?_;refine wp_skip ?_;refine cn2 _ _ ?_;clear cn2;refine sr fun _ cn6 => ?_;refine nc (vB 0 0 _) ?_;rintro e W6 ⟨rfl, hb⟩;refine ⟨_, rfl, ?_⟩;replace hM := hM.call hb;go_frame;refine na hM (HD.cells HD.zero) vA ?_;clear hM;intro g4 W7 hM;refine nS hM 0 rfl (HD.cells (EA 0 0)) aA (jA _) ?_;clear hM;intro W8 hM;refine wz cn6 ?_;clear cn6;refine sr fun _ cn7 => ?_;refine nl hM 2 rfl mC cC <| np (pt g4 1) ?_;go_frame;refine PE (by kernel_rfl) hM 0 rfl 43 _ _ rfl rfl 1 rfl [.int .i64 c, .int .i64 k, .int .i64 v] rfl cC (by simp [HD.cells]) rfl ?_;clear hM;intro W9 hM;refine wz cn7 ?_;clear cn7;refine sr fun _ cn8 => ?_;refine np (pt g4 0) ?_;refine nk hM 0 rfl 0 (.int .i64 1) DA (by simp [HD.cells, AA]) ?_;clear hM;intro W10 hM;refine wz cn8 ?_;clear cn8;refine sr fun _ cn9 => ?_;refine nl hM 0 rfl dA aA ?_;refine nS hM 1 rfl (HD.cells { (EA 0 0) with c := c, k := k, v := v, at_ := 1 }) aA (jA _) ?_;clear hM;intro W11 hM;refine np (.int .i64 0) ?_;go_frame;refine wz cn9 ?_;clear cn9;refine wp_ret ?_;have hR : xA h c k v = ({ (EA 0 0) with c := c, k := k, v := v, at_ := 1 }, 0) := by simp [xA, EA, IL, hx1, hx2, hx3]
        rw [hR];exact bodyPost_ret (zB (p := 4) (u := 5) (v := .int .i64 0) rfl hM 1 rfl rfl rfl dA aA) rfl ⟨rfl, hM.below⟩
      · refine wA ?_
        refine nl hM 1 rfl mC cC ?_;refine nc (DE c k v _) ?_;rintro e W5 ⟨rfl, hb⟩;refine ⟨.bool false, rb hx3, ?_⟩;replace hM := hM.call hb;go_frame;refine np (.bool true) <| np (.bool true) ?_;go_frame;refine wz cn5 ?_;clear cn5;refine wp_cond_true rfl ?_;refine sr fun _ cn6 => ?_;refine nl hM 2 rfl dA aA ?_;refine nS hM 0 rfl (HD.cells h) aA (jA _) ?_;clear hM;intro W6 hM;refine np (.int .i64 2) ?_;go_frame;refine wz cn6 ?_;clear cn6;refine wp_ret ?_;simp only [Exit.then, Exit.inBlock];have hR : xA h c k v = (h, 2) := by simp [xA, EA, IL, hx1, hx2, hx3]
        rw [hR];exact bodyPost_ret (zB (p := 4) (u := 5) (v := .int .i64 2) rfl hM 0 rfl rfl rfl dA aA) rfl ⟨rfl, hM.below⟩
  · refine wA ?_
    refine nl hM 2 rfl dA aA ?_;refine nc (OC h _) ?_;rintro e W4 ⟨rfl, hb⟩;refine ⟨.bool false, rb hx1, ?_⟩;replace hM := hM.call hb;go_frame;refine np (.bool true) <| np (.bool true) ?_;go_frame;refine wz cn3 ?_;clear cn3;refine wp_cond_true rfl ?_;refine sr fun _ cn4 => ?_;refine np (.agg (HD.cells HD.zero).toArray) ?_;refine nS hM 0 rfl (HD.cells HD.zero) aA (jA _) ?_;clear hM;intro W5 hM;refine np (.int .i64 3) ?_;go_frame;refine wz cn4 ?_;clear cn4;refine wp_ret ?_;simp only [Exit.then, Exit.inBlock];have hR : xA h c k v = (HD.zero, 3) := by simp [xA, EA, IL, hx1]
    rw [hR];exact bodyPost_ret (zB (p := 4) (u := 5) (v := .int .i64 3) rfl hM 0 rfl rfl rfl dA aA) rfl ⟨rfl, hM.below⟩
theorem XE {w w1 : World} {a b : Obj} (h : Below ((w.alloc a).alloc b).heap.size ((w.alloc a).alloc b) w1) : w1.heap[w.heap.size]? = some a ∧ w1.heap[w.heap.size + 1]? = some b ∧ Below w.heap.size w w1 ∧ w.heap.size + 2 ≤ w1.heap.size := by
  have hs := h.size
  simp at hs
  refine ⟨?_, ?_, (((Below.refl _ _).alloc (Nat.le_refl _) _).alloc (by simp) _).trans (h.mono (by simp; omega)), hs⟩
  · rw [h.block _ (by simp; omega), heap_alloc2_old]
  · rw [h.block _ (by simp), heap_alloc2_new]
end Go.Proofs.YtfjafncipjdnfaaGreat
