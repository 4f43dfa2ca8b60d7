/- New worlds; what a task alone leaves: the model. -/
import Derived.Test.YtbfndoajchibbaaGreatShort
import Derived.Test.YtbfndoajchibbaaGreatShort2
import Derived.Test.YtbfndoajchibbaaGreatAlone
namespace Go.Proofs.YtbfndoajchibbaaGreat
open Go.ChangeShapes Go.WideShapes Go.ChangeAt Go.RowKit
set_option linter.unusedVariables false
set_option maxRecDepth 100000
set_option maxHeartbeats 16000000
set_option linter.unusedSimpArgs false

def root0 : ND := ⟨-1, 0, 0, 0, 0, false, 0, 0⟩
theorem aloneF_world (who : Int) : ∀ (f : Nat) (d : WD) (n : Int), worldB d = true → 0 ≤ who ∧ who < d.hs.length → worldB (aloneF who f d n).1 = true ∧ (aloneF who f d n).1.hs.length = d.hs.length
  | 0, d, n, hd, _ => ⟨hd, rfl⟩
  | f + 1, d, n, hd, hw => by
    rw [aloneF]
    split
    · exact ⟨hd, rfl⟩
    · split
      · have h1 := l13R_world hd hw
        have h2 := aloneF_world who f (l13R d who).1 (n + 1) h1.1 (by rw [h1.2]; exact hw)
        exact ⟨h2.1, h2.2.trans h1.2⟩
      · exact ⟨hd, rfl⟩
theorem aloneR_world {d : WD} {who most : Int} (hd : worldB d = true) (hw : 0 ≤ who ∧ who < d.hs.length) : worldB (aloneR d who most).1 = true ∧ (aloneR d who most).1.hs.length = d.hs.length := by
  have hi : inB who 0 ((d.hs.length : Int) - 1) = true := by simp [inB]; omega
  unfold aloneR
  rw [if_neg (by simp [hd, hi])]
  split
  · exact ⟨hd, rfl⟩
  · exact aloneF_world who _ d 0 hd hw
def newW (n : Nat) : WD := ⟨[root0], List.replicate n 0, List.replicate n (restH 0 0), [], 0⟩
theorem newW_world {n : Nat} (h1 : 1 ≤ n) (h2 : n ≤ 6) : worldB (newW n) = true := by
  match n, h1, h2 with
  | 1, _, _ => rfl
  | 2, _, _ => rfl
  | 3, _, _ => rfl
  | 4, _, _ => rfl
  | 5, _, _ => rfl
  | 6, _, _ => rfl
theorem Mem.two_ {w0 w : World} {a b : Bk} {L : List Bk} (h : Mem w0 w (a :: b :: L)) : Mem w0 w [a, b] := Mem.left (A := [a, b]) h

theorem spec_RootsM (w0 : World) : Calls Tryz.prog 78 #[] w0 fun e w' => ∃ g, e = .returned (.slice (some ⟨g, 0, none⟩) 1 1) ∧ Mem w0 w' [(g, 49, cellsOf [root0] ++ [])] := by
  have hM := Mem.start w0
  go_enter Tryz.func78, Tryz.ntmps78
  refine wp_seq_k fun _ cn1 => wl_region ?_
  refine np (.slice none 0 0) ?_
  go_frame
  refine wl_nil (cn1 _ _ ?_)
  clear cn1
  refine wp_seq_k fun _ cn2 => wl_region ?_
  refine np (.agg (ND.cells ⟨(-1), 0, 0, 0, 0, false, 0, 0⟩).toArray) ?_
  go_frame
  refine wl_buildSlice (by kernel_rfl) hM 49 1 (ND.cells ⟨(-1), 0, 0, 0, 0, false, 0, 0⟩) (fun w => by kernel_rfl) ?_
  clear hM; intro g1 W1 hM
  refine np (.slice (some ⟨g1, 0, none⟩) 1 1) ?_
  go_frame
  refine wl_nil (cn2 _ _ ?_)
  clear cn2
  refine wp_ret ?_
  refine bodyPost_ret (v := .slice (some ⟨g1, 0, none⟩) 1 1) (ret_tmp 0 rfl rfl) rfl ⟨g1, rfl, ?_⟩
  replace hM := hM.pull 0 rfl
  exact (Mem.left (A := [_]) hM)

theorem spec_NewShared1 (w0 : World) : Calls Tryz.prog 63 #[.int .i64 1] w0 fun e w' => ∃ g1 g2, e = .returned (.agg #[.slice (some ⟨g1, 0, none⟩) 1 1, .slice (some ⟨g2, 0, none⟩) 1 1]) ∧ Mem w0 w' [(g1, 49, cellsOf [root0] ++ []), (g2, 2, cellsI (List.replicate 1 0) ++ [])] := by
  have hM := Mem.start w0
  go_enter Tryz.func63, Tryz.ntmps63
  refine wp_seq_k fun _ cn1 => wl_region ?_
  refine na hM [.slice none 0 0, .slice none 0 0] Z_impl_Shared ?_
  clear hM; intro g1 W1 hM
  go_frame
  refine wl_nil (cn1 _ _ ?_)
  clear cn1
  refine wp_seq_k fun Kn2 cn2 => ?_
  refine wp_seq_k fun _ cn3 => wl_region ?_
  refine np (.int .i64 1) ?_
  refine nc (spec_in 1 1 6 _) ?_
  rintro e W2 ⟨rfl, rfl⟩
  refine ⟨.bool true, rb rfl, ?_⟩
  go_frame
  refine np (.bool false) ?_
  go_frame
  refine wl_nil (cn3 _ _ ?_)
  clear cn3
  refine wp_cond_false rfl ?_
  refine wp_skip ?_
  refine cn2 _ _ ?_
  clear cn2
  refine wp_seq_k fun Kn4 cn4 => ?_
  refine wa_join (fun act W => ∃ (g2 mr : Nat), act = ⟨#[.int .i64 1, undef, .pointer (some ⟨g1, 0, none⟩), .int .i64 1, .bool true, .bool false, undef, .slice (some ⟨mr, 0, none⟩) 1 1, .int .i64 1, .slice (some ⟨g2, 0, none⟩) 1 1, .agg #[.slice (some ⟨mr, 0, none⟩) 1 1, .slice (some ⟨g2, 0, none⟩) 1 1]], []⟩ ∧ Mem w0 W [(g2, 2, [.int .i64 0]), (mr, 49, (cellsOf ([root0]) ++ [])), (g1, 55, [.slice (some ⟨mr, 0, none⟩) 1 1, .slice (some ⟨g2, 0, none⟩) 1 1])]) ?_ ?_
  clear hM
  rintro act W6 ⟨g2, mr, rfl, hM⟩
  refine cn4 _ _ ?_
  clear cn4
  refine wp_ret ?_
  refine bodyPost_ret (ret_row rfl hM 2 rfl rfl Tryz.underlying55 I_impl_Shared) rfl ⟨mr, g2, rfl, ?_⟩
  replace hM := hM.pull 0 rfl
  replace hM := hM.pull 1 rfl
  exact hM.two_
  refine wa_start (fun w => Below w0.heap.size w0 w ∧ True) 5 rfl (by kernel_rfl) ?_
  replace hM := hM.drew
  refine wt 1 (some 8) (.int .i64 1) ⟨hM.below, trivial⟩ ?_
  go_frame
  refine w2 0 2 ?_ ?_
  refine oc (some 7) (spec_RootsM _) ?_
  rintro e W3 ⟨mr, rfl, hMr⟩
  replace hM := hM.join hMr
  refine ⟨_, rfl, ⟨hM.below, trivial⟩, ?_⟩
  go_frame
  refine wn 2 ?_
  refine wo_buildSlice (some 9) rfl rfl (by kernel_rfl) hM 2 1 [.int .i64 0] (fun w => by kernel_rfl) ?_
  clear hM; intro g2 W4 hM
  refine wk ⟨hM.below, trivial⟩ fun hs => ?_
  go_frame
  refine wt 3 (some 10) (.agg #[.slice (some ⟨mr, 0, none⟩) 1 1, .slice (some ⟨g2, 0, none⟩) 1 1]) hs ?_
  go_frame
  refine wn 4 ?_
  refine oS hM 2 rfl [.slice (some ⟨mr, 0, none⟩) 1 1, .slice (some ⟨g2, 0, none⟩) 1 1] I_impl_Shared rfl ?_
  clear hM; intro W5 hM
  refine ⟨⟨hM.below, trivial⟩, ?_⟩
  refine wJ ?_
  exact ⟨g2, mr, rfl, hM⟩
  refine wo_buildSlice (some 9) rfl rfl (by kernel_rfl) hM 2 1 [.int .i64 0] (fun w => by kernel_rfl) ?_
  clear hM; intro g2 W3 hM
  refine ⟨⟨hM.below, trivial⟩, ?_⟩
  go_frame
  refine wn 0 ?_
  refine oc (some 7) (spec_RootsM _) ?_
  rintro e W4 ⟨mr, rfl, hMr⟩
  replace hM := hM.join hMr
  refine ⟨_, rfl, wk ⟨hM.below, trivial⟩ fun hs => ?_⟩
  go_frame
  refine wt 3 (some 10) (.agg #[.slice (some ⟨mr, 0, none⟩) 1 1, .slice (some ⟨g2, 0, none⟩) 1 1]) hs ?_
  go_frame
  refine wn 4 ?_
  refine oS hM 2 rfl [.slice (some ⟨mr, 0, none⟩) 1 1, .slice (some ⟨g2, 0, none⟩) 1 1] I_impl_Shared rfl ?_
  clear hM; intro W5 hM
  refine ⟨⟨hM.below, trivial⟩, ?_⟩
  refine wJ ?_
  replace hM := hM.pull 0 rfl
  replace hM := hM.pull 1 rfl
  exact ⟨g2, mr, rfl, hM⟩

theorem spec_NewShared2 (w0 : World) : Calls Tryz.prog 63 #[.int .i64 2] w0 fun e w' => ∃ g1 g2, e = .returned (.agg #[.slice (some ⟨g1, 0, none⟩) 1 1, .slice (some ⟨g2, 0, none⟩) 2 2]) ∧ Mem w0 w' [(g1, 49, cellsOf [root0] ++ []), (g2, 2, cellsI (List.replicate 2 0) ++ [])] := by
  have hM := Mem.start w0
  go_enter Tryz.func63, Tryz.ntmps63
  refine wp_seq_k fun _ cn1 => wl_region ?_
  refine na hM [.slice none 0 0, .slice none 0 0] Z_impl_Shared ?_
  clear hM; intro g1 W1 hM
  go_frame
  refine wl_nil (cn1 _ _ ?_)
  clear cn1
  refine wp_seq_k fun Kn2 cn2 => ?_
  refine wp_seq_k fun _ cn3 => wl_region ?_
  refine np (.int .i64 2) ?_
  refine nc (spec_in 2 1 6 _) ?_
  rintro e W2 ⟨rfl, rfl⟩
  refine ⟨.bool true, rb rfl, ?_⟩
  go_frame
  refine np (.bool false) ?_
  go_frame
  refine wl_nil (cn3 _ _ ?_)
  clear cn3
  refine wp_cond_false rfl ?_
  refine wp_skip ?_
  refine cn2 _ _ ?_
  clear cn2
  refine wp_seq_k fun Kn4 cn4 => ?_
  refine wa_join (fun act W => ∃ (g2 mr : Nat), act = ⟨#[.int .i64 2, undef, .pointer (some ⟨g1, 0, none⟩), .int .i64 2, .bool true, .bool false, undef, .slice (some ⟨mr, 0, none⟩) 1 1, .int .i64 2, .slice (some ⟨g2, 0, none⟩) 2 2, .agg #[.slice (some ⟨mr, 0, none⟩) 1 1, .slice (some ⟨g2, 0, none⟩) 2 2]], []⟩ ∧ Mem w0 W [(g2, 2, [.int .i64 0, .int .i64 0]), (mr, 49, (cellsOf ([root0]) ++ [])), (g1, 55, [.slice (some ⟨mr, 0, none⟩) 1 1, .slice (some ⟨g2, 0, none⟩) 2 2])]) ?_ ?_
  clear hM
  rintro act W6 ⟨g2, mr, rfl, hM⟩
  refine cn4 _ _ ?_
  clear cn4
  refine wp_ret ?_
  refine bodyPost_ret (ret_row rfl hM 2 rfl rfl Tryz.underlying55 I_impl_Shared) rfl ⟨mr, g2, rfl, ?_⟩
  replace hM := hM.pull 0 rfl
  replace hM := hM.pull 1 rfl
  exact hM.two_
  refine wa_start (fun w => Below w0.heap.size w0 w ∧ True) 5 rfl (by kernel_rfl) ?_
  replace hM := hM.drew
  refine wt 1 (some 8) (.int .i64 2) ⟨hM.below, trivial⟩ ?_
  go_frame
  refine w2 0 2 ?_ ?_
  refine oc (some 7) (spec_RootsM _) ?_
  rintro e W3 ⟨mr, rfl, hMr⟩
  replace hM := hM.join hMr
  refine ⟨_, rfl, ⟨hM.below, trivial⟩, ?_⟩
  go_frame
  refine wn 2 ?_
  refine wo_buildSlice (some 9) rfl rfl (by kernel_rfl) hM 2 2 [.int .i64 0, .int .i64 0] (fun w => by kernel_rfl) ?_
  clear hM; intro g2 W4 hM
  refine wk ⟨hM.below, trivial⟩ fun hs => ?_
  go_frame
  refine wt 3 (some 10) (.agg #[.slice (some ⟨mr, 0, none⟩) 1 1, .slice (some ⟨g2, 0, none⟩) 2 2]) hs ?_
  go_frame
  refine wn 4 ?_
  refine oS hM 2 rfl [.slice (some ⟨mr, 0, none⟩) 1 1, .slice (some ⟨g2, 0, none⟩) 2 2] I_impl_Shared rfl ?_
  clear hM; intro W5 hM
  refine ⟨⟨hM.below, trivial⟩, ?_⟩
  refine wJ ?_
  exact ⟨g2, mr, rfl, hM⟩
  refine wo_buildSlice (some 9) rfl rfl (by kernel_rfl) hM 2 2 [.int .i64 0, .int .i64 0] (fun w => by kernel_rfl) ?_
  clear hM; intro g2 W3 hM
  refine ⟨⟨hM.below, trivial⟩, ?_⟩
  go_frame
  refine wn 0 ?_
  refine oc (some 7) (spec_RootsM _) ?_
  rintro e W4 ⟨mr, rfl, hMr⟩
  replace hM := hM.join hMr
  refine ⟨_, rfl, wk ⟨hM.below, trivial⟩ fun hs => ?_⟩
  go_frame
  refine wt 3 (some 10) (.agg #[.slice (some ⟨mr, 0, none⟩) 1 1, .slice (some ⟨g2, 0, none⟩) 2 2]) hs ?_
  go_frame
  refine wn 4 ?_
  refine oS hM 2 rfl [.slice (some ⟨mr, 0, none⟩) 1 1, .slice (some ⟨g2, 0, none⟩) 2 2] I_impl_Shared rfl ?_
  clear hM; intro W5 hM
  refine ⟨⟨hM.below, trivial⟩, ?_⟩
  refine wJ ?_
  replace hM := hM.pull 0 rfl
  replace hM := hM.pull 1 rfl
  exact ⟨g2, mr, rfl, hM⟩

theorem spec_NewShared3 (w0 : World) : Calls Tryz.prog 63 #[.int .i64 3] w0 fun e w' => ∃ g1 g2, e = .returned (.agg #[.slice (some ⟨g1, 0, none⟩) 1 1, .slice (some ⟨g2, 0, none⟩) 3 3]) ∧ Mem w0 w' [(g1, 49, cellsOf [root0] ++ []), (g2, 2, cellsI (List.replicate 3 0) ++ [])] := by
  have hM := Mem.start w0
  go_enter Tryz.func63, Tryz.ntmps63
  refine wp_seq_k fun _ cn1 => wl_region ?_
  refine na hM [.slice none 0 0, .slice none 0 0] Z_impl_Shared ?_
  clear hM; intro g1 W1 hM
  go_frame
  refine wl_nil (cn1 _ _ ?_)
  clear cn1
  refine wp_seq_k fun Kn2 cn2 => ?_
  refine wp_seq_k fun _ cn3 => wl_region ?_
  refine np (.int .i64 3) ?_
  refine nc (spec_in 3 1 6 _) ?_
  rintro e W2 ⟨rfl, rfl⟩
  refine ⟨.bool true, rb rfl, ?_⟩
  go_frame
  refine np (.bool false) ?_
  go_frame
  refine wl_nil (cn3 _ _ ?_)
  clear cn3
  refine wp_cond_false rfl ?_
  refine wp_skip ?_
  refine cn2 _ _ ?_
  clear cn2
  refine wp_seq_k fun Kn4 cn4 => ?_
  refine wa_join (fun act W => ∃ (g2 mr : Nat), act = ⟨#[.int .i64 3, undef, .pointer (some ⟨g1, 0, none⟩), .int .i64 3, .bool true, .bool false, undef, .slice (some ⟨mr, 0, none⟩) 1 1, .int .i64 3, .slice (some ⟨g2, 0, none⟩) 3 3, .agg #[.slice (some ⟨mr, 0, none⟩) 1 1, .slice (some ⟨g2, 0, none⟩) 3 3]], []⟩ ∧ Mem w0 W [(g2, 2, [.int .i64 0, .int .i64 0, .int .i64 0]), (mr, 49, (cellsOf ([root0]) ++ [])), (g1, 55, [.slice (some ⟨mr, 0, none⟩) 1 1, .slice (some ⟨g2, 0, none⟩) 3 3])]) ?_ ?_
  clear hM
  rintro act W6 ⟨g2, mr, rfl, hM⟩
  refine cn4 _ _ ?_
  clear cn4
  refine wp_ret ?_
  refine bodyPost_ret (ret_row rfl hM 2 rfl rfl Tryz.underlying55 I_impl_Shared) rfl ⟨mr, g2, rfl, ?_⟩
  replace hM := hM.pull 0 rfl
  replace hM := hM.pull 1 rfl
  exact hM.two_
  refine wa_start (fun w => Below w0.heap.size w0 w ∧ True) 5 rfl (by kernel_rfl) ?_
  replace hM := hM.drew
  refine wt 1 (some 8) (.int .i64 3) ⟨hM.below, trivial⟩ ?_
  go_frame
  refine w2 0 2 ?_ ?_
  refine oc (some 7) (spec_RootsM _) ?_
  rintro e W3 ⟨mr, rfl, hMr⟩
  replace hM := hM.join hMr
  refine ⟨_, rfl, ⟨hM.below, trivial⟩, ?_⟩
  go_frame
  refine wn 2 ?_
  refine wo_buildSlice (some 9) rfl rfl (by kernel_rfl) hM 2 3 [.int .i64 0, .int .i64 0, .int .i64 0] (fun w => by kernel_rfl) ?_
  clear hM; intro g2 W4 hM
  refine wk ⟨hM.below, trivial⟩ fun hs => ?_
  go_frame
  refine wt 3 (some 10) (.agg #[.slice (some ⟨mr, 0, none⟩) 1 1, .slice (some ⟨g2, 0, none⟩) 3 3]) hs ?_
  go_frame
  refine wn 4 ?_
  refine oS hM 2 rfl [.slice (some ⟨mr, 0, none⟩) 1 1, .slice (some ⟨g2, 0, none⟩) 3 3] I_impl_Shared rfl ?_
  clear hM; intro W5 hM
  refine ⟨⟨hM.below, trivial⟩, ?_⟩
  refine wJ ?_
  exact ⟨g2, mr, rfl, hM⟩
  refine wo_buildSlice (some 9) rfl rfl (by kernel_rfl) hM 2 3 [.int .i64 0, .int .i64 0, .int .i64 0] (fun w => by kernel_rfl) ?_
  clear hM; intro g2 W3 hM
  refine ⟨⟨hM.below, trivial⟩, ?_⟩
  go_frame
  refine wn 0 ?_
  refine oc (some 7) (spec_RootsM _) ?_
  rintro e W4 ⟨mr, rfl, hMr⟩
  replace hM := hM.join hMr
  refine ⟨_, rfl, wk ⟨hM.below, trivial⟩ fun hs => ?_⟩
  go_frame
  refine wt 3 (some 10) (.agg #[.slice (some ⟨mr, 0, none⟩) 1 1, .slice (some ⟨g2, 0, none⟩) 3 3]) hs ?_
  go_frame
  refine wn 4 ?_
  refine oS hM 2 rfl [.slice (some ⟨mr, 0, none⟩) 1 1, .slice (some ⟨g2, 0, none⟩) 3 3] I_impl_Shared rfl ?_
  clear hM; intro W5 hM
  refine ⟨⟨hM.below, trivial⟩, ?_⟩
  refine wJ ?_
  replace hM := hM.pull 0 rfl
  replace hM := hM.pull 1 rfl
  exact ⟨g2, mr, rfl, hM⟩

theorem spec_NewShared4 (w0 : World) : Calls Tryz.prog 63 #[.int .i64 4] w0 fun e w' => ∃ g1 g2, e = .returned (.agg #[.slice (some ⟨g1, 0, none⟩) 1 1, .slice (some ⟨g2, 0, none⟩) 4 4]) ∧ Mem w0 w' [(g1, 49, cellsOf [root0] ++ []), (g2, 2, cellsI (List.replicate 4 0) ++ [])] := by
  have hM := Mem.start w0
  go_enter Tryz.func63, Tryz.ntmps63
  refine wp_seq_k fun _ cn1 => wl_region ?_
  refine na hM [.slice none 0 0, .slice none 0 0] Z_impl_Shared ?_
  clear hM; intro g1 W1 hM
  go_frame
  refine wl_nil (cn1 _ _ ?_)
  clear cn1
  refine wp_seq_k fun Kn2 cn2 => ?_
  refine wp_seq_k fun _ cn3 => wl_region ?_
  refine np (.int .i64 4) ?_
  refine nc (spec_in 4 1 6 _) ?_
  rintro e W2 ⟨rfl, rfl⟩
  refine ⟨.bool true, rb rfl, ?_⟩
  go_frame
  refine np (.bool false) ?_
  go_frame
  refine wl_nil (cn3 _ _ ?_)
  clear cn3
  refine wp_cond_false rfl ?_
  refine wp_skip ?_
  refine cn2 _ _ ?_
  clear cn2
  refine wp_seq_k fun Kn4 cn4 => ?_
  refine wa_join (fun act W => ∃ (g2 mr : Nat), act = ⟨#[.int .i64 4, undef, .pointer (some ⟨g1, 0, none⟩), .int .i64 4, .bool true, .bool false, undef, .slice (some ⟨mr, 0, none⟩) 1 1, .int .i64 4, .slice (some ⟨g2, 0, none⟩) 4 4, .agg #[.slice (some ⟨mr, 0, none⟩) 1 1, .slice (some ⟨g2, 0, none⟩) 4 4]], []⟩ ∧ Mem w0 W [(g2, 2, [.int .i64 0, .int .i64 0, .int .i64 0, .int .i64 0]), (mr, 49, (cellsOf ([root0]) ++ [])), (g1, 55, [.slice (some ⟨mr, 0, none⟩) 1 1, .slice (some ⟨g2, 0, none⟩) 4 4])]) ?_ ?_
  clear hM
  rintro act W6 ⟨g2, mr, rfl, hM⟩
  refine cn4 _ _ ?_
  clear cn4
  refine wp_ret ?_
  refine bodyPost_ret (ret_row rfl hM 2 rfl rfl Tryz.underlying55 I_impl_Shared) rfl ⟨mr, g2, rfl, ?_⟩
  replace hM := hM.pull 0 rfl
  replace hM := hM.pull 1 rfl
  exact hM.two_
  refine wa_start (fun w => Below w0.heap.size w0 w ∧ True) 5 rfl (by kernel_rfl) ?_
  replace hM := hM.drew
  refine wt 1 (some 8) (.int .i64 4) ⟨hM.below, trivial⟩ ?_
  go_frame
  refine w2 0 2 ?_ ?_
  refine oc (some 7) (spec_RootsM _) ?_
  rintro e W3 ⟨mr, rfl, hMr⟩
  replace hM := hM.join hMr
  refine ⟨_, rfl, ⟨hM.below, trivial⟩, ?_⟩
  go_frame
  refine wn 2 ?_
  refine wo_buildSlice (some 9) rfl rfl (by kernel_rfl) hM 2 4 [.int .i64 0, .int .i64 0, .int .i64 0, .int .i64 0] (fun w => by kernel_rfl) ?_
  clear hM; intro g2 W4 hM
  refine wk ⟨hM.below, trivial⟩ fun hs => ?_
  go_frame
  refine wt 3 (some 10) (.agg #[.slice (some ⟨mr, 0, none⟩) 1 1, .slice (some ⟨g2, 0, none⟩) 4 4]) hs ?_
  go_frame
  refine wn 4 ?_
  refine oS hM 2 rfl [.slice (some ⟨mr, 0, none⟩) 1 1, .slice (some ⟨g2, 0, none⟩) 4 4] I_impl_Shared rfl ?_
  clear hM; intro W5 hM
  refine ⟨⟨hM.below, trivial⟩, ?_⟩
  refine wJ ?_
  exact ⟨g2, mr, rfl, hM⟩
  refine wo_buildSlice (some 9) rfl rfl (by kernel_rfl) hM 2 4 [.int .i64 0, .int .i64 0, .int .i64 0, .int .i64 0] (fun w => by kernel_rfl) ?_
  clear hM; intro g2 W3 hM
  refine ⟨⟨hM.below, trivial⟩, ?_⟩
  go_frame
  refine wn 0 ?_
  refine oc (some 7) (spec_RootsM _) ?_
  rintro e W4 ⟨mr, rfl, hMr⟩
  replace hM := hM.join hMr
  refine ⟨_, rfl, wk ⟨hM.below, trivial⟩ fun hs => ?_⟩
  go_frame
  refine wt 3 (some 10) (.agg #[.slice (some ⟨mr, 0, none⟩) 1 1, .slice (some ⟨g2, 0, none⟩) 4 4]) hs ?_
  go_frame
  refine wn 4 ?_
  refine oS hM 2 rfl [.slice (some ⟨mr, 0, none⟩) 1 1, .slice (some ⟨g2, 0, none⟩) 4 4] I_impl_Shared rfl ?_
  clear hM; intro W5 hM
  refine ⟨⟨hM.below, trivial⟩, ?_⟩
  refine wJ ?_
  replace hM := hM.pull 0 rfl
  replace hM := hM.pull 1 rfl
  exact ⟨g2, mr, rfl, hM⟩

theorem spec_NewWorld1 (w0 : World) : Calls Tryz.prog 41 #[.int .i64 1] w0 (SaysW (fun v => .tuple #[v, .bool true]) (newW 1) w0) := by
  have hM := Mem.start w0
  go_enter Tryz.func41, Tryz.ntmps41
  refine wp_seq_k fun _ cn1 => wl_region ?_
  refine na hM [.slice none 0 0, .slice none 0 0, .slice none 0 0, .slice none 0 0, .int .i64 0] Z_impl_World ?_
  clear hM; intro g1 W1 hM
  refine np (.bool false) ?_
  go_frame
  refine wl_nil (cn1 _ _ ?_)
  clear cn1
  refine wp_seq_k fun _ cn2 => wl_region ?_
  refine np (.int .i64 1) ?_
  refine nc (spec_NewShared1 _) ?_
  rintro e W2 ⟨ms1, ms2, rfl, hMs⟩
  refine ⟨_, rfl, ?_⟩
  replace hM := hM.join hMs
  go_frame
  refine na hM [.slice none 0 0, .slice none 0 0] Z_impl_Shared ?_
  clear hM; intro g2 W3 hM
  refine nS hM 0 rfl [.slice (some ⟨ms1, 0, none⟩) 1 1, .slice (some ⟨ms2, 0, none⟩) 1 1] I_impl_Shared rfl ?_
  clear hM; intro W4 hM
  refine wl_nil (cn2 _ _ ?_)
  clear cn2
  refine wp_seq_k fun Kn3 cn3 => ?_
  refine wp_seq_k fun _ cn4 => wl_region ?_
  refine np (.pointer (some ⟨g2, 0, none⟩)) ?_
  refine ng hM 0 rfl 0 Tryz.underlying24 rfl ?_
  refine np (.int .i64 1) ?_
  refine np (.bool false) ?_
  go_frame
  refine wl_nil (cn4 _ _ ?_)
  clear cn4
  refine wp_cond_false rfl ?_
  refine wp_skip ?_
  refine cn3 _ _ ?_
  clear cn3
  refine wp_seq_k fun _ cn5 => wl_region ?_
  refine nl hM 0 rfl Tryz.underlying55 I_impl_Shared ?_
  refine np (.agg #[.slice (some ⟨ms1, 0, none⟩) 1 1, .slice (some ⟨ms2, 0, none⟩) 1 1, .slice none 0 0, .slice none 0 0, .int .i64 0]) ?_
  refine na hM [.slice none 0 0, .slice none 0 0, .slice none 0 0, .slice none 0 0, .int .i64 0] Z_impl_World ?_
  clear hM; intro g3 W5 hM
  refine nS hM 0 rfl [.slice (some ⟨ms1, 0, none⟩) 1 1, .slice (some ⟨ms2, 0, none⟩) 1 1, .slice none 0 0, .slice none 0 0, .int .i64 0] I_impl_World rfl ?_
  clear hM; intro W6 hM
  refine wl_nil (cn5 _ _ ?_)
  clear cn5
  refine wp_seq_k fun Kn6 cn6 => ?_
  refine wp_seq_k fun _ cn7 => wl_region ?_
  refine np (.int .i64 0) ?_
  go_frame
  refine wl_nil (cn7 _ _ ?_)
  clear cn7
  refine wp_block ?_
  refine wp_loop_rounds 2 ?_
  rw [rounds_succ]
  refine wp_seq_k fun Kn8 cn8 => ?_
  refine wp_seq_k fun _ cn9 => wl_region ?_
  refine np (.int .i64 0) ?_
  refine np (.int .i64 1) ?_
  refine np (.bool true) ?_
  go_frame
  refine wl_nil (cn9 _ _ ?_)
  clear cn9
  refine wp_cond_true rfl ?_
  refine wp_skip ?_
  refine cn8 _ _ ?_
  clear cn8
  refine wp_seq_k fun Kn10 cn10 => ?_
  refine wp_block ?_
  refine wa_join (fun act W => ∃ (ga'1 g4 : Nat) (ka'2 : Nat) (pa'3 : List Value), act = ⟨#[.int .i64 1, undef, .pointer (some ⟨g1, 0, none⟩), .bool false, .pointer (some ⟨g2, 0, none⟩), .pointer (some ⟨g3, 0, none⟩), .int .i64 0, .int .i64 1, .agg #[.slice (some ⟨ms1, 0, none⟩) 1 1, .slice (some ⟨ms2, 0, none⟩) 1 1], .pointer (some ⟨g2, 0, none⟩), .slice (some ⟨ms1, 0, none⟩) 1 1, .int .i64 1, .bool false, undef, .agg #[.slice (some ⟨ms1, 0, none⟩) 1 1, .slice (some ⟨ms2, 0, none⟩) 1 1], .agg #[.slice (some ⟨ms1, 0, none⟩) 1 1, .slice (some ⟨ms2, 0, none⟩) 1 1, .slice none 0 0, .slice none 0 0, .int .i64 0], .int .i64 0, .int .i64 1, .bool true, undef, undef, .pointer (some ⟨g3, 2, none⟩), .slice none 0 0, .agg (HD.cells (restH 0 0)).toArray, .slice (some ⟨g4, 0, none⟩) 1 1, .slice (some ⟨ga'1, 0, none⟩) 1 ka'2, .pointer (some ⟨g3, 2, none⟩), undef], []⟩ ∧ Mem w0 W [(ga'1, 73, (cellsH ([(restH 0 0)]) ++ pa'3)), (g4, 73, (HD.cells (restH 0 0))), (g3, 59, [.slice (some ⟨ms1, 0, none⟩) 1 1, .slice (some ⟨ms2, 0, none⟩) 1 1, .slice (some ⟨ga'1, 0, none⟩) 1 ka'2, .slice none 0 0, .int .i64 0]), (g2, 55, [.slice (some ⟨ms1, 0, none⟩) 1 1, .slice (some ⟨ms2, 0, none⟩) 1 1]), (ms1, 49, (cellsOf ([root0]) ++ [])), (ms2, 2, (cellsI (List.replicate 1 0) ++ [])), (g1, 59, [.slice none 0 0, .slice none 0 0, .slice none 0 0, .slice none 0 0, .int .i64 0])] ∧ (1 ≤ ka'2 ∧ ka'2 ≤ maxLen ∧ (cellsH ([(restH 0 0)]) ++ pa'3).length = ka'2 * 17)) ?_ ?_
  clear hM
  rintro act W11 ⟨ga'1, g4, ka'2, pa'3, rfl, hM, ⟨qa'4, qb'5, qe'6⟩⟩
  refine cn10 _ _ ?_
  clear cn10
  refine wl_region ?_
  refine np (.int .i64 0) ?_
  refine np (.int .i64 1) ?_
  refine np (.int .i64 1) ?_
  go_frame
  refine wl_nil ?_
  refine round_go ?_
  refine wp_seq_k fun Kn11 cn11 => ?_
  refine wp_seq_k fun _ cn12 => wl_region ?_
  refine np (.int .i64 1) ?_
  refine np (.int .i64 1) ?_
  refine np (.bool false) ?_
  go_frame
  refine wl_nil (cn12 _ _ ?_)
  clear cn12
  refine wp_cond_false rfl ?_
  refine wp_exit ?_
  refine cn6 _ _ ?_
  clear cn6
  refine wp_seq_k fun _ cn13 => wl_region ?_
  refine nl hM 2 rfl Tryz.underlying59 I_impl_World ?_
  refine nS hM 6 rfl [.slice (some ⟨ms1, 0, none⟩) 1 1, .slice (some ⟨ms2, 0, none⟩) 1 1, .slice (some ⟨ga'1, 0, none⟩) 1 ka'2, .slice none 0 0, .int .i64 0] I_impl_World rfl ?_
  clear hM; intro W12 hM
  refine np (.bool true) ?_
  go_frame
  refine wl_nil (cn13 _ _ ?_)
  clear cn13
  refine wp_ret ?_
  refine bodyPost_ret (ret_two (p := 2) (u := 3) (v := .bool true) rfl hM 6 rfl rfl rfl Tryz.underlying59 I_impl_World) rfl ⟨[(ms1, 49, (cellsOf ([root0]) ++ [])), (ms2, 2, (cellsI (List.replicate 1 0) ++ [])), (ga'1, 73, (cellsH ([(restH 0 0)]) ++ pa'3))], _, _, _, _, rfl, ⟨RowIn.mk (by first | rfl | (simp; done)) (cellsOf_len _) (Nat.le_refl 1) (by simp [maxLen]) (by first | exact rfl | rfl | (simp [cellsI])) (List.mem_of_getElem? (i := 0) rfl), RowIn.mk (by first | rfl | (simp; done)) (cellsI_len1 _) (Nat.le_refl 1) (by simp [maxLen]) (by first | exact rfl | rfl | (simp [cellsI])) (List.mem_of_getElem? (i := 1) rfl), RowIn.mk (by first | rfl | (simp; done)) (cellsH_len _) qa'4 qb'5 (by first | exact qe'6 | rfl | (simp [cellsI])) (List.mem_of_getElem? (i := 2) rfl), RowIn.nil⟩, ?_⟩
  replace hM := hM.pull 0 rfl
  replace hM := hM.pull 5 rfl
  replace hM := hM.pull 5 rfl
  exact Mem.left (A := [_, _, _]) hM
  refine wa_start (fun w => Below w0.heap.size w0 w ∧ True) 7 rfl (by kernel_rfl) ?_
  replace hM := hM.drew
  refine wt 0 (some 21) (.pointer (some ⟨g3, 2, none⟩)) ⟨hM.below, trivial⟩ ?_
  go_frame
  refine w2 1 2 ?_ ?_
  refine oq (some 22) (.slice none 0 0) ⟨hM.below, trivial⟩ rfl (r_loadc (hM.blk 0 rfl) 56 _ rfl 2 rfl Tryz.underlying56 rfl rfl) ?_
  go_frame
  refine wn 2 ?_
  refine oc (some 23) (spec_Resting 0 0 _) ?_
  rintro e W7 ⟨rfl, hb⟩
  replace hM := hM.call hb
  refine ⟨_, rfl, ⟨hM.below, trivial⟩, ?_⟩
  go_frame
  refine wn 3 ?_
  refine wo_buildSlice (some 24) rfl rfl (by kernel_rfl) hM 73 1 (HD.cells (restH 0 0)) (fun w => by kernel_rfl) ?_
  clear hM; intro g4 W8 hM
  refine ⟨⟨hM.below, trivial⟩, ?_⟩
  go_frame
  refine wn 4 ?_
  refine wo_appendN (some 25) rfl rfl (by kernel_rfl) hM 0 rfl _ _ 56 rfl Tryz.underlying56 infoHand rfl (by decide) 1 1 (by kernel_rfl) (by kernel_rfl) rfl (hd_one' _) (by decide) (by decide) (by decide) ?_
  clear hM; intro ga'1 ka'2 pa'3 W9 qa'4 qb'5 qe'6 hM
  replace qe'6 : (cellsH ([(restH 0 0)]) ++ pa'3).length = ka'2 * 17 := qe'6
  refine wk ⟨hM.below, trivial⟩ fun hs => ?_
  go_frame
  refine wt 5 (some 26) (.pointer (some ⟨g3, 2, none⟩)) hs ?_
  go_frame
  refine wn 6 ?_
  refine ok' hM 2 rfl 2 (.slice (some ⟨ga'1, 0, none⟩) 1 ka'2) I_S_impl_Hand (by first | (simp; done) | exact Nat.le_of_ble_eq_true (by kernel_rfl)) ?_
  clear hM; intro W10 hM
  refine ⟨⟨hM.below, trivial⟩, ?_⟩
  refine wJ ?_
  exact ⟨ga'1, g4, ka'2, pa'3, rfl, hM, ⟨qa'4, qb'5, qe'6⟩⟩
  refine oc (some 23) (spec_Resting 0 0 _) ?_
  rintro e W7 ⟨rfl, hb⟩
  replace hM := hM.call hb
  refine ⟨_, rfl, ⟨hM.below, trivial⟩, ?_⟩
  go_frame
  refine w2 1 3 ?_ ?_
  refine oq (some 22) (.slice none 0 0) ⟨hM.below, trivial⟩ rfl (r_loadc (hM.blk 0 rfl) 56 _ rfl 2 rfl Tryz.underlying56 rfl rfl) ?_
  go_frame
  refine wn 3 ?_
  refine wo_buildSlice (some 24) rfl rfl (by kernel_rfl) hM 73 1 (HD.cells (restH 0 0)) (fun w => by kernel_rfl) ?_
  clear hM; intro g4 W8 hM
  refine ⟨⟨hM.below, trivial⟩, ?_⟩
  go_frame
  refine wn 4 ?_
  refine wo_appendN (some 25) rfl rfl (by kernel_rfl) hM 0 rfl _ _ 56 rfl Tryz.underlying56 infoHand rfl (by decide) 1 1 (by kernel_rfl) (by kernel_rfl) rfl (hd_one' _) (by decide) (by decide) (by decide) ?_
  clear hM; intro ga'1 ka'2 pa'3 W9 qa'4 qb'5 qe'6 hM
  replace qe'6 : (cellsH ([(restH 0 0)]) ++ pa'3).length = ka'2 * 17 := qe'6
  refine wk ⟨hM.below, trivial⟩ fun hs => ?_
  go_frame
  refine wt 5 (some 26) (.pointer (some ⟨g3, 2, none⟩)) hs ?_
  go_frame
  refine wn 6 ?_
  refine ok' hM 2 rfl 2 (.slice (some ⟨ga'1, 0, none⟩) 1 ka'2) I_S_impl_Hand (by first | (simp; done) | exact Nat.le_of_ble_eq_true (by kernel_rfl)) ?_
  clear hM; intro W10 hM
  refine ⟨⟨hM.below, trivial⟩, ?_⟩
  refine wJ ?_
  exact ⟨ga'1, g4, ka'2, pa'3, rfl, hM, ⟨qa'4, qb'5, qe'6⟩⟩
  refine wo_buildSlice (some 24) rfl rfl (by kernel_rfl) hM 73 1 (HD.cells (restH 0 0)) (fun w => by kernel_rfl) ?_
  clear hM; intro g4 W8 hM
  refine wk ⟨hM.below, trivial⟩ fun hs => ?_
  go_frame
  refine wn 1 ?_
  refine oq (some 22) (.slice none 0 0) hs rfl (r_loadc (hM.blk 1 rfl) 56 _ rfl 2 rfl Tryz.underlying56 rfl rfl) ?_
  go_frame
  refine wn 4 ?_
  refine wo_appendN (some 25) rfl rfl (by kernel_rfl) hM 0 rfl _ _ 56 rfl Tryz.underlying56 infoHand rfl (by decide) 1 1 (by kernel_rfl) (by kernel_rfl) rfl (hd_one' _) (by decide) (by decide) (by decide) ?_
  clear hM; intro ga'1 ka'2 pa'3 W9 qa'4 qb'5 qe'6 hM
  replace qe'6 : (cellsH ([(restH 0 0)]) ++ pa'3).length = ka'2 * 17 := qe'6
  refine wk ⟨hM.below, trivial⟩ fun hs => ?_
  go_frame
  refine wt 5 (some 26) (.pointer (some ⟨g3, 2, none⟩)) hs ?_
  go_frame
  refine wn 6 ?_
  refine ok' hM 2 rfl 2 (.slice (some ⟨ga'1, 0, none⟩) 1 ka'2) I_S_impl_Hand (by first | (simp; done) | exact Nat.le_of_ble_eq_true (by kernel_rfl)) ?_
  clear hM; intro W10 hM
  refine ⟨⟨hM.below, trivial⟩, ?_⟩
  refine wJ ?_
  exact ⟨ga'1, g4, ka'2, pa'3, rfl, hM, ⟨qa'4, qb'5, qe'6⟩⟩

theorem spec_NewWorld2 (w0 : World) : Calls Tryz.prog 41 #[.int .i64 2] w0 (SaysW (fun v => .tuple #[v, .bool true]) (newW 2) w0) := by
  have hM := Mem.start w0
  go_enter Tryz.func41, Tryz.ntmps41
  refine wp_seq_k fun _ cn1 => wl_region ?_
  refine na hM [.slice none 0 0, .slice none 0 0, .slice none 0 0, .slice none 0 0, .int .i64 0] Z_impl_World ?_
  clear hM; intro g1 W1 hM
  refine np (.bool false) ?_
  go_frame
  refine wl_nil (cn1 _ _ ?_)
  clear cn1
  refine wp_seq_k fun _ cn2 => wl_region ?_
  refine np (.int .i64 2) ?_
  refine nc (spec_NewShared2 _) ?_
  rintro e W2 ⟨ms1, ms2, rfl, hMs⟩
  refine ⟨_, rfl, ?_⟩
  replace hM := hM.join hMs
  go_frame
  refine na hM [.slice none 0 0, .slice none 0 0] Z_impl_Shared ?_
  clear hM; intro g2 W3 hM
  refine nS hM 0 rfl [.slice (some ⟨ms1, 0, none⟩) 1 1, .slice (some ⟨ms2, 0, none⟩) 2 2] I_impl_Shared rfl ?_
  clear hM; intro W4 hM
  refine wl_nil (cn2 _ _ ?_)
  clear cn2
  refine wp_seq_k fun Kn3 cn3 => ?_
  refine wp_seq_k fun _ cn4 => wl_region ?_
  refine np (.pointer (some ⟨g2, 0, none⟩)) ?_
  refine ng hM 0 rfl 0 Tryz.underlying24 rfl ?_
  refine np (.int .i64 1) ?_
  refine np (.bool false) ?_
  go_frame
  refine wl_nil (cn4 _ _ ?_)
  clear cn4
  refine wp_cond_false rfl ?_
  refine wp_skip ?_
  refine cn3 _ _ ?_
  clear cn3
  refine wp_seq_k fun _ cn5 => wl_region ?_
  refine nl hM 0 rfl Tryz.underlying55 I_impl_Shared ?_
  refine np (.agg #[.slice (some ⟨ms1, 0, none⟩) 1 1, .slice (some ⟨ms2, 0, none⟩) 2 2, .slice none 0 0, .slice none 0 0, .int .i64 0]) ?_
  refine na hM [.slice none 0 0, .slice none 0 0, .slice none 0 0, .slice none 0 0, .int .i64 0] Z_impl_World ?_
  clear hM; intro g3 W5 hM
  refine nS hM 0 rfl [.slice (some ⟨ms1, 0, none⟩) 1 1, .slice (some ⟨ms2, 0, none⟩) 2 2, .slice none 0 0, .slice none 0 0, .int .i64 0] I_impl_World rfl ?_
  clear hM; intro W6 hM
  refine wl_nil (cn5 _ _ ?_)
  clear cn5
  refine wp_seq_k fun Kn6 cn6 => ?_
  refine wp_seq_k fun _ cn7 => wl_region ?_
  refine np (.int .i64 0) ?_
  go_frame
  refine wl_nil (cn7 _ _ ?_)
  clear cn7
  refine wp_block ?_
  refine wp_loop_rounds 3 ?_
  rw [rounds_succ]
  refine wp_seq_k fun Kn8 cn8 => ?_
  refine wp_seq_k fun _ cn9 => wl_region ?_
  refine np (.int .i64 0) ?_
  refine np (.int .i64 2) ?_
  refine np (.bool true) ?_
  go_frame
  refine wl_nil (cn9 _ _ ?_)
  clear cn9
  refine wp_cond_true rfl ?_
  refine wp_skip ?_
  refine cn8 _ _ ?_
  clear cn8
  refine wp_seq_k fun Kn10 cn10 => ?_
  refine wp_block ?_
  refine wa_join (fun act W => ∃ (ga'1 g4 : Nat) (ka'2 : Nat) (pa'3 : List Value), act = ⟨#[.int .i64 2, undef, .pointer (some ⟨g1, 0, none⟩), .bool false, .pointer (some ⟨g2, 0, none⟩), .pointer (some ⟨g3, 0, none⟩), .int .i64 0, .int .i64 2, .agg #[.slice (some ⟨ms1, 0, none⟩) 1 1, .slice (some ⟨ms2, 0, none⟩) 2 2], .pointer (some ⟨g2, 0, none⟩), .slice (some ⟨ms1, 0, none⟩) 1 1, .int .i64 1, .bool false, undef, .agg #[.slice (some ⟨ms1, 0, none⟩) 1 1, .slice (some ⟨ms2, 0, none⟩) 2 2], .agg #[.slice (some ⟨ms1, 0, none⟩) 1 1, .slice (some ⟨ms2, 0, none⟩) 2 2, .slice none 0 0, .slice none 0 0, .int .i64 0], .int .i64 0, .int .i64 2, .bool true, undef, undef, .pointer (some ⟨g3, 2, none⟩), .slice none 0 0, .agg (HD.cells (restH 0 0)).toArray, .slice (some ⟨g4, 0, none⟩) 1 1, .slice (some ⟨ga'1, 0, none⟩) 1 ka'2, .pointer (some ⟨g3, 2, none⟩), undef], []⟩ ∧ Mem w0 W [(ga'1, 73, (cellsH ([(restH 0 0)]) ++ pa'3)), (g4, 73, (HD.cells (restH 0 0))), (g3, 59, [.slice (some ⟨ms1, 0, none⟩) 1 1, .slice (some ⟨ms2, 0, none⟩) 2 2, .slice (some ⟨ga'1, 0, none⟩) 1 ka'2, .slice none 0 0, .int .i64 0]), (g2, 55, [.slice (some ⟨ms1, 0, none⟩) 1 1, .slice (some ⟨ms2, 0, none⟩) 2 2]), (ms1, 49, (cellsOf ([root0]) ++ [])), (ms2, 2, (cellsI (List.replicate 2 0) ++ [])), (g1, 59, [.slice none 0 0, .slice none 0 0, .slice none 0 0, .slice none 0 0, .int .i64 0])] ∧ (1 ≤ ka'2 ∧ ka'2 ≤ maxLen ∧ (cellsH ([(restH 0 0)]) ++ pa'3).length = ka'2 * 17)) ?_ ?_
  clear hM
  rintro act W11 ⟨ga'1, g4, ka'2, pa'3, rfl, hM, ⟨qa'4, qb'5, qe'6⟩⟩
  refine cn10 _ _ ?_
  clear cn10
  refine wl_region ?_
  refine np (.int .i64 0) ?_
  refine np (.int .i64 1) ?_
  refine np (.int .i64 1) ?_
  go_frame
  refine wl_nil ?_
  refine round_go ?_
  refine wp_seq_k fun Kn11 cn11 => ?_
  refine wp_seq_k fun _ cn12 => wl_region ?_
  refine np (.int .i64 1) ?_
  refine np (.int .i64 2) ?_
  refine np (.bool true) ?_
  go_frame
  refine wl_nil (cn12 _ _ ?_)
  clear cn12
  refine wp_cond_true rfl ?_
  refine wp_skip ?_
  refine cn11 _ _ ?_
  clear cn11
  refine wp_seq_k fun Kn13 cn13 => ?_
  refine wp_block ?_
  refine wa_join (fun act W => ∃ (g5 ga'7 : Nat) (ka'8 : Nat) (pa'9 : List Value), act = ⟨#[.int .i64 2, undef, .pointer (some ⟨g1, 0, none⟩), .bool false, .pointer (some ⟨g2, 0, none⟩), .pointer (some ⟨g3, 0, none⟩), .int .i64 1, .int .i64 2, .agg #[.slice (some ⟨ms1, 0, none⟩) 1 1, .slice (some ⟨ms2, 0, none⟩) 2 2], .pointer (some ⟨g2, 0, none⟩), .slice (some ⟨ms1, 0, none⟩) 1 1, .int .i64 1, .bool false, undef, .agg #[.slice (some ⟨ms1, 0, none⟩) 1 1, .slice (some ⟨ms2, 0, none⟩) 2 2], .agg #[.slice (some ⟨ms1, 0, none⟩) 1 1, .slice (some ⟨ms2, 0, none⟩) 2 2, .slice none 0 0, .slice none 0 0, .int .i64 0], .int .i64 1, .int .i64 2, .bool true, .int .i64 0, .int .i64 1, .pointer (some ⟨g3, 2, none⟩), .slice (some ⟨ga'1, 0, none⟩) 1 ka'2, .agg (HD.cells (restH 0 0)).toArray, .slice (some ⟨g5, 0, none⟩) 1 1, .slice (some ⟨ga'7, 0, none⟩) (1 + 1) ka'8, .pointer (some ⟨g3, 2, none⟩), undef], []⟩ ∧ Mem w0 W [(g5, 73, (HD.cells (restH 0 0))), (ga'7, 73, (cellsH ([(restH 0 0)] ++ [(restH 0 0)]) ++ pa'9)), (g4, 73, (HD.cells (restH 0 0))), (g3, 59, [.slice (some ⟨ms1, 0, none⟩) 1 1, .slice (some ⟨ms2, 0, none⟩) 2 2, .slice (some ⟨ga'7, 0, none⟩) (1 + 1) ka'8, .slice none 0 0, .int .i64 0]), (g2, 55, [.slice (some ⟨ms1, 0, none⟩) 1 1, .slice (some ⟨ms2, 0, none⟩) 2 2]), (ms1, 49, (cellsOf ([root0]) ++ [])), (ms2, 2, (cellsI (List.replicate 2 0) ++ [])), (g1, 59, [.slice none 0 0, .slice none 0 0, .slice none 0 0, .slice none 0 0, .int .i64 0])] ∧ ((1 + 1) ≤ ka'8 ∧ ka'8 ≤ maxLen ∧ (cellsH ([(restH 0 0)] ++ [(restH 0 0)]) ++ pa'9).length = ka'8 * 17)) ?_ ?_
  clear hM
  rintro act W16 ⟨g5, ga'7, ka'8, pa'9, rfl, hM, ⟨qa'10, qb'11, qe'12⟩⟩
  refine cn13 _ _ ?_
  clear cn13
  refine wl_region ?_
  refine np (.int .i64 1) ?_
  refine np (.int .i64 2) ?_
  refine np (.int .i64 2) ?_
  go_frame
  refine wl_nil ?_
  refine round_go ?_
  refine wp_seq_k fun Kn14 cn14 => ?_
  refine wp_seq_k fun _ cn15 => wl_region ?_
  refine np (.int .i64 2) ?_
  refine np (.int .i64 2) ?_
  refine np (.bool false) ?_
  go_frame
  refine wl_nil (cn15 _ _ ?_)
  clear cn15
  refine wp_cond_false rfl ?_
  refine wp_exit ?_
  refine cn6 _ _ ?_
  clear cn6
  refine wp_seq_k fun _ cn16 => wl_region ?_
  refine nl hM 3 rfl Tryz.underlying59 I_impl_World ?_
  refine nS hM 7 rfl [.slice (some ⟨ms1, 0, none⟩) 1 1, .slice (some ⟨ms2, 0, none⟩) 2 2, .slice (some ⟨ga'7, 0, none⟩) (1 + 1) ka'8, .slice none 0 0, .int .i64 0] I_impl_World rfl ?_
  clear hM; intro W17 hM
  refine np (.bool true) ?_
  go_frame
  refine wl_nil (cn16 _ _ ?_)
  clear cn16
  refine wp_ret ?_
  refine bodyPost_ret (ret_two (p := 2) (u := 3) (v := .bool true) rfl hM 7 rfl rfl rfl Tryz.underlying59 I_impl_World) rfl ⟨[(ms1, 49, (cellsOf ([root0]) ++ [])), (ms2, 2, (cellsI (List.replicate 2 0) ++ [])), (ga'7, 73, (cellsH ([(restH 0 0)] ++ [(restH 0 0)]) ++ pa'9))], _, _, _, _, rfl, ⟨RowIn.mk (by first | rfl | (simp; done)) (cellsOf_len _) (Nat.le_refl 1) (by simp [maxLen]) (by first | exact rfl | rfl | (simp [cellsI])) (List.mem_of_getElem? (i := 0) rfl), RowIn.mk (by first | rfl | (simp; done)) (cellsI_len1 _) (Nat.le_refl 2) (by simp [maxLen]) (by first | exact rfl | rfl | (simp [cellsI])) (List.mem_of_getElem? (i := 1) rfl), RowIn.mk (by first | rfl | (simp; done)) (cellsH_len _) qa'10 qb'11 (by first | exact qe'12 | rfl | (simp [cellsI])) (List.mem_of_getElem? (i := 2) rfl), RowIn.nil⟩, ?_⟩
  replace hM := hM.pull 1 rfl
  replace hM := hM.pull 6 rfl
  replace hM := hM.pull 6 rfl
  exact Mem.left (A := [_, _, _]) hM
  refine wa_start (fun w => Below w0.heap.size w0 w ∧ True) 7 rfl (by kernel_rfl) ?_
  replace hM := hM.drew
  refine wt 0 (some 21) (.pointer (some ⟨g3, 2, none⟩)) ⟨hM.below, trivial⟩ ?_
  go_frame
  refine w2 1 2 ?_ ?_
  refine oq (some 22) (.slice (some ⟨ga'1, 0, none⟩) 1 ka'2) ⟨hM.below, trivial⟩ rfl (r_loadc (hM.blk 2 rfl) 56 _ rfl 2 rfl Tryz.underlying56 rfl rfl) ?_
  go_frame
  refine wn 2 ?_
  refine oc (some 23) (spec_Resting 0 0 _) ?_
  rintro e W12 ⟨rfl, hb⟩
  replace hM := hM.call hb
  refine ⟨_, rfl, ⟨hM.below, trivial⟩, ?_⟩
  go_frame
  refine wn 3 ?_
  refine wo_buildSlice (some 24) rfl rfl (by kernel_rfl) hM 73 1 (HD.cells (restH 0 0)) (fun w => by kernel_rfl) ?_
  clear hM; intro g5 W13 hM
  refine ⟨⟨hM.below, trivial⟩, ?_⟩
  go_frame
  refine wn 4 ?_
  refine wo_append (some 25) rfl rfl (by kernel_rfl) hM 1 rfl 0 rfl _ _ 56 rfl Tryz.underlying56 infoHand rfl (by decide) 1 ka'2 1 1 (by kernel_rfl) qa'4 qb'5 (cellsH_len _) qe'6 (by kernel_rfl) rfl (hd_one' _) (by decide) (by (try unfold maxLen); decide) (by (try unfold maxLen); decide) ?_
  clear hM; intro ga'7 ka'8 pa'9 W14 qa'10 qb'11 qe'12 hM
  rw [hand_snoc _ (restH 0 0) _] at hM qe'12
  refine wk ⟨hM.below, trivial⟩ fun hs => ?_
  go_frame
  refine wt 5 (some 26) (.pointer (some ⟨g3, 2, none⟩)) hs ?_
  go_frame
  refine wn 6 ?_
  refine ok' hM 3 rfl 2 (.slice (some ⟨ga'7, 0, none⟩) (1 + 1) ka'8) I_S_impl_Hand (by first | (simp; done) | exact Nat.le_of_ble_eq_true (by kernel_rfl)) ?_
  clear hM; intro W15 hM
  refine ⟨⟨hM.below, trivial⟩, ?_⟩
  refine wJ ?_
  exact ⟨g5, ga'7, ka'8, pa'9, rfl, hM, ⟨qa'10, qb'11, qe'12⟩⟩
  refine oc (some 23) (spec_Resting 0 0 _) ?_
  rintro e W12 ⟨rfl, hb⟩
  replace hM := hM.call hb
  refine ⟨_, rfl, ⟨hM.below, trivial⟩, ?_⟩
  go_frame
  refine w2 1 3 ?_ ?_
  refine oq (some 22) (.slice (some ⟨ga'1, 0, none⟩) 1 ka'2) ⟨hM.below, trivial⟩ rfl (r_loadc (hM.blk 2 rfl) 56 _ rfl 2 rfl Tryz.underlying56 rfl rfl) ?_
  go_frame
  refine wn 3 ?_
  refine wo_buildSlice (some 24) rfl rfl (by kernel_rfl) hM 73 1 (HD.cells (restH 0 0)) (fun w => by kernel_rfl) ?_
  clear hM; intro g5 W13 hM
  refine ⟨⟨hM.below, trivial⟩, ?_⟩
  go_frame
  refine wn 4 ?_
  refine wo_append (some 25) rfl rfl (by kernel_rfl) hM 1 rfl 0 rfl _ _ 56 rfl Tryz.underlying56 infoHand rfl (by decide) 1 ka'2 1 1 (by kernel_rfl) qa'4 qb'5 (cellsH_len _) qe'6 (by kernel_rfl) rfl (hd_one' _) (by decide) (by (try unfold maxLen); decide) (by (try unfold maxLen); decide) ?_
  clear hM; intro ga'7 ka'8 pa'9 W14 qa'10 qb'11 qe'12 hM
  rw [hand_snoc _ (restH 0 0) _] at hM qe'12
  refine wk ⟨hM.below, trivial⟩ fun hs => ?_
  go_frame
  refine wt 5 (some 26) (.pointer (some ⟨g3, 2, none⟩)) hs ?_
  go_frame
  refine wn 6 ?_
  refine ok' hM 3 rfl 2 (.slice (some ⟨ga'7, 0, none⟩) (1 + 1) ka'8) I_S_impl_Hand (by first | (simp; done) | exact Nat.le_of_ble_eq_true (by kernel_rfl)) ?_
  clear hM; intro W15 hM
  refine ⟨⟨hM.below, trivial⟩, ?_⟩
  refine wJ ?_
  exact ⟨g5, ga'7, ka'8, pa'9, rfl, hM, ⟨qa'10, qb'11, qe'12⟩⟩
  refine wo_buildSlice (some 24) rfl rfl (by kernel_rfl) hM 73 1 (HD.cells (restH 0 0)) (fun w => by kernel_rfl) ?_
  clear hM; intro g5 W13 hM
  refine wk ⟨hM.below, trivial⟩ fun hs => ?_
  go_frame
  refine wn 1 ?_
  refine oq (some 22) (.slice (some ⟨ga'1, 0, none⟩) 1 ka'2) hs rfl (r_loadc (hM.blk 3 rfl) 56 _ rfl 2 rfl Tryz.underlying56 rfl rfl) ?_
  go_frame
  refine wn 4 ?_
  refine wo_append (some 25) rfl rfl (by kernel_rfl) hM 1 rfl 0 rfl _ _ 56 rfl Tryz.underlying56 infoHand rfl (by decide) 1 ka'2 1 1 (by kernel_rfl) qa'4 qb'5 (cellsH_len _) qe'6 (by kernel_rfl) rfl (hd_one' _) (by decide) (by (try unfold maxLen); decide) (by (try unfold maxLen); decide) ?_
  clear hM; intro ga'7 ka'8 pa'9 W14 qa'10 qb'11 qe'12 hM
  rw [hand_snoc _ (restH 0 0) _] at hM qe'12
  refine wk ⟨hM.below, trivial⟩ fun hs => ?_
  go_frame
  refine wt 5 (some 26) (.pointer (some ⟨g3, 2, none⟩)) hs ?_
  go_frame
  refine wn 6 ?_
  refine ok' hM 3 rfl 2 (.slice (some ⟨ga'7, 0, none⟩) (1 + 1) ka'8) I_S_impl_Hand (by first | (simp; done) | exact Nat.le_of_ble_eq_true (by kernel_rfl)) ?_
  clear hM; intro W15 hM
  refine ⟨⟨hM.below, trivial⟩, ?_⟩
  refine wJ ?_
  exact ⟨g5, ga'7, ka'8, pa'9, rfl, hM, ⟨qa'10, qb'11, qe'12⟩⟩
  refine wa_start (fun w => Below w0.heap.size w0 w ∧ True) 7 rfl (by kernel_rfl) ?_
  replace hM := hM.drew
  refine wt 0 (some 21) (.pointer (some ⟨g3, 2, none⟩)) ⟨hM.below, trivial⟩ ?_
  go_frame
  refine w2 1 2 ?_ ?_
  refine oq (some 22) (.slice none 0 0) ⟨hM.below, trivial⟩ rfl (r_loadc (hM.blk 0 rfl) 56 _ rfl 2 rfl Tryz.underlying56 rfl rfl) ?_
  go_frame
  refine wn 2 ?_
  refine oc (some 23) (spec_Resting 0 0 _) ?_
  rintro e W7 ⟨rfl, hb⟩
  replace hM := hM.call hb
  refine ⟨_, rfl, ⟨hM.below, trivial⟩, ?_⟩
  go_frame
  refine wn 3 ?_
  refine wo_buildSlice (some 24) rfl rfl (by kernel_rfl) hM 73 1 (HD.cells (restH 0 0)) (fun w => by kernel_rfl) ?_
  clear hM; intro g4 W8 hM
  refine ⟨⟨hM.below, trivial⟩, ?_⟩
  go_frame
  refine wn 4 ?_
  refine wo_appendN (some 25) rfl rfl (by kernel_rfl) hM 0 rfl _ _ 56 rfl Tryz.underlying56 infoHand rfl (by decide) 1 1 (by kernel_rfl) (by kernel_rfl) rfl (hd_one' _) (by decide) (by decide) (by decide) ?_
  clear hM; intro ga'1 ka'2 pa'3 W9 qa'4 qb'5 qe'6 hM
  replace qe'6 : (cellsH ([(restH 0 0)]) ++ pa'3).length = ka'2 * 17 := qe'6
  refine wk ⟨hM.below, trivial⟩ fun hs => ?_
  go_frame
  refine wt 5 (some 26) (.pointer (some ⟨g3, 2, none⟩)) hs ?_
  go_frame
  refine wn 6 ?_
  refine ok' hM 2 rfl 2 (.slice (some ⟨ga'1, 0, none⟩) 1 ka'2) I_S_impl_Hand (by first | (simp; done) | exact Nat.le_of_ble_eq_true (by kernel_rfl)) ?_
  clear hM; intro W10 hM
  refine ⟨⟨hM.below, trivial⟩, ?_⟩
  refine wJ ?_
  exact ⟨ga'1, g4, ka'2, pa'3, rfl, hM, ⟨qa'4, qb'5, qe'6⟩⟩
  refine oc (some 23) (spec_Resting 0 0 _) ?_
  rintro e W7 ⟨rfl, hb⟩
  replace hM := hM.call hb
  refine ⟨_, rfl, ⟨hM.below, trivial⟩, ?_⟩
  go_frame
  refine w2 1 3 ?_ ?_
  refine oq (some 22) (.slice none 0 0) ⟨hM.below, trivial⟩ rfl (r_loadc (hM.blk 0 rfl) 56 _ rfl 2 rfl Tryz.underlying56 rfl rfl) ?_
  go_frame
  refine wn 3 ?_
  refine wo_buildSlice (some 24) rfl rfl (by kernel_rfl) hM 73 1 (HD.cells (restH 0 0)) (fun w => by kernel_rfl) ?_
  clear hM; intro g4 W8 hM
  refine ⟨⟨hM.below, trivial⟩, ?_⟩
  go_frame
  refine wn 4 ?_
  refine wo_appendN (some 25) rfl rfl (by kernel_rfl) hM 0 rfl _ _ 56 rfl Tryz.underlying56 infoHand rfl (by decide) 1 1 (by kernel_rfl) (by kernel_rfl) rfl (hd_one' _) (by decide) (by decide) (by decide) ?_
  clear hM; intro ga'1 ka'2 pa'3 W9 qa'4 qb'5 qe'6 hM
  replace qe'6 : (cellsH ([(restH 0 0)]) ++ pa'3).length = ka'2 * 17 := qe'6
  refine wk ⟨hM.below, trivial⟩ fun hs => ?_
  go_frame
  refine wt 5 (some 26) (.pointer (some ⟨g3, 2, none⟩)) hs ?_
  go_frame
  refine wn 6 ?_
  refine ok' hM 2 rfl 2 (.slice (some ⟨ga'1, 0, none⟩) 1 ka'2) I_S_impl_Hand (by first | (simp; done) | exact Nat.le_of_ble_eq_true (by kernel_rfl)) ?_
  clear hM; intro W10 hM
  refine ⟨⟨hM.below, trivial⟩, ?_⟩
  refine wJ ?_
  exact ⟨ga'1, g4, ka'2, pa'3, rfl, hM, ⟨qa'4, qb'5, qe'6⟩⟩
  refine wo_buildSlice (some 24) rfl rfl (by kernel_rfl) hM 73 1 (HD.cells (restH 0 0)) (fun w => by kernel_rfl) ?_
  clear hM; intro g4 W8 hM
  refine wk ⟨hM.below, trivial⟩ fun hs => ?_
  go_frame
  refine wn 1 ?_
  refine oq (some 22) (.slice none 0 0) hs rfl (r_loadc (hM.blk 1 rfl) 56 _ rfl 2 rfl Tryz.underlying56 rfl rfl) ?_
  go_frame
  refine wn 4 ?_
  refine wo_appendN (some 25) rfl rfl (by kernel_rfl) hM 0 rfl _ _ 56 rfl Tryz.underlying56 infoHand rfl (by decide) 1 1 (by kernel_rfl) (by kernel_rfl) rfl (hd_one' _) (by decide) (by decide) (by decide) ?_
  clear hM; intro ga'1 ka'2 pa'3 W9 qa'4 qb'5 qe'6 hM
  replace qe'6 : (cellsH ([(restH 0 0)]) ++ pa'3).length = ka'2 * 17 := qe'6
  refine wk ⟨hM.below, trivial⟩ fun hs => ?_
  go_frame
  refine wt 5 (some 26) (.pointer (some ⟨g3, 2, none⟩)) hs ?_
  go_frame
  refine wn 6 ?_
  refine ok' hM 2 rfl 2 (.slice (some ⟨ga'1, 0, none⟩) 1 ka'2) I_S_impl_Hand (by first | (simp; done) | exact Nat.le_of_ble_eq_true (by kernel_rfl)) ?_
  clear hM; intro W10 hM
  refine ⟨⟨hM.below, trivial⟩, ?_⟩
  refine wJ ?_
  exact ⟨ga'1, g4, ka'2, pa'3, rfl, hM, ⟨qa'4, qb'5, qe'6⟩⟩

theorem spec_NewWorld3 (w0 : World) : Calls Tryz.prog 41 #[.int .i64 3] w0 (SaysW (fun v => .tuple #[v, .bool true]) (newW 3) w0) := by
  have hM := Mem.start w0
  go_enter Tryz.func41, Tryz.ntmps41
  refine wp_seq_k fun _ cn1 => wl_region ?_
  refine na hM [.slice none 0 0, .slice none 0 0, .slice none 0 0, .slice none 0 0, .int .i64 0] Z_impl_World ?_
  clear hM; intro g1 W1 hM
  refine np (.bool false) ?_
  go_frame
  refine wl_nil (cn1 _ _ ?_)
  clear cn1
  refine wp_seq_k fun _ cn2 => wl_region ?_
  refine np (.int .i64 3) ?_
  refine nc (spec_NewShared3 _) ?_
  rintro e W2 ⟨ms1, ms2, rfl, hMs⟩
  refine ⟨_, rfl, ?_⟩
  replace hM := hM.join hMs
  go_frame
  refine na hM [.slice none 0 0, .slice none 0 0] Z_impl_Shared ?_
  clear hM; intro g2 W3 hM
  refine nS hM 0 rfl [.slice (some ⟨ms1, 0, none⟩) 1 1, .slice (some ⟨ms2, 0, none⟩) 3 3] I_impl_Shared rfl ?_
  clear hM; intro W4 hM
  refine wl_nil (cn2 _ _ ?_)
  clear cn2
  refine wp_seq_k fun Kn3 cn3 => ?_
  refine wp_seq_k fun _ cn4 => wl_region ?_
  refine np (.pointer (some ⟨g2, 0, none⟩)) ?_
  refine ng hM 0 rfl 0 Tryz.underlying24 rfl ?_
  refine np (.int .i64 1) ?_
  refine np (.bool false) ?_
  go_frame
  refine wl_nil (cn4 _ _ ?_)
  clear cn4
  refine wp_cond_false rfl ?_
  refine wp_skip ?_
  refine cn3 _ _ ?_
  clear cn3
  refine wp_seq_k fun _ cn5 => wl_region ?_
  refine nl hM 0 rfl Tryz.underlying55 I_impl_Shared ?_
  refine np (.agg #[.slice (some ⟨ms1, 0, none⟩) 1 1, .slice (some ⟨ms2, 0, none⟩) 3 3, .slice none 0 0, .slice none 0 0, .int .i64 0]) ?_
  refine na hM [.slice none 0 0, .slice none 0 0, .slice none 0 0, .slice none 0 0, .int .i64 0] Z_impl_World ?_
  clear hM; intro g3 W5 hM
  refine nS hM 0 rfl [.slice (some ⟨ms1, 0, none⟩) 1 1, .slice (some ⟨ms2, 0, none⟩) 3 3, .slice none 0 0, .slice none 0 0, .int .i64 0] I_impl_World rfl ?_
  clear hM; intro W6 hM
  refine wl_nil (cn5 _ _ ?_)
  clear cn5
  refine wp_seq_k fun Kn6 cn6 => ?_
  refine wp_seq_k fun _ cn7 => wl_region ?_
  refine np (.int .i64 0) ?_
  go_frame
  refine wl_nil (cn7 _ _ ?_)
  clear cn7
  refine wp_block ?_
  refine wp_loop_rounds 4 ?_
  rw [rounds_succ]
  refine wp_seq_k fun Kn8 cn8 => ?_
  refine wp_seq_k fun _ cn9 => wl_region ?_
  refine np (.int .i64 0) ?_
  refine np (.int .i64 3) ?_
  refine np (.bool true) ?_
  go_frame
  refine wl_nil (cn9 _ _ ?_)
  clear cn9
  refine wp_cond_true rfl ?_
  refine wp_skip ?_
  refine cn8 _ _ ?_
  clear cn8
  refine wp_seq_k fun Kn10 cn10 => ?_
  refine wp_block ?_
  refine wa_join (fun act W => ∃ (ga'1 g4 : Nat) (ka'2 : Nat) (pa'3 : List Value), act = ⟨#[.int .i64 3, undef, .pointer (some ⟨g1, 0, none⟩), .bool false, .pointer (some ⟨g2, 0, none⟩), .pointer (some ⟨g3, 0, none⟩), .int .i64 0, .int .i64 3, .agg #[.slice (some ⟨ms1, 0, none⟩) 1 1, .slice (some ⟨ms2, 0, none⟩) 3 3], .pointer (some ⟨g2, 0, none⟩), .slice (some ⟨ms1, 0, none⟩) 1 1, .int .i64 1, .bool false, undef, .agg #[.slice (some ⟨ms1, 0, none⟩) 1 1, .slice (some ⟨ms2, 0, none⟩) 3 3], .agg #[.slice (some ⟨ms1, 0, none⟩) 1 1, .slice (some ⟨ms2, 0, none⟩) 3 3, .slice none 0 0, .slice none 0 0, .int .i64 0], .int .i64 0, .int .i64 3, .bool true, undef, undef, .pointer (some ⟨g3, 2, none⟩), .slice none 0 0, .agg (HD.cells (restH 0 0)).toArray, .slice (some ⟨g4, 0, none⟩) 1 1, .slice (some ⟨ga'1, 0, none⟩) 1 ka'2, .pointer (some ⟨g3, 2, none⟩), undef], []⟩ ∧ Mem w0 W [(ga'1, 73, (cellsH ([(restH 0 0)]) ++ pa'3)), (g4, 73, (HD.cells (restH 0 0))), (g3, 59, [.slice (some ⟨ms1, 0, none⟩) 1 1, .slice (some ⟨ms2, 0, none⟩) 3 3, .slice (some ⟨ga'1, 0, none⟩) 1 ka'2, .slice none 0 0, .int .i64 0]), (g2, 55, [.slice (some ⟨ms1, 0, none⟩) 1 1, .slice (some ⟨ms2, 0, none⟩) 3 3]), (ms1, 49, (cellsOf ([root0]) ++ [])), (ms2, 2, (cellsI (List.replicate 3 0) ++ [])), (g1, 59, [.slice none 0 0, .slice none 0 0, .slice none 0 0, .slice none 0 0, .int .i64 0])] ∧ (1 ≤ ka'2 ∧ ka'2 ≤ maxLen ∧ (cellsH ([(restH 0 0)]) ++ pa'3).length = ka'2 * 17)) ?_ ?_
  clear hM
  rintro act W11 ⟨ga'1, g4, ka'2, pa'3, rfl, hM, ⟨qa'4, qb'5, qe'6⟩⟩
  refine cn10 _ _ ?_
  clear cn10
  refine wl_region ?_
  refine np (.int .i64 0) ?_
  refine np (.int .i64 1) ?_
  refine np (.int .i64 1) ?_
  go_frame
  refine wl_nil ?_
  refine round_go ?_
  refine wp_seq_k fun Kn11 cn11 => ?_
  refine wp_seq_k fun _ cn12 => wl_region ?_
  refine np (.int .i64 1) ?_
  refine np (.int .i64 3) ?_
  refine np (.bool true) ?_
  go_frame
  refine wl_nil (cn12 _ _ ?_)
  clear cn12
  refine wp_cond_true rfl ?_
  refine wp_skip ?_
  refine cn11 _ _ ?_
  clear cn11
  refine wp_seq_k fun Kn13 cn13 => ?_
  refine wp_block ?_
  refine wa_join (fun act W => ∃ (g5 ga'7 : Nat) (ka'8 : Nat) (pa'9 : List Value), act = ⟨#[.int .i64 3, undef, .pointer (some ⟨g1, 0, none⟩), .bool false, .pointer (some ⟨g2, 0, none⟩), .pointer (some ⟨g3, 0, none⟩), .int .i64 1, .int .i64 3, .agg #[.slice (some ⟨ms1, 0, none⟩) 1 1, .slice (some ⟨ms2, 0, none⟩) 3 3], .pointer (some ⟨g2, 0, none⟩), .slice (some ⟨ms1, 0, none⟩) 1 1, .int .i64 1, .bool false, undef, .agg #[.slice (some ⟨ms1, 0, none⟩) 1 1, .slice (some ⟨ms2, 0, none⟩) 3 3], .agg #[.slice (some ⟨ms1, 0, none⟩) 1 1, .slice (some ⟨ms2, 0, none⟩) 3 3, .slice none 0 0, .slice none 0 0, .int .i64 0], .int .i64 1, .int .i64 3, .bool true, .int .i64 0, .int .i64 1, .pointer (some ⟨g3, 2, none⟩), .slice (some ⟨ga'1, 0, none⟩) 1 ka'2, .agg (HD.cells (restH 0 0)).toArray, .slice (some ⟨g5, 0, none⟩) 1 1, .slice (some ⟨ga'7, 0, none⟩) (1 + 1) ka'8, .pointer (some ⟨g3, 2, none⟩), undef], []⟩ ∧ Mem w0 W [(g5, 73, (HD.cells (restH 0 0))), (ga'7, 73, (cellsH ([(restH 0 0)] ++ [(restH 0 0)]) ++ pa'9)), (g4, 73, (HD.cells (restH 0 0))), (g3, 59, [.slice (some ⟨ms1, 0, none⟩) 1 1, .slice (some ⟨ms2, 0, none⟩) 3 3, .slice (some ⟨ga'7, 0, none⟩) (1 + 1) ka'8, .slice none 0 0, .int .i64 0]), (g2, 55, [.slice (some ⟨ms1, 0, none⟩) 1 1, .slice (some ⟨ms2, 0, none⟩) 3 3]), (ms1, 49, (cellsOf ([root0]) ++ [])), (ms2, 2, (cellsI (List.replicate 3 0) ++ [])), (g1, 59, [.slice none 0 0, .slice none 0 0, .slice none 0 0, .slice none 0 0, .int .i64 0])] ∧ ((1 + 1) ≤ ka'8 ∧ ka'8 ≤ maxLen ∧ (cellsH ([(restH 0 0)] ++ [(restH 0 0)]) ++ pa'9).length = ka'8 * 17)) ?_ ?_
  clear hM
  rintro act W16 ⟨g5, ga'7, ka'8, pa'9, rfl, hM, ⟨qa'10, qb'11, qe'12⟩⟩
  refine cn13 _ _ ?_
  clear cn13
  refine wl_region ?_
  refine np (.int .i64 1) ?_
  refine np (.int .i64 2) ?_
  refine np (.int .i64 2) ?_
  go_frame
  refine wl_nil ?_
  refine round_go ?_
  refine wp_seq_k fun Kn14 cn14 => ?_
  refine wp_seq_k fun _ cn15 => wl_region ?_
  refine np (.int .i64 2) ?_
  refine np (.int .i64 3) ?_
  refine np (.bool true) ?_
  go_frame
  refine wl_nil (cn15 _ _ ?_)
  clear cn15
  refine wp_cond_true rfl ?_
  refine wp_skip ?_
  refine cn14 _ _ ?_
  clear cn14
  refine wp_seq_k fun Kn16 cn16 => ?_
  refine wp_block ?_
  refine wa_join (fun act W => ∃ (g6 ga'13 : Nat) (ka'14 : Nat) (pa'15 : List Value), act = ⟨#[.int .i64 3, undef, .pointer (some ⟨g1, 0, none⟩), .bool false, .pointer (some ⟨g2, 0, none⟩), .pointer (some ⟨g3, 0, none⟩), .int .i64 2, .int .i64 3, .agg #[.slice (some ⟨ms1, 0, none⟩) 1 1, .slice (some ⟨ms2, 0, none⟩) 3 3], .pointer (some ⟨g2, 0, none⟩), .slice (some ⟨ms1, 0, none⟩) 1 1, .int .i64 1, .bool false, undef, .agg #[.slice (some ⟨ms1, 0, none⟩) 1 1, .slice (some ⟨ms2, 0, none⟩) 3 3], .agg #[.slice (some ⟨ms1, 0, none⟩) 1 1, .slice (some ⟨ms2, 0, none⟩) 3 3, .slice none 0 0, .slice none 0 0, .int .i64 0], .int .i64 2, .int .i64 3, .bool true, .int .i64 1, .int .i64 2, .pointer (some ⟨g3, 2, none⟩), .slice (some ⟨ga'7, 0, none⟩) (1 + 1) ka'8, .agg (HD.cells (restH 0 0)).toArray, .slice (some ⟨g6, 0, none⟩) 1 1, .slice (some ⟨ga'13, 0, none⟩) ((1 + 1) + 1) ka'14, .pointer (some ⟨g3, 2, none⟩), undef], []⟩ ∧ Mem w0 W [(g6, 73, (HD.cells (restH 0 0))), (g5, 73, (HD.cells (restH 0 0))), (ga'13, 73, (cellsH (([(restH 0 0)] ++ [(restH 0 0)]) ++ [(restH 0 0)]) ++ pa'15)), (g4, 73, (HD.cells (restH 0 0))), (g3, 59, [.slice (some ⟨ms1, 0, none⟩) 1 1, .slice (some ⟨ms2, 0, none⟩) 3 3, .slice (some ⟨ga'13, 0, none⟩) ((1 + 1) + 1) ka'14, .slice none 0 0, .int .i64 0]), (g2, 55, [.slice (some ⟨ms1, 0, none⟩) 1 1, .slice (some ⟨ms2, 0, none⟩) 3 3]), (ms1, 49, (cellsOf ([root0]) ++ [])), (ms2, 2, (cellsI (List.replicate 3 0) ++ [])), (g1, 59, [.slice none 0 0, .slice none 0 0, .slice none 0 0, .slice none 0 0, .int .i64 0])] ∧ (((1 + 1) + 1) ≤ ka'14 ∧ ka'14 ≤ maxLen ∧ (cellsH (([(restH 0 0)] ++ [(restH 0 0)]) ++ [(restH 0 0)]) ++ pa'15).length = ka'14 * 17)) ?_ ?_
  clear hM
  rintro act W21 ⟨g6, ga'13, ka'14, pa'15, rfl, hM, ⟨qa'16, qb'17, qe'18⟩⟩
  refine cn16 _ _ ?_
  clear cn16
  refine wl_region ?_
  refine np (.int .i64 2) ?_
  refine np (.int .i64 3) ?_
  refine np (.int .i64 3) ?_
  go_frame
  refine wl_nil ?_
  refine round_go ?_
  refine wp_seq_k fun Kn17 cn17 => ?_
  refine wp_seq_k fun _ cn18 => wl_region ?_
  refine np (.int .i64 3) ?_
  refine np (.int .i64 3) ?_
  refine np (.bool false) ?_
  go_frame
  refine wl_nil (cn18 _ _ ?_)
  clear cn18
  refine wp_cond_false rfl ?_
  refine wp_exit ?_
  refine cn6 _ _ ?_
  clear cn6
  refine wp_seq_k fun _ cn19 => wl_region ?_
  refine nl hM 4 rfl Tryz.underlying59 I_impl_World ?_
  refine nS hM 8 rfl [.slice (some ⟨ms1, 0, none⟩) 1 1, .slice (some ⟨ms2, 0, none⟩) 3 3, .slice (some ⟨ga'13, 0, none⟩) ((1 + 1) + 1) ka'14, .slice none 0 0, .int .i64 0] I_impl_World rfl ?_
  clear hM; intro W22 hM
  refine np (.bool true) ?_
  go_frame
  refine wl_nil (cn19 _ _ ?_)
  clear cn19
  refine wp_ret ?_
  refine bodyPost_ret (ret_two (p := 2) (u := 3) (v := .bool true) rfl hM 8 rfl rfl rfl Tryz.underlying59 I_impl_World) rfl ⟨[(ms1, 49, (cellsOf ([root0]) ++ [])), (ms2, 2, (cellsI (List.replicate 3 0) ++ [])), (ga'13, 73, (cellsH (([(restH 0 0)] ++ [(restH 0 0)]) ++ [(restH 0 0)]) ++ pa'15))], _, _, _, _, rfl, ⟨RowIn.mk (by first | rfl | (simp; done)) (cellsOf_len _) (Nat.le_refl 1) (by simp [maxLen]) (by first | exact rfl | rfl | (simp [cellsI])) (List.mem_of_getElem? (i := 0) rfl), RowIn.mk (by first | rfl | (simp; done)) (cellsI_len1 _) (Nat.le_refl 3) (by simp [maxLen]) (by first | exact rfl | rfl | (simp [cellsI])) (List.mem_of_getElem? (i := 1) rfl), RowIn.mk (by first | rfl | (simp; done)) (cellsH_len _) qa'16 qb'17 (by first | exact qe'18 | rfl | (simp [cellsI])) (List.mem_of_getElem? (i := 2) rfl), RowIn.nil⟩, ?_⟩
  replace hM := hM.pull 2 rfl
  replace hM := hM.pull 7 rfl
  replace hM := hM.pull 7 rfl
  exact Mem.left (A := [_, _, _]) hM
  refine wa_start (fun w => Below w0.heap.size w0 w ∧ True) 7 rfl (by kernel_rfl) ?_
  replace hM := hM.drew
  refine wt 0 (some 21) (.pointer (some ⟨g3, 2, none⟩)) ⟨hM.below, trivial⟩ ?_
  go_frame
  refine w2 1 2 ?_ ?_
  refine oq (some 22) (.slice (some ⟨ga'7, 0, none⟩) (1 + 1) ka'8) ⟨hM.below, trivial⟩ rfl (r_loadc (hM.blk 3 rfl) 56 _ rfl 2 rfl Tryz.underlying56 rfl rfl) ?_
  go_frame
  refine wn 2 ?_
  refine oc (some 23) (spec_Resting 0 0 _) ?_
  rintro e W17 ⟨rfl, hb⟩
  replace hM := hM.call hb
  refine ⟨_, rfl, ⟨hM.below, trivial⟩, ?_⟩
  go_frame
  refine wn 3 ?_
  refine wo_buildSlice (some 24) rfl rfl (by kernel_rfl) hM 73 1 (HD.cells (restH 0 0)) (fun w => by kernel_rfl) ?_
  clear hM; intro g6 W18 hM
  refine ⟨⟨hM.below, trivial⟩, ?_⟩
  go_frame
  refine wn 4 ?_
  refine wo_append (some 25) rfl rfl (by kernel_rfl) hM 2 rfl 0 rfl _ _ 56 rfl Tryz.underlying56 infoHand rfl (by decide) (1 + 1) ka'8 1 1 (by kernel_rfl) qa'10 qb'11 (cellsH_len _) qe'12 (by kernel_rfl) rfl (hd_one' _) (by decide) (by (try unfold maxLen); decide) (by (try unfold maxLen); decide) ?_
  clear hM; intro ga'13 ka'14 pa'15 W19 qa'16 qb'17 qe'18 hM
  rw [hand_snoc _ (restH 0 0) _] at hM qe'18
  refine wk ⟨hM.below, trivial⟩ fun hs => ?_
  go_frame
  refine wt 5 (some 26) (.pointer (some ⟨g3, 2, none⟩)) hs ?_
  go_frame
  refine wn 6 ?_
  refine ok' hM 4 rfl 2 (.slice (some ⟨ga'13, 0, none⟩) ((1 + 1) + 1) ka'14) I_S_impl_Hand (by first | (simp; done) | exact Nat.le_of_ble_eq_true (by kernel_rfl)) ?_
  clear hM; intro W20 hM
  refine ⟨⟨hM.below, trivial⟩, ?_⟩
  refine wJ ?_
  exact ⟨g6, ga'13, ka'14, pa'15, rfl, hM, ⟨qa'16, qb'17, qe'18⟩⟩
  refine oc (some 23) (spec_Resting 0 0 _) ?_
  rintro e W17 ⟨rfl, hb⟩
  replace hM := hM.call hb
  refine ⟨_, rfl, ⟨hM.below, trivial⟩, ?_⟩
  go_frame
  refine w2 1 3 ?_ ?_
  refine oq (some 22) (.slice (some ⟨ga'7, 0, none⟩) (1 + 1) ka'8) ⟨hM.below, trivial⟩ rfl (r_loadc (hM.blk 3 rfl) 56 _ rfl 2 rfl Tryz.underlying56 rfl rfl) ?_
  go_frame
  refine wn 3 ?_
  refine wo_buildSlice (some 24) rfl rfl (by kernel_rfl) hM 73 1 (HD.cells (restH 0 0)) (fun w => by kernel_rfl) ?_
  clear hM; intro g6 W18 hM
  refine ⟨⟨hM.below, trivial⟩, ?_⟩
  go_frame
  refine wn 4 ?_
  refine wo_append (some 25) rfl rfl (by kernel_rfl) hM 2 rfl 0 rfl _ _ 56 rfl Tryz.underlying56 infoHand rfl (by decide) (1 + 1) ka'8 1 1 (by kernel_rfl) qa'10 qb'11 (cellsH_len _) qe'12 (by kernel_rfl) rfl (hd_one' _) (by decide) (by (try unfold maxLen); decide) (by (try unfold maxLen); decide) ?_
  clear hM; intro ga'13 ka'14 pa'15 W19 qa'16 qb'17 qe'18 hM
  rw [hand_snoc _ (restH 0 0) _] at hM qe'18
  refine wk ⟨hM.below, trivial⟩ fun hs => ?_
  go_frame
  refine wt 5 (some 26) (.pointer (some ⟨g3, 2, none⟩)) hs ?_
  go_frame
  refine wn 6 ?_
  refine ok' hM 4 rfl 2 (.slice (some ⟨ga'13, 0, none⟩) ((1 + 1) + 1) ka'14) I_S_impl_Hand (by first | (simp; done) | exact Nat.le_of_ble_eq_true (by kernel_rfl)) ?_
  clear hM; intro W20 hM
  refine ⟨⟨hM.below, trivial⟩, ?_⟩
  refine wJ ?_
  exact ⟨g6, ga'13, ka'14, pa'15, rfl, hM, ⟨qa'16, qb'17, qe'18⟩⟩
  refine wo_buildSlice (some 24) rfl rfl (by kernel_rfl) hM 73 1 (HD.cells (restH 0 0)) (fun w => by kernel_rfl) ?_
  clear hM; intro g6 W18 hM
  refine wk ⟨hM.below, trivial⟩ fun hs => ?_
  go_frame
  refine wn 1 ?_
  refine oq (some 22) (.slice (some ⟨ga'7, 0, none⟩) (1 + 1) ka'8) hs rfl (r_loadc (hM.blk 4 rfl) 56 _ rfl 2 rfl Tryz.underlying56 rfl rfl) ?_
  go_frame
  refine wn 4 ?_
  refine wo_append (some 25) rfl rfl (by kernel_rfl) hM 2 rfl 0 rfl _ _ 56 rfl Tryz.underlying56 infoHand rfl (by decide) (1 + 1) ka'8 1 1 (by kernel_rfl) qa'10 qb'11 (cellsH_len _) qe'12 (by kernel_rfl) rfl (hd_one' _) (by decide) (by (try unfold maxLen); decide) (by (try unfold maxLen); decide) ?_
  clear hM; intro ga'13 ka'14 pa'15 W19 qa'16 qb'17 qe'18 hM
  rw [hand_snoc _ (restH 0 0) _] at hM qe'18
  refine wk ⟨hM.below, trivial⟩ fun hs => ?_
  go_frame
  refine wt 5 (some 26) (.pointer (some ⟨g3, 2, none⟩)) hs ?_
  go_frame
  refine wn 6 ?_
  refine ok' hM 4 rfl 2 (.slice (some ⟨ga'13, 0, none⟩) ((1 + 1) + 1) ka'14) I_S_impl_Hand (by first | (simp; done) | exact Nat.le_of_ble_eq_true (by kernel_rfl)) ?_
  clear hM; intro W20 hM
  refine ⟨⟨hM.below, trivial⟩, ?_⟩
  refine wJ ?_
  exact ⟨g6, ga'13, ka'14, pa'15, rfl, hM, ⟨qa'16, qb'17, qe'18⟩⟩
  refine wa_start (fun w => Below w0.heap.size w0 w ∧ True) 7 rfl (by kernel_rfl) ?_
  replace hM := hM.drew
  refine wt 0 (some 21) (.pointer (some ⟨g3, 2, none⟩)) ⟨hM.below, trivial⟩ ?_
  go_frame
  refine w2 1 2 ?_ ?_
  refine oq (some 22) (.slice (some ⟨ga'1, 0, none⟩) 1 ka'2) ⟨hM.below, trivial⟩ rfl (r_loadc (hM.blk 2 rfl) 56 _ rfl 2 rfl Tryz.underlying56 rfl rfl) ?_
  go_frame
  refine wn 2 ?_
  refine oc (some 23) (spec_Resting 0 0 _) ?_
  rintro e W12 ⟨rfl, hb⟩
  replace hM := hM.call hb
  refine ⟨_, rfl, ⟨hM.below, trivial⟩, ?_⟩
  go_frame
  refine wn 3 ?_
  refine wo_buildSlice (some 24) rfl rfl (by kernel_rfl) hM 73 1 (HD.cells (restH 0 0)) (fun w => by kernel_rfl) ?_
  clear hM; intro g5 W13 hM
  refine ⟨⟨hM.below, trivial⟩, ?_⟩
  go_frame
  refine wn 4 ?_
  refine wo_append (some 25) rfl rfl (by kernel_rfl) hM 1 rfl 0 rfl _ _ 56 rfl Tryz.underlying56 infoHand rfl (by decide) 1 ka'2 1 1 (by kernel_rfl) qa'4 qb'5 (cellsH_len _) qe'6 (by kernel_rfl) rfl (hd_one' _) (by decide) (by (try unfold maxLen); decide) (by (try unfold maxLen); decide) ?_
  clear hM; intro ga'7 ka'8 pa'9 W14 qa'10 qb'11 qe'12 hM
  rw [hand_snoc _ (restH 0 0) _] at hM qe'12
  refine wk ⟨hM.below, trivial⟩ fun hs => ?_
  go_frame
  refine wt 5 (some 26) (.pointer (some ⟨g3, 2, none⟩)) hs ?_
  go_frame
  refine wn 6 ?_
  refine ok' hM 3 rfl 2 (.slice (some ⟨ga'7, 0, none⟩) (1 + 1) ka'8) I_S_impl_Hand (by first | (simp; done) | exact Nat.le_of_ble_eq_true (by kernel_rfl)) ?_
  clear hM; intro W15 hM
  refine ⟨⟨hM.below, trivial⟩, ?_⟩
  refine wJ ?_
  exact ⟨g5, ga'7, ka'8, pa'9, rfl, hM, ⟨qa'10, qb'11, qe'12⟩⟩
  refine oc (some 23) (spec_Resting 0 0 _) ?_
  rintro e W12 ⟨rfl, hb⟩
  replace hM := hM.call hb
  refine ⟨_, rfl, ⟨hM.below, trivial⟩, ?_⟩
  go_frame
  refine w2 1 3 ?_ ?_
  refine oq (some 22) (.slice (some ⟨ga'1, 0, none⟩) 1 ka'2) ⟨hM.below, trivial⟩ rfl (r_loadc (hM.blk 2 rfl) 56 _ rfl 2 rfl Tryz.underlying56 rfl rfl) ?_
  go_frame
  refine wn 3 ?_
  refine wo_buildSlice (some 24) rfl rfl (by kernel_rfl) hM 73 1 (HD.cells (restH 0 0)) (fun w => by kernel_rfl) ?_
  clear hM; intro g5 W13 hM
  refine ⟨⟨hM.below, trivial⟩, ?_⟩
  go_frame
  refine wn 4 ?_
  refine wo_append (some 25) rfl rfl (by kernel_rfl) hM 1 rfl 0 rfl _ _ 56 rfl Tryz.underlying56 infoHand rfl (by decide) 1 ka'2 1 1 (by kernel_rfl) qa'4 qb'5 (cellsH_len _) qe'6 (by kernel_rfl) rfl (hd_one' _) (by decide) (by (try unfold maxLen); decide) (by (try unfold maxLen); decide) ?_
  clear hM; intro ga'7 ka'8 pa'9 W14 qa'10 qb'11 qe'12 hM
  rw [hand_snoc _ (restH 0 0) _] at hM qe'12
  refine wk ⟨hM.below, trivial⟩ fun hs => ?_
  go_frame
  refine wt 5 (some 26) (.pointer (some ⟨g3, 2, none⟩)) hs ?_
  go_frame
  refine wn 6 ?_
  refine ok' hM 3 rfl 2 (.slice (some ⟨ga'7, 0, none⟩) (1 + 1) ka'8) I_S_impl_Hand (by first | (simp; done) | exact Nat.le_of_ble_eq_true (by kernel_rfl)) ?_
  clear hM; intro W15 hM
  refine ⟨⟨hM.below, trivial⟩, ?_⟩
  refine wJ ?_
  exact ⟨g5, ga'7, ka'8, pa'9, rfl, hM, ⟨qa'10, qb'11, qe'12⟩⟩
  refine wo_buildSlice (some 24) rfl rfl (by kernel_rfl) hM 73 1 (HD.cells (restH 0 0)) (fun w => by kernel_rfl) ?_
  clear hM; intro g5 W13 hM
  refine wk ⟨hM.below, trivial⟩ fun hs => ?_
  go_frame
  refine wn 1 ?_
  refine oq (some 22) (.slice (some ⟨ga'1, 0, none⟩) 1 ka'2) hs rfl (r_loadc (hM.blk 3 rfl) 56 _ rfl 2 rfl Tryz.underlying56 rfl rfl) ?_
  go_frame
  refine wn 4 ?_
  refine wo_append (some 25) rfl rfl (by kernel_rfl) hM 1 rfl 0 rfl _ _ 56 rfl Tryz.underlying56 infoHand rfl (by decide) 1 ka'2 1 1 (by kernel_rfl) qa'4 qb'5 (cellsH_len _) qe'6 (by kernel_rfl) rfl (hd_one' _) (by decide) (by (try unfold maxLen); decide) (by (try unfold maxLen); decide) ?_
  clear hM; intro ga'7 ka'8 pa'9 W14 qa'10 qb'11 qe'12 hM
  rw [hand_snoc _ (restH 0 0) _] at hM qe'12
  refine wk ⟨hM.below, trivial⟩ fun hs => ?_
  go_frame
  refine wt 5 (some 26) (.pointer (some ⟨g3, 2, none⟩)) hs ?_
  go_frame
  refine wn 6 ?_
  refine ok' hM 3 rfl 2 (.slice (some ⟨ga'7, 0, none⟩) (1 + 1) ka'8) I_S_impl_Hand (by first | (simp; done) | exact Nat.le_of_ble_eq_true (by kernel_rfl)) ?_
  clear hM; intro W15 hM
  refine ⟨⟨hM.below, trivial⟩, ?_⟩
  refine wJ ?_
  exact ⟨g5, ga'7, ka'8, pa'9, rfl, hM, ⟨qa'10, qb'11, qe'12⟩⟩
  refine wa_start (fun w => Below w0.heap.size w0 w ∧ True) 7 rfl (by kernel_rfl) ?_
  replace hM := hM.drew
  refine wt 0 (some 21) (.pointer (some ⟨g3, 2, none⟩)) ⟨hM.below, trivial⟩ ?_
  go_frame
  refine w2 1 2 ?_ ?_
  refine oq (some 22) (.slice none 0 0) ⟨hM.below, trivial⟩ rfl (r_loadc (hM.blk 0 rfl) 56 _ rfl 2 rfl Tryz.underlying56 rfl rfl) ?_
  go_frame
  refine wn 2 ?_
  refine oc (some 23) (spec_Resting 0 0 _) ?_
  rintro e W7 ⟨rfl, hb⟩
  replace hM := hM.call hb
  refine ⟨_, rfl, ⟨hM.below, trivial⟩, ?_⟩
  go_frame
  refine wn 3 ?_
  refine wo_buildSlice (some 24) rfl rfl (by kernel_rfl) hM 73 1 (HD.cells (restH 0 0)) (fun w => by kernel_rfl) ?_
  clear hM; intro g4 W8 hM
  refine ⟨⟨hM.below, trivial⟩, ?_⟩
  go_frame
  refine wn 4 ?_
  refine wo_appendN (some 25) rfl rfl (by kernel_rfl) hM 0 rfl _ _ 56 rfl Tryz.underlying56 infoHand rfl (by decide) 1 1 (by kernel_rfl) (by kernel_rfl) rfl (hd_one' _) (by decide) (by decide) (by decide) ?_
  clear hM; intro ga'1 ka'2 pa'3 W9 qa'4 qb'5 qe'6 hM
  replace qe'6 : (cellsH ([(restH 0 0)]) ++ pa'3).length = ka'2 * 17 := qe'6
  refine wk ⟨hM.below, trivial⟩ fun hs => ?_
  go_frame
  refine wt 5 (some 26) (.pointer (some ⟨g3, 2, none⟩)) hs ?_
  go_frame
  refine wn 6 ?_
  refine ok' hM 2 rfl 2 (.slice (some ⟨ga'1, 0, none⟩) 1 ka'2) I_S_impl_Hand (by first | (simp; done) | exact Nat.le_of_ble_eq_true (by kernel_rfl)) ?_
  clear hM; intro W10 hM
  refine ⟨⟨hM.below, trivial⟩, ?_⟩
  refine wJ ?_
  exact ⟨ga'1, g4, ka'2, pa'3, rfl, hM, ⟨qa'4, qb'5, qe'6⟩⟩
  refine oc (some 23) (spec_Resting 0 0 _) ?_
  rintro e W7 ⟨rfl, hb⟩
  replace hM := hM.call hb
  refine ⟨_, rfl, ⟨hM.below, trivial⟩, ?_⟩
  go_frame
  refine w2 1 3 ?_ ?_
  refine oq (some 22) (.slice none 0 0) ⟨hM.below, trivial⟩ rfl (r_loadc (hM.blk 0 rfl) 56 _ rfl 2 rfl Tryz.underlying56 rfl rfl) ?_
  go_frame
  refine wn 3 ?_
  refine wo_buildSlice (some 24) rfl rfl (by kernel_rfl) hM 73 1 (HD.cells (restH 0 0)) (fun w => by kernel_rfl) ?_
  clear hM; intro g4 W8 hM
  refine ⟨⟨hM.below, trivial⟩, ?_⟩
  go_frame
  refine wn 4 ?_
  refine wo_appendN (some 25) rfl rfl (by kernel_rfl) hM 0 rfl _ _ 56 rfl Tryz.underlying56 infoHand rfl (by decide) 1 1 (by kernel_rfl) (by kernel_rfl) rfl (hd_one' _) (by decide) (by decide) (by decide) ?_
  clear hM; intro ga'1 ka'2 pa'3 W9 qa'4 qb'5 qe'6 hM
  replace qe'6 : (cellsH ([(restH 0 0)]) ++ pa'3).length = ka'2 * 17 := qe'6
  refine wk ⟨hM.below, trivial⟩ fun hs => ?_
  go_frame
  refine wt 5 (some 26) (.pointer (some ⟨g3, 2, none⟩)) hs ?_
  go_frame
  refine wn 6 ?_
  refine ok' hM 2 rfl 2 (.slice (some ⟨ga'1, 0, none⟩) 1 ka'2) I_S_impl_Hand (by first | (simp; done) | exact Nat.le_of_ble_eq_true (by kernel_rfl)) ?_
  clear hM; intro W10 hM
  refine ⟨⟨hM.below, trivial⟩, ?_⟩
  refine wJ ?_
  exact ⟨ga'1, g4, ka'2, pa'3, rfl, hM, ⟨qa'4, qb'5, qe'6⟩⟩
  refine wo_buildSlice (some 24) rfl rfl (by kernel_rfl) hM 73 1 (HD.cells (restH 0 0)) (fun w => by kernel_rfl) ?_
  clear hM; intro g4 W8 hM
  refine wk ⟨hM.below, trivial⟩ fun hs => ?_
  go_frame
  refine wn 1 ?_
  refine oq (some 22) (.slice none 0 0) hs rfl (r_loadc (hM.blk 1 rfl) 56 _ rfl 2 rfl Tryz.underlying56 rfl rfl) ?_
  go_frame
  refine wn 4 ?_
  refine wo_appendN (some 25) rfl rfl (by kernel_rfl) hM 0 rfl _ _ 56 rfl Tryz.underlying56 infoHand rfl (by decide) 1 1 (by kernel_rfl) (by kernel_rfl) rfl (hd_one' _) (by decide) (by decide) (by decide) ?_
  clear hM; intro ga'1 ka'2 pa'3 W9 qa'4 qb'5 qe'6 hM
  replace qe'6 : (cellsH ([(restH 0 0)]) ++ pa'3).length = ka'2 * 17 := qe'6
  refine wk ⟨hM.below, trivial⟩ fun hs => ?_
  go_frame
  refine wt 5 (some 26) (.pointer (some ⟨g3, 2, none⟩)) hs ?_
  go_frame
  refine wn 6 ?_
  refine ok' hM 2 rfl 2 (.slice (some ⟨ga'1, 0, none⟩) 1 ka'2) I_S_impl_Hand (by first | (simp; done) | exact Nat.le_of_ble_eq_true (by kernel_rfl)) ?_
  clear hM; intro W10 hM
  refine ⟨⟨hM.below, trivial⟩, ?_⟩
  refine wJ ?_
  exact ⟨ga'1, g4, ka'2, pa'3, rfl, hM, ⟨qa'4, qb'5, qe'6⟩⟩

theorem spec_NewWorld4 (w0 : World) : Calls Tryz.prog 41 #[.int .i64 4] w0 (SaysW (fun v => .tuple #[v, .bool true]) (newW 4) w0) := by
  have hM := Mem.start w0
  go_enter Tryz.func41, Tryz.ntmps41
  refine wp_seq_k fun _ cn1 => wl_region ?_
  refine na hM [.slice none 0 0, .slice none 0 0, .slice none 0 0, .slice none 0 0, .int .i64 0] Z_impl_World ?_
  clear hM; intro g1 W1 hM
  refine np (.bool false) ?_
  go_frame
  refine wl_nil (cn1 _ _ ?_)
  clear cn1
  refine wp_seq_k fun _ cn2 => wl_region ?_
  refine np (.int .i64 4) ?_
  refine nc (spec_NewShared4 _) ?_
  rintro e W2 ⟨ms1, ms2, rfl, hMs⟩
  refine ⟨_, rfl, ?_⟩
  replace hM := hM.join hMs
  go_frame
  refine na hM [.slice none 0 0, .slice none 0 0] Z_impl_Shared ?_
  clear hM; intro g2 W3 hM
  refine nS hM 0 rfl [.slice (some ⟨ms1, 0, none⟩) 1 1, .slice (some ⟨ms2, 0, none⟩) 4 4] I_impl_Shared rfl ?_
  clear hM; intro W4 hM
  refine wl_nil (cn2 _ _ ?_)
  clear cn2
  refine wp_seq_k fun Kn3 cn3 => ?_
  refine wp_seq_k fun _ cn4 => wl_region ?_
  refine np (.pointer (some ⟨g2, 0, none⟩)) ?_
  refine ng hM 0 rfl 0 Tryz.underlying24 rfl ?_
  refine np (.int .i64 1) ?_
  refine np (.bool false) ?_
  go_frame
  refine wl_nil (cn4 _ _ ?_)
  clear cn4
  refine wp_cond_false rfl ?_
  refine wp_skip ?_
  refine cn3 _ _ ?_
  clear cn3
  refine wp_seq_k fun _ cn5 => wl_region ?_
  refine nl hM 0 rfl Tryz.underlying55 I_impl_Shared ?_
  refine np (.agg #[.slice (some ⟨ms1, 0, none⟩) 1 1, .slice (some ⟨ms2, 0, none⟩) 4 4, .slice none 0 0, .slice none 0 0, .int .i64 0]) ?_
  refine na hM [.slice none 0 0, .slice none 0 0, .slice none 0 0, .slice none 0 0, .int .i64 0] Z_impl_World ?_
  clear hM; intro g3 W5 hM
  refine nS hM 0 rfl [.slice (some ⟨ms1, 0, none⟩) 1 1, .slice (some ⟨ms2, 0, none⟩) 4 4, .slice none 0 0, .slice none 0 0, .int .i64 0] I_impl_World rfl ?_
  clear hM; intro W6 hM
  refine wl_nil (cn5 _ _ ?_)
  clear cn5
  refine wp_seq_k fun Kn6 cn6 => ?_
  refine wp_seq_k fun _ cn7 => wl_region ?_
  refine np (.int .i64 0) ?_
  go_frame
  refine wl_nil (cn7 _ _ ?_)
  clear cn7
  refine wp_block ?_
  refine wp_loop_rounds 5 ?_
  rw [rounds_succ]
  refine wp_seq_k fun Kn8 cn8 => ?_
  refine wp_seq_k fun _ cn9 => wl_region ?_
  refine np (.int .i64 0) ?_
  refine np (.int .i64 4) ?_
  refine np (.bool true) ?_
  go_frame
  refine wl_nil (cn9 _ _ ?_)
  clear cn9
  refine wp_cond_true rfl ?_
  refine wp_skip ?_
  refine cn8 _ _ ?_
  clear cn8
  refine wp_seq_k fun Kn10 cn10 => ?_
  refine wp_block ?_
  refine wa_join (fun act W => ∃ (ga'1 g4 : Nat) (ka'2 : Nat) (pa'3 : List Value), act = ⟨#[.int .i64 4, undef, .pointer (some ⟨g1, 0, none⟩), .bool false, .pointer (some ⟨g2, 0, none⟩), .pointer (some ⟨g3, 0, none⟩), .int .i64 0, .int .i64 4, .agg #[.slice (some ⟨ms1, 0, none⟩) 1 1, .slice (some ⟨ms2, 0, none⟩) 4 4], .pointer (some ⟨g2, 0, none⟩), .slice (some ⟨ms1, 0, none⟩) 1 1, .int .i64 1, .bool false, undef, .agg #[.slice (some ⟨ms1, 0, none⟩) 1 1, .slice (some ⟨ms2, 0, none⟩) 4 4], .agg #[.slice (some ⟨ms1, 0, none⟩) 1 1, .slice (some ⟨ms2, 0, none⟩) 4 4, .slice none 0 0, .slice none 0 0, .int .i64 0], .int .i64 0, .int .i64 4, .bool true, undef, undef, .pointer (some ⟨g3, 2, none⟩), .slice none 0 0, .agg (HD.cells (restH 0 0)).toArray, .slice (some ⟨g4, 0, none⟩) 1 1, .slice (some ⟨ga'1, 0, none⟩) 1 ka'2, .pointer (some ⟨g3, 2, none⟩), undef], []⟩ ∧ Mem w0 W [(ga'1, 73, (cellsH ([(restH 0 0)]) ++ pa'3)), (g4, 73, (HD.cells (restH 0 0))), (g3, 59, [.slice (some ⟨ms1, 0, none⟩) 1 1, .slice (some ⟨ms2, 0, none⟩) 4 4, .slice (some ⟨ga'1, 0, none⟩) 1 ka'2, .slice none 0 0, .int .i64 0]), (g2, 55, [.slice (some ⟨ms1, 0, none⟩) 1 1, .slice (some ⟨ms2, 0, none⟩) 4 4]), (ms1, 49, (cellsOf ([root0]) ++ [])), (ms2, 2, (cellsI (List.replicate 4 0) ++ [])), (g1, 59, [.slice none 0 0, .slice none 0 0, .slice none 0 0, .slice none 0 0, .int .i64 0])] ∧ (1 ≤ ka'2 ∧ ka'2 ≤ maxLen ∧ (cellsH ([(restH 0 0)]) ++ pa'3).length = ka'2 * 17)) ?_ ?_
  clear hM
  rintro act W11 ⟨ga'1, g4, ka'2, pa'3, rfl, hM, ⟨qa'4, qb'5, qe'6⟩⟩
  refine cn10 _ _ ?_
  clear cn10
  refine wl_region ?_
  refine np (.int .i64 0) ?_
  refine np (.int .i64 1) ?_
  refine np (.int .i64 1) ?_
  go_frame
  refine wl_nil ?_
  refine round_go ?_
  refine wp_seq_k fun Kn11 cn11 => ?_
  refine wp_seq_k fun _ cn12 => wl_region ?_
  refine np (.int .i64 1) ?_
  refine np (.int .i64 4) ?_
  refine np (.bool true) ?_
  go_frame
  refine wl_nil (cn12 _ _ ?_)
  clear cn12
  refine wp_cond_true rfl ?_
  refine wp_skip ?_
  refine cn11 _ _ ?_
  clear cn11
  refine wp_seq_k fun Kn13 cn13 => ?_
  refine wp_block ?_
  refine wa_join (fun act W => ∃ (g5 ga'7 : Nat) (ka'8 : Nat) (pa'9 : List Value), act = ⟨#[.int .i64 4, undef, .pointer (some ⟨g1, 0, none⟩), .bool false, .pointer (some ⟨g2, 0, none⟩), .pointer (some ⟨g3, 0, none⟩), .int .i64 1, .int .i64 4, .agg #[.slice (some ⟨ms1, 0, none⟩) 1 1, .slice (some ⟨ms2, 0, none⟩) 4 4], .pointer (some ⟨g2, 0, none⟩), .slice (some ⟨ms1, 0, none⟩) 1 1, .int .i64 1, .bool false, undef, .agg #[.slice (some ⟨ms1, 0, none⟩) 1 1, .slice (some ⟨ms2, 0, none⟩) 4 4], .agg #[.slice (some ⟨ms1, 0, none⟩) 1 1, .slice (some ⟨ms2, 0, none⟩) 4 4, .slice none 0 0, .slice none 0 0, .int .i64 0], .int .i64 1, .int .i64 4, .bool true, .int .i64 0, .int .i64 1, .pointer (some ⟨g3, 2, none⟩), .slice (some ⟨ga'1, 0, none⟩) 1 ka'2, .agg (HD.cells (restH 0 0)).toArray, .slice (some ⟨g5, 0, none⟩) 1 1, .slice (some ⟨ga'7, 0, none⟩) (1 + 1) ka'8, .pointer (some ⟨g3, 2, none⟩), undef], []⟩ ∧ Mem w0 W [(g5, 73, (HD.cells (restH 0 0))), (ga'7, 73, (cellsH ([(restH 0 0)] ++ [(restH 0 0)]) ++ pa'9)), (g4, 73, (HD.cells (restH 0 0))), (g3, 59, [.slice (some ⟨ms1, 0, none⟩) 1 1, .slice (some ⟨ms2, 0, none⟩) 4 4, .slice (some ⟨ga'7, 0, none⟩) (1 + 1) ka'8, .slice none 0 0, .int .i64 0]), (g2, 55, [.slice (some ⟨ms1, 0, none⟩) 1 1, .slice (some ⟨ms2, 0, none⟩) 4 4]), (ms1, 49, (cellsOf ([root0]) ++ [])), (ms2, 2, (cellsI (List.replicate 4 0) ++ [])), (g1, 59, [.slice none 0 0, .slice none 0 0, .slice none 0 0, .slice none 0 0, .int .i64 0])] ∧ ((1 + 1) ≤ ka'8 ∧ ka'8 ≤ maxLen ∧ (cellsH ([(restH 0 0)] ++ [(restH 0 0)]) ++ pa'9).length = ka'8 * 17)) ?_ ?_
  clear hM
  rintro act W16 ⟨g5, ga'7, ka'8, pa'9, rfl, hM, ⟨qa'10, qb'11, qe'12⟩⟩
  refine cn13 _ _ ?_
  clear cn13
  refine wl_region ?_
  refine np (.int .i64 1) ?_
  refine np (.int .i64 2) ?_
  refine np (.int .i64 2) ?_
  go_frame
  refine wl_nil ?_
  refine round_go ?_
  refine wp_seq_k fun Kn14 cn14 => ?_
  refine wp_seq_k fun _ cn15 => wl_region ?_
  refine np (.int .i64 2) ?_
  refine np (.int .i64 4) ?_
  refine np (.bool true) ?_
  go_frame
  refine wl_nil (cn15 _ _ ?_)
  clear cn15
  refine wp_cond_true rfl ?_
  refine wp_skip ?_
  refine cn14 _ _ ?_
  clear cn14
  refine wp_seq_k fun Kn16 cn16 => ?_
  refine wp_block ?_
  refine wa_join (fun act W => ∃ (g6 ga'13 : Nat) (ka'14 : Nat) (pa'15 : List Value), act = ⟨#[.int .i64 4, undef, .pointer (some ⟨g1, 0, none⟩), .bool false, .pointer (some ⟨g2, 0, none⟩), .pointer (some ⟨g3, 0, none⟩), .int .i64 2, .int .i64 4, .agg #[.slice (some ⟨ms1, 0, none⟩) 1 1, .slice (some ⟨ms2, 0, none⟩) 4 4], .pointer (some ⟨g2, 0, none⟩), .slice (some ⟨ms1, 0, none⟩) 1 1, .int .i64 1, .bool false, undef, .agg #[.slice (some ⟨ms1, 0, none⟩) 1 1, .slice (some ⟨ms2, 0, none⟩) 4 4], .agg #[.slice (some ⟨ms1, 0, none⟩) 1 1, .slice (some ⟨ms2, 0, none⟩) 4 4, .slice none 0 0, .slice none 0 0, .int .i64 0], .int .i64 2, .int .i64 4, .bool true, .int .i64 1, .int .i64 2, .pointer (some ⟨g3, 2, none⟩), .slice (some ⟨ga'7, 0, none⟩) (1 + 1) ka'8, .agg (HD.cells (restH 0 0)).toArray, .slice (some ⟨g6, 0, none⟩) 1 1, .slice (some ⟨ga'13, 0, none⟩) ((1 + 1) + 1) ka'14, .pointer (some ⟨g3, 2, none⟩), undef], []⟩ ∧ Mem w0 W [(g6, 73, (HD.cells (restH 0 0))), (g5, 73, (HD.cells (restH 0 0))), (ga'13, 73, (cellsH (([(restH 0 0)] ++ [(restH 0 0)]) ++ [(restH 0 0)]) ++ pa'15)), (g4, 73, (HD.cells (restH 0 0))), (g3, 59, [.slice (some ⟨ms1, 0, none⟩) 1 1, .slice (some ⟨ms2, 0, none⟩) 4 4, .slice (some ⟨ga'13, 0, none⟩) ((1 + 1) + 1) ka'14, .slice none 0 0, .int .i64 0]), (g2, 55, [.slice (some ⟨ms1, 0, none⟩) 1 1, .slice (some ⟨ms2, 0, none⟩) 4 4]), (ms1, 49, (cellsOf ([root0]) ++ [])), (ms2, 2, (cellsI (List.replicate 4 0) ++ [])), (g1, 59, [.slice none 0 0, .slice none 0 0, .slice none 0 0, .slice none 0 0, .int .i64 0])] ∧ (((1 + 1) + 1) ≤ ka'14 ∧ ka'14 ≤ maxLen ∧ (cellsH (([(restH 0 0)] ++ [(restH 0 0)]) ++ [(restH 0 0)]) ++ pa'15).length = ka'14 * 17)) ?_ ?_
  clear hM
  rintro act W21 ⟨g6, ga'13, ka'14, pa'15, rfl, hM, ⟨qa'16, qb'17, qe'18⟩⟩
  refine cn16 _ _ ?_
  clear cn16
  refine wl_region ?_
  refine np (.int .i64 2) ?_
  refine np (.int .i64 3) ?_
  refine np (.int .i64 3) ?_
  go_frame
  refine wl_nil ?_
  refine round_go ?_
  refine wp_seq_k fun Kn17 cn17 => ?_
  refine wp_seq_k fun _ cn18 => wl_region ?_
  refine np (.int .i64 3) ?_
  refine np (.int .i64 4) ?_
  refine np (.bool true) ?_
  go_frame
  refine wl_nil (cn18 _ _ ?_)
  clear cn18
  refine wp_cond_true rfl ?_
  refine wp_skip ?_
  refine cn17 _ _ ?_
  clear cn17
  refine wp_seq_k fun Kn19 cn19 => ?_
  refine wp_block ?_
  refine wa_join (fun act W => ∃ (g7 ga'19 : Nat) (ka'20 : Nat) (pa'21 : List Value), act = ⟨#[.int .i64 4, undef, .pointer (some ⟨g1, 0, none⟩), .bool false, .pointer (some ⟨g2, 0, none⟩), .pointer (some ⟨g3, 0, none⟩), .int .i64 3, .int .i64 4, .agg #[.slice (some ⟨ms1, 0, none⟩) 1 1, .slice (some ⟨ms2, 0, none⟩) 4 4], .pointer (some ⟨g2, 0, none⟩), .slice (some ⟨ms1, 0, none⟩) 1 1, .int .i64 1, .bool false, undef, .agg #[.slice (some ⟨ms1, 0, none⟩) 1 1, .slice (some ⟨ms2, 0, none⟩) 4 4], .agg #[.slice (some ⟨ms1, 0, none⟩) 1 1, .slice (some ⟨ms2, 0, none⟩) 4 4, .slice none 0 0, .slice none 0 0, .int .i64 0], .int .i64 3, .int .i64 4, .bool true, .int .i64 2, .int .i64 3, .pointer (some ⟨g3, 2, none⟩), .slice (some ⟨ga'13, 0, none⟩) ((1 + 1) + 1) ka'14, .agg (HD.cells (restH 0 0)).toArray, .slice (some ⟨g7, 0, none⟩) 1 1, .slice (some ⟨ga'19, 0, none⟩) (((1 + 1) + 1) + 1) ka'20, .pointer (some ⟨g3, 2, none⟩), undef], []⟩ ∧ Mem w0 W [(g7, 73, (HD.cells (restH 0 0))), (g6, 73, (HD.cells (restH 0 0))), (g5, 73, (HD.cells (restH 0 0))), (ga'19, 73, (cellsH ((([(restH 0 0)] ++ [(restH 0 0)]) ++ [(restH 0 0)]) ++ [(restH 0 0)]) ++ pa'21)), (g4, 73, (HD.cells (restH 0 0))), (g3, 59, [.slice (some ⟨ms1, 0, none⟩) 1 1, .slice (some ⟨ms2, 0, none⟩) 4 4, .slice (some ⟨ga'19, 0, none⟩) (((1 + 1) + 1) + 1) ka'20, .slice none 0 0, .int .i64 0]), (g2, 55, [.slice (some ⟨ms1, 0, none⟩) 1 1, .slice (some ⟨ms2, 0, none⟩) 4 4]), (ms1, 49, (cellsOf ([root0]) ++ [])), (ms2, 2, (cellsI (List.replicate 4 0) ++ [])), (g1, 59, [.slice none 0 0, .slice none 0 0, .slice none 0 0, .slice none 0 0, .int .i64 0])] ∧ ((((1 + 1) + 1) + 1) ≤ ka'20 ∧ ka'20 ≤ maxLen ∧ (cellsH ((([(restH 0 0)] ++ [(restH 0 0)]) ++ [(restH 0 0)]) ++ [(restH 0 0)]) ++ pa'21).length = ka'20 * 17)) ?_ ?_
  clear hM
  rintro act W26 ⟨g7, ga'19, ka'20, pa'21, rfl, hM, ⟨qa'22, qb'23, qe'24⟩⟩
  refine cn19 _ _ ?_
  clear cn19
  refine wl_region ?_
  refine np (.int .i64 3) ?_
  refine np (.int .i64 4) ?_
  refine np (.int .i64 4) ?_
  go_frame
  refine wl_nil ?_
  refine round_go ?_
  refine wp_seq_k fun Kn20 cn20 => ?_
  refine wp_seq_k fun _ cn21 => wl_region ?_
  refine np (.int .i64 4) ?_
  refine np (.int .i64 4) ?_
  refine np (.bool false) ?_
  go_frame
  refine wl_nil (cn21 _ _ ?_)
  clear cn21
  refine wp_cond_false rfl ?_
  refine wp_exit ?_
  refine cn6 _ _ ?_
  clear cn6
  refine wp_seq_k fun _ cn22 => wl_region ?_
  refine nl hM 5 rfl Tryz.underlying59 I_impl_World ?_
  refine nS hM 9 rfl [.slice (some ⟨ms1, 0, none⟩) 1 1, .slice (some ⟨ms2, 0, none⟩) 4 4, .slice (some ⟨ga'19, 0, none⟩) (((1 + 1) + 1) + 1) ka'20, .slice none 0 0, .int .i64 0] I_impl_World rfl ?_
  clear hM; intro W27 hM
  refine np (.bool true) ?_
  go_frame
  refine wl_nil (cn22 _ _ ?_)
  clear cn22
  refine wp_ret ?_
  refine bodyPost_ret (ret_two (p := 2) (u := 3) (v := .bool true) rfl hM 9 rfl rfl rfl Tryz.underlying59 I_impl_World) rfl ⟨[(ms1, 49, (cellsOf ([root0]) ++ [])), (ms2, 2, (cellsI (List.replicate 4 0) ++ [])), (ga'19, 73, (cellsH ((([(restH 0 0)] ++ [(restH 0 0)]) ++ [(restH 0 0)]) ++ [(restH 0 0)]) ++ pa'21))], _, _, _, _, rfl, ⟨RowIn.mk (by first | rfl | (simp; done)) (cellsOf_len _) (Nat.le_refl 1) (by simp [maxLen]) (by first | exact rfl | rfl | (simp [cellsI])) (List.mem_of_getElem? (i := 0) rfl), RowIn.mk (by first | rfl | (simp; done)) (cellsI_len1 _) (Nat.le_refl 4) (by simp [maxLen]) (by first | exact rfl | rfl | (simp [cellsI])) (List.mem_of_getElem? (i := 1) rfl), RowIn.mk (by first | rfl | (simp; done)) (cellsH_len _) qa'22 qb'23 (by first | exact qe'24 | rfl | (simp [cellsI])) (List.mem_of_getElem? (i := 2) rfl), RowIn.nil⟩, ?_⟩
  replace hM := hM.pull 3 rfl
  replace hM := hM.pull 8 rfl
  replace hM := hM.pull 8 rfl
  exact Mem.left (A := [_, _, _]) hM
  refine wa_start (fun w => Below w0.heap.size w0 w ∧ True) 7 rfl (by kernel_rfl) ?_
  replace hM := hM.drew
  refine wt 0 (some 21) (.pointer (some ⟨g3, 2, none⟩)) ⟨hM.below, trivial⟩ ?_
  go_frame
  refine w2 1 2 ?_ ?_
  refine oq (some 22) (.slice (some ⟨ga'13, 0, none⟩) ((1 + 1) + 1) ka'14) ⟨hM.below, trivial⟩ rfl (r_loadc (hM.blk 4 rfl) 56 _ rfl 2 rfl Tryz.underlying56 rfl rfl) ?_
  go_frame
  refine wn 2 ?_
  refine oc (some 23) (spec_Resting 0 0 _) ?_
  rintro e W22 ⟨rfl, hb⟩
  replace hM := hM.call hb
  refine ⟨_, rfl, ⟨hM.below, trivial⟩, ?_⟩
  go_frame
  refine wn 3 ?_
  refine wo_buildSlice (some 24) rfl rfl (by kernel_rfl) hM 73 1 (HD.cells (restH 0 0)) (fun w => by kernel_rfl) ?_
  clear hM; intro g7 W23 hM
  refine ⟨⟨hM.below, trivial⟩, ?_⟩
  go_frame
  refine wn 4 ?_
  refine wo_append (some 25) rfl rfl (by kernel_rfl) hM 3 rfl 0 rfl _ _ 56 rfl Tryz.underlying56 infoHand rfl (by decide) ((1 + 1) + 1) ka'14 1 1 (by kernel_rfl) qa'16 qb'17 (cellsH_len _) qe'18 (by kernel_rfl) rfl (hd_one' _) (by decide) (by (try unfold maxLen); decide) (by (try unfold maxLen); decide) ?_
  clear hM; intro ga'19 ka'20 pa'21 W24 qa'22 qb'23 qe'24 hM
  rw [hand_snoc _ (restH 0 0) _] at hM qe'24
  refine wk ⟨hM.below, trivial⟩ fun hs => ?_
  go_frame
  refine wt 5 (some 26) (.pointer (some ⟨g3, 2, none⟩)) hs ?_
  go_frame
  refine wn 6 ?_
  refine ok' hM 5 rfl 2 (.slice (some ⟨ga'19, 0, none⟩) (((1 + 1) + 1) + 1) ka'20) I_S_impl_Hand (by first | (simp; done) | exact Nat.le_of_ble_eq_true (by kernel_rfl)) ?_
  clear hM; intro W25 hM
  refine ⟨⟨hM.below, trivial⟩, ?_⟩
  refine wJ ?_
  exact ⟨g7, ga'19, ka'20, pa'21, rfl, hM, ⟨qa'22, qb'23, qe'24⟩⟩
  refine oc (some 23) (spec_Resting 0 0 _) ?_
  rintro e W22 ⟨rfl, hb⟩
  replace hM := hM.call hb
  refine ⟨_, rfl, ⟨hM.below, trivial⟩, ?_⟩
  go_frame
  refine w2 1 3 ?_ ?_
  refine oq (some 22) (.slice (some ⟨ga'13, 0, none⟩) ((1 + 1) + 1) ka'14) ⟨hM.below, trivial⟩ rfl (r_loadc (hM.blk 4 rfl) 56 _ rfl 2 rfl Tryz.underlying56 rfl rfl) ?_
  go_frame
  refine wn 3 ?_
  refine wo_buildSlice (some 24) rfl rfl (by kernel_rfl) hM 73 1 (HD.cells (restH 0 0)) (fun w => by kernel_rfl) ?_
  clear hM; intro g7 W23 hM
  refine ⟨⟨hM.below, trivial⟩, ?_⟩
  go_frame
  refine wn 4 ?_
  refine wo_append (some 25) rfl rfl (by kernel_rfl) hM 3 rfl 0 rfl _ _ 56 rfl Tryz.underlying56 infoHand rfl (by decide) ((1 + 1) + 1) ka'14 1 1 (by kernel_rfl) qa'16 qb'17 (cellsH_len _) qe'18 (by kernel_rfl) rfl (hd_one' _) (by decide) (by (try unfold maxLen); decide) (by (try unfold maxLen); decide) ?_
  clear hM; intro ga'19 ka'20 pa'21 W24 qa'22 qb'23 qe'24 hM
  rw [hand_snoc _ (restH 0 0) _] at hM qe'24
  refine wk ⟨hM.below, trivial⟩ fun hs => ?_
  go_frame
  refine wt 5 (some 26) (.pointer (some ⟨g3, 2, none⟩)) hs ?_
  go_frame
  refine wn 6 ?_
  refine ok' hM 5 rfl 2 (.slice (some ⟨ga'19, 0, none⟩) (((1 + 1) + 1) + 1) ka'20) I_S_impl_Hand (by first | (simp; done) | exact Nat.le_of_ble_eq_true (by kernel_rfl)) ?_
  clear hM; intro W25 hM
  refine ⟨⟨hM.below, trivial⟩, ?_⟩
  refine wJ ?_
  exact ⟨g7, ga'19, ka'20, pa'21, rfl, hM, ⟨qa'22, qb'23, qe'24⟩⟩
  refine wo_buildSlice (some 24) rfl rfl (by kernel_rfl) hM 73 1 (HD.cells (restH 0 0)) (fun w => by kernel_rfl) ?_
  clear hM; intro g7 W23 hM
  refine wk ⟨hM.below, trivial⟩ fun hs => ?_
  go_frame
  refine wn 1 ?_
  refine oq (some 22) (.slice (some ⟨ga'13, 0, none⟩) ((1 + 1) + 1) ka'14) hs rfl (r_loadc (hM.blk 5 rfl) 56 _ rfl 2 rfl Tryz.underlying56 rfl rfl) ?_
  go_frame
  refine wn 4 ?_
  refine wo_append (some 25) rfl rfl (by kernel_rfl) hM 3 rfl 0 rfl _ _ 56 rfl Tryz.underlying56 infoHand rfl (by decide) ((1 + 1) + 1) ka'14 1 1 (by kernel_rfl) qa'16 qb'17 (cellsH_len _) qe'18 (by kernel_rfl) rfl (hd_one' _) (by decide) (by (try unfold maxLen); decide) (by (try unfold maxLen); decide) ?_
  clear hM; intro ga'19 ka'20 pa'21 W24 qa'22 qb'23 qe'24 hM
  rw [hand_snoc _ (restH 0 0) _] at hM qe'24
  refine wk ⟨hM.below, trivial⟩ fun hs => ?_
  go_frame
  refine wt 5 (some 26) (.pointer (some ⟨g3, 2, none⟩)) hs ?_
  go_frame
  refine wn 6 ?_
  refine ok' hM 5 rfl 2 (.slice (some ⟨ga'19, 0, none⟩) (((1 + 1) + 1) + 1) ka'20) I_S_impl_Hand (by first | (simp; done) | exact Nat.le_of_ble_eq_true (by kernel_rfl)) ?_
  clear hM; intro W25 hM
  refine ⟨⟨hM.below, trivial⟩, ?_⟩
  refine wJ ?_
  exact ⟨g7, ga'19, ka'20, pa'21, rfl, hM, ⟨qa'22, qb'23, qe'24⟩⟩
  refine wa_start (fun w => Below w0.heap.size w0 w ∧ True) 7 rfl (by kernel_rfl) ?_
  replace hM := hM.drew
  refine wt 0 (some 21) (.pointer (some ⟨g3, 2, none⟩)) ⟨hM.below, trivial⟩ ?_
  go_frame
  refine w2 1 2 ?_ ?_
  refine oq (some 22) (.slice (some ⟨ga'7, 0, none⟩) (1 + 1) ka'8) ⟨hM.below, trivial⟩ rfl (r_loadc (hM.blk 3 rfl) 56 _ rfl 2 rfl Tryz.underlying56 rfl rfl) ?_
  go_frame
  refine wn 2 ?_
  refine oc (some 23) (spec_Resting 0 0 _) ?_
  rintro e W17 ⟨rfl, hb⟩
  replace hM := hM.call hb
  refine ⟨_, rfl, ⟨hM.below, trivial⟩, ?_⟩
  go_frame
  refine wn 3 ?_
  refine wo_buildSlice (some 24) rfl rfl (by kernel_rfl) hM 73 1 (HD.cells (restH 0 0)) (fun w => by kernel_rfl) ?_
  clear hM; intro g6 W18 hM
  refine ⟨⟨hM.below, trivial⟩, ?_⟩
  go_frame
  refine wn 4 ?_
  refine wo_append (some 25) rfl rfl (by kernel_rfl) hM 2 rfl 0 rfl _ _ 56 rfl Tryz.underlying56 infoHand rfl (by decide) (1 + 1) ka'8 1 1 (by kernel_rfl) qa'10 qb'11 (cellsH_len _) qe'12 (by kernel_rfl) rfl (hd_one' _) (by decide) (by (try unfold maxLen); decide) (by (try unfold maxLen); decide) ?_
  clear hM; intro ga'13 ka'14 pa'15 W19 qa'16 qb'17 qe'18 hM
  rw [hand_snoc _ (restH 0 0) _] at hM qe'18
  refine wk ⟨hM.below, trivial⟩ fun hs => ?_
  go_frame
  refine wt 5 (some 26) (.pointer (some ⟨g3, 2, none⟩)) hs ?_
  go_frame
  refine wn 6 ?_
  refine ok' hM 4 rfl 2 (.slice (some ⟨ga'13, 0, none⟩) ((1 + 1) + 1) ka'14) I_S_impl_Hand (by first | (simp; done) | exact Nat.le_of_ble_eq_true (by kernel_rfl)) ?_
  clear hM; intro W20 hM
  refine ⟨⟨hM.below, trivial⟩, ?_⟩
  refine wJ ?_
  exact ⟨g6, ga'13, ka'14, pa'15, rfl, hM, ⟨qa'16, qb'17, qe'18⟩⟩
  refine oc (some 23) (spec_Resting 0 0 _) ?_
  rintro e W17 ⟨rfl, hb⟩
  replace hM := hM.call hb
  refine ⟨_, rfl, ⟨hM.below, trivial⟩, ?_⟩
  go_frame
  refine w2 1 3 ?_ ?_
  refine oq (some 22) (.slice (some ⟨ga'7, 0, none⟩) (1 + 1) ka'8) ⟨hM.below, trivial⟩ rfl (r_loadc (hM.blk 3 rfl) 56 _ rfl 2 rfl Tryz.underlying56 rfl rfl) ?_
  go_frame
  refine wn 3 ?_
  refine wo_buildSlice (some 24) rfl rfl (by kernel_rfl) hM 73 1 (HD.cells (restH 0 0)) (fun w => by kernel_rfl) ?_
  clear hM; intro g6 W18 hM
  refine ⟨⟨hM.below, trivial⟩, ?_⟩
  go_frame
  refine wn 4 ?_
  refine wo_append (some 25) rfl rfl (by kernel_rfl) hM 2 rfl 0 rfl _ _ 56 rfl Tryz.underlying56 infoHand rfl (by decide) (1 + 1) ka'8 1 1 (by kernel_rfl) qa'10 qb'11 (cellsH_len _) qe'12 (by kernel_rfl) rfl (hd_one' _) (by decide) (by (try unfold maxLen); decide) (by (try unfold maxLen); decide) ?_
  clear hM; intro ga'13 ka'14 pa'15 W19 qa'16 qb'17 qe'18 hM
  rw [hand_snoc _ (restH 0 0) _] at hM qe'18
  refine wk ⟨hM.below, trivial⟩ fun hs => ?_
  go_frame
  refine wt 5 (some 26) (.pointer (some ⟨g3, 2, none⟩)) hs ?_
  go_frame
  refine wn 6 ?_
  refine ok' hM 4 rfl 2 (.slice (some ⟨ga'13, 0, none⟩) ((1 + 1) + 1) ka'14) I_S_impl_Hand (by first | (simp; done) | exact Nat.le_of_ble_eq_true (by kernel_rfl)) ?_
  clear hM; intro W20 hM
  refine ⟨⟨hM.below, trivial⟩, ?_⟩
  refine wJ ?_
  exact ⟨g6, ga'13, ka'14, pa'15, rfl, hM, ⟨qa'16, qb'17, qe'18⟩⟩
  refine wo_buildSlice (some 24) rfl rfl (by kernel_rfl) hM 73 1 (HD.cells (restH 0 0)) (fun w => by kernel_rfl) ?_
  clear hM; intro g6 W18 hM
  refine wk ⟨hM.below, trivial⟩ fun hs => ?_
  go_frame
  refine wn 1 ?_
  refine oq (some 22) (.slice (some ⟨ga'7, 0, none⟩) (1 + 1) ka'8) hs rfl (r_loadc (hM.blk 4 rfl) 56 _ rfl 2 rfl Tryz.underlying56 rfl rfl) ?_
  go_frame
  refine wn 4 ?_
  refine wo_append (some 25) rfl rfl (by kernel_rfl) hM 2 rfl 0 rfl _ _ 56 rfl Tryz.underlying56 infoHand rfl (by decide) (1 + 1) ka'8 1 1 (by kernel_rfl) qa'10 qb'11 (cellsH_len _) qe'12 (by kernel_rfl) rfl (hd_one' _) (by decide) (by (try unfold maxLen); decide) (by (try unfold maxLen); decide) ?_
  clear hM; intro ga'13 ka'14 pa'15 W19 qa'16 qb'17 qe'18 hM
  rw [hand_snoc _ (restH 0 0) _] at hM qe'18
  refine wk ⟨hM.below, trivial⟩ fun hs => ?_
  go_frame
  refine wt 5 (some 26) (.pointer (some ⟨g3, 2, none⟩)) hs ?_
  go_frame
  refine wn 6 ?_
  refine ok' hM 4 rfl 2 (.slice (some ⟨ga'13, 0, none⟩) ((1 + 1) + 1) ka'14) I_S_impl_Hand (by first | (simp; done) | exact Nat.le_of_ble_eq_true (by kernel_rfl)) ?_
  clear hM; intro W20 hM
  refine ⟨⟨hM.below, trivial⟩, ?_⟩
  refine wJ ?_
  exact ⟨g6, ga'13, ka'14, pa'15, rfl, hM, ⟨qa'16, qb'17, qe'18⟩⟩
  refine wa_start (fun w => Below w0.heap.size w0 w ∧ True) 7 rfl (by kernel_rfl) ?_
  replace hM := hM.drew
  refine wt 0 (some 21) (.pointer (some ⟨g3, 2, none⟩)) ⟨hM.below, trivial⟩ ?_
  go_frame
  refine w2 1 2 ?_ ?_
  refine oq (some 22) (.slice (some ⟨ga'1, 0, none⟩) 1 ka'2) ⟨hM.below, trivial⟩ rfl (r_loadc (hM.blk 2 rfl) 56 _ rfl 2 rfl Tryz.underlying56 rfl rfl) ?_
  go_frame
  refine wn 2 ?_
  refine oc (some 23) (spec_Resting 0 0 _) ?_
  rintro e W12 ⟨rfl, hb⟩
  replace hM := hM.call hb
  refine ⟨_, rfl, ⟨hM.below, trivial⟩, ?_⟩
  go_frame
  refine wn 3 ?_
  refine wo_buildSlice (some 24) rfl rfl (by kernel_rfl) hM 73 1 (HD.cells (restH 0 0)) (fun w => by kernel_rfl) ?_
  clear hM; intro g5 W13 hM
  refine ⟨⟨hM.below, trivial⟩, ?_⟩
  go_frame
  refine wn 4 ?_
  refine wo_append (some 25) rfl rfl (by kernel_rfl) hM 1 rfl 0 rfl _ _ 56 rfl Tryz.underlying56 infoHand rfl (by decide) 1 ka'2 1 1 (by kernel_rfl) qa'4 qb'5 (cellsH_len _) qe'6 (by kernel_rfl) rfl (hd_one' _) (by decide) (by (try unfold maxLen); decide) (by (try unfold maxLen); decide) ?_
  clear hM; intro ga'7 ka'8 pa'9 W14 qa'10 qb'11 qe'12 hM
  rw [hand_snoc _ (restH 0 0) _] at hM qe'12
  refine wk ⟨hM.below, trivial⟩ fun hs => ?_
  go_frame
  refine wt 5 (some 26) (.pointer (some ⟨g3, 2, none⟩)) hs ?_
  go_frame
  refine wn 6 ?_
  refine ok' hM 3 rfl 2 (.slice (some ⟨ga'7, 0, none⟩) (1 + 1) ka'8) I_S_impl_Hand (by first | (simp; done) | exact Nat.le_of_ble_eq_true (by kernel_rfl)) ?_
  clear hM; intro W15 hM
  refine ⟨⟨hM.below, trivial⟩, ?_⟩
  refine wJ ?_
  exact ⟨g5, ga'7, ka'8, pa'9, rfl, hM, ⟨qa'10, qb'11, qe'12⟩⟩
  refine oc (some 23) (spec_Resting 0 0 _) ?_
  rintro e W12 ⟨rfl, hb⟩
  replace hM := hM.call hb
  refine ⟨_, rfl, ⟨hM.below, trivial⟩, ?_⟩
  go_frame
  refine w2 1 3 ?_ ?_
  refine oq (some 22) (.slice (some ⟨ga'1, 0, none⟩) 1 ka'2) ⟨hM.below, trivial⟩ rfl (r_loadc (hM.blk 2 rfl) 56 _ rfl 2 rfl Tryz.underlying56 rfl rfl) ?_
  go_frame
  refine wn 3 ?_
  refine wo_buildSlice (some 24) rfl rfl (by kernel_rfl) hM 73 1 (HD.cells (restH 0 0)) (fun w => by kernel_rfl) ?_
  clear hM; intro g5 W13 hM
  refine ⟨⟨hM.below, trivial⟩, ?_⟩
  go_frame
  refine wn 4 ?_
  refine wo_append (some 25) rfl rfl (by kernel_rfl) hM 1 rfl 0 rfl _ _ 56 rfl Tryz.underlying56 infoHand rfl (by decide) 1 ka'2 1 1 (by kernel_rfl) qa'4 qb'5 (cellsH_len _) qe'6 (by kernel_rfl) rfl (hd_one' _) (by decide) (by (try unfold maxLen); decide) (by (try unfold maxLen); decide) ?_
  clear hM; intro ga'7 ka'8 pa'9 W14 qa'10 qb'11 qe'12 hM
  rw [hand_snoc _ (restH 0 0) _] at hM qe'12
  refine wk ⟨hM.below, trivial⟩ fun hs => ?_
  go_frame
  refine wt 5 (some 26) (.pointer (some ⟨g3, 2, none⟩)) hs ?_
  go_frame
  refine wn 6 ?_
  refine ok' hM 3 rfl 2 (.slice (some ⟨ga'7, 0, none⟩) (1 + 1) ka'8) I_S_impl_Hand (by first | (simp; done) | exact Nat.le_of_ble_eq_true (by kernel_rfl)) ?_
  clear hM; intro W15 hM
  refine ⟨⟨hM.below, trivial⟩, ?_⟩
  refine wJ ?_
  exact ⟨g5, ga'7, ka'8, pa'9, rfl, hM, ⟨qa'10, qb'11, qe'12⟩⟩
  refine wo_buildSlice (some 24) rfl rfl (by kernel_rfl) hM 73 1 (HD.cells (restH 0 0)) (fun w => by kernel_rfl) ?_
  clear hM; intro g5 W13 hM
  refine wk ⟨hM.below, trivial⟩ fun hs => ?_
  go_frame
  refine wn 1 ?_
  refine oq (some 22) (.slice (some ⟨ga'1, 0, none⟩) 1 ka'2) hs rfl (r_loadc (hM.blk 3 rfl) 56 _ rfl 2 rfl Tryz.underlying56 rfl rfl) ?_
  go_frame
  refine wn 4 ?_
  refine wo_append (some 25) rfl rfl (by kernel_rfl) hM 1 rfl 0 rfl _ _ 56 rfl Tryz.underlying56 infoHand rfl (by decide) 1 ka'2 1 1 (by kernel_rfl) qa'4 qb'5 (cellsH_len _) qe'6 (by kernel_rfl) rfl (hd_one' _) (by decide) (by (try unfold maxLen); decide) (by (try unfold maxLen); decide) ?_
  clear hM; intro ga'7 ka'8 pa'9 W14 qa'10 qb'11 qe'12 hM
  rw [hand_snoc _ (restH 0 0) _] at hM qe'12
  refine wk ⟨hM.below, trivial⟩ fun hs => ?_
  go_frame
  refine wt 5 (some 26) (.pointer (some ⟨g3, 2, none⟩)) hs ?_
  go_frame
  refine wn 6 ?_
  refine ok' hM 3 rfl 2 (.slice (some ⟨ga'7, 0, none⟩) (1 + 1) ka'8) I_S_impl_Hand (by first | (simp; done) | exact Nat.le_of_ble_eq_true (by kernel_rfl)) ?_
  clear hM; intro W15 hM
  refine ⟨⟨hM.below, trivial⟩, ?_⟩
  refine wJ ?_
  exact ⟨g5, ga'7, ka'8, pa'9, rfl, hM, ⟨qa'10, qb'11, qe'12⟩⟩
  refine wa_start (fun w => Below w0.heap.size w0 w ∧ True) 7 rfl (by kernel_rfl) ?_
  replace hM := hM.drew
  refine wt 0 (some 21) (.pointer (some ⟨g3, 2, none⟩)) ⟨hM.below, trivial⟩ ?_
  go_frame
  refine w2 1 2 ?_ ?_
  refine oq (some 22) (.slice none 0 0) ⟨hM.below, trivial⟩ rfl (r_loadc (hM.blk 0 rfl) 56 _ rfl 2 rfl Tryz.underlying56 rfl rfl) ?_
  go_frame
  refine wn 2 ?_
  refine oc (some 23) (spec_Resting 0 0 _) ?_
  rintro e W7 ⟨rfl, hb⟩
  replace hM := hM.call hb
  refine ⟨_, rfl, ⟨hM.below, trivial⟩, ?_⟩
  go_frame
  refine wn 3 ?_
  refine wo_buildSlice (some 24) rfl rfl (by kernel_rfl) hM 73 1 (HD.cells (restH 0 0)) (fun w => by kernel_rfl) ?_
  clear hM; intro g4 W8 hM
  refine ⟨⟨hM.below, trivial⟩, ?_⟩
  go_frame
  refine wn 4 ?_
  refine wo_appendN (some 25) rfl rfl (by kernel_rfl) hM 0 rfl _ _ 56 rfl Tryz.underlying56 infoHand rfl (by decide) 1 1 (by kernel_rfl) (by kernel_rfl) rfl (hd_one' _) (by decide) (by decide) (by decide) ?_
  clear hM; intro ga'1 ka'2 pa'3 W9 qa'4 qb'5 qe'6 hM
  replace qe'6 : (cellsH ([(restH 0 0)]) ++ pa'3).length = ka'2 * 17 := qe'6
  refine wk ⟨hM.below, trivial⟩ fun hs => ?_
  go_frame
  refine wt 5 (some 26) (.pointer (some ⟨g3, 2, none⟩)) hs ?_
  go_frame
  refine wn 6 ?_
  refine ok' hM 2 rfl 2 (.slice (some ⟨ga'1, 0, none⟩) 1 ka'2) I_S_impl_Hand (by first | (simp; done) | exact Nat.le_of_ble_eq_true (by kernel_rfl)) ?_
  clear hM; intro W10 hM
  refine ⟨⟨hM.below, trivial⟩, ?_⟩
  refine wJ ?_
  exact ⟨ga'1, g4, ka'2, pa'3, rfl, hM, ⟨qa'4, qb'5, qe'6⟩⟩
  refine oc (some 23) (spec_Resting 0 0 _) ?_
  rintro e W7 ⟨rfl, hb⟩
  replace hM := hM.call hb
  refine ⟨_, rfl, ⟨hM.below, trivial⟩, ?_⟩
  go_frame
  refine w2 1 3 ?_ ?_
  refine oq (some 22) (.slice none 0 0) ⟨hM.below, trivial⟩ rfl (r_loadc (hM.blk 0 rfl) 56 _ rfl 2 rfl Tryz.underlying56 rfl rfl) ?_
  go_frame
  refine wn 3 ?_
  refine wo_buildSlice (some 24) rfl rfl (by kernel_rfl) hM 73 1 (HD.cells (restH 0 0)) (fun w => by kernel_rfl) ?_
  clear hM; intro g4 W8 hM
  refine ⟨⟨hM.below, trivial⟩, ?_⟩
  go_frame
  refine wn 4 ?_
  refine wo_appendN (some 25) rfl rfl (by kernel_rfl) hM 0 rfl _ _ 56 rfl Tryz.underlying56 infoHand rfl (by decide) 1 1 (by kernel_rfl) (by kernel_rfl) rfl (hd_one' _) (by decide) (by decide) (by decide) ?_
  clear hM; intro ga'1 ka'2 pa'3 W9 qa'4 qb'5 qe'6 hM
  replace qe'6 : (cellsH ([(restH 0 0)]) ++ pa'3).length = ka'2 * 17 := qe'6
  refine wk ⟨hM.below, trivial⟩ fun hs => ?_
  go_frame
  refine wt 5 (some 26) (.pointer (some ⟨g3, 2, none⟩)) hs ?_
  go_frame
  refine wn 6 ?_
  refine ok' hM 2 rfl 2 (.slice (some ⟨ga'1, 0, none⟩) 1 ka'2) I_S_impl_Hand (by first | (simp; done) | exact Nat.le_of_ble_eq_true (by kernel_rfl)) ?_
  clear hM; intro W10 hM
  refine ⟨⟨hM.below, trivial⟩, ?_⟩
  refine wJ ?_
  exact ⟨ga'1, g4, ka'2, pa'3, rfl, hM, ⟨qa'4, qb'5, qe'6⟩⟩
  refine wo_buildSlice (some 24) rfl rfl (by kernel_rfl) hM 73 1 (HD.cells (restH 0 0)) (fun w => by kernel_rfl) ?_
  clear hM; intro g4 W8 hM
  refine wk ⟨hM.below, trivial⟩ fun hs => ?_
  go_frame
  refine wn 1 ?_
  refine oq (some 22) (.slice none 0 0) hs rfl (r_loadc (hM.blk 1 rfl) 56 _ rfl 2 rfl Tryz.underlying56 rfl rfl) ?_
  go_frame
  refine wn 4 ?_
  refine wo_appendN (some 25) rfl rfl (by kernel_rfl) hM 0 rfl _ _ 56 rfl Tryz.underlying56 infoHand rfl (by decide) 1 1 (by kernel_rfl) (by kernel_rfl) rfl (hd_one' _) (by decide) (by decide) (by decide) ?_
  clear hM; intro ga'1 ka'2 pa'3 W9 qa'4 qb'5 qe'6 hM
  replace qe'6 : (cellsH ([(restH 0 0)]) ++ pa'3).length = ka'2 * 17 := qe'6
  refine wk ⟨hM.below, trivial⟩ fun hs => ?_
  go_frame
  refine wt 5 (some 26) (.pointer (some ⟨g3, 2, none⟩)) hs ?_
  go_frame
  refine wn 6 ?_
  refine ok' hM 2 rfl 2 (.slice (some ⟨ga'1, 0, none⟩) 1 ka'2) I_S_impl_Hand (by first | (simp; done) | exact Nat.le_of_ble_eq_true (by kernel_rfl)) ?_
  clear hM; intro W10 hM
  refine ⟨⟨hM.below, trivial⟩, ?_⟩
  refine wJ ?_
  exact ⟨ga'1, g4, ka'2, pa'3, rfl, hM, ⟨qa'4, qb'5, qe'6⟩⟩
theorem spec_NewWorldS (n : Int) (h1 : 1 ≤ n) (h2 : n ≤ 4) (w0 : World) : Calls Tryz.prog 41 #[.int .i64 n] w0 (SaysW (fun v => .tuple #[v, .bool true]) (newW n.toNat) w0) := by
  have h : n = 1 ∨ n = 2 ∨ n = 3 ∨ n = 4 := by omega
  rcases h with rfl | rfl | rfl | rfl
  · exact spec_NewWorld1 w0
  · exact spec_NewWorld2 w0
  · exact spec_NewWorld3 w0
  · exact spec_NewWorld4 w0
end Go.Proofs.YtbfndoajchibbaaGreat
