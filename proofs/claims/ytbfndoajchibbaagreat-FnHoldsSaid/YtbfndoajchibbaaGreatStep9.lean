/- What comes of a step; waiting; finding: the model. -/
import Derived.Test.YtbfndoajchibbaaGreatShort
import Derived.Test.YtbfndoajchibbaaGreatStep8
import Derived.Test.YtbfndoajchibbaaGreatMem3
import Derived.Test.YtbfndoajchibbaaGreatStepOk
namespace Go.Proofs.YtbfndoajchibbaaGreat
open Go.ChangeShapes Go.WideShapes Go.ChangeAt Go.RowKit
set_option linter.unusedVariables false
set_option maxRecDepth 100000
set_option maxHeartbeats 16000000
set_option linter.unusedSimpArgs false

/-- What comes of a step, as values. -/
def doneV (u x : Value) (l : List ND) (c : List Int) (h : HD) : Value :=
  if sharedB l c && handB h then .tuple #[.agg #[u, x], h.val, .bool true] else .tuple #[.agg #[.slice none 0 0, .slice none 0 0], HD.zero.val, .bool false]
/-- The count of a task, the next of Index. -/
def syncR (c : List Int) (task : Int) (h : HD) : HD × Bool :=
  if (c.length : Int) ≤ h.index then ({ h with at_ := 23 }, true)
  else if h.seen == -1 && (h.index == task || atI c h.index.toNat % 2 == 0) then ({ h with index := h.index + 1 }, true)
  else if h.seen == -1 then ({ h with seen := atI c h.index.toNat }, true)
  else if atI c h.index.toNat == h.seen then (h, false)
  else ({ h with index := h.index + 1, seen := -1 }, true)

theorem spec_l7Done (u x : Value) (l : List ND) (c : List Int) (h : HD) (w0 : World) (h1 : NSl w0 u l) (h2 : SlI w0 x c) (hl : l.length ≤ 1048576) (hc : c.length ≤ 1048576) :
    Calls Tryz.prog 99 #[(.agg #[u, x]), h.val] w0 fun e w' => e = .returned (doneV u x l c h) ∧ Below w0.heap.size w0 w' := by
  unfold HD.val
  have H1 := h1
  have H2 := h2
  obtain ⟨a1, k1, rfl, -⟩ := h1
  obtain ⟨a2, k2, rfl, -⟩ := h2
  have hM := Mem.start w0
  go_enter Tryz.func99, Tryz.ntmps99
  refine wp_seq_k fun _ cn1 => wl_region ?_
  refine nx hM 55 [.slice a1 l.length k1, .slice a2 c.length k2] ?_
  clear hM; intro g1 W1 hM
  refine nx hM 73 (HD.cells h) ?_
  clear hM; intro g2 W2 hM
  refine na hM [.slice none 0 0, .slice none 0 0] Z_impl_Shared ?_
  clear hM; intro g3 W3 hM
  refine na hM (HD.cells HD.zero) Z_impl_Hand ?_
  clear hM; intro g4 W4 hM
  refine np (.bool false) ?_
  go_frame
  refine wl_nil (cn1 _ _ ?_)
  clear cn1
  refine wp_seq_k fun Kn2 cn2 => ?_
  refine wp_seq_k fun _ cn3 => wl_region ?_
  refine nl hM 3 rfl Tryz.underlying55 I_impl_Shared ?_
  refine nc (spec_SharedOk (.slice a1 l.length k1) (.slice a2 c.length k2) l c _ (H1.below hM.below) (H2.below hM.below) hl hc) ?_
  rintro e W5 ⟨rfl, hb⟩
  refine ⟨_, rfl, ?_⟩
  replace hM := hM.call hb
  go_frame
  rcases tf (sharedB l c) with hx3 | hx3
  rw [hx3]
  refine np (.bool false) ?_
  refine np (.bool false) ?_
  refine nl hM 2 rfl Tryz.underlying73 I_impl_Hand ?_
  refine nc (spec_HandOk h _) ?_
  rintro e W6 ⟨rfl, hb⟩
  refine ⟨_, rfl, ?_⟩
  replace hM := hM.call hb
  go_frame
  rcases tf (handB h) with hx4 | hx4
  rw [hx4]
  refine np (.bool false) ?_
  refine np (.bool false) ?_
  go_frame
  refine wl_nil (cn3 _ _ ?_)
  clear cn3
  refine wp_cond_false rfl ?_
  refine wp_skip ?_
  refine cn2 _ _ ?_
  clear cn2
  refine wp_seq_k fun Kn4 cn4 => ?_
  refine wa_start (fun w => Below w0.heap.size w0 w ∧ Blk w g1 55 [.slice a1 l.length k1, .slice a2 c.length k2] ∧ Blk w g2 73 (HD.cells h)) 5 rfl (by kernel_rfl) ?_
  replace hM := hM.drew
  refine wq 0 (some 17) (.agg #[.slice a1 l.length k1, .slice a2 c.length k2]) ⟨hM.below, hM.blk 3 rfl, hM.blk 2 rfl⟩ rfl (fun w hS => r_load hS.2.1 55 _ rfl rfl Tryz.underlying55 I_impl_Shared) ?_
  go_frame
  refine wq 1 (some 18) (.agg (HD.cells h).toArray) ⟨hM.below, hM.blk 3 rfl, hM.blk 2 rfl⟩ rfl (fun w hS => r_load hS.2.2 73 _ rfl rfl Tryz.underlying73 I_impl_Hand) ?_
  go_frame
  refine wn 2 ?_
  refine oS hM 1 rfl [.slice a1 l.length k1, .slice a2 c.length k2] I_impl_Shared rfl ?_
  clear hM; intro W7 hM
  refine ⟨⟨hM.below, hM.blk 3 rfl, hM.blk 2 rfl⟩, ?_⟩
  refine wn 3 ?_
  refine oS hM 0 rfl (HD.cells h) I_impl_Hand (hd_one' _) ?_
  clear hM; intro W8 hM
  refine wk ⟨hM.below, hM.blk 3 rfl, hM.blk 2 rfl⟩ fun hs => ?_
  refine wt 4 (some 6) (.bool true) hs ?_
  go_frame
  refine wa_done (by kernel_rfl) ?_
  refine cn4 _ _ ?_
  clear cn4
  refine wp_ret ?_
  exact bodyPost_ret (ret3 (p := 4) (q := 5) (u := 6) (v := .bool true) rfl hM 1 0 rfl rfl rfl rfl rfl) rfl ⟨congrArg Ending.returned (show Value.tuple #[.agg #[.slice a1 l.length k1, .slice a2 c.length k2], .agg (HD.cells h).toArray, .bool true] = doneV (.slice a1 l.length k1) (.slice a2 c.length k2) l c h from by simp [doneV, HD.val, Bool.and_eq_true, hx3, hx4]), hM.below⟩
  rw [hx4]
  refine np (.bool true) ?_
  refine np (.bool true) ?_
  go_frame
  refine wl_nil (cn3 _ _ ?_)
  clear cn3
  refine wp_cond_true rfl ?_
  refine wp_seq_k fun _ cn4 => wl_region ?_
  refine np (.agg #[.slice none 0 0, .slice none 0 0]) ?_
  refine np (.agg (HD.cells HD.zero).toArray) ?_
  refine nS hM 1 rfl [.slice none 0 0, .slice none 0 0] I_impl_Shared rfl ?_
  clear hM; intro W7 hM
  refine nS hM 0 rfl (HD.cells HD.zero) I_impl_Hand (hd_one' _) ?_
  clear hM; intro W8 hM
  refine np (.bool false) ?_
  go_frame
  refine wl_nil (cn4 _ _ ?_)
  clear cn4
  refine wp_ret ?_
  simp only [Exit.then, Exit.inBlock]
  exact bodyPost_ret (ret3 (p := 4) (q := 5) (u := 6) (v := .bool false) rfl hM 1 0 rfl rfl rfl rfl rfl) rfl ⟨congrArg Ending.returned (show Value.tuple #[.agg #[.slice none 0 0, .slice none 0 0], .agg (HD.cells HD.zero).toArray, .bool false] = doneV (.slice a1 l.length k1) (.slice a2 c.length k2) l c h from by simp [doneV, HD.val, Bool.and_eq_true, hx3, hx4]), hM.below⟩
  rw [hx3]
  refine np (.bool true) ?_
  refine np (.bool true) ?_
  iterate 3 refine ns ?_
  refine np (.bool true) ?_
  go_frame
  refine wl_nil (cn3 _ _ ?_)
  clear cn3
  refine wp_cond_true rfl ?_
  refine wp_seq_k fun _ cn4 => wl_region ?_
  refine np (.agg #[.slice none 0 0, .slice none 0 0]) ?_
  refine np (.agg (HD.cells HD.zero).toArray) ?_
  refine nS hM 1 rfl [.slice none 0 0, .slice none 0 0] I_impl_Shared rfl ?_
  clear hM; intro W6 hM
  refine nS hM 0 rfl (HD.cells HD.zero) I_impl_Hand (hd_one' _) ?_
  clear hM; intro W7 hM
  refine np (.bool false) ?_
  go_frame
  refine wl_nil (cn4 _ _ ?_)
  clear cn4
  refine wp_ret ?_
  simp only [Exit.then, Exit.inBlock]
  exact bodyPost_ret (ret3 (p := 4) (q := 5) (u := 6) (v := .bool false) rfl hM 1 0 rfl rfl rfl rfl rfl) rfl ⟨congrArg Ending.returned (show Value.tuple #[.agg #[.slice none 0 0, .slice none 0 0], .agg (HD.cells HD.zero).toArray, .bool false] = doneV (.slice a1 l.length k1) (.slice a2 c.length k2) l c h from by simp [doneV, HD.val, Bool.and_eq_true, hx3]), hM.below⟩

theorem spec_l11Sync (u x : Value) (c : List Int) (task : Int) (h : HD) (w0 : World) (h2 : SlI w0 x c) (hc0 : c ≠ []) (hc : c.length ≤ 1048576) (hi0 : 0 ≤ h.index ∧ h.index ≤ 6) (hcs : ∀ (k : Nat) (n : Int), c[k]? = some n → 0 ≤ n ∧ n ≤ 100000) :
    Calls Tryz.prog 110 #[(.agg #[u, x]), .int .i64 task, h.val] w0 fun e w' => e = .returned (.tuple #[(syncR c task h).1.val, .bool (syncR c task h).2]) ∧ Below w0.heap.size w0 w' := by
  unfold HD.val
  obtain ⟨b2, off2, cap2, rfl, kk2, mm2, s2, G2⟩ := h2.at hc0
  have hM := Mem.start w0
  go_enter Tryz.func110, Tryz.ntmps110
  refine wp_seq_k fun _ cn1 => wl_region ?_
  refine nx hM 55 [u, .slice (some ⟨b2, off2, none⟩) c.length cap2] ?_
  clear hM; intro g1 W1 hM
  refine nx hM 73 (HD.cells h) ?_
  clear hM; intro g2 W2 hM
  refine na hM (HD.cells HD.zero) Z_impl_Hand ?_
  clear hM; intro g3 W3 hM
  refine np (.bool false) ?_
  go_frame
  refine wl_nil (cn1 _ _ ?_)
  clear cn1
  refine wp_seq_k fun Kn2 cn2 => ?_
  refine wp_seq_k fun _ cn3 => wl_region ?_
  refine np (.pointer (some ⟨g2, 11, none⟩)) ?_
  refine ng hM 1 rfl 11 Tryz.underlying2 rfl ?_
  refine np (.pointer (some ⟨g1, 1, none⟩)) ?_
  refine ng hM 2 rfl 1 Tryz.underlying33 rfl ?_
  refine np (.int .i64 (c.length : Int)) ?_
  refine np (.bool (decide (h.index ≥ (c.length : Int)))) ?_
  go_frame
  refine wl_nil (cn3 _ _ ?_)
  clear cn3
  rcases tf (decide (h.index ≥ (c.length : Int))) with hx1 | hx1
  rw [hx1]
  have hge : (c.length : Int) ≤ h.index := by simpa using hx1
  refine wp_cond_true rfl ?_
  refine wp_seq_k fun _ cn4 => wl_region ?_
  refine np (.pointer (some ⟨g2, 0, none⟩)) ?_
  refine nk hM 1 rfl 0 (.int .i64 23) I_int64 (by simp [HD.cells, splice_len]) ?_
  clear hM; intro W4 hM
  refine wl_nil (cn4 _ _ ?_)
  clear cn4
  refine wp_seq_k fun _ cn5 => wl_region ?_
  refine nl hM 1 rfl Tryz.underlying73 I_impl_Hand ?_
  refine nS hM 0 rfl (HD.cells { h with at_ := 23 }) I_impl_Hand (hd_one' _) ?_
  clear hM; intro W5 hM
  refine np (.bool true) ?_
  go_frame
  refine wl_nil (cn5 _ _ ?_)
  clear cn5
  refine wp_ret ?_
  simp only [Exit.then, Exit.inBlock]
  exact bodyPost_ret (ret_two (p := 6) (u := 7) (v := .bool true) rfl hM 0 rfl rfl rfl Tryz.underlying73 I_impl_Hand) rfl ⟨congrArg (fun z : HD × Bool => Ending.returned (.tuple #[.agg (HD.cells z.1).toArray, .bool z.2])) (show ({ h with at_ := 23 }, true) = syncR c task h from by simp [syncR, bne, hx1, hge]), hM.below⟩
  rw [hx1]
  obtain ⟨kx, hkx⟩ : ∃ kx : Nat, h.index = (kx : Int) := Int.eq_ofNat_of_zero_le hi0.1
  have hge : ¬ (c.length : Int) ≤ h.index := by simpa using hx1
  have hlx : kx < c.length := by omega
  have ht : h.index.toNat = kx := by omega
  have hel : c[kx]? = some (atI c kx) := by rw [List.getElem?_eq_getElem hlx]; simp [atI, List.getElem?_eq_getElem hlx]
  have hcn : 0 ≤ atI c kx := (hcs kx _ hel).1
  refine wp_cond_false rfl ?_
  refine wp_skip ?_
  refine cn2 _ _ ?_
  clear cn2
  refine wp_seq_k fun _ cn4 => wl_region ?_
  refine np (.pointer (some ⟨g1, 1, none⟩)) ?_
  refine ng hM 2 rfl 1 Tryz.underlying33 rfl ?_
  refine np (.pointer (some ⟨g2, 11, none⟩)) ?_
  refine ng hM 1 rfl 11 Tryz.underlying2 rfl ?_
  go_frame
  refine wl_index (by kernel_rfl) 33 2 _ _ rfl b2 off2 c.length cap2 1 kx rfl rfl hkx (by omega) Tryz.underlying33 I_int64 ?_
  go_frame
  refine wl_cell (by kernel_rfl) 2 _ rfl ⟨b2, off2 + kx * 1, none⟩ rfl Tryz.underlying2 rfl (((hM.below.cell (p := ⟨b2, off2 + kx * 1, none⟩) s2).trans (by rw [Nat.mul_one]; exact G2 kx _ hel))) ?_
  go_frame
  refine np (.int .i64 (atI c kx)) ?_
  go_frame
  refine wl_nil (cn4 _ _ ?_)
  clear cn4
  refine wp_seq_k fun Kn5 cn5 => ?_
  refine wp_block ?_
  refine wp_seq_k fun _ cn6 => wl_region ?_
  refine np (.pointer (some ⟨g2, 12, none⟩)) ?_
  refine ng hM 1 rfl 12 Tryz.underlying2 rfl ?_
  refine np (.bool (h.seen == (-1))) ?_
  refine np (.bool (h.seen == (-1))) ?_
  go_frame
  rcases tf ((h.seen == (-1))) with hx4 | hx4
  rw [hx4]
  refine np (.pointer (some ⟨g2, 11, none⟩)) ?_
  refine ng hM 1 rfl 11 Tryz.underlying2 rfl ?_
  refine np (.int .i64 task) ?_
  refine np (.bool (h.index == task)) ?_
  refine np (.bool (h.index == task)) ?_
  go_frame
  rcases tf ((h.index == task)) with hx5 | hx5
  rw [hx5]
  iterate 3 refine ns ?_
  refine np (.bool true) ?_
  refine np (.bool true) ?_
  refine np (.bool true) ?_
  go_frame
  refine wl_nil (cn6 _ _ ?_)
  clear cn6
  refine wp_cond_true rfl ?_
  refine wl_region ?_
  refine np (.pointer (some ⟨g2, 11, none⟩)) ?_
  refine ng hM 1 rfl 11 Tryz.underlying2 rfl ?_
  refine nI (h.index + 1) ?_
  refine np (.pointer (some ⟨g2, 11, none⟩)) ?_
  refine nk hM 1 rfl 11 (.int .i64 (h.index + 1)) I_int64 (by simp [HD.cells, splice_len]) ?_
  clear hM; intro W4 hM
  refine wl_nil (cn5 _ _ ?_)
  clear cn5
  refine wp_seq_k fun _ cn7 => wl_region ?_
  refine nl hM 1 rfl Tryz.underlying73 I_impl_Hand ?_
  refine nS hM 0 rfl (HD.cells { h with index := (h.index + 1) }) I_impl_Hand (hd_one' _) ?_
  clear hM; intro W5 hM
  refine np (.bool true) ?_
  go_frame
  refine wl_nil (cn7 _ _ ?_)
  clear cn7
  refine wp_ret ?_
  exact bodyPost_ret (ret_two (p := 6) (u := 7) (v := .bool true) rfl hM 0 rfl rfl rfl Tryz.underlying73 I_impl_Hand) rfl ⟨congrArg (fun z : HD × Bool => Ending.returned (.tuple #[.agg (HD.cells z.1).toArray, .bool z.2])) (show ({ h with index := (h.index + 1) }, true) = syncR c task h from by simp [syncR, bne, hx1, hx4, hx5, hge, ht]), hM.below⟩
  rw [hx5]
  refine np (.int .i64 (atI c kx)) ?_
  go_frame
  refine wl_pureE (by kernel_rfl) (m := ((atI c kx)).tmod 2) (n := ((atI c kx) % 2)) (by kernel_rfl) (IntWalk.rem_in _ _ (by omega)) ?_
  go_frame
  refine np (.bool (((atI c kx) % 2) == 0)) ?_
  refine np (.bool (((atI c kx) % 2) == 0)) ?_
  refine np (.bool (((atI c kx) % 2) == 0)) ?_
  refine np (.bool (((atI c kx) % 2) == 0)) ?_
  go_frame
  refine wl_nil (cn6 _ _ ?_)
  clear cn6
  rcases tf ((((atI c kx) % 2) == 0)) with hx6 | hx6
  rw [hx6]
  refine wp_cond_true rfl ?_
  refine wl_region ?_
  refine np (.pointer (some ⟨g2, 11, none⟩)) ?_
  refine ng hM 1 rfl 11 Tryz.underlying2 rfl ?_
  refine nI (h.index + 1) ?_
  refine np (.pointer (some ⟨g2, 11, none⟩)) ?_
  refine nk hM 1 rfl 11 (.int .i64 (h.index + 1)) I_int64 (by simp [HD.cells, splice_len]) ?_
  clear hM; intro W4 hM
  refine wl_nil (cn5 _ _ ?_)
  clear cn5
  refine wp_seq_k fun _ cn7 => wl_region ?_
  refine nl hM 1 rfl Tryz.underlying73 I_impl_Hand ?_
  refine nS hM 0 rfl (HD.cells { h with index := (h.index + 1) }) I_impl_Hand (hd_one' _) ?_
  clear hM; intro W5 hM
  refine np (.bool true) ?_
  go_frame
  refine wl_nil (cn7 _ _ ?_)
  clear cn7
  refine wp_ret ?_
  exact bodyPost_ret (ret_two (p := 6) (u := 7) (v := .bool true) rfl hM 0 rfl rfl rfl Tryz.underlying73 I_impl_Hand) rfl ⟨congrArg (fun z : HD × Bool => Ending.returned (.tuple #[.agg (HD.cells z.1).toArray, .bool z.2])) (show ({ h with index := (h.index + 1) }, true) = syncR c task h from by simp [syncR, bne, hx1, hx4, hx5, hx6, hge, ht]), hM.below⟩
  rw [hx6]
  refine wp_cond_false rfl ?_
  refine wp_seq_k fun _ cn7 => wl_region ?_
  refine np (.pointer (some ⟨g2, 12, none⟩)) ?_
  refine ng hM 1 rfl 12 Tryz.underlying2 rfl ?_
  refine nB (hx4) ?_
  refine np (.bool true) ?_
  go_frame
  refine wl_nil (cn7 _ _ ?_)
  clear cn7
  refine wp_cond_true rfl ?_
  refine wl_region ?_
  refine np (.int .i64 (atI c kx)) ?_
  refine np (.pointer (some ⟨g2, 12, none⟩)) ?_
  refine nk hM 1 rfl 12 (.int .i64 (atI c kx)) I_int64 (by simp [HD.cells, splice_len]) ?_
  clear hM; intro W4 hM
  refine wl_nil (cn5 _ _ ?_)
  clear cn5
  refine wp_seq_k fun _ cn8 => wl_region ?_
  refine nl hM 1 rfl Tryz.underlying73 I_impl_Hand ?_
  refine nS hM 0 rfl (HD.cells { h with seen := (atI c kx) }) I_impl_Hand (hd_one' _) ?_
  clear hM; intro W5 hM
  refine np (.bool true) ?_
  go_frame
  refine wl_nil (cn8 _ _ ?_)
  clear cn8
  refine wp_ret ?_
  exact bodyPost_ret (ret_two (p := 6) (u := 7) (v := .bool true) rfl hM 0 rfl rfl rfl Tryz.underlying73 I_impl_Hand) rfl ⟨congrArg (fun z : HD × Bool => Ending.returned (.tuple #[.agg (HD.cells z.1).toArray, .bool z.2])) (show ({ h with seen := (atI c kx) }, true) = syncR c task h from by simp [syncR, bne, hx1, hx4, hx5, hx6, hge, ht]), hM.below⟩
  rw [hx4]
  iterate 9 refine ns ?_
  refine np (.bool false) ?_
  refine np (.bool false) ?_
  go_frame
  refine wl_nil (cn6 _ _ ?_)
  clear cn6
  refine wp_cond_false rfl ?_
  refine wp_seq_k fun _ cn7 => wl_region ?_
  refine np (.pointer (some ⟨g2, 12, none⟩)) ?_
  refine ng hM 1 rfl 12 Tryz.underlying2 rfl ?_
  refine nB (hx4) ?_
  refine np (.bool false) ?_
  go_frame
  refine wl_nil (cn7 _ _ ?_)
  clear cn7
  refine wp_cond_false rfl ?_
  refine wp_seq_k fun _ cn8 => wl_region ?_
  refine np (.int .i64 (atI c kx)) ?_
  refine np (.pointer (some ⟨g2, 12, none⟩)) ?_
  refine ng hM 1 rfl 12 Tryz.underlying2 rfl ?_
  refine np (.bool ((atI c kx) == h.seen)) ?_
  refine np (.bool ((atI c kx) == h.seen)) ?_
  go_frame
  refine wl_nil (cn8 _ _ ?_)
  clear cn8
  rcases tf (((atI c kx) == h.seen)) with hx7 | hx7
  rw [hx7]
  refine wp_cond_true rfl ?_
  refine wp_seq_k fun _ cn9 => wl_region ?_
  refine nl hM 1 rfl Tryz.underlying73 I_impl_Hand ?_
  refine nS hM 0 rfl (HD.cells h) I_impl_Hand (hd_one' _) ?_
  clear hM; intro W4 hM
  refine np (.bool false) ?_
  go_frame
  refine wl_nil (cn9 _ _ ?_)
  clear cn9
  refine wp_ret ?_
  simp only [Exit.then, Exit.inBlock]
  exact bodyPost_ret (ret_two (p := 6) (u := 7) (v := .bool false) rfl hM 0 rfl rfl rfl Tryz.underlying73 I_impl_Hand) rfl ⟨congrArg (fun z : HD × Bool => Ending.returned (.tuple #[.agg (HD.cells z.1).toArray, .bool z.2])) (show (h, false) = syncR c task h from by simp [syncR, bne, hx1, hx4, hx7, hge, ht]), hM.below⟩
  rw [hx7]
  refine wp_cond_false rfl ?_
  refine wp_seq_k fun _ cn9 => wl_region ?_
  refine np (.pointer (some ⟨g2, 11, none⟩)) ?_
  refine ng hM 1 rfl 11 Tryz.underlying2 rfl ?_
  refine nI (h.index + 1) ?_
  refine np (.pointer (some ⟨g2, 11, none⟩)) ?_
  refine nk hM 1 rfl 11 (.int .i64 (h.index + 1)) I_int64 (by simp [HD.cells, splice_len]) ?_
  clear hM; intro W4 hM
  refine wl_nil (cn9 _ _ ?_)
  clear cn9
  refine wl_region ?_
  refine np (.pointer (some ⟨g2, 12, none⟩)) ?_
  refine nk hM 1 rfl 12 (.int .i64 (-1)) I_int64 (by simp [HD.cells, splice_len]) ?_
  clear hM; intro W5 hM
  refine wl_nil (cn5 _ _ ?_)
  clear cn5
  refine wp_seq_k fun _ cn10 => wl_region ?_
  refine nl hM 1 rfl Tryz.underlying73 I_impl_Hand ?_
  refine nS hM 0 rfl (HD.cells { h with index := (h.index + 1), seen := (-1) }) I_impl_Hand (hd_one' _) ?_
  clear hM; intro W6 hM
  refine np (.bool true) ?_
  go_frame
  refine wl_nil (cn10 _ _ ?_)
  clear cn10
  refine wp_ret ?_
  exact bodyPost_ret (ret_two (p := 6) (u := 7) (v := .bool true) rfl hM 0 rfl rfl rfl Tryz.underlying73 I_impl_Hand) rfl ⟨congrArg (fun z : HD × Bool => Ending.returned (.tuple #[.agg (HD.cells z.1).toArray, .bool z.2])) (show ({ h with index := (h.index + 1), seen := (-1) }, true) = syncR c task h from by simp [syncR, bne, hx1, hx4, hx7, hge, ht]), hM.below⟩
end Go.Proofs.YtbfndoajchibbaaGreat
