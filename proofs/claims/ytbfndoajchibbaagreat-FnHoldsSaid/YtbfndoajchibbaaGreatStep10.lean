/- FindStep of the model. -/
import Derived.Test.YtbfndoajchibbaaGreatShort
import Derived.Test.YtbfndoajchibbaaGreatStep9
namespace Go.Proofs.YtbfndoajchibbaaGreat
open Go.ChangeShapes Go.WideShapes Go.ChangeAt Go.RowKit
set_option linter.unusedVariables false
set_option maxRecDepth 100000
set_option maxHeartbeats 16000000
set_option linter.unusedSimpArgs false

abbrev StepR := List ND × List Int × HD × Bool
def noR : StepR := ([], [], HD.zero, false)
def doneR (l : List ND) (c : List Int) (h : HD) : StepR := if sharedB l c && handB h then (l, c, h, true) else noR
def cnt1 (c : List Int) (task : Int) : List Int := c.set task.toNat (atI c task.toNat + 1)
def findR (l : List ND) (c : List Int) (task : Int) (h : HD) : StepR :=
  if !l7okB l c task h 1 4 then noR
  else if h.at_ == 1 then doneR l (cnt1 c task) { h with at_ := 2, prev := 0, cur := 0, side := 1 }
  else if h.at_ == 2 then doneR l c (downH l h)
  else if h.at_ == 3 then doneR l c { h with at_ := 4, tag := kidF h.side (nd l h.prev).lt (nd l h.prev).rt }
  else doneR l (cnt1 c task) (exitH l h)
def Says3 (R : StepR) (w : World) (e : Ending) (w' : World) : Prop :=
  ∃ u x, e = .returned (.tuple #[.agg #[u, x], R.2.2.1.val, .bool R.2.2.2]) ∧ OwnR w' w.heap.size w'.heap.size 49 8 R.1.length (cellsOf R.1) u ∧ OwnR w' w.heap.size w'.heap.size 2 1 R.2.1.length (cellsI R.2.1) x ∧ Below w.heap.size w w'
theorem cnt_el {c : List Int} {p : List Value} {k : Nat} (h : k < c.length) : (cellsI c ++ p)[0 + k * 1]? = some (.int .i64 (atI c k)) := by
  rw [Nat.zero_add, Nat.mul_one, List.getElem?_append_left (by simpa [cellsI] using h)]
  simp [cellsI, atI, List.getElem?_eq_getElem h]
theorem cnt_lt {c : List Int} {p : List Value} {k : Nat} (h : k < c.length) : 0 + k * 1 < (cellsI c ++ p).length := by simp [cellsI]; omega
theorem cnt_set {c : List Int} {p : List Value} {k : Nat} (h : k < c.length) (n : Int) : (cellsI c ++ p).set (0 + k * 1) (.int .i64 n) = cellsI (c.set k n) ++ p := by
  rw [Nat.zero_add, Nat.mul_one, List.set_append_left _ _ (by simpa [cellsI] using h)]
  simp [cellsI, List.map_set]
theorem sli_set {w : World} {g k j : Nat} {t : TypeId} {c : List Int} {p : List Value} {n : Int} (hb : Blk w g t (cellsI (c.set j n) ++ p)) (h1 : c.length ≤ k) (h2 : k ≤ maxLen) : SlI w (.slice (some ⟨g, 0, none⟩) c.length k) (c.set j n) := by
  have := sli_blk (k := k) hb (by rwa [List.length_set]) h2
  rwa [List.length_set] at this
theorem own_iset {w : World} {B g k j : Nat} {c : List Int} {p : List Value} {n : Int} (hb : Blk w g 2 (cellsI (c.set j n) ++ p)) (h1 : c.length ≤ k) (h2 : k ≤ maxLen) (hB : B ≤ g) (h0 : 0 < c.length) (hx : (cellsI c ++ p).length = k * 1) : OwnR w B w.heap.size 2 1 (c.set j n).length (cellsI (c.set j n)) (.slice (some ⟨g, 0, none⟩) c.length k) := by
  have := own_iblk (k := k) hb (by rwa [List.length_set]) h2 hB (by rwa [List.length_set]) (by simp only [List.length_append, cellsI_len, List.length_set] at hx ⊢; exact hx)
  rwa [List.length_set] at this ⊢
theorem kid_has {l : List ND} {i : Int} (hn : nodesB l = true) (hi : hasB l i = true) (s : Int) : hasB l (kidF s (nd l i).l (nd l i).r) = true := by
  obtain ⟨k, n, rfl, e, hk, hg⟩ := nd_at hi
  rw [e]
  have hlk : linkB n l.length = true := by
    match l, hn, hg with
    | m :: r, hn, hg =>
      simp only [nodesB, Bool.and_eq_true, List.all_eq_true] at hn
      cases k with
      | zero =>
        simp at hg
        subst hg
        exact hn.2.1.2
      | succ k => exact (hn.2.2 n (List.mem_of_getElem? (by simpa using hg))).2
  simp only [linkB, Bool.and_eq_true] at hlk
  unfold kidF
  split
  · exact hlk.1.1.1.1
  · split
    · exact hlk.1.1.1.2
    · have := (nodes_some hn).1
      simp [hasB, inB]
      omega
/-- What is known where a step may be made. -/
theorem ok_facts {l : List ND} {c : List Int} {task : Int} {h : HD} {a b : Int} (hk : l7okB l c task h a b = true) :
    l ≠ [] ∧ c ≠ [] ∧ 0 < l.length ∧ 0 < c.length ∧ (a ≤ h.at_ ∧ h.at_ ≤ b) ∧ ∃ kt : Nat, task = (kt : Int) ∧ kt < c.length ∧ (0 ≤ atI c kt ∧ atI c kt ≤ 100000) ∧ nodesB l = true ∧
      (hasB l h.prev = true ∧ hasB l h.cur = true ∧ hasB l h.up = true ∧ hasB l h.next = true ∧ hasB l h.new = true) := by
  simp only [l7okB, Bool.and_eq_true, sharedB] at hk
  obtain ⟨⟨⟨⟨⟨h1, h2⟩, h3⟩, h4⟩, h5⟩, h6⟩ := hk
  obtain ⟨n1, n2⟩ := nodes_some h1
  obtain ⟨c1, c2, c3⟩ := countsB_some h2
  obtain ⟨t0, t1⟩ := inB_t h4
  obtain ⟨a0, a1⟩ := inB_t h5
  obtain ⟨kt, rfl⟩ := Int.eq_ofNat_of_zero_le t0
  have hkt : kt < c.length := by omega
  have hc := c3 kt _ (List.getElem?_eq_getElem hkt)
  rw [← atI_get (List.getElem?_eq_getElem hkt)] at hc
  simp [five] at h6
  refine ⟨fun e => by subst e; simp at n1, fun e => by subst e; simp at hkt, by omega, by omega, ⟨a0, a1⟩, kt, rfl, hkt, ?_, h1, ?_⟩
  · first | exact hc | exact inB_t hc | omega
  · obtain ⟨x1, x2, x3, x4, x5⟩ := h6
    exact ⟨x1, x2, x3, x4, x5⟩

theorem spec_FindStep (u x : Value) (l : List ND) (c : List Int) (task : Int) (h : HD) (w0 : World) (h1 : NSl w0 u l) (h2 : SlI w0 x c) (hl : l.length ≤ 1048576) (hc : c.length ≤ 1048576) :
    Calls Tryz.prog 90 #[.agg #[u, x], .int .i64 task, h.val] w0 (Says3 (findR l c task h) w0) := by
  have H1 := h1
  have H2 := h2
  unfold HD.val
  have hM := Mem.start w0
  rcases tf (l7okB l c task h 1 4) with hok | hok
  · obtain ⟨hl0, hc0, hl1, hc1, hat, kt, hkt0, hkt, hcnt, hnodes, qnp, qnc, qnu, qnx, qnw⟩ := ok_facts hok
    obtain ⟨b, off, cap, rfl, kk1, mm1, s1, G1⟩ := h1.at hl0
    obtain ⟨b2, off2, cap2, rfl, kk2, mm2, s2, G2⟩ := h2.at hc0
    have ht : task.toNat = kt := by omega
    have qkid : hasB l (kidF h.side (nd l h.prev).l (nd l h.prev).r) = true := kid_has hnodes qnp _
    obtain ⟨knp, ⟨npk, npv, npl, npr, npo, npg, nplt, nprt⟩, hknp, npe, hlnp, hnnp⟩ := nd_at qnp
    have Anp := G1 knp _ hnnp
    go_enter Tryz.func90, Tryz.ntmps90
    refine wp_seq_k fun _ cn1 => wl_region ?_
    refine nx hM 55 [.slice (some ⟨b, off, none⟩) l.length cap, .slice (some ⟨b2, off2, none⟩) c.length cap2] ?_
    clear hM; intro g1 W1 hM
    refine nx hM 73 (HD.cells h) ?_
    clear hM; intro g2 W2 hM
    refine na hM [.slice none 0 0, .slice none 0 0] Z_impl_Shared ?_
    clear hM; intro g3 W3 hM
    refine na hM (HD.cells HD.zero) Z_impl_Hand ?_
    clear hM; intro g4 W4 hM
    refine np (.bool false) ?_
    go_frame
    refine wl_nil (cn1 _ _ ?_)
    clear cn1
    refine wp_seq_k fun Kn2 cn2 => ?_
    refine wp_seq_k fun _ cn3 => wl_region ?_
    refine nl hM 3 rfl Tryz.underlying55 I_impl_Shared ?_
    refine np (.int .i64 task) ?_
    refine nl hM 2 rfl Tryz.underlying73 I_impl_Hand ?_
    refine nc (spec_l7Ok (.slice (some ⟨b, off, none⟩) l.length cap) (.slice (some ⟨b2, off2, none⟩) c.length cap2) l c task h 1 4 _ (H1.below hM.below) (H2.below hM.below) hl hc) ?_
    rintro e W5 ⟨rfl, hb⟩
    refine ⟨.bool true, rb hok, ?_⟩
    replace hM := hM.call hb
    go_frame
    refine np (.bool false) ?_
    go_frame
    refine wl_nil (cn3 _ _ ?_)
    clear cn3
    refine wp_cond_false rfl ?_
    refine wp_skip ?_
    refine cn2 _ _ ?_
    clear cn2
    refine wp_seq_k fun _ cn4 => wl_region ?_
    refine nl hM 3 rfl Tryz.underlying55 I_impl_Shared ?_
    refine nc (spec_l7Copy (.slice (some ⟨b, off, none⟩) l.length cap) (.slice (some ⟨b2, off2, none⟩) c.length cap2) l c _ (H1.below hM.below) (H2.below hM.below) hl0 hc0 hl hc) ?_
    rintro e W6 ⟨m1, m2, k1, k2, p1, p2, rfl, ⟨q1, q2, q3, q4, q5, q6⟩, hMc⟩
    refine ⟨_, rfl, ?_⟩
    replace hM := hM.join hMc
    go_frame
    refine na hM [.slice none 0 0, .slice none 0 0] Z_impl_Shared ?_
    clear hM; intro g5 W7 hM
    refine nS hM 0 rfl [.slice (some ⟨m1, 0, none⟩) l.length k1, .slice (some ⟨m2, 0, none⟩) c.length k2] I_impl_Shared rfl ?_
    clear hM; intro W8 hM
    refine wl_nil (cn4 _ _ ?_)
    clear cn4
    refine wp_seq_k fun Kn5 cn5 => ?_
    refine wp_seq_k fun _ cn6 => wl_region ?_
    refine np (.pointer (some ⟨g2, 0, none⟩)) ?_
    refine ng hM 5 rfl 0 Tryz.underlying2 rfl ?_
    go_frame
    refine wl_nil (cn6 _ _ ?_)
    clear cn6
    refine wp_block ?_
    refine wp_seq_k fun _ cn7 => wl_region ?_
    refine np (.bool (h.at_ == 1)) ?_
    refine np (.bool (h.at_ == 1)) ?_
    go_frame
    refine wl_nil (cn7 _ _ ?_)
    clear cn7
    rcases tf ((h.at_ == 1)) with hx11 | hx11
    rw [hx11]
    refine wp_cond_true rfl ?_
    refine wp_seq_k fun Kn8 cn8 => ?_
    refine wa_start (fun w => Below w0.heap.size w0 w ∧ Blk w g5 55 [.slice (some ⟨m1, 0, none⟩) l.length k1, .slice (some ⟨m2, 0, none⟩) c.length k2]) 11 rfl (by kernel_rfl) ?_
    replace hM := hM.drew
    refine wt 0 (some 23) (.pointer (some ⟨g5, 1, none⟩)) ⟨hM.below, hM.blk 0 rfl⟩ ?_
    go_frame
    refine wq 1 (some 24) (.slice (some ⟨m2, 0, none⟩) c.length k2) ⟨hM.below, hM.blk 0 rfl⟩ rfl (fun w hS => r_loadc hS.2 33 _ rfl 1 rfl Tryz.underlying33 rfl rfl) ?_
    refine wt 2 (some 25) (.int .i64 task) ⟨hM.below, hM.blk 0 rfl⟩ ?_
    refine wt 3 (some 26) (.pointer (some ⟨g5, 1, none⟩)) ⟨hM.below, hM.blk 0 rfl⟩ ?_
    go_frame
    refine wq 4 (some 27) (.slice (some ⟨m2, 0, none⟩) c.length k2) ⟨hM.below, hM.blk 0 rfl⟩ rfl (fun w hS => r_loadc hS.2 33 _ rfl 1 rfl Tryz.underlying33 rfl rfl) ?_
    refine wt 5 (some 28) (.int .i64 task) ⟨hM.below, hM.blk 0 rfl⟩ ?_
    go_frame
    refine wq 6 (some 29) (.pointer (some ⟨m2, 0 + kt * 1, none⟩)) ⟨hM.below, hM.blk 0 rfl⟩ rfl (fun w hS => r_index 33 2 _ _ rfl m2 0 c.length k2 1 kt rfl rfl hkt0 (by omega) Tryz.underlying33 I_int64) ?_
    go_frame
    refine wn 7 ?_
    refine oq (some 30) (.int .i64 (atI c kt)) ⟨hM.below, hM.blk 0 rfl⟩ rfl (r_loadc (hM.blk 2 rfl) 2 _ rfl (0 + kt * 1) rfl Tryz.underlying2 rfl (cnt_el hkt)) ?_
    go_frame
    refine wq 8 (some 31) (.int .i64 ((atI c kt) + 1)) ⟨hM.below, hM.blk 0 rfl⟩ rfl (fun w hS => r_int (n := (atI c kt) + 1) (by kernel_rfl) (by omega) (by omega)) ?_
    go_frame
    refine wq 9 (some 32) (.pointer (some ⟨m2, 0 + kt * 1, none⟩)) ⟨hM.below, hM.blk 0 rfl⟩ rfl (fun w hS => r_index 33 2 _ _ rfl m2 0 c.length k2 1 kt rfl rfl hkt0 (by omega) Tryz.underlying33 I_int64) ?_
    go_frame
    refine wn 10 ?_
    refine ok' hM 2 rfl (0 + kt * 1) (.int .i64 ((atI c kt) + 1)) I_int64 (cnt_lt hkt) ?_
    clear hM; intro W9 hM
    refine ⟨⟨hM.below, hM.blk 0 rfl⟩, ?_⟩
    refine wa_done (by kernel_rfl) ?_
    refine cn8 _ _ ?_
    clear cn8
    refine wp_seq_k fun Kn9 cn9 => ?_
    rw [cnt_set hkt] at hM
    refine wl_region ?_
    refine np (.pointer (some ⟨g2, 4, none⟩)) ?_
    refine nk hM 5 rfl 4 (.int .i64 0) I_int64 (by simp [HD.cells, splice_len]) ?_
    clear hM; intro W10 hM
    refine wl_nil (cn9 _ _ ?_)
    clear cn9
    refine wp_seq_k fun _ cn10 => wl_region ?_
    refine np (.pointer (some ⟨g2, 6, none⟩)) ?_
    refine nk hM 5 rfl 6 (.int .i64 1) I_int64 (by simp [HD.cells, splice_len]) ?_
    clear hM; intro W11 hM
    refine wl_nil (cn10 _ _ ?_)
    clear cn10
    refine wp_seq_k fun _ cn11 => wl_region ?_
    refine np (.pointer (some ⟨g2, 5, none⟩)) ?_
    refine nk hM 5 rfl 5 (.int .i64 0) I_int64 (by simp [HD.cells, splice_len]) ?_
    clear hM; intro W12 hM
    refine wl_nil (cn11 _ _ ?_)
    clear cn11
    refine wl_region ?_
    refine np (.pointer (some ⟨g2, 0, none⟩)) ?_
    refine nk hM 5 rfl 0 (.int .i64 2) I_int64 (by simp [HD.cells, splice_len]) ?_
    clear hM; intro W13 hM
    refine wl_nil (cn5 _ _ ?_)
    clear cn5
    refine wp_seq_k fun _ cn12 => wl_region ?_
    refine nl hM 0 rfl Tryz.underlying55 I_impl_Shared ?_
    refine nl hM 5 rfl Tryz.underlying73 I_impl_Hand ?_
    go_frame
    rcases tf ((sharedB l (c.set kt (atI c kt + 1)) && handB ({ h with prev := 0, side := 1, cur := 0, at_ := 2 }))) with hx13 | hx13
    refine nc (spec_l7Done (.slice (some ⟨m1, 0, none⟩) l.length k1) (.slice (some ⟨m2, 0, none⟩) c.length k2) l (c.set kt (atI c kt + 1)) ({ h with prev := 0, side := 1, cur := 0, at_ := 2 }) _ (nsl_blk (hM.blk 1 rfl) q1 q2) (sli_set (hM.blk 2 rfl) q3 q4) hl (by first | exact hc | (rw [List.length_set]; exact hc))) ?_
    rintro e W14 ⟨rfl, hb⟩
    refine ⟨.tuple #[.agg #[.slice (some ⟨m1, 0, none⟩) l.length k1, .slice (some ⟨m2, 0, none⟩) c.length k2], .agg (HD.cells { h with prev := 0, side := 1, cur := 0, at_ := 2 }).toArray, .bool true], congrArg Ending.returned (by simp [doneV, HD.val, hx13]), ?_⟩
    replace hM := hM.call hb
    go_frame
    refine np (.agg #[.slice (some ⟨m1, 0, none⟩) l.length k1, .slice (some ⟨m2, 0, none⟩) c.length k2]) ?_
    refine np (.agg (HD.cells { h with prev := 0, side := 1, cur := 0, at_ := 2 }).toArray) ?_
    refine np (.bool true) ?_
    refine nS hM 4 rfl [.slice (some ⟨m1, 0, none⟩) l.length k1, .slice (some ⟨m2, 0, none⟩) c.length k2] I_impl_Shared rfl ?_
    clear hM; intro W15 hM
    refine nS hM 3 rfl (HD.cells { h with prev := 0, side := 1, cur := 0, at_ := 2 }) I_impl_Hand (hd_one' _) ?_
    clear hM; intro W16 hM
    refine np (.bool true) ?_
    go_frame
    refine wl_nil (cn12 _ _ ?_)
    clear cn12
    refine wp_ret ?_
    have hR : findR l c task h = (l, (c.set kt (atI c kt + 1)), { h with prev := 0, side := 1, cur := 0, at_ := 2 }, true) := by simp [findR, doneR, noR, cnt1, hok, hx11, hx13, npe, ht]
    rw [hR]
    exact bodyPost_ret (ret3 (p := 6) (q := 7) (u := 8) (v := .bool true) rfl hM 4 3 rfl rfl rfl rfl rfl) rfl ⟨_, _, rfl, own_nblk (hM.blk 1 rfl) q1 q2 (hM.base 1 rfl) hl1 q5, own_iset (hM.blk 2 rfl) q3 q4 (hM.base 2 rfl) hc1 q6, hM.below⟩
    refine nc (spec_l7Done (.slice (some ⟨m1, 0, none⟩) l.length k1) (.slice (some ⟨m2, 0, none⟩) c.length k2) l (c.set kt (atI c kt + 1)) ({ h with prev := 0, side := 1, cur := 0, at_ := 2 }) _ (nsl_blk (hM.blk 1 rfl) q1 q2) (sli_set (hM.blk 2 rfl) q3 q4) hl (by first | exact hc | (rw [List.length_set]; exact hc))) ?_
    rintro e W14 ⟨rfl, hb⟩
    refine ⟨.tuple #[.agg #[.slice none 0 0, .slice none 0 0], .agg (HD.cells HD.zero).toArray, .bool false], congrArg Ending.returned (by simp [doneV, HD.val, hx13]), ?_⟩
    replace hM := hM.call hb
    go_frame
    refine np (.agg #[.slice none 0 0, .slice none 0 0]) ?_
    refine np (.agg (HD.cells HD.zero).toArray) ?_
    refine np (.bool false) ?_
    refine nS hM 4 rfl [.slice none 0 0, .slice none 0 0] I_impl_Shared rfl ?_
    clear hM; intro W15 hM
    refine nS hM 3 rfl (HD.cells HD.zero) I_impl_Hand (hd_one' _) ?_
    clear hM; intro W16 hM
    refine np (.bool false) ?_
    go_frame
    refine wl_nil (cn12 _ _ ?_)
    clear cn12
    refine wp_ret ?_
    have hR : findR l c task h = ([], [], HD.zero, false) := by simp [findR, doneR, noR, cnt1, hok, hx11, hx13, npe, ht]
    rw [hR]
    exact bodyPost_ret (ret3 (p := 6) (q := 7) (u := 8) (v := .bool false) rfl hM 4 3 rfl rfl rfl rfl rfl) rfl ⟨_, _, rfl, own0, own0, hM.below⟩
    rw [hx11]
    refine wp_cond_false rfl ?_
    refine wp_seq_k fun _ cn8 => wl_region ?_
    refine np (.bool (h.at_ == 2)) ?_
    refine np (.bool (h.at_ == 2)) ?_
    go_frame
    refine wl_nil (cn8 _ _ ?_)
    clear cn8
    rcases tf ((h.at_ == 2)) with hx14 | hx14
    rw [hx14]
    refine wp_cond_true rfl ?_
    refine wl_region ?_
    refine nl hM 6 rfl Tryz.underlying55 I_impl_Shared ?_
    refine nl hM 5 rfl Tryz.underlying73 I_impl_Hand ?_
    refine nc (spec_l7Down (.slice (some ⟨b, off, none⟩) l.length cap) (.slice (some ⟨b2, off2, none⟩) c.length cap2) l h _ (H1.below hM.below) qnp qkid) ?_
    rintro e W9 ⟨rfl, hb⟩
    refine ⟨_, rfl, ?_⟩
    replace hM := hM.call hb
    go_frame
    refine nS hM 5 rfl (HD.cells (downH l h)) I_impl_Hand (hd_one' _) ?_
    clear hM; intro W10 hM
    refine wl_nil (cn5 _ _ ?_)
    clear cn5
    refine wp_seq_k fun _ cn9 => wl_region ?_
    refine nl hM 0 rfl Tryz.underlying55 I_impl_Shared ?_
    refine nl hM 5 rfl Tryz.underlying73 I_impl_Hand ?_
    go_frame
    rcases tf ((sharedB l c && handB (downH l h))) with hx16 | hx16
    refine nc (spec_l7Done (.slice (some ⟨m1, 0, none⟩) l.length k1) (.slice (some ⟨m2, 0, none⟩) c.length k2) l c (downH l h) _ (nsl_blk (hM.blk 1 rfl) q1 q2) (sli_blk (hM.blk 2 rfl) q3 q4) hl (by first | exact hc | (rw [List.length_set]; exact hc))) ?_
    rintro e W11 ⟨rfl, hb⟩
    refine ⟨.tuple #[.agg #[.slice (some ⟨m1, 0, none⟩) l.length k1, .slice (some ⟨m2, 0, none⟩) c.length k2], .agg (HD.cells (downH l h)).toArray, .bool true], congrArg Ending.returned (by simp [doneV, HD.val, hx16]), ?_⟩
    replace hM := hM.call hb
    go_frame
    refine np (.agg #[.slice (some ⟨m1, 0, none⟩) l.length k1, .slice (some ⟨m2, 0, none⟩) c.length k2]) ?_
    refine np (.agg (HD.cells (downH l h)).toArray) ?_
    refine np (.bool true) ?_
    refine nS hM 4 rfl [.slice (some ⟨m1, 0, none⟩) l.length k1, .slice (some ⟨m2, 0, none⟩) c.length k2] I_impl_Shared rfl ?_
    clear hM; intro W12 hM
    refine nS hM 3 rfl (HD.cells (downH l h)) I_impl_Hand (hd_one' _) ?_
    clear hM; intro W13 hM
    refine np (.bool true) ?_
    go_frame
    refine wl_nil (cn9 _ _ ?_)
    clear cn9
    refine wp_ret ?_
    have hR : findR l c task h = (l, c, (downH l h), true) := by simp [findR, doneR, noR, cnt1, hok, hx11, hx14, hx16, npe, ht]
    rw [hR]
    exact bodyPost_ret (ret3 (p := 6) (q := 7) (u := 8) (v := .bool true) rfl hM 4 3 rfl rfl rfl rfl rfl) rfl ⟨_, _, rfl, own_nblk (hM.blk 1 rfl) q1 q2 (hM.base 1 rfl) hl1 q5, own_iblk (hM.blk 2 rfl) q3 q4 (hM.base 2 rfl) hc1 q6, hM.below⟩
    refine nc (spec_l7Done (.slice (some ⟨m1, 0, none⟩) l.length k1) (.slice (some ⟨m2, 0, none⟩) c.length k2) l c (downH l h) _ (nsl_blk (hM.blk 1 rfl) q1 q2) (sli_blk (hM.blk 2 rfl) q3 q4) hl (by first | exact hc | (rw [List.length_set]; exact hc))) ?_
    rintro e W11 ⟨rfl, hb⟩
    refine ⟨.tuple #[.agg #[.slice none 0 0, .slice none 0 0], .agg (HD.cells HD.zero).toArray, .bool false], congrArg Ending.returned (by simp [doneV, HD.val, hx16]), ?_⟩
    replace hM := hM.call hb
    go_frame
    refine np (.agg #[.slice none 0 0, .slice none 0 0]) ?_
    refine np (.agg (HD.cells HD.zero).toArray) ?_
    refine np (.bool false) ?_
    refine nS hM 4 rfl [.slice none 0 0, .slice none 0 0] I_impl_Shared rfl ?_
    clear hM; intro W12 hM
    refine nS hM 3 rfl (HD.cells HD.zero) I_impl_Hand (hd_one' _) ?_
    clear hM; intro W13 hM
    refine np (.bool false) ?_
    go_frame
    refine wl_nil (cn9 _ _ ?_)
    clear cn9
    refine wp_ret ?_
    have hR : findR l c task h = ([], [], HD.zero, false) := by simp [findR, doneR, noR, cnt1, hok, hx11, hx14, hx16, npe, ht]
    rw [hR]
    exact bodyPost_ret (ret3 (p := 6) (q := 7) (u := 8) (v := .bool false) rfl hM 4 3 rfl rfl rfl rfl rfl) rfl ⟨_, _, rfl, own0, own0, hM.below⟩
    rw [hx14]
    refine wp_cond_false rfl ?_
    refine wp_seq_k fun _ cn9 => wl_region ?_
    refine np (.bool (h.at_ == 3)) ?_
    refine np (.bool (h.at_ == 3)) ?_
    go_frame
    refine wl_nil (cn9 _ _ ?_)
    clear cn9
    rcases tf ((h.at_ == 3)) with hx17 | hx17
    rw [hx17]
    refine wp_cond_true rfl ?_
    refine wp_seq_k fun Kn10 cn10 => ?_
    refine wa_join (fun act W => ∃ (jj : Nat), act = ⟨#[.agg #[.slice (some ⟨b, off, none⟩) l.length cap, .slice (some ⟨b2, off2, none⟩) c.length cap2], .int .i64 task, .agg (HD.cells h).toArray, .pointer (some ⟨g1, 0, none⟩), undef, .pointer (some ⟨g2, 0, none⟩), .pointer (some ⟨g3, 0, none⟩), .pointer (some ⟨g4, 0, none⟩), .bool false, .pointer (some ⟨g5, 0, none⟩), .agg #[.slice (some ⟨b, off, none⟩) l.length cap, .slice (some ⟨b2, off2, none⟩) c.length cap2], .int .i64 task, .agg (HD.cells h).toArray, .bool true, .bool false, undef, undef, .agg #[.slice (some ⟨b, off, none⟩) l.length cap, .slice (some ⟨b2, off2, none⟩) c.length cap2], .agg #[.slice (some ⟨m1, 0, none⟩) l.length k1, .slice (some ⟨m2, 0, none⟩) c.length k2], .pointer (some ⟨g2, 0, none⟩), .int .i64 h.at_, .bool false, .bool false, undef, undef, undef, undef, undef, undef, undef, undef, undef, undef, undef, undef, undef, undef, .bool false, .bool false, undef, undef, undef, .bool true, .bool true, .pointer (some ⟨g1, 0, none⟩), .slice (some ⟨b, off, none⟩) l.length cap, .pointer (some ⟨g2, 4, none⟩), .int .i64 h.prev, .pointer (some ⟨b, off + knp * 8, none⟩), .agg (ND.cells ⟨npk, npv, npl, npr, npo, npg, nplt, nprt⟩).toArray, .pointer (some ⟨g2, 6, none⟩), .int .i64 h.side, .int .i64 (kidF h.side nplt nprt), .pointer (some ⟨g2, 7, none⟩), undef, undef, undef, undef, undef, undef, undef, undef, undef, undef, undef, undef, undef, undef, undef, undef, undef, undef, undef, undef, undef, undef], []⟩ ∧ Mem w0 W [(g5, 55, [.slice (some ⟨m1, 0, none⟩) l.length k1, .slice (some ⟨m2, 0, none⟩) c.length k2]), (m1, 49, (cellsOf l ++ p1)), (m2, 2, (cellsI c ++ p2)), (g4, 73, (HD.cells HD.zero)), (g3, 55, [.slice none 0 0, .slice none 0 0]), (g2, 73, (HD.cells { h with tag := (kidF h.side nplt nprt) })), (g1, 55, [.slice (some ⟨b, off, none⟩) l.length cap, .slice (some ⟨b2, off2, none⟩) c.length cap2])]) ?_ ?_
    clear hM
    rintro act W11 ⟨jj, rfl, hM⟩
    refine cn10 _ _ ?_
    clear cn10
    refine wl_region ?_
    refine np (.pointer (some ⟨g2, 0, none⟩)) ?_
    refine nk hM 5 rfl 0 (.int .i64 4) I_int64 (by simp [HD.cells, splice_len]) ?_
    clear hM; intro W12 hM
    refine wl_nil (cn5 _ _ ?_)
    clear cn5
    refine wp_seq_k fun _ cn11 => wl_region ?_
    refine nl hM 0 rfl Tryz.underlying55 I_impl_Shared ?_
    refine nl hM 5 rfl Tryz.underlying73 I_impl_Hand ?_
    go_frame
    rcases tf ((sharedB l c && handB ({ h with tag := (kidF h.side nplt nprt), at_ := 4 }))) with hx19 | hx19
    refine nc (spec_l7Done (.slice (some ⟨m1, 0, none⟩) l.length k1) (.slice (some ⟨m2, 0, none⟩) c.length k2) l c ({ h with tag := (kidF h.side nplt nprt), at_ := 4 }) _ (nsl_blk (hM.blk 1 rfl) q1 q2) (sli_blk (hM.blk 2 rfl) q3 q4) hl (by first | exact hc | (rw [List.length_set]; exact hc))) ?_
    rintro e W13 ⟨rfl, hb⟩
    refine ⟨.tuple #[.agg #[.slice (some ⟨m1, 0, none⟩) l.length k1, .slice (some ⟨m2, 0, none⟩) c.length k2], .agg (HD.cells { h with tag := (kidF h.side nplt nprt), at_ := 4 }).toArray, .bool true], congrArg Ending.returned (by simp [doneV, HD.val, hx19]), ?_⟩
    replace hM := hM.call hb
    go_frame
    refine np (.agg #[.slice (some ⟨m1, 0, none⟩) l.length k1, .slice (some ⟨m2, 0, none⟩) c.length k2]) ?_
    refine np (.agg (HD.cells { h with tag := (kidF h.side nplt nprt), at_ := 4 }).toArray) ?_
    refine np (.bool true) ?_
    refine nS hM 4 rfl [.slice (some ⟨m1, 0, none⟩) l.length k1, .slice (some ⟨m2, 0, none⟩) c.length k2] I_impl_Shared rfl ?_
    clear hM; intro W14 hM
    refine nS hM 3 rfl (HD.cells { h with tag := (kidF h.side nplt nprt), at_ := 4 }) I_impl_Hand (hd_one' _) ?_
    clear hM; intro W15 hM
    refine np (.bool true) ?_
    go_frame
    refine wl_nil (cn11 _ _ ?_)
    clear cn11
    refine wp_ret ?_
    have hR : findR l c task h = (l, c, { h with tag := (kidF h.side nplt nprt), at_ := 4 }, true) := by simp [findR, doneR, noR, cnt1, hok, hx11, hx14, hx17, hx19, npe, ht]
    rw [hR]
    exact bodyPost_ret (ret3 (p := 6) (q := 7) (u := 8) (v := .bool true) rfl hM 4 3 rfl rfl rfl rfl rfl) rfl ⟨_, _, rfl, own_nblk (hM.blk 1 rfl) q1 q2 (hM.base 1 rfl) hl1 q5, own_iblk (hM.blk 2 rfl) q3 q4 (hM.base 2 rfl) hc1 q6, hM.below⟩
    refine nc (spec_l7Done (.slice (some ⟨m1, 0, none⟩) l.length k1) (.slice (some ⟨m2, 0, none⟩) c.length k2) l c ({ h with tag := (kidF h.side nplt nprt), at_ := 4 }) _ (nsl_blk (hM.blk 1 rfl) q1 q2) (sli_blk (hM.blk 2 rfl) q3 q4) hl (by first | exact hc | (rw [List.length_set]; exact hc))) ?_
    rintro e W13 ⟨rfl, hb⟩
    refine ⟨.tuple #[.agg #[.slice none 0 0, .slice none 0 0], .agg (HD.cells HD.zero).toArray, .bool false], congrArg Ending.returned (by simp [doneV, HD.val, hx19]), ?_⟩
    replace hM := hM.call hb
    go_frame
    refine np (.agg #[.slice none 0 0, .slice none 0 0]) ?_
    refine np (.agg (HD.cells HD.zero).toArray) ?_
    refine np (.bool false) ?_
    refine nS hM 4 rfl [.slice none 0 0, .slice none 0 0] I_impl_Shared rfl ?_
    clear hM; intro W14 hM
    refine nS hM 3 rfl (HD.cells HD.zero) I_impl_Hand (hd_one' _) ?_
    clear hM; intro W15 hM
    refine np (.bool false) ?_
    go_frame
    refine wl_nil (cn11 _ _ ?_)
    clear cn11
    refine wp_ret ?_
    have hR : findR l c task h = ([], [], HD.zero, false) := by simp [findR, doneR, noR, cnt1, hok, hx11, hx14, hx17, hx19, npe, ht]
    rw [hR]
    exact bodyPost_ret (ret3 (p := 6) (q := 7) (u := 8) (v := .bool false) rfl hM 4 3 rfl rfl rfl rfl rfl) rfl ⟨_, _, rfl, own0, own0, hM.below⟩
    refine wa_start (fun w => Below w0.heap.size w0 w ∧ Blk w g1 55 [.slice (some ⟨b, off, none⟩) l.length cap, .slice (some ⟨b2, off2, none⟩) c.length cap2]) 11 rfl (by kernel_rfl) ?_
    replace hM := hM.drew
    refine wt 0 (some 44) (.pointer (some ⟨g1, 0, none⟩)) ⟨hM.below, hM.blk 6 rfl⟩ ?_
    go_frame
    refine wq 1 (some 45) (.slice (some ⟨b, off, none⟩) l.length cap) ⟨hM.below, hM.blk 6 rfl⟩ rfl (fun w hS => r_loadc hS.2 24 _ rfl 0 rfl Tryz.underlying24 rfl rfl) ?_
    refine wt 2 (some 46) (.pointer (some ⟨g2, 4, none⟩)) ⟨hM.below, hM.blk 6 rfl⟩ ?_
    refine wt 6 (some 50) (.pointer (some ⟨g2, 6, none⟩)) ⟨hM.below, hM.blk 6 rfl⟩ ?_
    go_frame
    refine wa_two 3 7 (by kernel_rfl) ?_ ?_
    refine oq (some 47) (.int .i64 h.prev) ⟨hM.below, hM.blk 6 rfl⟩ rfl (r_loadc (hM.blk 5 rfl) 2 _ rfl 4 rfl Tryz.underlying2 rfl rfl) ?_
    go_frame
    refine wq 4 (some 48) (.pointer (some ⟨b, off + knp * 8, none⟩)) ⟨hM.below, hM.blk 6 rfl⟩ rfl (fun w hS => r_index 24 49 _ _ rfl b off l.length cap 8 knp rfl rfl hknp (by omega) Tryz.underlying24 I_impl_Node) ?_
    go_frame
    refine wq 5 (some 49) (.agg (ND.cells ⟨npk, npv, npl, npr, npo, npg, nplt, nprt⟩).toArray) ⟨hM.below, hM.blk 6 rfl⟩ rfl (fun w hS => r_cells 49 _ rfl b (off + knp * 8) rfl Tryz.underlying49 (ND.cells ⟨npk, npv, npl, npr, npo, npg, nplt, nprt⟩) I_impl_Node (row_of (Mem.ofBelow hS.1) s1 Anp)) ?_
    go_frame
    refine wn 7 ?_
    refine oq (some 51) (.int .i64 h.side) ⟨hM.below, hM.blk 6 rfl⟩ rfl (r_loadc (hM.blk 5 rfl) 2 _ rfl 6 rfl Tryz.underlying2 rfl rfl) ?_
    go_frame
    refine wn 8 ?_
    refine oc (some 52) (spec_TagAt npk npv npl npr npo npg nplt nprt h.side _) ?_
    rintro e W9 ⟨rfl, hb⟩
    replace hM := hM.call hb
    refine ⟨_, rfl, wk ⟨hM.below, hM.blk 6 rfl⟩ fun hs => ?_⟩
    go_frame
    refine wt 9 (some 53) (.pointer (some ⟨g2, 7, none⟩)) hs ?_
    go_frame
    refine wn 10 ?_
    refine ok' hM 5 rfl 7 (.int .i64 (kidF h.side nplt nprt)) I_int64 (by simp [HD.cells, splice_len]) ?_
    clear hM; intro W10 hM
    refine ⟨⟨hM.below, hM.blk 6 rfl⟩, ?_⟩
    refine wa_doneJ (by kernel_rfl) ?_
    exact ⟨0, rfl, hM⟩
    refine oq (some 51) (.int .i64 h.side) ⟨hM.below, hM.blk 6 rfl⟩ rfl (r_loadc (hM.blk 5 rfl) 2 _ rfl 6 rfl Tryz.underlying2 rfl rfl) ?_
    go_frame
    refine wn 3 ?_
    refine oq (some 47) (.int .i64 h.prev) ⟨hM.below, hM.blk 6 rfl⟩ rfl (r_loadc (hM.blk 5 rfl) 2 _ rfl 4 rfl Tryz.underlying2 rfl rfl) ?_
    go_frame
    refine wq 4 (some 48) (.pointer (some ⟨b, off + knp * 8, none⟩)) ⟨hM.below, hM.blk 6 rfl⟩ rfl (fun w hS => r_index 24 49 _ _ rfl b off l.length cap 8 knp rfl rfl hknp (by omega) Tryz.underlying24 I_impl_Node) ?_
    go_frame
    refine wq 5 (some 49) (.agg (ND.cells ⟨npk, npv, npl, npr, npo, npg, nplt, nprt⟩).toArray) ⟨hM.below, hM.blk 6 rfl⟩ rfl (fun w hS => r_cells 49 _ rfl b (off + knp * 8) rfl Tryz.underlying49 (ND.cells ⟨npk, npv, npl, npr, npo, npg, nplt, nprt⟩) I_impl_Node (row_of (Mem.ofBelow hS.1) s1 Anp)) ?_
    go_frame
    refine wn 8 ?_
    refine oc (some 52) (spec_TagAt npk npv npl npr npo npg nplt nprt h.side _) ?_
    rintro e W9 ⟨rfl, hb⟩
    replace hM := hM.call hb
    refine ⟨_, rfl, wk ⟨hM.below, hM.blk 6 rfl⟩ fun hs => ?_⟩
    go_frame
    refine wt 9 (some 53) (.pointer (some ⟨g2, 7, none⟩)) hs ?_
    go_frame
    refine wn 10 ?_
    refine ok' hM 5 rfl 7 (.int .i64 (kidF h.side nplt nprt)) I_int64 (by simp [HD.cells, splice_len]) ?_
    clear hM; intro W10 hM
    refine ⟨⟨hM.below, hM.blk 6 rfl⟩, ?_⟩
    refine wa_doneJ (by kernel_rfl) ?_
    exact ⟨0, rfl, hM⟩
    rw [hx17]
    refine wp_cond_false rfl ?_
    refine wp_seq_k fun _ cn10 => wl_region ?_
    refine np (.bool (h.at_ == 4)) ?_
    refine np (.bool (h.at_ == 4)) ?_
    go_frame
    refine wl_nil (cn10 _ _ ?_)
    clear cn10
    rcases tf ((h.at_ == 4)) with hx20 | hx20
    rw [hx20]
    refine wp_cond_true rfl ?_
    refine wp_seq_k fun Kn11 cn11 => ?_
    refine wa_start (fun w => Below w0.heap.size w0 w ∧ Blk w g5 55 [.slice (some ⟨m1, 0, none⟩) l.length k1, .slice (some ⟨m2, 0, none⟩) c.length k2]) 11 rfl (by kernel_rfl) ?_
    replace hM := hM.drew
    refine wt 0 (some 57) (.pointer (some ⟨g5, 1, none⟩)) ⟨hM.below, hM.blk 0 rfl⟩ ?_
    go_frame
    refine wq 1 (some 58) (.slice (some ⟨m2, 0, none⟩) c.length k2) ⟨hM.below, hM.blk 0 rfl⟩ rfl (fun w hS => r_loadc hS.2 33 _ rfl 1 rfl Tryz.underlying33 rfl rfl) ?_
    refine wt 2 (some 59) (.int .i64 task) ⟨hM.below, hM.blk 0 rfl⟩ ?_
    refine wt 3 (some 60) (.pointer (some ⟨g5, 1, none⟩)) ⟨hM.below, hM.blk 0 rfl⟩ ?_
    go_frame
    refine wq 4 (some 61) (.slice (some ⟨m2, 0, none⟩) c.length k2) ⟨hM.below, hM.blk 0 rfl⟩ rfl (fun w hS => r_loadc hS.2 33 _ rfl 1 rfl Tryz.underlying33 rfl rfl) ?_
    refine wt 5 (some 62) (.int .i64 task) ⟨hM.below, hM.blk 0 rfl⟩ ?_
    go_frame
    refine wq 6 (some 63) (.pointer (some ⟨m2, 0 + kt * 1, none⟩)) ⟨hM.below, hM.blk 0 rfl⟩ rfl (fun w hS => r_index 33 2 _ _ rfl m2 0 c.length k2 1 kt rfl rfl hkt0 (by omega) Tryz.underlying33 I_int64) ?_
    go_frame
    refine wn 7 ?_
    refine oq (some 64) (.int .i64 (atI c kt)) ⟨hM.below, hM.blk 0 rfl⟩ rfl (r_loadc (hM.blk 2 rfl) 2 _ rfl (0 + kt * 1) rfl Tryz.underlying2 rfl (cnt_el hkt)) ?_
    go_frame
    refine wq 8 (some 65) (.int .i64 ((atI c kt) + 1)) ⟨hM.below, hM.blk 0 rfl⟩ rfl (fun w hS => r_int (n := (atI c kt) + 1) (by kernel_rfl) (by omega) (by omega)) ?_
    go_frame
    refine wq 9 (some 66) (.pointer (some ⟨m2, 0 + kt * 1, none⟩)) ⟨hM.below, hM.blk 0 rfl⟩ rfl (fun w hS => r_index 33 2 _ _ rfl m2 0 c.length k2 1 kt rfl rfl hkt0 (by omega) Tryz.underlying33 I_int64) ?_
    go_frame
    refine wn 10 ?_
    refine ok' hM 2 rfl (0 + kt * 1) (.int .i64 ((atI c kt) + 1)) I_int64 (cnt_lt hkt) ?_
    clear hM; intro W9 hM
    refine ⟨⟨hM.below, hM.blk 0 rfl⟩, ?_⟩
    refine wa_done (by kernel_rfl) ?_
    refine cn11 _ _ ?_
    clear cn11
    rw [cnt_set hkt] at hM
    refine wl_region ?_
    refine nl hM 6 rfl Tryz.underlying55 I_impl_Shared ?_
    refine nl hM 5 rfl Tryz.underlying73 I_impl_Hand ?_
    refine nc (spec_l7Exit (.slice (some ⟨b, off, none⟩) l.length cap) (.slice (some ⟨b2, off2, none⟩) c.length cap2) l h _ (H1.below hM.below) qnc) ?_
    rintro e W10 ⟨rfl, hb⟩
    refine ⟨_, rfl, ?_⟩
    replace hM := hM.call hb
    go_frame
    refine nS hM 5 rfl (HD.cells (exitH l h)) I_impl_Hand (hd_one' _) ?_
    clear hM; intro W11 hM
    refine wl_nil (cn5 _ _ ?_)
    clear cn5
    refine wp_seq_k fun _ cn12 => wl_region ?_
    refine nl hM 0 rfl Tryz.underlying55 I_impl_Shared ?_
    refine nl hM 5 rfl Tryz.underlying73 I_impl_Hand ?_
    go_frame
    rcases tf ((sharedB l (c.set kt (atI c kt + 1)) && handB (exitH l h))) with hx22 | hx22
    refine nc (spec_l7Done (.slice (some ⟨m1, 0, none⟩) l.length k1) (.slice (some ⟨m2, 0, none⟩) c.length k2) l (c.set kt (atI c kt + 1)) (exitH l h) _ (nsl_blk (hM.blk 1 rfl) q1 q2) (sli_set (hM.blk 2 rfl) q3 q4) hl (by first | exact hc | (rw [List.length_set]; exact hc))) ?_
    rintro e W12 ⟨rfl, hb⟩
    refine ⟨.tuple #[.agg #[.slice (some ⟨m1, 0, none⟩) l.length k1, .slice (some ⟨m2, 0, none⟩) c.length k2], .agg (HD.cells (exitH l h)).toArray, .bool true], congrArg Ending.returned (by simp [doneV, HD.val, hx22]), ?_⟩
    replace hM := hM.call hb
    go_frame
    refine np (.agg #[.slice (some ⟨m1, 0, none⟩) l.length k1, .slice (some ⟨m2, 0, none⟩) c.length k2]) ?_
    refine np (.agg (HD.cells (exitH l h)).toArray) ?_
    refine np (.bool true) ?_
    refine nS hM 4 rfl [.slice (some ⟨m1, 0, none⟩) l.length k1, .slice (some ⟨m2, 0, none⟩) c.length k2] I_impl_Shared rfl ?_
    clear hM; intro W13 hM
    refine nS hM 3 rfl (HD.cells (exitH l h)) I_impl_Hand (hd_one' _) ?_
    clear hM; intro W14 hM
    refine np (.bool true) ?_
    go_frame
    refine wl_nil (cn12 _ _ ?_)
    clear cn12
    refine wp_ret ?_
    have hR : findR l c task h = (l, (c.set kt (atI c kt + 1)), (exitH l h), true) := by simp [findR, doneR, noR, cnt1, hok, hx11, hx14, hx17, hx20, hx22, npe, ht]
    rw [hR]
    exact bodyPost_ret (ret3 (p := 6) (q := 7) (u := 8) (v := .bool true) rfl hM 4 3 rfl rfl rfl rfl rfl) rfl ⟨_, _, rfl, own_nblk (hM.blk 1 rfl) q1 q2 (hM.base 1 rfl) hl1 q5, own_iset (hM.blk 2 rfl) q3 q4 (hM.base 2 rfl) hc1 q6, hM.below⟩
    refine nc (spec_l7Done (.slice (some ⟨m1, 0, none⟩) l.length k1) (.slice (some ⟨m2, 0, none⟩) c.length k2) l (c.set kt (atI c kt + 1)) (exitH l h) _ (nsl_blk (hM.blk 1 rfl) q1 q2) (sli_set (hM.blk 2 rfl) q3 q4) hl (by first | exact hc | (rw [List.length_set]; exact hc))) ?_
    rintro e W12 ⟨rfl, hb⟩
    refine ⟨.tuple #[.agg #[.slice none 0 0, .slice none 0 0], .agg (HD.cells HD.zero).toArray, .bool false], congrArg Ending.returned (by simp [doneV, HD.val, hx22]), ?_⟩
    replace hM := hM.call hb
    go_frame
    refine np (.agg #[.slice none 0 0, .slice none 0 0]) ?_
    refine np (.agg (HD.cells HD.zero).toArray) ?_
    refine np (.bool false) ?_
    refine nS hM 4 rfl [.slice none 0 0, .slice none 0 0] I_impl_Shared rfl ?_
    clear hM; intro W13 hM
    refine nS hM 3 rfl (HD.cells HD.zero) I_impl_Hand (hd_one' _) ?_
    clear hM; intro W14 hM
    refine np (.bool false) ?_
    go_frame
    refine wl_nil (cn12 _ _ ?_)
    clear cn12
    refine wp_ret ?_
    have hR : findR l c task h = ([], [], HD.zero, false) := by simp [findR, doneR, noR, cnt1, hok, hx11, hx14, hx17, hx20, hx22, npe, ht]
    rw [hR]
    exact bodyPost_ret (ret3 (p := 6) (q := 7) (u := 8) (v := .bool false) rfl hM 4 3 rfl rfl rfl rfl rfl) rfl ⟨_, _, rfl, own0, own0, hM.below⟩
    rw [hx20]
    exfalso
    simp only [beq_eq_false_iff_ne, ne_eq] at hx11 hx14 hx17 hx20
    omega
  · obtain ⟨a1, j1, rfl, -⟩ := h1
    obtain ⟨a2, j2, rfl, -⟩ := h2
    go_enter Tryz.func90, Tryz.ntmps90
    refine wp_seq_k fun _ cn1 => wl_region ?_
    refine nx hM 55 [.slice a1 l.length j1, .slice a2 c.length j2] ?_
    clear hM; intro g1 W1 hM
    refine nx hM 73 (HD.cells h) ?_
    clear hM; intro g2 W2 hM
    refine na hM [.slice none 0 0, .slice none 0 0] Z_impl_Shared ?_
    clear hM; intro g3 W3 hM
    refine na hM (HD.cells HD.zero) Z_impl_Hand ?_
    clear hM; intro g4 W4 hM
    refine np (.bool false) ?_
    go_frame
    refine wl_nil (cn1 _ _ ?_)
    clear cn1
    refine wp_seq_k fun Kn2 cn2 => ?_
    refine wp_seq_k fun _ cn3 => wl_region ?_
    refine nl hM 3 rfl Tryz.underlying55 I_impl_Shared ?_
    refine np (.int .i64 task) ?_
    refine nl hM 2 rfl Tryz.underlying73 I_impl_Hand ?_
    refine nc (spec_l7Ok (.slice a1 l.length j1) (.slice a2 c.length j2) l c task h 1 4 _ (H1.below hM.below) (H2.below hM.below) hl hc) ?_
    rintro e W5 ⟨rfl, hb⟩
    refine ⟨.bool false, rb hok, ?_⟩
    replace hM := hM.call hb
    go_frame
    refine np (.bool true) ?_
    go_frame
    refine wl_nil (cn3 _ _ ?_)
    clear cn3
    refine wp_cond_true rfl ?_
    refine wp_seq_k fun _ cn4 => wl_region ?_
    refine np (.agg #[.slice none 0 0, .slice none 0 0]) ?_
    refine np (.agg (HD.cells HD.zero).toArray) ?_
    refine nS hM 1 rfl [.slice none 0 0, .slice none 0 0] I_impl_Shared rfl ?_
    clear hM; intro W6 hM
    refine nS hM 0 rfl (HD.cells HD.zero) I_impl_Hand (hd_one' _) ?_
    clear hM; intro W7 hM
    refine np (.bool false) ?_
    go_frame
    refine wl_nil (cn4 _ _ ?_)
    clear cn4
    refine wp_ret ?_
    simp only [Exit.then, Exit.inBlock]
    have hR : findR l c task h = ([], [], HD.zero, false) := by simp [findR, doneR, noR, cnt1, hok]
    rw [hR]
    exact bodyPost_ret (ret3 (p := 6) (q := 7) (u := 8) (v := .bool false) rfl hM 1 0 rfl rfl rfl rfl rfl) rfl ⟨_, _, rfl, own0, own0, hM.below⟩
end Go.Proofs.YtbfndoajchibbaaGreat
