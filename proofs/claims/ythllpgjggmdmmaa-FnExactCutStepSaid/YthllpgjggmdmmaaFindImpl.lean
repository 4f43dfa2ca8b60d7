/- Finding: what the program asks ahead of a touch, and copies. -/
import Derived.Test.YthllpgjggmdmmaaNodesImpl
import Derived.Test.YthllpgjggmdmmaaHandImpl
import Derived.Test.YthllpgjggmdmmaaClone
import Derived.Test.YthllpgjggmdmmaaStep10
namespace Go.Proofs.Ythllpgjggmdmmaa
open Go.ChangeShapes Go.WideShapes Go.ChangeAt Go.RowKit
set_option linter.unusedVariables false
set_option linter.unusedSimpArgs false

def mx (x y : Int) : Int := if y > x then y else x
def max5 (h : HD) : Int := mx (mx (mx (mx h.prev h.cur) h.up) h.next) h.new
def amongB (h : HD) (l : List ND) : Bool := decide (max5 h < (l.length : Int))
def canB (l : List ND) (c : List Int) (task : Int) (h : HD) : Bool := ((sharedB l c && handB h) && inB task 0 ((c.length : Int) - 1)) && amongB h l

set_option maxRecDepth 100000 in
set_option maxHeartbeats 4000000 in
theorem impl_SharedOk (u x : Value) (l : List ND) (c : List Int) (w0 : World) (h1 : NSl w0 u l) (h2 : SlI w0 x c) (hl : l.length ≤ 1048576) (hc : c.length ≤ 1048576) :
    Calls Try.prog 66 #[.agg #[u, x]] w0 fun e w' => e = .returned (.bool (sharedB l c)) ∧ Below w0.heap.size w0 w' := by
  have hM := Mem.start w0
  go_enter Try.func66, Try.ntmps66
  refine wp_seq_k fun Kn1 cn1 => ?_
  refine wl_region ?_
  refine wl_box (by kernel_rfl) hM 33 _ rfl [u, x] rfl ?_
  clear hM; intro g1 W1 hM
  go_frame
  refine wl_pure (by kernel_rfl) (.bool false) (by kernel_rfl) ?_
  go_frame
  refine wl_nil ?_
  refine cn1 _ _ ?_
  clear cn1
  refine wp_seq_k fun Kn2 cn2 => ?_
  refine wl_region ?_
  refine wl_pure (by kernel_rfl) (.pointer (some ⟨g1, 0, none⟩)) (by kernel_rfl) ?_
  go_frame
  refine wl_loadc (by kernel_rfl) hM 0 rfl 31 _ rfl 0 rfl Try.underlying31 rfl rfl ?_
  go_frame
  refine wl_call (by kernel_rfl) 76 #[u] (by kernel_rfl) (impl_NodesOk u l _ (h1.below hM.below) hl) ?_
  rintro e W2 ⟨rfl, hb⟩
  refine ⟨_, rfl, ?_⟩
  replace hM := hM.call hb
  go_frame
  refine wl_pure (by kernel_rfl) (.bool (nodesB l)) (by kernel_rfl) ?_
  go_frame
  rcases Bool.eq_false_or_eq_true ((nodesB l)) with hx2 | hx2
  rw [hx2]
  refine wl_pure (by kernel_rfl) (.pointer (some ⟨g1, 1, none⟩)) (by kernel_rfl) ?_
  go_frame
  refine wl_loadc (by kernel_rfl) hM 0 rfl 23 _ rfl 1 rfl Try.underlying23 rfl rfl ?_
  go_frame
  refine wl_call (by kernel_rfl) 77 #[x] (by kernel_rfl) (impl_CountsOk x c _ (h2.below hM.below) hc) ?_
  rintro e W3 ⟨rfl, hb⟩
  refine ⟨_, rfl, ?_⟩
  replace hM := hM.call hb
  go_frame
  refine wl_pure (by kernel_rfl) (.bool (countsB c)) (by kernel_rfl) ?_
  go_frame
  refine wl_pure (by kernel_rfl) (.bool (countsB c)) (by kernel_rfl) ?_
  go_frame
  refine wl_nil ?_
  refine cn2 _ _ ?_
  clear cn2
  refine wp_ret ?_
  exact bodyPost_ret (v := .bool (countsB c)) (ret_tmp 2 rfl rfl) rfl ⟨ret_b (show (countsB c) = sharedB l c from by simp [sharedB, hx2]), hM.below⟩
  rw [hx2]
  refine wl_skip (by kernel_rfl) ?_
  go_frame
  refine wl_skip (by kernel_rfl) ?_
  go_frame
  refine wl_skip (by kernel_rfl) ?_
  go_frame
  refine wl_pure (by kernel_rfl) (.bool false) (by kernel_rfl) ?_
  go_frame
  refine wl_pure (by kernel_rfl) (.bool false) (by kernel_rfl) ?_
  go_frame
  refine wl_nil ?_
  refine cn2 _ _ ?_
  clear cn2
  refine wp_ret ?_
  exact bodyPost_ret (v := .bool false) (ret_tmp 2 rfl rfl) rfl ⟨ret_b (show false = sharedB l c from by simp [sharedB, hx2]), hM.below⟩

set_option maxRecDepth 100000 in
set_option maxHeartbeats 4000000 in
theorem impl_isAmong (h : HD) (ua : Option Addr) (n uc : Nat) (w0 : World) :
    Calls Try.prog 75 #[h.val, .slice ua n uc] w0 fun e w' => e = .returned (.bool (decide (max5 h < (n : Int)))) ∧ Below w0.heap.size w0 w' := by
  unfold HD.val
  have hM := Mem.start w0
  go_enter Try.func75, Try.ntmps75
  refine wp_seq_k fun Kn1 cn1 => ?_
  refine wl_region ?_
  refine wl_box (by kernel_rfl) hM 36 _ rfl (HD.cells h) rfl ?_
  clear hM; intro g1 W1 hM
  go_frame
  refine wl_pure (by kernel_rfl) (.bool false) (by kernel_rfl) ?_
  go_frame
  refine wl_nil ?_
  refine cn1 _ _ ?_
  clear cn1
  refine wp_seq_k fun Kn2 cn2 => ?_
  refine wl_region ?_
  refine wl_pure (by kernel_rfl) (.pointer (some ⟨g1, 4, none⟩)) (by kernel_rfl) ?_
  go_frame
  refine wl_loadc (by kernel_rfl) hM 0 rfl 2 _ rfl 4 rfl Try.underlying2 rfl rfl ?_
  go_frame
  refine wl_pure (by kernel_rfl) (.pointer (some ⟨g1, 5, none⟩)) (by kernel_rfl) ?_
  go_frame
  refine wl_loadc (by kernel_rfl) hM 0 rfl 2 _ rfl 5 rfl Try.underlying2 rfl rfl ?_
  go_frame
  refine wl_pure (by kernel_rfl) (.pointer (some ⟨g1, 8, none⟩)) (by kernel_rfl) ?_
  go_frame
  refine wl_loadc (by kernel_rfl) hM 0 rfl 2 _ rfl 8 rfl Try.underlying2 rfl rfl ?_
  go_frame
  refine wl_pure (by kernel_rfl) (.pointer (some ⟨g1, 9, none⟩)) (by kernel_rfl) ?_
  go_frame
  refine wl_loadc (by kernel_rfl) hM 0 rfl 2 _ rfl 9 rfl Try.underlying2 rfl rfl ?_
  go_frame
  refine wl_pure (by kernel_rfl) (.pointer (some ⟨g1, 10, none⟩)) (by kernel_rfl) ?_
  go_frame
  refine wl_loadc (by kernel_rfl) hM 0 rfl 2 _ rfl 10 rfl Try.underlying2 rfl rfl ?_
  go_frame
  refine wl_pure (by kernel_rfl) (.int .i64 (max5 h)) (by kernel_rfl) ?_
  go_frame
  refine wl_pure (by kernel_rfl) (.slice ua n uc) (by kernel_rfl) ?_
  go_frame
  refine wl_pure (by kernel_rfl) (.int .i64 (n : Int)) (by kernel_rfl) ?_
  go_frame
  refine wl_pure (by kernel_rfl) (.bool (decide ((max5 h) < (n : Int)))) (by kernel_rfl) ?_
  go_frame
  refine wl_pure (by kernel_rfl) (.bool (decide ((max5 h) < (n : Int)))) (by kernel_rfl) ?_
  go_frame
  refine wl_nil ?_
  refine cn2 _ _ ?_
  clear cn2
  refine wp_ret ?_
  exact bodyPost_ret (v := .bool (decide ((max5 h) < (n : Int)))) (ret_tmp 4 rfl rfl) rfl ⟨rfl, hM.below⟩

set_option maxRecDepth 100000 in
set_option maxHeartbeats 4000000 in
theorem impl_canTouch (ua : Option Addr) (uc : Nat) (xa : Option Addr) (xc : Nat) (l : List ND) (c : List Int) (task : Int) (h : HD) (w0 : World) (h1 : NSl w0 (.slice ua l.length uc) l) (h2 : SlI w0 (.slice xa c.length xc) c) (hl : l.length ≤ 1048576) (hc : c.length ≤ 1048576) :
    Calls Try.prog 65 #[.agg #[.slice ua l.length uc, .slice xa c.length xc], .int .i64 task, h.val] w0 fun e w' => e = .returned (.bool (canB l c task h)) ∧ Below w0.heap.size w0 w' := by
  unfold HD.val
  have hM := Mem.start w0
  go_enter Try.func65, Try.ntmps65
  refine wp_seq_k fun Kn1 cn1 => ?_
  refine wl_region ?_
  refine wl_box (by kernel_rfl) hM 33 _ rfl [.slice ua l.length uc, .slice xa c.length xc] rfl ?_
  clear hM; intro g1 W1 hM
  go_frame
  refine wl_box (by kernel_rfl) hM 36 _ rfl (HD.cells h) rfl ?_
  clear hM; intro g2 W2 hM
  go_frame
  refine wl_pure (by kernel_rfl) (.bool false) (by kernel_rfl) ?_
  go_frame
  refine wl_nil ?_
  refine cn1 _ _ ?_
  clear cn1
  refine wp_seq_k fun Kn2 cn2 => ?_
  refine wl_region ?_
  refine wl_load (by kernel_rfl) hM 1 rfl 33 _ rfl rfl Try.underlying33 I_impl_Shared ?_
  go_frame
  refine wl_call (by kernel_rfl) 66 #[.agg #[.slice ua l.length uc, .slice xa c.length xc]] (by kernel_rfl) (impl_SharedOk (.slice ua l.length uc) (.slice xa c.length xc) l c _ (h1.below hM.below) (h2.below hM.below) hl hc) ?_
  rintro e W3 ⟨rfl, hb⟩
  refine ⟨_, rfl, ?_⟩
  replace hM := hM.call hb
  go_frame
  refine wl_pure (by kernel_rfl) (.bool (sharedB l c)) (by kernel_rfl) ?_
  go_frame
  rcases Bool.eq_false_or_eq_true ((sharedB l c)) with hx4 | hx4
  rw [hx4]
  refine wl_load (by kernel_rfl) hM 0 rfl 36 _ rfl rfl Try.underlying36 I_impl_Hand ?_
  go_frame
  refine wl_call (by kernel_rfl) 67 #[.agg (HD.cells h).toArray] (by kernel_rfl) (impl_HandOk h _) ?_
  rintro e W4 ⟨rfl, hb⟩
  refine ⟨_, rfl, ?_⟩
  replace hM := hM.call hb
  go_frame
  refine wl_pure (by kernel_rfl) (.bool (handB h)) (by kernel_rfl) ?_
  go_frame
  refine wl_pure (by kernel_rfl) (.bool (handB h)) (by kernel_rfl) ?_
  go_frame
  rcases Bool.eq_false_or_eq_true ((handB h)) with hx5 | hx5
  rw [hx5]
  refine wl_pure (by kernel_rfl) (.int .i64 task) (by kernel_rfl) ?_
  go_frame
  refine wl_pure (by kernel_rfl) (.pointer (some ⟨g1, 1, none⟩)) (by kernel_rfl) ?_
  go_frame
  refine wl_loadc (by kernel_rfl) hM 1 rfl 23 _ rfl 1 rfl Try.underlying23 rfl rfl ?_
  go_frame
  refine wl_pure (by kernel_rfl) (.int .i64 (c.length : Int)) (by kernel_rfl) ?_
  go_frame
  refine wl_pureI (by kernel_rfl) (n := (c.length : Int) - 1) (by kernel_rfl) (by omega) (by omega) ?_
  go_frame
  refine wl_call (by kernel_rfl) 74 #[.int .i64 task, .int .i64 0, .int .i64 ((c.length : Int) - 1)] (by kernel_rfl) (impl_in task 0 ((c.length : Int) - 1) _) ?_
  rintro e W5 ⟨rfl, rfl⟩
  refine ⟨_, rfl, ?_⟩
  go_frame
  refine wl_pure (by kernel_rfl) (.bool (inB task 0 ((c.length : Int) - 1))) (by kernel_rfl) ?_
  go_frame
  refine wl_pure (by kernel_rfl) (.bool (inB task 0 ((c.length : Int) - 1))) (by kernel_rfl) ?_
  go_frame
  rcases Bool.eq_false_or_eq_true ((inB task 0 ((c.length : Int) - 1))) with hx6 | hx6
  rw [hx6]
  refine wl_load (by kernel_rfl) hM 0 rfl 36 _ rfl rfl Try.underlying36 I_impl_Hand ?_
  go_frame
  refine wl_pure (by kernel_rfl) (.pointer (some ⟨g1, 0, none⟩)) (by kernel_rfl) ?_
  go_frame
  refine wl_loadc (by kernel_rfl) hM 1 rfl 31 _ rfl 0 rfl Try.underlying31 rfl rfl ?_
  go_frame
  refine wl_call (by kernel_rfl) 75 #[.agg (HD.cells h).toArray, .slice ua l.length uc] (by kernel_rfl) (impl_isAmong h ua l.length uc _) ?_
  rintro e W6 ⟨rfl, hb⟩
  refine ⟨_, rfl, ?_⟩
  replace hM := hM.call hb
  go_frame
  refine wl_pure (by kernel_rfl) (.bool (amongB h l)) (by kernel_rfl) ?_
  go_frame
  refine wl_pure (by kernel_rfl) (.bool (amongB h l)) (by kernel_rfl) ?_
  go_frame
  refine wl_nil ?_
  refine cn2 _ _ ?_
  clear cn2
  refine wp_ret ?_
  exact bodyPost_ret (v := .bool (amongB h l)) (ret_tmp 6 rfl rfl) rfl ⟨ret_b (show (amongB h l) = canB l c task h from by simp [canB, hx4, hx5, hx6]), hM.below⟩
  rw [hx6]
  refine wl_skip (by kernel_rfl) ?_
  go_frame
  refine wl_skip (by kernel_rfl) ?_
  go_frame
  refine wl_skip (by kernel_rfl) ?_
  go_frame
  refine wl_skip (by kernel_rfl) ?_
  go_frame
  refine wl_pure (by kernel_rfl) (.bool false) (by kernel_rfl) ?_
  go_frame
  refine wl_pure (by kernel_rfl) (.bool false) (by kernel_rfl) ?_
  go_frame
  refine wl_nil ?_
  refine cn2 _ _ ?_
  clear cn2
  refine wp_ret ?_
  exact bodyPost_ret (v := .bool false) (ret_tmp 6 rfl rfl) rfl ⟨ret_b (show false = canB l c task h from by simp [canB, hx4, hx5, hx6]), hM.below⟩
  rw [hx5]
  refine wl_skip (by kernel_rfl) ?_
  go_frame
  refine wl_skip (by kernel_rfl) ?_
  go_frame
  refine wl_skip (by kernel_rfl) ?_
  go_frame
  refine wl_skip (by kernel_rfl) ?_
  go_frame
  refine wl_skip (by kernel_rfl) ?_
  go_frame
  refine wl_skip (by kernel_rfl) ?_
  go_frame
  refine wl_pure (by kernel_rfl) (.bool false) (by kernel_rfl) ?_
  go_frame
  refine wl_pure (by kernel_rfl) (.bool false) (by kernel_rfl) ?_
  go_frame
  refine wl_skip (by kernel_rfl) ?_
  go_frame
  refine wl_skip (by kernel_rfl) ?_
  go_frame
  refine wl_skip (by kernel_rfl) ?_
  go_frame
  refine wl_skip (by kernel_rfl) ?_
  go_frame
  refine wl_pure (by kernel_rfl) (.bool false) (by kernel_rfl) ?_
  go_frame
  refine wl_pure (by kernel_rfl) (.bool false) (by kernel_rfl) ?_
  go_frame
  refine wl_nil ?_
  refine cn2 _ _ ?_
  clear cn2
  refine wp_ret ?_
  exact bodyPost_ret (v := .bool false) (ret_tmp 6 rfl rfl) rfl ⟨ret_b (show false = canB l c task h from by simp [canB, hx4, hx5]), hM.below⟩
  rw [hx4]
  refine wl_skip (by kernel_rfl) ?_
  go_frame
  refine wl_skip (by kernel_rfl) ?_
  go_frame
  refine wl_pure (by kernel_rfl) (.bool false) (by kernel_rfl) ?_
  go_frame
  refine wl_pure (by kernel_rfl) (.bool false) (by kernel_rfl) ?_
  go_frame
  refine wl_skip (by kernel_rfl) ?_
  go_frame
  refine wl_skip (by kernel_rfl) ?_
  go_frame
  refine wl_skip (by kernel_rfl) ?_
  go_frame
  refine wl_skip (by kernel_rfl) ?_
  go_frame
  refine wl_skip (by kernel_rfl) ?_
  go_frame
  refine wl_skip (by kernel_rfl) ?_
  go_frame
  refine wl_pure (by kernel_rfl) (.bool false) (by kernel_rfl) ?_
  go_frame
  refine wl_pure (by kernel_rfl) (.bool false) (by kernel_rfl) ?_
  go_frame
  refine wl_skip (by kernel_rfl) ?_
  go_frame
  refine wl_skip (by kernel_rfl) ?_
  go_frame
  refine wl_skip (by kernel_rfl) ?_
  go_frame
  refine wl_skip (by kernel_rfl) ?_
  go_frame
  refine wl_pure (by kernel_rfl) (.bool false) (by kernel_rfl) ?_
  go_frame
  refine wl_pure (by kernel_rfl) (.bool false) (by kernel_rfl) ?_
  go_frame
  refine wl_nil ?_
  refine cn2 _ _ ?_
  clear cn2
  refine wp_ret ?_
  exact bodyPost_ret (v := .bool false) (ret_tmp 6 rfl rfl) rfl ⟨ret_b (show false = canB l c task h from by simp [canB, hx4]), hM.below⟩


set_option maxRecDepth 100000 in
set_option maxHeartbeats 4000000 in
theorem impl_copyOf (u x : Value) (l : List ND) (c : List Int) (w0 : World) (h1 : NSl w0 u l) (h2 : SlI w0 x c) (hl0 : l ≠ []) (hc0 : c ≠ []) (hl : l.length ≤ 1048576) (hc : c.length ≤ 1048576) :
    Calls Try.prog 49 #[.agg #[u, x]] w0 (Copied w0 l c) := by
  have hM := Mem.start w0
  go_enter Try.func49, Try.ntmps49
  refine wp_seq_k fun Kn1 cn1 => ?_
  refine wl_region ?_
  refine wl_box (by kernel_rfl) hM 33 _ rfl [u, x] rfl ?_
  clear hM; intro g1 W1 hM
  go_frame
  refine wl_alloc (by kernel_rfl) hM 33 rfl [.slice none 0 0, .slice none 0 0] Z_impl_Shared ?_
  clear hM; intro g2 W2 hM
  go_frame
  refine wl_nil ?_
  refine cn1 _ _ ?_
  clear cn1
  refine wp_seq_k fun Kn2 cn2 => ?_
  refine wp_region_inv_tail 7 (fun D act w => ∃ (s3 s4 s5 s6 s7 s8 s9 : Value) (E : List Bk), act = ⟨#[.agg #[u, x], .pointer (some ⟨g1, 0, none⟩), .pointer (some ⟨g2, 0, none⟩), s3, s4, s5, s6, s7, s8, s9], []⟩ ∧ Mem w0 w (E ++ [(g2, 33, [Value.slice none 0 0, .slice none 0 0]), (g1, 33, [u, x])]) ∧ (D 0 → s3 = .pointer (some ⟨g1, 0, none⟩)) ∧ (D 1 → s4 = u) ∧ (D 2 → ∃ (g k : Nat) (p : List Value), s5 = .slice (some ⟨g, 0, none⟩) l.length k ∧ (l.length ≤ k ∧ k ≤ maxLen ∧ (cellsOf l ++ p).length = k * 8) ∧ (g, 52, cellsOf l ++ p) ∈ E) ∧ (D 3 → s6 = .pointer (some ⟨g1, 1, none⟩)) ∧ (D 4 → s7 = x) ∧ (D 5 → ∃ (g k : Nat) (p : List Value), s8 = .slice (some ⟨g, 0, none⟩) c.length k ∧ (c.length ≤ k ∧ k ≤ maxLen ∧ (cellsI c ++ p).length = k * 1) ∧ (g, 2, cellsI c ++ p) ∈ E) ∧ (D 6 → ∃ (g k : Nat) (p : List Value) (g' k' : Nat) (p' : List Value), s9 = .agg #[.slice (some ⟨g, 0, none⟩) l.length k, .slice (some ⟨g', 0, none⟩) c.length k'] ∧ (l.length ≤ k ∧ k ≤ maxLen ∧ c.length ≤ k' ∧ k' ≤ maxLen ∧ (cellsOf l ++ p).length = k * 8 ∧ (cellsI c ++ p').length = k' * 1) ∧ (g, 52, cellsOf l ++ p) ∈ E ∧ (g', 2, cellsI c ++ p') ∈ E)) (by kernel_rfl) (by kernel_rfl) (by kernel_rfl) (by simp) ?_ ?_ ?_
  · exact ⟨undef, undef, undef, undef, undef, undef, undef, [], rfl, hM.drew, fun h => h.elim, fun h => h.elim, fun h => h.elim, fun h => h.elim, fun h => h.elim, fun h => h.elim, fun h => h.elim⟩
  · intro i o ho hi
    have hh : i = 0 ∨ i = 1 ∨ i = 2 ∨ i = 3 ∨ i = 4 ∨ i = 5 ∨ i = 6 := by omega
    clear hi
    rcases hh with rfl | rfl | rfl | rfl | rfl | rfl | rfl
    all_goals
      simp only [List.getElem?_toArray, List.getElem?_cons_zero, List.getElem?_cons_succ, Option.some.injEq] at ho
      subst ho
      rintro D act w K hpre ⟨s3, s4, s5, s6, s7, s8, s9, E, rfl, hM, f0, f1, f2, f3, f4, f5, f6⟩ hK
    · refine step_want (by kernel_rfl) ?_; exact m_pure (.pointer (some ⟨g1, 0, none⟩)) (by kernel_rfl) (hK.out _ _ ⟨_, _, _, _, _, _, _, _, rfl, hM, fun _ => rfl, fun hD => f1 (hD.resolve_right (by decide)), fun hD => f2 (hD.resolve_right (by decide)), fun hD => f3 (hD.resolve_right (by decide)), fun hD => f4 (hD.resolve_right (by decide)), fun hD => f5 (hD.resolve_right (by decide)), fun hD => f6 (hD.resolve_right (by decide))⟩)
    · obtain rfl := f0 (hpre ⟨0, .data⟩ (by simp) rfl)
      refine step_want (by kernel_rfl) ?_; exact m_loadc hM.tail 1 rfl 31 _ rfl 0 rfl Try.underlying31 rfl rfl (hK.out _ _ ⟨_, _, _, _, _, _, _, _, rfl, hM, fun hD => f0 (hD.resolve_right (by decide)), fun _ => rfl, fun hD => f2 (hD.resolve_right (by decide)), fun hD => f3 (hD.resolve_right (by decide)), fun hD => f4 (hD.resolve_right (by decide)), fun hD => f5 (hD.resolve_right (by decide)), fun hD => f6 (hD.resolve_right (by decide))⟩)
    · obtain rfl := f1 (hpre ⟨1, .data⟩ (by simp) rfl)
      refine step_want (by kernel_rfl) ?_
      refine m_call 63 #[s4] (by kernel_rfl) (clone_nodes s4 l w (h1.below (hM.below.mono (Nat.le_refl _))) hl0 hl) ?_
      rintro e W ⟨g, v, rfl, hg, ⟨k, p, rfl, hk, hm, ⟨-, hx⟩, hO⟩, hb⟩
      exact ⟨_, rfl, hK.out _ _ ⟨_, _, _, _, _, _, _, (_ :: E), rfl, hM.got hb hg hO, fun hD => f0 (hD.resolve_right (by decide)), fun hD => f1 (hD.resolve_right (by decide)), fun _ => ⟨g, k, p, rfl, ⟨hk, hm, hx⟩, List.mem_cons_self⟩, fun hD => f3 (hD.resolve_right (by decide)), fun hD => f4 (hD.resolve_right (by decide)), fun hD => by obtain ⟨g, k, p, h1, h2, h3⟩ := f5 (hD.resolve_right (by decide)); exact ⟨g, k, p, h1, h2, List.mem_cons_of_mem _ h3⟩, fun hD => by obtain ⟨g, k, p, g', k', p', h1, h2, h3, h4⟩ := f6 (hD.resolve_right (by decide)); exact ⟨g, k, p, g', k', p', h1, h2, List.mem_cons_of_mem _ h3, List.mem_cons_of_mem _ h4⟩⟩⟩
    · refine step_want (by kernel_rfl) ?_; exact m_pure (.pointer (some ⟨g1, 1, none⟩)) (by kernel_rfl) (hK.out _ _ ⟨_, _, _, _, _, _, _, _, rfl, hM, fun hD => f0 (hD.resolve_right (by decide)), fun hD => f1 (hD.resolve_right (by decide)), fun hD => f2 (hD.resolve_right (by decide)), fun _ => rfl, fun hD => f4 (hD.resolve_right (by decide)), fun hD => f5 (hD.resolve_right (by decide)), fun hD => f6 (hD.resolve_right (by decide))⟩)
    · obtain rfl := f3 (hpre ⟨3, .data⟩ (by simp) rfl)
      refine step_want (by kernel_rfl) ?_; exact m_loadc hM.tail 1 rfl 23 _ rfl 1 rfl Try.underlying23 rfl rfl (hK.out _ _ ⟨_, _, _, _, _, _, _, _, rfl, hM, fun hD => f0 (hD.resolve_right (by decide)), fun hD => f1 (hD.resolve_right (by decide)), fun hD => f2 (hD.resolve_right (by decide)), fun hD => f3 (hD.resolve_right (by decide)), fun _ => rfl, fun hD => f5 (hD.resolve_right (by decide)), fun hD => f6 (hD.resolve_right (by decide))⟩)
    · obtain rfl := f4 (hpre ⟨4, .data⟩ (by simp) rfl)
      refine step_want (by kernel_rfl) ?_
      refine m_call 64 #[s7] (by kernel_rfl) (clone_ints s7 c w (h2.below (hM.below.mono (Nat.le_refl _))) hc0 hc) ?_
      rintro e W ⟨g, v, rfl, hg, ⟨k, p, rfl, hk, hm, ⟨-, hx⟩, hO⟩, hb⟩
      exact ⟨_, rfl, hK.out _ _ ⟨_, _, _, _, _, _, _, (_ :: E), rfl, hM.got hb hg hO, fun hD => f0 (hD.resolve_right (by decide)), fun hD => f1 (hD.resolve_right (by decide)), fun hD => by obtain ⟨g, k, p, h1, h2, h3⟩ := f2 (hD.resolve_right (by decide)); exact ⟨g, k, p, h1, h2, List.mem_cons_of_mem _ h3⟩, fun hD => f3 (hD.resolve_right (by decide)), fun hD => f4 (hD.resolve_right (by decide)), fun _ => ⟨g, k, p, rfl, ⟨hk, hm, hx⟩, List.mem_cons_self⟩, fun hD => by obtain ⟨g, k, p, g', k', p', h1, h2, h3, h4⟩ := f6 (hD.resolve_right (by decide)); exact ⟨g, k, p, g', k', p', h1, h2, List.mem_cons_of_mem _ h3, List.mem_cons_of_mem _ h4⟩⟩⟩
    · obtain ⟨g, k, p, rfl, ⟨a1, a2, a5⟩, b1⟩ := f2 (hpre ⟨2, .data⟩ (by simp) rfl)
      obtain ⟨g', k', p', rfl, ⟨a3, a4, a6⟩, b2⟩ := f5 (hpre ⟨5, .data⟩ (by simp) rfl)
      refine step_want (by kernel_rfl) ?_; exact m_pure (.agg #[.slice (some ⟨g, 0, none⟩) l.length k, .slice (some ⟨g', 0, none⟩) c.length k']) (by kernel_rfl) (hK.out _ _ ⟨_, _, _, _, _, _, _, _, rfl, hM, fun hD => f0 (hD.resolve_right (by decide)), fun hD => f1 (hD.resolve_right (by decide)), fun hD => f2 (hD.resolve_right (by decide)), fun hD => f3 (hD.resolve_right (by decide)), fun hD => f4 (hD.resolve_right (by decide)), fun hD => f5 (hD.resolve_right (by decide)), fun _ => ⟨g, k, p, g', k', p', rfl, ⟨a1, a2, a3, a4, a5, a6⟩, b1, b2⟩⟩)
  · intro D act w' hD hI
    obtain ⟨s3, s4, s5, s6, s7, s8, s9, E, rfl, hM', f0, f1, f2, f3, f4, f5, f6⟩ := hI
    obtain ⟨m1, k1, p1, m2, k2, p2, rfl, ⟨q1, q2, q3, q4, q5, q6⟩, e1, e2⟩ := f6 (hD 6 (by decide))
    clear hM
    have hM := hM'.front2 e1 e2 (fun h => ne_types (congrArg (fun b => b.2.1) h))
    refine WL.out ?_
    simp only [List.drop_succ_cons, List.drop_zero, List.toList_toArray]
    refine wl_store (by kernel_rfl) hM 2 rfl 33 _ _ rfl rfl rfl [.slice (some ⟨m1, 0, none⟩) l.length k1, .slice (some ⟨m2, 0, none⟩) c.length k2] rfl I_impl_Shared rfl rfl ?_
    clear hM; intro W3 hM
    refine wl_nil ?_
    refine cn2 _ _ ?_
    clear cn2
    refine wp_ret ?_
    exact bodyPost_ret (ret_row rfl hM 2 rfl rfl Try.underlying33 I_impl_Shared) rfl ⟨m1, m2, k1, k2, p1, p2, rfl, ⟨q1, q2, q3, q4, q5, q6⟩, hM.sub (fun i => i) (fun i b hb => by match i, hb with | 0, hb => exact hb | 1, hb => exact hb | (n + 2), hb => simp at hb) (fun i j _ _ e => e)⟩
end Go.Proofs.Ythllpgjggmdmmaa
