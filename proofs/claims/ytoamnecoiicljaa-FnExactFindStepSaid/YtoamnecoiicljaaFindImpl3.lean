/- Finding: the program's step. -/
import Derived.Test.YtoamnecoiicljaaFindImpl2
namespace Go.Proofs.Ytoamnecoiicljaa
open Go.ChangeShapes Go.WideShapes Go.ChangeAt Go.RowKit
set_option linter.unusedVariables false
set_option linter.unusedSimpArgs false

theorem ownr_blk {w' : World} {B E sz n : Nat} {t : TypeId} {cs : List Value} {u : Value} (h : OwnR w' B E t sz n cs u) (h0 : 0 < n) : ∃ (g k : Nat) (p : List Value), u = .slice (some ⟨g, 0, none⟩) n k ∧ n ≤ k ∧ k ≤ maxLen ∧ B ≤ g ∧ Blk w' g t (cs ++ p) := by
  rcases h with ⟨h1, -⟩ | ⟨-, g, hg, -, k, p, rfl, h1, h2, -, hb⟩
  · omega
  · exact ⟨g, k, p, rfl, h1, h2, hg, hb⟩
theorem sli_len {w : World} {g k n : Nat} {t : TypeId} {c : List Int} {p : List Value} (hb : Blk w g t (cellsI c ++ p)) (e : c.length = n) (h1 : n ≤ k) (h2 : k ≤ maxLen) : SlI w (.slice (some ⟨g, 0, none⟩) n k) c := by
  subst e
  exact sli_blk hb h1 h2
theorem own_ilen {w : World} {B g k n : Nat} {c : List Int} {p : List Value} (hb : Blk w g 2 (cellsI c ++ p)) (e : c.length = n) (h1 : n ≤ k) (h2 : k ≤ maxLen) (hB : B ≤ g) (h0 : 0 < n) : OwnR w B w.heap.size 2 1 c.length (cellsI c) (.slice (some ⟨g, 0, none⟩) n k) := by
  subst e
  exact own_iblk hb h1 h2 hB h0
theorem r_callfn {ρ : Operand → Value} {o : Oper} {w : World} {c : Call} {f : FuncId} (ho : o.op = .call c) (x : Operand) (hc : c.callee = .value x) (hx : ρ x = .func (.func f) #[] #[]) (vs : Array Value) (ha : c.args.map ρ = vs)
    (hE : ∀ (vs : Array Value) (w : World), (callFunc f vs).run Try.prog w = .ok (.enter f vs) w) : (execOp ρ o).run Try.prog w = .ok (.enter f vs) w := by
  unfold execOp
  simp [ho, resolve, hc, hx, ha, Deferred.ofValue, invoke, hE, Sem.run_bind, Result.andThen]
def findT : Array MapEntry := #[⟨.int .i64 1, .func (.func 60) #[] #[], 0⟩, ⟨.int .i64 2, .func (.func 61) #[] #[], 1⟩, ⟨.int .i64 3, .func (.func 62) #[] #[], 2⟩, ⟨.int .i64 4, .func (.func 63) #[] #[], 3⟩]
set_option maxHeartbeats 1000000 in
theorem impl_findTouches (w0 : World) : Calls Try.prog 34 #[] w0 fun e w' => ∃ b, e = .returned (.map (some b)) ∧ w0.heap.size ≤ b ∧ Tbl w' b findT 4 ∧ Below w0.heap.size w0 w' := by
  have hM := Mem.start w0
  go_enter Try.func34, Try.ntmps34
  refine wp_seq_k fun Kn1 cn1 => ?_
  refine wl_region ?_
  refine wl_pure (by kernel_rfl) (.map none) (by kernel_rfl) ?_
  go_frame
  refine wl_nil ?_
  refine cn1 _ _ ?_
  clear cn1
  refine wp_seq_k fun Kn2 cn2 => ?_
  refine wl_region ?_
  refine wl_make (by kernel_rfl) hM 64 rfl ?_
  clear hM; intro mb'1 W1 hB hM hT
  go_frame
  refine wl_insert (by kernel_rfl) hM hB hT 64 2 86 _ _ _ rfl Try.underlying64 Try.underlying2 rfl 1 rfl (.func (.func 60) #[] #[]) rfl (by kernel_rfl) ?_
  clear hM hT; intro W2 hM hT
  go_frame
  refine wl_insert (by kernel_rfl) hM hB hT 64 2 86 _ _ _ rfl Try.underlying64 Try.underlying2 rfl 2 rfl (.func (.func 61) #[] #[]) rfl (by kernel_rfl) ?_
  clear hM hT; intro W3 hM hT
  go_frame
  refine wl_insert (by kernel_rfl) hM hB hT 64 2 86 _ _ _ rfl Try.underlying64 Try.underlying2 rfl 3 rfl (.func (.func 62) #[] #[]) rfl (by kernel_rfl) ?_
  clear hM hT; intro W4 hM hT
  go_frame
  refine wl_insert (by kernel_rfl) hM hB hT 64 2 86 _ _ _ rfl Try.underlying64 Try.underlying2 rfl 4 rfl (.func (.func 63) #[] #[]) rfl (by kernel_rfl) ?_
  clear hM hT; intro W5 hM hT
  go_frame
  refine wl_pure (by kernel_rfl) (.map (some mb'1)) (by kernel_rfl) ?_
  go_frame
  refine wl_pure (by kernel_rfl) (.map (some mb'1)) (by kernel_rfl) ?_
  go_frame
  refine wl_nil ?_
  refine cn2 _ _ ?_
  clear cn2
  refine wp_ret ?_
  exact bodyPost_ret (v := .map (some mb'1)) (ret_tmp 0 rfl rfl) rfl ⟨mb'1, rfl, hB, hT, hM.below⟩

set_option maxRecDepth 100000 in
set_option maxHeartbeats 4000000 in
theorem touched_miss (ua : Option Addr) (uc : Nat) (xa : Option Addr) (xc : Nat) (l : List ND) (c : List Int) (task : Int) (h : HD) (bT : Nat) (es : Array MapEntry) (nT : Nat) (w0 : World) (h1 : NSl w0 (.slice ua l.length uc) l) (h2 : SlI w0 (.slice xa c.length xc) c) (hl : l.length ≤ 1048576) (hc : c.length ≤ 1048576) (hTb : Tbl w0 bT es nT) (hft : Instr.findNow (.int .i64) (.int .i64 h.at_) es.toList 0 = some none) :
    Calls Try.prog 33 #[.map (some bT), .agg #[.slice ua l.length uc, .slice xa c.length xc], .int .i64 task, h.val] w0 (Says3 noR w0) := by
  unfold HD.val
  have hM := Mem.start w0
  go_enter Try.func33, Try.ntmps33
  refine wp_seq_k fun Kn1 cn1 => ?_
  refine wl_region ?_
  refine wl_box (by kernel_rfl) hM 30 _ rfl [.slice ua l.length uc, .slice xa c.length xc] rfl ?_
  clear hM; intro g1 W1 hM
  go_frame
  refine wl_box (by kernel_rfl) hM 40 _ rfl (HD.cells h) rfl ?_
  clear hM; intro g2 W2 hM
  go_frame
  refine wl_alloc (by kernel_rfl) hM 30 rfl [.slice none 0 0, .slice none 0 0] Z_impl_Shared ?_
  clear hM; intro g3 W3 hM
  go_frame
  refine wl_alloc (by kernel_rfl) hM 40 rfl (HD.cells HD.zero) Z_impl_Hand ?_
  clear hM; intro g4 W4 hM
  go_frame
  refine wl_pure (by kernel_rfl) (.bool false) (by kernel_rfl) ?_
  go_frame
  refine wl_nil ?_
  refine cn1 _ _ ?_
  clear cn1
  refine wp_seq_k fun Kn2 cn2 => ?_
  refine wl_region ?_
  refine wl_pure (by kernel_rfl) (.map (some bT)) (by kernel_rfl) ?_
  go_frame
  refine wl_pure (by kernel_rfl) (.pointer (some ⟨g2, 0, none⟩)) (by kernel_rfl) ?_
  go_frame
  refine wl_loadc (by kernel_rfl) hM 2 rfl 2 _ rfl 0 rfl Try.underlying2 rfl rfl ?_
  go_frame
  refine wl_miss (by kernel_rfl) (hTb.below hM.below hTb.lt) 64 2 86 _ _ rfl Try.underlying64 Try.underlying2 rfl h.at_ rfl .nilFunc (fun w => by kernel_rfl) hft ?_
  go_frame
  refine wl_pure (by kernel_rfl) (.tuple #[.nilFunc, .bool false]) (by kernel_rfl) ?_
  go_frame
  refine wl_pure (by kernel_rfl) (.nilFunc) (by kernel_rfl) ?_
  go_frame
  refine wl_pure (by kernel_rfl) (.bool false) (by kernel_rfl) ?_
  go_frame
  refine wl_pure (by kernel_rfl) (.nilFunc) (by kernel_rfl) ?_
  go_frame
  refine wl_pure (by kernel_rfl) (.bool false) (by kernel_rfl) ?_
  go_frame
  refine wl_nil ?_
  refine cn2 _ _ ?_
  clear cn2
  refine wp_seq_k fun Kn3 cn3 => ?_
  refine wp_seq_k fun Kn4 cn4 => ?_
  refine wl_region ?_
  refine wl_pure (by kernel_rfl) (.bool false) (by kernel_rfl) ?_
  go_frame
  refine wl_pure (by kernel_rfl) (.bool true) (by kernel_rfl) ?_
  go_frame
  refine wl_pure (by kernel_rfl) (.bool true) (by kernel_rfl) ?_
  go_frame
  refine wl_skip (by kernel_rfl) ?_
  go_frame
  refine wl_skip (by kernel_rfl) ?_
  go_frame
  refine wl_skip (by kernel_rfl) ?_
  go_frame
  refine wl_skip (by kernel_rfl) ?_
  go_frame
  refine wl_skip (by kernel_rfl) ?_
  go_frame
  refine wl_pure (by kernel_rfl) (.bool true) (by kernel_rfl) ?_
  go_frame
  refine wl_nil ?_
  refine cn4 _ _ ?_
  clear cn4
  refine wp_cond_true rfl ?_
  refine wp_seq_k fun Kn5 cn5 => ?_
  refine wl_region ?_
  refine wl_pure (by kernel_rfl) (.agg #[.slice none 0 0, .slice none 0 0]) (by kernel_rfl) ?_
  go_frame
  refine wl_pure (by kernel_rfl) (.agg (HD.cells HD.zero).toArray) (by kernel_rfl) ?_
  go_frame
  refine wl_store (by kernel_rfl) hM 1 rfl 30 _ _ rfl rfl rfl [.slice none 0 0, .slice none 0 0] rfl I_impl_Shared rfl rfl ?_
  clear hM; intro W5 hM
  refine wl_store (by kernel_rfl) hM 0 rfl 40 _ _ rfl rfl rfl (HD.cells HD.zero) rfl I_impl_Hand rfl (hd_one' _) ?_
  clear hM; intro W6 hM
  refine wl_pure (by kernel_rfl) (.bool false) (by kernel_rfl) ?_
  go_frame
  refine wl_nil ?_
  refine cn5 _ _ ?_
  clear cn5
  refine wp_ret ?_
  simp only [Exit.then, Exit.inBlock]
  have hR : noR = ([], [], HD.zero, false) := by simp [noR, doneR]
  rw [hR]
  exact bodyPost_ret (ret_three (p := 8) (q := 9) (u := 10) (v := .bool false) rfl hM 1 0 rfl rfl rfl rfl rfl Try.underlying30 Try.underlying40 I_impl_Shared I_impl_Hand) rfl ⟨_, _, rfl, OwnR.nil _ _ _ _ _ _ _ (by simp [maxLen]), OwnR.nil _ _ _ _ _ _ _ (by simp [maxLen]), hM.below⟩

set_option maxRecDepth 100000 in
set_option maxHeartbeats 4000000 in
theorem touched_at (ua : Option Addr) (uc : Nat) (xa : Option Addr) (xc : Nat) (l : List ND) (c : List Int) (task : Int) (h : HD) (bT : Nat) (es : Array MapEntry) (nT : Nat) (w0 : World) (h1 : NSl w0 (.slice ua l.length uc) l) (h2 : SlI w0 (.slice xa c.length xc) c) (hl : l.length ≤ 1048576) (hc : c.length ≤ 1048576) (hTb : Tbl w0 bT es nT) (jt : Nat) (ft : FuncId) (hft : Instr.findNow (.int .i64) (.int .i64 h.at_) es.toList 0 = some (some (jt, .func (.func ft) #[] #[]))) (hE : ∀ (vs : Array Value) (w : World), (callFunc ft vs).run Try.prog w = .ok (.enter ft vs) w) (R : List Int × HD) (hRl : R.1.length = c.length) (hTF : canB l c task h = true → TouchF ft l c task h R) :
    Calls Try.prog 33 #[.map (some bT), .agg #[.slice ua l.length uc, .slice xa c.length xc], .int .i64 task, h.val] w0 (Says3 (if canB l c task h then doneR l R.1 R.2 else noR) w0) := by
  unfold TouchF at hTF
  unfold HD.val at *
  have hM := Mem.start w0
  rcases Bool.eq_false_or_eq_true (canB l c task h) with hok | hok
  · replace hTF := hTF hok
    obtain ⟨hl0, hc0, hl1, hc1, -⟩ := ok_facts (can_ok hok)
    go_enter Try.func33, Try.ntmps33
    refine wp_seq_k fun Kn1 cn1 => ?_
    refine wl_region ?_
    refine wl_box (by kernel_rfl) hM 30 _ rfl [.slice ua l.length uc, .slice xa c.length xc] rfl ?_
    clear hM; intro g1 W1 hM
    go_frame
    refine wl_box (by kernel_rfl) hM 40 _ rfl (HD.cells h) rfl ?_
    clear hM; intro g2 W2 hM
    go_frame
    refine wl_alloc (by kernel_rfl) hM 30 rfl [.slice none 0 0, .slice none 0 0] Z_impl_Shared ?_
    clear hM; intro g3 W3 hM
    go_frame
    refine wl_alloc (by kernel_rfl) hM 40 rfl (HD.cells HD.zero) Z_impl_Hand ?_
    clear hM; intro g4 W4 hM
    go_frame
    refine wl_pure (by kernel_rfl) (.bool false) (by kernel_rfl) ?_
    go_frame
    refine wl_nil ?_
    refine cn1 _ _ ?_
    clear cn1
    refine wp_seq_k fun Kn2 cn2 => ?_
    refine wl_region ?_
    refine wl_pure (by kernel_rfl) (.map (some bT)) (by kernel_rfl) ?_
    go_frame
    refine wl_pure (by kernel_rfl) (.pointer (some ⟨g2, 0, none⟩)) (by kernel_rfl) ?_
    go_frame
    refine wl_loadc (by kernel_rfl) hM 2 rfl 2 _ rfl 0 rfl Try.underlying2 rfl rfl ?_
    go_frame
    refine wl_look (by kernel_rfl) (hTb.below hM.below hTb.lt) 64 2 86 _ _ rfl Try.underlying64 Try.underlying2 rfl h.at_ rfl jt (.func (.func ft) #[] #[]) hft ?_
    go_frame
    refine wl_pure (by kernel_rfl) (.tuple #[.func (.func ft) #[] #[], .bool true]) (by kernel_rfl) ?_
    go_frame
    refine wl_pure (by kernel_rfl) (.func (.func ft) #[] #[]) (by kernel_rfl) ?_
    go_frame
    refine wl_pure (by kernel_rfl) (.bool true) (by kernel_rfl) ?_
    go_frame
    refine wl_pure (by kernel_rfl) (.func (.func ft) #[] #[]) (by kernel_rfl) ?_
    go_frame
    refine wl_pure (by kernel_rfl) (.bool true) (by kernel_rfl) ?_
    go_frame
    refine wl_nil ?_
    refine cn2 _ _ ?_
    clear cn2
    refine wp_seq_k fun Kn3 cn3 => ?_
    refine wp_seq_k fun Kn4 cn4 => ?_
    refine wl_region ?_
    refine wl_pure (by kernel_rfl) (.bool true) (by kernel_rfl) ?_
    go_frame
    refine wl_pure (by kernel_rfl) (.bool false) (by kernel_rfl) ?_
    go_frame
    refine wl_pure (by kernel_rfl) (.bool false) (by kernel_rfl) ?_
    go_frame
    refine wl_load (by kernel_rfl) hM 3 rfl 30 _ rfl rfl Try.underlying30 I_impl_Shared ?_
    go_frame
    refine wl_pure (by kernel_rfl) (.int .i64 task) (by kernel_rfl) ?_
    go_frame
    refine wl_load (by kernel_rfl) hM 2 rfl 40 _ rfl rfl Try.underlying40 I_impl_Hand ?_
    go_frame
    refine wl_call (by kernel_rfl) 57 #[.agg #[.slice ua l.length uc, .slice xa c.length xc], .int .i64 task, .agg (HD.cells h).toArray] (by kernel_rfl) (impl_canTouch ua uc xa xc l c task h _ (h1.below hM.below) (h2.below hM.below) hl hc) ?_
    rintro e W5 ⟨rfl, hb⟩
    refine ⟨.bool true, congrArg (fun b => Ending.returned (.bool b)) hok, ?_⟩
    replace hM := hM.call hb
    go_frame
    refine wl_pure (by kernel_rfl) (.bool false) (by kernel_rfl) ?_
    go_frame
    refine wl_pure (by kernel_rfl) (.bool false) (by kernel_rfl) ?_
    go_frame
    refine wl_nil ?_
    refine cn4 _ _ ?_
    clear cn4
    refine wp_cond_false rfl ?_
    refine wp_skip ?_
    refine cn3 _ _ ?_
    clear cn3
    refine wp_seq_k fun Kn5 cn5 => ?_
    -- region 4, drawn: one after the other
    refine wa_join (fun act W => ∃ (g6 g5 m1 m2 : Nat) (k1 : Nat) (k2 : Nat) (p1 : List Value) (p2 : List Value), act = ⟨#[.map (some bT), .agg #[.slice ua l.length uc, .slice xa c.length xc], .int .i64 task, .agg (HD.cells h).toArray, undef, .pointer (some ⟨g1, 0, none⟩), undef, .pointer (some ⟨g2, 0, none⟩), .pointer (some ⟨g3, 0, none⟩), .pointer (some ⟨g4, 0, none⟩), .bool false, .func (.func ft) #[] #[], .bool true, .pointer (some ⟨g5, 0, none⟩), .pointer (some ⟨g6, 0, none⟩), .tuple #[.func (.func ft) #[] #[], .bool true], .map (some bT), .pointer (some ⟨g2, 0, none⟩), .int .i64 h.at_, .tuple #[.func (.func ft) #[] #[], .bool true], .func (.func ft) #[] #[], .bool true, .bool true, .bool false, .bool false, .agg #[.slice ua l.length uc, .slice xa c.length xc], .int .i64 task, .agg (HD.cells h).toArray, .bool true, .bool false, .bool false, undef, undef, .tuple #[.agg #[.slice (some ⟨m1, 0, none⟩) l.length k1, .slice (some ⟨m2, 0, none⟩) c.length k2], .agg (HD.cells R.2).toArray], .func (.func ft) #[] #[], .agg #[.slice ua l.length uc, .slice xa c.length xc], .agg #[.slice (some ⟨m1, 0, none⟩) l.length k1, .slice (some ⟨m2, 0, none⟩) c.length k2], .int .i64 task, .agg (HD.cells h).toArray, .tuple #[.agg #[.slice (some ⟨m1, 0, none⟩) l.length k1, .slice (some ⟨m2, 0, none⟩) c.length k2], .agg (HD.cells R.2).toArray], .agg #[.slice (some ⟨m1, 0, none⟩) l.length k1, .slice (some ⟨m2, 0, none⟩) c.length k2], .agg (HD.cells R.2).toArray, undef, undef, undef, undef, undef, undef, undef, undef, undef, undef, undef, undef], []⟩ ∧ Mem w0 W [(g6, 40, (HD.cells R.2)), (g5, 30, [.slice (some ⟨m1, 0, none⟩) l.length k1, .slice (some ⟨m2, 0, none⟩) c.length k2]), (m1, 60, (cellsOf l ++ p1)), (m2, 2, (cellsI R.1 ++ p2)), (g4, 40, (HD.cells HD.zero)), (g3, 30, [.slice none 0 0, .slice none 0 0]), (g2, 40, (HD.cells h)), (g1, 30, [.slice ua l.length uc, .slice xa c.length xc])] ∧ (l.length ≤ k1 ∧ k1 ≤ maxLen ∧ c.length ≤ k2 ∧ k2 ≤ maxLen)) ?_ ?_
    clear hM
    rintro act W12 ⟨g6, g5, m1, m2, k1, k2, p1, p2, rfl, hM, ⟨q1, q2, q3, q4⟩⟩
    refine cn5 _ _ ?_
    clear cn5
    refine wp_seq_k fun Kn6 cn6 => ?_
    refine wp_seq_k fun Kn7 cn7 => ?_
    refine wl_region ?_
    refine wl_load (by kernel_rfl) hM 1 rfl 30 _ rfl rfl Try.underlying30 I_impl_Shared ?_
    go_frame
    refine wl_call (by kernel_rfl) 8 #[.agg #[.slice (some ⟨m1, 0, none⟩) l.length k1, .slice (some ⟨m2, 0, none⟩) c.length k2]] (by kernel_rfl) (impl_SharedOk (.slice (some ⟨m1, 0, none⟩) l.length k1) (.slice (some ⟨m2, 0, none⟩) c.length k2) l R.1 _ (nsl_blk (hM.blk 2 rfl) q1 q2) (sli_len (hM.blk 3 rfl) hRl q3 q4) hl (by omega)) ?_
    rintro e W13 ⟨rfl, hb⟩
    refine ⟨_, rfl, ?_⟩
    replace hM := hM.call hb
    go_frame
    rcases Bool.eq_false_or_eq_true ((sharedB l R.1)) with hx23 | hx23
    rw [hx23]
    refine wl_pure (by kernel_rfl) (.bool false) (by kernel_rfl) ?_
    go_frame
    refine wl_pure (by kernel_rfl) (.bool false) (by kernel_rfl) ?_
    go_frame
    refine wl_load (by kernel_rfl) hM 0 rfl 40 _ rfl rfl Try.underlying40 I_impl_Hand ?_
    go_frame
    refine wl_call (by kernel_rfl) 59 #[.agg (HD.cells R.2).toArray] (by kernel_rfl) (impl_HandOk R.2 _) ?_
    rintro e W14 ⟨rfl, hb⟩
    refine ⟨_, rfl, ?_⟩
    replace hM := hM.call hb
    go_frame
    rcases Bool.eq_false_or_eq_true ((handB R.2)) with hx24 | hx24
    rw [hx24]
    refine wl_pure (by kernel_rfl) (.bool false) (by kernel_rfl) ?_
    go_frame
    refine wl_pure (by kernel_rfl) (.bool false) (by kernel_rfl) ?_
    go_frame
    refine wl_nil ?_
    refine cn7 _ _ ?_
    clear cn7
    refine wp_cond_false rfl ?_
    refine wp_skip ?_
    refine cn6 _ _ ?_
    clear cn6
    refine wp_seq_k fun Kn8 cn8 => ?_
    -- region 7, drawn: one after the other
    refine wa_start (fun w => Below w0.heap.size w0 w ∧ Blk w g5 30 [.slice (some ⟨m1, 0, none⟩) l.length k1, .slice (some ⟨m2, 0, none⟩) c.length k2] ∧ Blk w g6 40 (HD.cells R.2)) 5 rfl (by kernel_rfl) ?_
    replace hM := hM.drew
    refine wa_take 0 (some 52) (.agg #[.slice (some ⟨m1, 0, none⟩) l.length k1, .slice (some ⟨m2, 0, none⟩) c.length k2]) rfl rfl (by kernel_rfl) (by kernel_rfl) (by kernel_rfl) (fun _ _ _ h => h) (by kernel_rfl) (fun w hS => r_load hS.2.1 30 _ rfl rfl Try.underlying30 I_impl_Shared) ⟨hM.below, hM.blk 1 rfl, hM.blk 0 rfl⟩ ?_
    go_frame
    refine wa_take 1 (some 53) (.agg (HD.cells R.2).toArray) rfl rfl (by kernel_rfl) (by kernel_rfl) (by kernel_rfl) (fun _ _ _ h => h) (by kernel_rfl) (fun w hS => r_load hS.2.2 40 _ rfl rfl Try.underlying40 I_impl_Hand) ⟨hM.below, hM.blk 1 rfl, hM.blk 0 rfl⟩ ?_
    go_frame
    refine wa_one 2 (by kernel_rfl) ?_
    refine wo_store rfl (by kernel_rfl) hM 5 rfl 30 _ _ rfl rfl (by kernel_rfl) [.slice (some ⟨m1, 0, none⟩) l.length k1, .slice (some ⟨m2, 0, none⟩) c.length k2] (by kernel_rfl) I_impl_Shared rfl rfl ?_
    clear hM; intro W15 hM
    refine ⟨⟨hM.below, hM.blk 1 rfl, hM.blk 0 rfl⟩, ?_⟩
    refine wa_one 3 (by kernel_rfl) ?_
    refine wo_store rfl (by kernel_rfl) hM 4 rfl 40 _ _ rfl rfl (by kernel_rfl) (HD.cells R.2) (by kernel_rfl) I_impl_Hand rfl (hd_one' _) ?_
    clear hM; intro W16 hM
    refine ⟨⟨hM.below, hM.blk 1 rfl, hM.blk 0 rfl⟩, ?_⟩
    refine wa_take 4 (some 10) (.bool true) rfl rfl (by kernel_rfl) (by kernel_rfl) (by kernel_rfl) (fun _ _ _ h => h) (by kernel_rfl) (fun w hS => by kernel_rfl) ⟨hM.below, hM.blk 1 rfl, hM.blk 0 rfl⟩ ?_
    go_frame
    refine wa_done (by kernel_rfl) ?_
    refine cn8 _ _ ?_
    clear cn8
    refine wp_ret ?_
    have hR : (if canB l c task h then doneR l R.1 R.2 else noR) = (l, R.1, R.2, true) := by simp [noR, doneR, hok, hx23, hx24]
    rw [hR]
    exact bodyPost_ret (ret_three (p := 8) (q := 9) (u := 10) (v := .bool true) rfl hM 5 4 rfl rfl rfl rfl rfl Try.underlying30 Try.underlying40 I_impl_Shared I_impl_Hand) rfl ⟨_, _, rfl, own_nblk (hM.blk 2 rfl) q1 q2 (hM.base 2 rfl) hl1, own_ilen (hM.blk 3 rfl) hRl q3 q4 (hM.base 3 rfl) hc1, hM.below⟩
    rw [hx24]
    refine wl_pure (by kernel_rfl) (.bool true) (by kernel_rfl) ?_
    go_frame
    refine wl_pure (by kernel_rfl) (.bool true) (by kernel_rfl) ?_
    go_frame
    refine wl_nil ?_
    refine cn7 _ _ ?_
    clear cn7
    refine wp_cond_true rfl ?_
    refine wp_seq_k fun Kn8 cn8 => ?_
    refine wl_region ?_
    refine wl_pure (by kernel_rfl) (.agg #[.slice none 0 0, .slice none 0 0]) (by kernel_rfl) ?_
    go_frame
    refine wl_pure (by kernel_rfl) (.agg (HD.cells HD.zero).toArray) (by kernel_rfl) ?_
    go_frame
    refine wl_store (by kernel_rfl) hM 5 rfl 30 _ _ rfl rfl rfl [.slice none 0 0, .slice none 0 0] rfl I_impl_Shared rfl rfl ?_
    clear hM; intro W15 hM
    refine wl_store (by kernel_rfl) hM 4 rfl 40 _ _ rfl rfl rfl (HD.cells HD.zero) rfl I_impl_Hand rfl (hd_one' _) ?_
    clear hM; intro W16 hM
    refine wl_pure (by kernel_rfl) (.bool false) (by kernel_rfl) ?_
    go_frame
    refine wl_nil ?_
    refine cn8 _ _ ?_
    clear cn8
    refine wp_ret ?_
    simp only [Exit.then, Exit.inBlock]
    have hR : (if canB l c task h then doneR l R.1 R.2 else noR) = ([], [], HD.zero, false) := by simp [noR, doneR, hok, hx23, hx24]
    rw [hR]
    exact bodyPost_ret (ret_three (p := 8) (q := 9) (u := 10) (v := .bool false) rfl hM 5 4 rfl rfl rfl rfl rfl Try.underlying30 Try.underlying40 I_impl_Shared I_impl_Hand) rfl ⟨_, _, rfl, OwnR.nil _ _ _ _ _ _ _ (by simp [maxLen]), OwnR.nil _ _ _ _ _ _ _ (by simp [maxLen]), hM.below⟩
    rw [hx23]
    refine wl_pure (by kernel_rfl) (.bool true) (by kernel_rfl) ?_
    go_frame
    refine wl_pure (by kernel_rfl) (.bool true) (by kernel_rfl) ?_
    go_frame
    refine wl_skip (by kernel_rfl) ?_
    go_frame
    refine wl_skip (by kernel_rfl) ?_
    go_frame
    refine wl_skip (by kernel_rfl) ?_
    go_frame
    refine wl_pure (by kernel_rfl) (.bool true) (by kernel_rfl) ?_
    go_frame
    refine wl_nil ?_
    refine cn7 _ _ ?_
    clear cn7
    refine wp_cond_true rfl ?_
    refine wp_seq_k fun Kn8 cn8 => ?_
    refine wl_region ?_
    refine wl_pure (by kernel_rfl) (.agg #[.slice none 0 0, .slice none 0 0]) (by kernel_rfl) ?_
    go_frame
    refine wl_pure (by kernel_rfl) (.agg (HD.cells HD.zero).toArray) (by kernel_rfl) ?_
    go_frame
    refine wl_store (by kernel_rfl) hM 5 rfl 30 _ _ rfl rfl rfl [.slice none 0 0, .slice none 0 0] rfl I_impl_Shared rfl rfl ?_
    clear hM; intro W14 hM
    refine wl_store (by kernel_rfl) hM 4 rfl 40 _ _ rfl rfl rfl (HD.cells HD.zero) rfl I_impl_Hand rfl (hd_one' _) ?_
    clear hM; intro W15 hM
    refine wl_pure (by kernel_rfl) (.bool false) (by kernel_rfl) ?_
    go_frame
    refine wl_nil ?_
    refine cn8 _ _ ?_
    clear cn8
    refine wp_ret ?_
    simp only [Exit.then, Exit.inBlock]
    have hR : (if canB l c task h then doneR l R.1 R.2 else noR) = ([], [], HD.zero, false) := by simp [noR, doneR, hok, hx23]
    rw [hR]
    exact bodyPost_ret (ret_three (p := 8) (q := 9) (u := 10) (v := .bool false) rfl hM 5 4 rfl rfl rfl rfl rfl Try.underlying30 Try.underlying40 I_impl_Shared I_impl_Hand) rfl ⟨_, _, rfl, OwnR.nil _ _ _ _ _ _ _ (by simp [maxLen]), OwnR.nil _ _ _ _ _ _ _ (by simp [maxLen]), hM.below⟩
    refine wa_start (fun w => Below w0.heap.size w0 w ∧ Blk w g1 30 [.slice ua l.length uc, .slice xa c.length xc] ∧ Blk w g2 40 (HD.cells h)) 13 rfl (by kernel_rfl) ?_
    replace hM := hM.drew
    refine wa_take 0 (some 34) (.func (.func ft) #[] #[]) rfl rfl (by kernel_rfl) (by kernel_rfl) (by kernel_rfl) (fun _ _ _ h => h) (by kernel_rfl) (fun w hS => by kernel_rfl) ⟨hM.below, hM.blk 3 rfl, hM.blk 2 rfl⟩ ?_
    go_frame
    refine wa_take 1 (some 35) (.agg #[.slice ua l.length uc, .slice xa c.length xc]) rfl rfl (by kernel_rfl) (by kernel_rfl) (by kernel_rfl) (fun _ _ _ h => h) (by kernel_rfl) (fun w hS => r_load hS.2.1 30 _ rfl rfl Try.underlying30 I_impl_Shared) ⟨hM.below, hM.blk 3 rfl, hM.blk 2 rfl⟩ ?_
    go_frame
    refine wa_take 3 (some 37) (.int .i64 task) rfl rfl (by kernel_rfl) (by kernel_rfl) (by kernel_rfl) (fun _ _ _ h => h) (by kernel_rfl) (fun w hS => by kernel_rfl) ⟨hM.below, hM.blk 3 rfl, hM.blk 2 rfl⟩ ?_
    go_frame
    refine wa_take 4 (some 38) (.agg (HD.cells h).toArray) rfl rfl (by kernel_rfl) (by kernel_rfl) (by kernel_rfl) (fun _ _ _ h => h) (by kernel_rfl) (fun w hS => r_load hS.2.2 40 _ rfl rfl Try.underlying40 I_impl_Hand) ⟨hM.below, hM.blk 3 rfl, hM.blk 2 rfl⟩ ?_
    go_frame
    refine wa_three 2 9 10 (by kernel_rfl) ?_ ?_ ?_
    refine wo_call (some 36) rfl rfl (by kernel_rfl) 58 #[.agg #[.slice ua l.length uc, .slice xa c.length xc]] (by kernel_rfl) (impl_copyOf (.slice ua l.length uc) (.slice xa c.length xc) l c _ (h1.below hM.below) (h2.below hM.below) hl0 hc0 hl hc) ?_
    rintro e W6 ⟨m1, m2, k1, k2, p1, p2, rfl, ⟨q1, q2, q3, q4⟩, hMc⟩
    replace hM := hM.join hMc
    refine ⟨_, rfl, ⟨hM.below, hM.blk 5 rfl, hM.blk 4 rfl⟩, ?_⟩
    go_frame
    refine wa_three 5 9 10 (by kernel_rfl) ?_ ?_ ?_
    replace hM := hM.pull 1 rfl
    replace hM := hM.pull 1 rfl
    replace hM : Mem w0 W6 [(m1, 60, (cellsOf l ++ p1)), (m2, 2, (cellsI c ++ p2)), (g4, 40, (HD.cells HD.zero)), (g3, 30, [.slice none 0 0, .slice none 0 0]), (g2, 40, (HD.cells h)), (g1, 30, [.slice ua l.length uc, .slice xa c.length xc])] := hM
    refine wo_call (some 39) rfl rfl (by kernel_rfl) ft #[.agg #[.slice (some ⟨m1, 0, none⟩) l.length k1, .slice (some ⟨m2, 0, none⟩) c.length k2], .int .i64 task, .agg (HD.cells h).toArray] (r_callfn rfl _ rfl (by kernel_rfl) _ (by kernel_rfl) hE) (hTF _ _ _ _ _ _ _ _ _ hM q1 q2 q3 q4) ?_
    rintro e W7 ⟨rfl, hM2⟩
    clear hM; have hM := hM2; clear hM2
    refine ⟨_, rfl, ⟨hM.below, hM.blk 5 rfl, hM.blk 4 rfl⟩, ?_⟩
    go_frame
    refine wa_take 6 (some 33) (.tuple #[.agg #[.slice (some ⟨m1, 0, none⟩) l.length k1, .slice (some ⟨m2, 0, none⟩) c.length k2], .agg (HD.cells R.2).toArray]) rfl rfl (by kernel_rfl) (by kernel_rfl) (by kernel_rfl) (fun _ _ _ h => h) (by kernel_rfl) (fun w hS => by kernel_rfl) ⟨hM.below, hM.blk 5 rfl, hM.blk 4 rfl⟩ ?_
    go_frame
    refine wa_take 7 (some 40) (.agg #[.slice (some ⟨m1, 0, none⟩) l.length k1, .slice (some ⟨m2, 0, none⟩) c.length k2]) rfl rfl (by kernel_rfl) (by kernel_rfl) (by kernel_rfl) (fun _ _ _ h => h) (by kernel_rfl) (fun w hS => by kernel_rfl) ⟨hM.below, hM.blk 5 rfl, hM.blk 4 rfl⟩ ?_
    go_frame
    refine wa_take 8 (some 41) (.agg (HD.cells R.2).toArray) rfl rfl (by kernel_rfl) (by kernel_rfl) (by kernel_rfl) (fun _ _ _ h => h) (by kernel_rfl) (fun w hS => by kernel_rfl) ⟨hM.below, hM.blk 5 rfl, hM.blk 4 rfl⟩ ?_
    go_frame
    refine wa_two 9 10 (by kernel_rfl) ?_ ?_
    refine wo_alloc (some 13) rfl rfl (by kernel_rfl) hM 30 rfl [.slice none 0 0, .slice none 0 0] Z_impl_Shared ?_
    clear hM; intro g5 W8 hM
    refine ⟨⟨hM.below, hM.blk 6 rfl, hM.blk 5 rfl⟩, ?_⟩
    go_frame
    refine wa_one 10 (by kernel_rfl) ?_
    refine wo_alloc (some 14) rfl rfl (by kernel_rfl) hM 40 rfl (HD.cells HD.zero) Z_impl_Hand ?_
    clear hM; intro g6 W9 hM
    refine ⟨⟨hM.below, hM.blk 7 rfl, hM.blk 6 rfl⟩, ?_⟩
    go_frame
    refine wa_one 11 (by kernel_rfl) ?_
    refine wo_store rfl (by kernel_rfl) hM 1 rfl 30 _ _ rfl rfl (by kernel_rfl) [.slice (some ⟨m1, 0, none⟩) l.length k1, .slice (some ⟨m2, 0, none⟩) c.length k2] (by kernel_rfl) I_impl_Shared rfl rfl ?_
    clear hM; intro W10 hM
    refine ⟨⟨hM.below, hM.blk 7 rfl, hM.blk 6 rfl⟩, ?_⟩
    refine wa_one 12 (by kernel_rfl) ?_
    refine wo_store rfl (by kernel_rfl) hM 0 rfl 40 _ _ rfl rfl (by kernel_rfl) (HD.cells R.2) (by kernel_rfl) I_impl_Hand rfl (hd_one' _) ?_
    clear hM; intro W11 hM
    refine ⟨⟨hM.below, hM.blk 7 rfl, hM.blk 6 rfl⟩, ?_⟩
    refine wa_doneJ (by kernel_rfl) ?_
    exact ⟨g6, g5, m1, m2, k1, k2, p1, p2, rfl, hM, ⟨q1, q2, q3, q4⟩⟩
    refine wo_alloc (some 14) rfl rfl (by kernel_rfl) hM 40 rfl (HD.cells HD.zero) Z_impl_Hand ?_
    clear hM; intro g5 W8 hM
    refine ⟨⟨hM.below, hM.blk 6 rfl, hM.blk 5 rfl⟩, ?_⟩
    go_frame
    refine wa_one 9 (by kernel_rfl) ?_
    refine wo_alloc (some 13) rfl rfl (by kernel_rfl) hM 30 rfl [.slice none 0 0, .slice none 0 0] Z_impl_Shared ?_
    clear hM; intro g6 W9 hM
    refine ⟨⟨hM.below, hM.blk 7 rfl, hM.blk 6 rfl⟩, ?_⟩
    go_frame
    refine wa_one 11 (by kernel_rfl) ?_
    refine wo_store rfl (by kernel_rfl) hM 0 rfl 30 _ _ rfl rfl (by kernel_rfl) [.slice (some ⟨m1, 0, none⟩) l.length k1, .slice (some ⟨m2, 0, none⟩) c.length k2] (by kernel_rfl) I_impl_Shared rfl rfl ?_
    clear hM; intro W10 hM
    refine ⟨⟨hM.below, hM.blk 7 rfl, hM.blk 6 rfl⟩, ?_⟩
    refine wa_one 12 (by kernel_rfl) ?_
    refine wo_store rfl (by kernel_rfl) hM 1 rfl 40 _ _ rfl rfl (by kernel_rfl) (HD.cells R.2) (by kernel_rfl) I_impl_Hand rfl (hd_one' _) ?_
    clear hM; intro W11 hM
    refine ⟨⟨hM.below, hM.blk 7 rfl, hM.blk 6 rfl⟩, ?_⟩
    refine wa_doneJ (by kernel_rfl) ?_
    replace hM := hM.pull 7 rfl
    replace hM := hM.pull 7 rfl
    replace hM := hM.pull 7 rfl
    replace hM := hM.pull 7 rfl
    replace hM := hM.pull 7 rfl
    replace hM := hM.pull 7 rfl
    replace hM := hM.pull 6 rfl
    replace hM := hM.pull 7 rfl
    exact ⟨g5, g6, m1, m2, k1, k2, p1, p2, rfl, hM, ⟨q1, q2, q3, q4⟩⟩
    refine wo_alloc (some 13) rfl rfl (by kernel_rfl) hM 30 rfl [.slice none 0 0, .slice none 0 0] Z_impl_Shared ?_
    clear hM; intro g5 W7 hM
    refine ⟨⟨hM.below, hM.blk 6 rfl, hM.blk 5 rfl⟩, ?_⟩
    go_frame
    refine wa_two 5 10 (by kernel_rfl) ?_ ?_
    replace hM := hM.pull 2 rfl
    replace hM := hM.pull 2 rfl
    replace hM : Mem w0 W7 [(m1, 60, (cellsOf l ++ p1)), (m2, 2, (cellsI c ++ p2)), (g5, 30, [.slice none 0 0, .slice none 0 0]), (g4, 40, (HD.cells HD.zero)), (g3, 30, [.slice none 0 0, .slice none 0 0]), (g2, 40, (HD.cells h)), (g1, 30, [.slice ua l.length uc, .slice xa c.length xc])] := hM
    refine wo_call (some 39) rfl rfl (by kernel_rfl) ft #[.agg #[.slice (some ⟨m1, 0, none⟩) l.length k1, .slice (some ⟨m2, 0, none⟩) c.length k2], .int .i64 task, .agg (HD.cells h).toArray] (r_callfn rfl _ rfl (by kernel_rfl) _ (by kernel_rfl) hE) (hTF _ _ _ _ _ _ _ _ _ hM q1 q2 q3 q4) ?_
    rintro e W8 ⟨rfl, hM2⟩
    clear hM; have hM := hM2; clear hM2
    refine ⟨_, rfl, ⟨hM.below, hM.blk 6 rfl, hM.blk 5 rfl⟩, ?_⟩
    go_frame
    refine wa_take 6 (some 33) (.tuple #[.agg #[.slice (some ⟨m1, 0, none⟩) l.length k1, .slice (some ⟨m2, 0, none⟩) c.length k2], .agg (HD.cells R.2).toArray]) rfl rfl (by kernel_rfl) (by kernel_rfl) (by kernel_rfl) (fun _ _ _ h => h) (by kernel_rfl) (fun w hS => by kernel_rfl) ⟨hM.below, hM.blk 6 rfl, hM.blk 5 rfl⟩ ?_
    go_frame
    refine wa_take 7 (some 40) (.agg #[.slice (some ⟨m1, 0, none⟩) l.length k1, .slice (some ⟨m2, 0, none⟩) c.length k2]) rfl rfl (by kernel_rfl) (by kernel_rfl) (by kernel_rfl) (fun _ _ _ h => h) (by kernel_rfl) (fun w hS => by kernel_rfl) ⟨hM.below, hM.blk 6 rfl, hM.blk 5 rfl⟩ ?_
    go_frame
    refine wa_take 8 (some 41) (.agg (HD.cells R.2).toArray) rfl rfl (by kernel_rfl) (by kernel_rfl) (by kernel_rfl) (fun _ _ _ h => h) (by kernel_rfl) (fun w hS => by kernel_rfl) ⟨hM.below, hM.blk 6 rfl, hM.blk 5 rfl⟩ ?_
    go_frame
    refine wa_one 10 (by kernel_rfl) ?_
    refine wo_alloc (some 14) rfl rfl (by kernel_rfl) hM 40 rfl (HD.cells HD.zero) Z_impl_Hand ?_
    clear hM; intro g6 W9 hM
    refine ⟨⟨hM.below, hM.blk 7 rfl, hM.blk 6 rfl⟩, ?_⟩
    go_frame
    refine wa_one 11 (by kernel_rfl) ?_
    refine wo_store rfl (by kernel_rfl) hM 3 rfl 30 _ _ rfl rfl (by kernel_rfl) [.slice (some ⟨m1, 0, none⟩) l.length k1, .slice (some ⟨m2, 0, none⟩) c.length k2] (by kernel_rfl) I_impl_Shared rfl rfl ?_
    clear hM; intro W10 hM
    refine ⟨⟨hM.below, hM.blk 7 rfl, hM.blk 6 rfl⟩, ?_⟩
    refine wa_one 12 (by kernel_rfl) ?_
    refine wo_store rfl (by kernel_rfl) hM 0 rfl 40 _ _ rfl rfl (by kernel_rfl) (HD.cells R.2) (by kernel_rfl) I_impl_Hand rfl (hd_one' _) ?_
    clear hM; intro W11 hM
    refine ⟨⟨hM.below, hM.blk 7 rfl, hM.blk 6 rfl⟩, ?_⟩
    refine wa_doneJ (by kernel_rfl) ?_
    replace hM := hM.pull 7 rfl
    replace hM := hM.pull 7 rfl
    replace hM := hM.pull 7 rfl
    replace hM := hM.pull 7 rfl
    replace hM := hM.pull 6 rfl
    replace hM := hM.pull 6 rfl
    replace hM := hM.pull 7 rfl
    replace hM := hM.pull 7 rfl
    exact ⟨g6, g5, m1, m2, k1, k2, p1, p2, rfl, hM, ⟨q1, q2, q3, q4⟩⟩
    refine wo_alloc (some 14) rfl rfl (by kernel_rfl) hM 40 rfl (HD.cells HD.zero) Z_impl_Hand ?_
    clear hM; intro g6 W8 hM
    refine ⟨⟨hM.below, hM.blk 7 rfl, hM.blk 6 rfl⟩, ?_⟩
    go_frame
    refine wa_one 5 (by kernel_rfl) ?_
    replace hM := hM.pull 3 rfl
    replace hM := hM.pull 3 rfl
    replace hM : Mem w0 W8 [(m1, 60, (cellsOf l ++ p1)), (m2, 2, (cellsI c ++ p2)), (g6, 40, (HD.cells HD.zero)), (g5, 30, [.slice none 0 0, .slice none 0 0]), (g4, 40, (HD.cells HD.zero)), (g3, 30, [.slice none 0 0, .slice none 0 0]), (g2, 40, (HD.cells h)), (g1, 30, [.slice ua l.length uc, .slice xa c.length xc])] := hM
    refine wo_call (some 39) rfl rfl (by kernel_rfl) ft #[.agg #[.slice (some ⟨m1, 0, none⟩) l.length k1, .slice (some ⟨m2, 0, none⟩) c.length k2], .int .i64 task, .agg (HD.cells h).toArray] (r_callfn rfl _ rfl (by kernel_rfl) _ (by kernel_rfl) hE) (hTF _ _ _ _ _ _ _ _ _ hM q1 q2 q3 q4) ?_
    rintro e W9 ⟨rfl, hM2⟩
    clear hM; have hM := hM2; clear hM2
    refine ⟨_, rfl, ⟨hM.below, hM.blk 7 rfl, hM.blk 6 rfl⟩, ?_⟩
    go_frame
    refine wa_take 6 (some 33) (.tuple #[.agg #[.slice (some ⟨m1, 0, none⟩) l.length k1, .slice (some ⟨m2, 0, none⟩) c.length k2], .agg (HD.cells R.2).toArray]) rfl rfl (by kernel_rfl) (by kernel_rfl) (by kernel_rfl) (fun _ _ _ h => h) (by kernel_rfl) (fun w hS => by kernel_rfl) ⟨hM.below, hM.blk 7 rfl, hM.blk 6 rfl⟩ ?_
    go_frame
    refine wa_take 7 (some 40) (.agg #[.slice (some ⟨m1, 0, none⟩) l.length k1, .slice (some ⟨m2, 0, none⟩) c.length k2]) rfl rfl (by kernel_rfl) (by kernel_rfl) (by kernel_rfl) (fun _ _ _ h => h) (by kernel_rfl) (fun w hS => by kernel_rfl) ⟨hM.below, hM.blk 7 rfl, hM.blk 6 rfl⟩ ?_
    go_frame
    refine wa_take 8 (some 41) (.agg (HD.cells R.2).toArray) rfl rfl (by kernel_rfl) (by kernel_rfl) (by kernel_rfl) (fun _ _ _ h => h) (by kernel_rfl) (fun w hS => by kernel_rfl) ⟨hM.below, hM.blk 7 rfl, hM.blk 6 rfl⟩ ?_
    go_frame
    refine wa_one 11 (by kernel_rfl) ?_
    refine wo_store rfl (by kernel_rfl) hM 3 rfl 30 _ _ rfl rfl (by kernel_rfl) [.slice (some ⟨m1, 0, none⟩) l.length k1, .slice (some ⟨m2, 0, none⟩) c.length k2] (by kernel_rfl) I_impl_Shared rfl rfl ?_
    clear hM; intro W10 hM
    refine ⟨⟨hM.below, hM.blk 7 rfl, hM.blk 6 rfl⟩, ?_⟩
    refine wa_one 12 (by kernel_rfl) ?_
    refine wo_store rfl (by kernel_rfl) hM 2 rfl 40 _ _ rfl rfl (by kernel_rfl) (HD.cells R.2) (by kernel_rfl) I_impl_Hand rfl (hd_one' _) ?_
    clear hM; intro W11 hM
    refine ⟨⟨hM.below, hM.blk 7 rfl, hM.blk 6 rfl⟩, ?_⟩
    refine wa_doneJ (by kernel_rfl) ?_
    replace hM := hM.pull 7 rfl
    replace hM := hM.pull 7 rfl
    replace hM := hM.pull 7 rfl
    replace hM := hM.pull 7 rfl
    replace hM := hM.pull 5 rfl
    replace hM := hM.pull 5 rfl
    replace hM := hM.pull 7 rfl
    replace hM := hM.pull 7 rfl
    exact ⟨g6, g5, m1, m2, k1, k2, p1, p2, rfl, hM, ⟨q1, q2, q3, q4⟩⟩
    refine wo_alloc (some 14) rfl rfl (by kernel_rfl) hM 40 rfl (HD.cells HD.zero) Z_impl_Hand ?_
    clear hM; intro g5 W7 hM
    refine ⟨⟨hM.below, hM.blk 6 rfl, hM.blk 5 rfl⟩, ?_⟩
    go_frame
    refine wa_two 5 9 (by kernel_rfl) ?_ ?_
    replace hM := hM.pull 2 rfl
    replace hM := hM.pull 2 rfl
    replace hM : Mem w0 W7 [(m1, 60, (cellsOf l ++ p1)), (m2, 2, (cellsI c ++ p2)), (g5, 40, (HD.cells HD.zero)), (g4, 40, (HD.cells HD.zero)), (g3, 30, [.slice none 0 0, .slice none 0 0]), (g2, 40, (HD.cells h)), (g1, 30, [.slice ua l.length uc, .slice xa c.length xc])] := hM
    refine wo_call (some 39) rfl rfl (by kernel_rfl) ft #[.agg #[.slice (some ⟨m1, 0, none⟩) l.length k1, .slice (some ⟨m2, 0, none⟩) c.length k2], .int .i64 task, .agg (HD.cells h).toArray] (r_callfn rfl _ rfl (by kernel_rfl) _ (by kernel_rfl) hE) (hTF _ _ _ _ _ _ _ _ _ hM q1 q2 q3 q4) ?_
    rintro e W8 ⟨rfl, hM2⟩
    clear hM; have hM := hM2; clear hM2
    refine ⟨_, rfl, ⟨hM.below, hM.blk 6 rfl, hM.blk 5 rfl⟩, ?_⟩
    go_frame
    refine wa_take 6 (some 33) (.tuple #[.agg #[.slice (some ⟨m1, 0, none⟩) l.length k1, .slice (some ⟨m2, 0, none⟩) c.length k2], .agg (HD.cells R.2).toArray]) rfl rfl (by kernel_rfl) (by kernel_rfl) (by kernel_rfl) (fun _ _ _ h => h) (by kernel_rfl) (fun w hS => by kernel_rfl) ⟨hM.below, hM.blk 6 rfl, hM.blk 5 rfl⟩ ?_
    go_frame
    refine wa_take 7 (some 40) (.agg #[.slice (some ⟨m1, 0, none⟩) l.length k1, .slice (some ⟨m2, 0, none⟩) c.length k2]) rfl rfl (by kernel_rfl) (by kernel_rfl) (by kernel_rfl) (fun _ _ _ h => h) (by kernel_rfl) (fun w hS => by kernel_rfl) ⟨hM.below, hM.blk 6 rfl, hM.blk 5 rfl⟩ ?_
    go_frame
    refine wa_take 8 (some 41) (.agg (HD.cells R.2).toArray) rfl rfl (by kernel_rfl) (by kernel_rfl) (by kernel_rfl) (fun _ _ _ h => h) (by kernel_rfl) (fun w hS => by kernel_rfl) ⟨hM.below, hM.blk 6 rfl, hM.blk 5 rfl⟩ ?_
    go_frame
    refine wa_one 9 (by kernel_rfl) ?_
    refine wo_alloc (some 13) rfl rfl (by kernel_rfl) hM 30 rfl [.slice none 0 0, .slice none 0 0] Z_impl_Shared ?_
    clear hM; intro g6 W9 hM
    refine ⟨⟨hM.below, hM.blk 7 rfl, hM.blk 6 rfl⟩, ?_⟩
    go_frame
    refine wa_one 11 (by kernel_rfl) ?_
    refine wo_store rfl (by kernel_rfl) hM 0 rfl 30 _ _ rfl rfl (by kernel_rfl) [.slice (some ⟨m1, 0, none⟩) l.length k1, .slice (some ⟨m2, 0, none⟩) c.length k2] (by kernel_rfl) I_impl_Shared rfl rfl ?_
    clear hM; intro W10 hM
    refine ⟨⟨hM.below, hM.blk 7 rfl, hM.blk 6 rfl⟩, ?_⟩
    refine wa_one 12 (by kernel_rfl) ?_
    refine wo_store rfl (by kernel_rfl) hM 3 rfl 40 _ _ rfl rfl (by kernel_rfl) (HD.cells R.2) (by kernel_rfl) I_impl_Hand rfl (hd_one' _) ?_
    clear hM; intro W11 hM
    refine ⟨⟨hM.below, hM.blk 7 rfl, hM.blk 6 rfl⟩, ?_⟩
    refine wa_doneJ (by kernel_rfl) ?_
    replace hM := hM.pull 7 rfl
    replace hM := hM.pull 7 rfl
    replace hM := hM.pull 7 rfl
    replace hM := hM.pull 7 rfl
    replace hM := hM.pull 6 rfl
    replace hM := hM.pull 6 rfl
    replace hM := hM.pull 6 rfl
    replace hM := hM.pull 7 rfl
    exact ⟨g5, g6, m1, m2, k1, k2, p1, p2, rfl, hM, ⟨q1, q2, q3, q4⟩⟩
    refine wo_alloc (some 13) rfl rfl (by kernel_rfl) hM 30 rfl [.slice none 0 0, .slice none 0 0] Z_impl_Shared ?_
    clear hM; intro g6 W8 hM
    refine ⟨⟨hM.below, hM.blk 7 rfl, hM.blk 6 rfl⟩, ?_⟩
    go_frame
    refine wa_one 5 (by kernel_rfl) ?_
    replace hM := hM.pull 3 rfl
    replace hM := hM.pull 3 rfl
    replace hM : Mem w0 W8 [(m1, 60, (cellsOf l ++ p1)), (m2, 2, (cellsI c ++ p2)), (g6, 30, [.slice none 0 0, .slice none 0 0]), (g5, 40, (HD.cells HD.zero)), (g4, 40, (HD.cells HD.zero)), (g3, 30, [.slice none 0 0, .slice none 0 0]), (g2, 40, (HD.cells h)), (g1, 30, [.slice ua l.length uc, .slice xa c.length xc])] := hM
    refine wo_call (some 39) rfl rfl (by kernel_rfl) ft #[.agg #[.slice (some ⟨m1, 0, none⟩) l.length k1, .slice (some ⟨m2, 0, none⟩) c.length k2], .int .i64 task, .agg (HD.cells h).toArray] (r_callfn rfl _ rfl (by kernel_rfl) _ (by kernel_rfl) hE) (hTF _ _ _ _ _ _ _ _ _ hM q1 q2 q3 q4) ?_
    rintro e W9 ⟨rfl, hM2⟩
    clear hM; have hM := hM2; clear hM2
    refine ⟨_, rfl, ⟨hM.below, hM.blk 7 rfl, hM.blk 6 rfl⟩, ?_⟩
    go_frame
    refine wa_take 6 (some 33) (.tuple #[.agg #[.slice (some ⟨m1, 0, none⟩) l.length k1, .slice (some ⟨m2, 0, none⟩) c.length k2], .agg (HD.cells R.2).toArray]) rfl rfl (by kernel_rfl) (by kernel_rfl) (by kernel_rfl) (fun _ _ _ h => h) (by kernel_rfl) (fun w hS => by kernel_rfl) ⟨hM.below, hM.blk 7 rfl, hM.blk 6 rfl⟩ ?_
    go_frame
    refine wa_take 7 (some 40) (.agg #[.slice (some ⟨m1, 0, none⟩) l.length k1, .slice (some ⟨m2, 0, none⟩) c.length k2]) rfl rfl (by kernel_rfl) (by kernel_rfl) (by kernel_rfl) (fun _ _ _ h => h) (by kernel_rfl) (fun w hS => by kernel_rfl) ⟨hM.below, hM.blk 7 rfl, hM.blk 6 rfl⟩ ?_
    go_frame
    refine wa_take 8 (some 41) (.agg (HD.cells R.2).toArray) rfl rfl (by kernel_rfl) (by kernel_rfl) (by kernel_rfl) (fun _ _ _ h => h) (by kernel_rfl) (fun w hS => by kernel_rfl) ⟨hM.below, hM.blk 7 rfl, hM.blk 6 rfl⟩ ?_
    go_frame
    refine wa_one 11 (by kernel_rfl) ?_
    refine wo_store rfl (by kernel_rfl) hM 2 rfl 30 _ _ rfl rfl (by kernel_rfl) [.slice (some ⟨m1, 0, none⟩) l.length k1, .slice (some ⟨m2, 0, none⟩) c.length k2] (by kernel_rfl) I_impl_Shared rfl rfl ?_
    clear hM; intro W10 hM
    refine ⟨⟨hM.below, hM.blk 7 rfl, hM.blk 6 rfl⟩, ?_⟩
    refine wa_one 12 (by kernel_rfl) ?_
    refine wo_store rfl (by kernel_rfl) hM 3 rfl 40 _ _ rfl rfl (by kernel_rfl) (HD.cells R.2) (by kernel_rfl) I_impl_Hand rfl (hd_one' _) ?_
    clear hM; intro W11 hM
    refine ⟨⟨hM.below, hM.blk 7 rfl, hM.blk 6 rfl⟩, ?_⟩
    refine wa_doneJ (by kernel_rfl) ?_
    replace hM := hM.pull 7 rfl
    replace hM := hM.pull 7 rfl
    replace hM := hM.pull 7 rfl
    replace hM := hM.pull 7 rfl
    replace hM := hM.pull 5 rfl
    replace hM := hM.pull 5 rfl
    replace hM := hM.pull 6 rfl
    replace hM := hM.pull 7 rfl
    exact ⟨g5, g6, m1, m2, k1, k2, p1, p2, rfl, hM, ⟨q1, q2, q3, q4⟩⟩
    refine wo_alloc (some 13) rfl rfl (by kernel_rfl) hM 30 rfl [.slice none 0 0, .slice none 0 0] Z_impl_Shared ?_
    clear hM; intro g5 W6 hM
    refine ⟨⟨hM.below, hM.blk 4 rfl, hM.blk 3 rfl⟩, ?_⟩
    go_frame
    refine wa_two 2 10 (by kernel_rfl) ?_ ?_
    refine wo_call (some 36) rfl rfl (by kernel_rfl) 58 #[.agg #[.slice ua l.length uc, .slice xa c.length xc]] (by kernel_rfl) (impl_copyOf (.slice ua l.length uc) (.slice xa c.length xc) l c _ (h1.below hM.below) (h2.below hM.below) hl0 hc0 hl hc) ?_
    rintro e W7 ⟨m1, m2, k1, k2, p1, p2, rfl, ⟨q1, q2, q3, q4⟩, hMc⟩
    replace hM := hM.join hMc
    refine ⟨_, rfl, ⟨hM.below, hM.blk 6 rfl, hM.blk 5 rfl⟩, ?_⟩
    go_frame
    refine wa_two 5 10 (by kernel_rfl) ?_ ?_
    replace hM := hM.pull 1 rfl
    replace hM := hM.pull 1 rfl
    replace hM : Mem w0 W7 [(m1, 60, (cellsOf l ++ p1)), (m2, 2, (cellsI c ++ p2)), (g5, 30, [.slice none 0 0, .slice none 0 0]), (g4, 40, (HD.cells HD.zero)), (g3, 30, [.slice none 0 0, .slice none 0 0]), (g2, 40, (HD.cells h)), (g1, 30, [.slice ua l.length uc, .slice xa c.length xc])] := hM
    refine wo_call (some 39) rfl rfl (by kernel_rfl) ft #[.agg #[.slice (some ⟨m1, 0, none⟩) l.length k1, .slice (some ⟨m2, 0, none⟩) c.length k2], .int .i64 task, .agg (HD.cells h).toArray] (r_callfn rfl _ rfl (by kernel_rfl) _ (by kernel_rfl) hE) (hTF _ _ _ _ _ _ _ _ _ hM q1 q2 q3 q4) ?_
    rintro e W8 ⟨rfl, hM2⟩
    clear hM; have hM := hM2; clear hM2
    refine ⟨_, rfl, ⟨hM.below, hM.blk 6 rfl, hM.blk 5 rfl⟩, ?_⟩
    go_frame
    refine wa_take 6 (some 33) (.tuple #[.agg #[.slice (some ⟨m1, 0, none⟩) l.length k1, .slice (some ⟨m2, 0, none⟩) c.length k2], .agg (HD.cells R.2).toArray]) rfl rfl (by kernel_rfl) (by kernel_rfl) (by kernel_rfl) (fun _ _ _ h => h) (by kernel_rfl) (fun w hS => by kernel_rfl) ⟨hM.below, hM.blk 6 rfl, hM.blk 5 rfl⟩ ?_
    go_frame
    refine wa_take 7 (some 40) (.agg #[.slice (some ⟨m1, 0, none⟩) l.length k1, .slice (some ⟨m2, 0, none⟩) c.length k2]) rfl rfl (by kernel_rfl) (by kernel_rfl) (by kernel_rfl) (fun _ _ _ h => h) (by kernel_rfl) (fun w hS => by kernel_rfl) ⟨hM.below, hM.blk 6 rfl, hM.blk 5 rfl⟩ ?_
    go_frame
    refine wa_take 8 (some 41) (.agg (HD.cells R.2).toArray) rfl rfl (by kernel_rfl) (by kernel_rfl) (by kernel_rfl) (fun _ _ _ h => h) (by kernel_rfl) (fun w hS => by kernel_rfl) ⟨hM.below, hM.blk 6 rfl, hM.blk 5 rfl⟩ ?_
    go_frame
    refine wa_one 10 (by kernel_rfl) ?_
    refine wo_alloc (some 14) rfl rfl (by kernel_rfl) hM 40 rfl (HD.cells HD.zero) Z_impl_Hand ?_
    clear hM; intro g6 W9 hM
    refine ⟨⟨hM.below, hM.blk 7 rfl, hM.blk 6 rfl⟩, ?_⟩
    go_frame
    refine wa_one 11 (by kernel_rfl) ?_
    refine wo_store rfl (by kernel_rfl) hM 3 rfl 30 _ _ rfl rfl (by kernel_rfl) [.slice (some ⟨m1, 0, none⟩) l.length k1, .slice (some ⟨m2, 0, none⟩) c.length k2] (by kernel_rfl) I_impl_Shared rfl rfl ?_
    clear hM; intro W10 hM
    refine ⟨⟨hM.below, hM.blk 7 rfl, hM.blk 6 rfl⟩, ?_⟩
    refine wa_one 12 (by kernel_rfl) ?_
    refine wo_store rfl (by kernel_rfl) hM 0 rfl 40 _ _ rfl rfl (by kernel_rfl) (HD.cells R.2) (by kernel_rfl) I_impl_Hand rfl (hd_one' _) ?_
    clear hM; intro W11 hM
    refine ⟨⟨hM.below, hM.blk 7 rfl, hM.blk 6 rfl⟩, ?_⟩
    refine wa_doneJ (by kernel_rfl) ?_
    replace hM := hM.pull 7 rfl
    replace hM := hM.pull 7 rfl
    replace hM := hM.pull 7 rfl
    replace hM := hM.pull 7 rfl
    replace hM := hM.pull 6 rfl
    replace hM := hM.pull 6 rfl
    replace hM := hM.pull 7 rfl
    replace hM := hM.pull 7 rfl
    exact ⟨g6, g5, m1, m2, k1, k2, p1, p2, rfl, hM, ⟨q1, q2, q3, q4⟩⟩
    refine wo_alloc (some 14) rfl rfl (by kernel_rfl) hM 40 rfl (HD.cells HD.zero) Z_impl_Hand ?_
    clear hM; intro g6 W8 hM
    refine ⟨⟨hM.below, hM.blk 7 rfl, hM.blk 6 rfl⟩, ?_⟩
    go_frame
    refine wa_one 5 (by kernel_rfl) ?_
    replace hM := hM.pull 2 rfl
    replace hM := hM.pull 2 rfl
    replace hM : Mem w0 W8 [(m1, 60, (cellsOf l ++ p1)), (m2, 2, (cellsI c ++ p2)), (g6, 40, (HD.cells HD.zero)), (g5, 30, [.slice none 0 0, .slice none 0 0]), (g4, 40, (HD.cells HD.zero)), (g3, 30, [.slice none 0 0, .slice none 0 0]), (g2, 40, (HD.cells h)), (g1, 30, [.slice ua l.length uc, .slice xa c.length xc])] := hM
    refine wo_call (some 39) rfl rfl (by kernel_rfl) ft #[.agg #[.slice (some ⟨m1, 0, none⟩) l.length k1, .slice (some ⟨m2, 0, none⟩) c.length k2], .int .i64 task, .agg (HD.cells h).toArray] (r_callfn rfl _ rfl (by kernel_rfl) _ (by kernel_rfl) hE) (hTF _ _ _ _ _ _ _ _ _ hM q1 q2 q3 q4) ?_
    rintro e W9 ⟨rfl, hM2⟩
    clear hM; have hM := hM2; clear hM2
    refine ⟨_, rfl, ⟨hM.below, hM.blk 7 rfl, hM.blk 6 rfl⟩, ?_⟩
    go_frame
    refine wa_take 6 (some 33) (.tuple #[.agg #[.slice (some ⟨m1, 0, none⟩) l.length k1, .slice (some ⟨m2, 0, none⟩) c.length k2], .agg (HD.cells R.2).toArray]) rfl rfl (by kernel_rfl) (by kernel_rfl) (by kernel_rfl) (fun _ _ _ h => h) (by kernel_rfl) (fun w hS => by kernel_rfl) ⟨hM.below, hM.blk 7 rfl, hM.blk 6 rfl⟩ ?_
    go_frame
    refine wa_take 7 (some 40) (.agg #[.slice (some ⟨m1, 0, none⟩) l.length k1, .slice (some ⟨m2, 0, none⟩) c.length k2]) rfl rfl (by kernel_rfl) (by kernel_rfl) (by kernel_rfl) (fun _ _ _ h => h) (by kernel_rfl) (fun w hS => by kernel_rfl) ⟨hM.below, hM.blk 7 rfl, hM.blk 6 rfl⟩ ?_
    go_frame
    refine wa_take 8 (some 41) (.agg (HD.cells R.2).toArray) rfl rfl (by kernel_rfl) (by kernel_rfl) (by kernel_rfl) (fun _ _ _ h => h) (by kernel_rfl) (fun w hS => by kernel_rfl) ⟨hM.below, hM.blk 7 rfl, hM.blk 6 rfl⟩ ?_
    go_frame
    refine wa_one 11 (by kernel_rfl) ?_
    refine wo_store rfl (by kernel_rfl) hM 3 rfl 30 _ _ rfl rfl (by kernel_rfl) [.slice (some ⟨m1, 0, none⟩) l.length k1, .slice (some ⟨m2, 0, none⟩) c.length k2] (by kernel_rfl) I_impl_Shared rfl rfl ?_
    clear hM; intro W10 hM
    refine ⟨⟨hM.below, hM.blk 7 rfl, hM.blk 6 rfl⟩, ?_⟩
    refine wa_one 12 (by kernel_rfl) ?_
    refine wo_store rfl (by kernel_rfl) hM 2 rfl 40 _ _ rfl rfl (by kernel_rfl) (HD.cells R.2) (by kernel_rfl) I_impl_Hand rfl (hd_one' _) ?_
    clear hM; intro W11 hM
    refine ⟨⟨hM.below, hM.blk 7 rfl, hM.blk 6 rfl⟩, ?_⟩
    refine wa_doneJ (by kernel_rfl) ?_
    replace hM := hM.pull 7 rfl
    replace hM := hM.pull 7 rfl
    replace hM := hM.pull 7 rfl
    replace hM := hM.pull 7 rfl
    replace hM := hM.pull 5 rfl
    replace hM := hM.pull 5 rfl
    replace hM := hM.pull 7 rfl
    replace hM := hM.pull 7 rfl
    exact ⟨g6, g5, m1, m2, k1, k2, p1, p2, rfl, hM, ⟨q1, q2, q3, q4⟩⟩
    refine wo_alloc (some 14) rfl rfl (by kernel_rfl) hM 40 rfl (HD.cells HD.zero) Z_impl_Hand ?_
    clear hM; intro g6 W7 hM
    refine ⟨⟨hM.below, hM.blk 5 rfl, hM.blk 4 rfl⟩, ?_⟩
    go_frame
    refine wa_one 2 (by kernel_rfl) ?_
    refine wo_call (some 36) rfl rfl (by kernel_rfl) 58 #[.agg #[.slice ua l.length uc, .slice xa c.length xc]] (by kernel_rfl) (impl_copyOf (.slice ua l.length uc) (.slice xa c.length xc) l c _ (h1.below hM.below) (h2.below hM.below) hl0 hc0 hl hc) ?_
    rintro e W8 ⟨m1, m2, k1, k2, p1, p2, rfl, ⟨q1, q2, q3, q4⟩, hMc⟩
    replace hM := hM.join hMc
    refine ⟨_, rfl, ⟨hM.below, hM.blk 7 rfl, hM.blk 6 rfl⟩, ?_⟩
    go_frame
    refine wa_one 5 (by kernel_rfl) ?_
    replace hM := hM.pull 1 rfl
    replace hM := hM.pull 1 rfl
    replace hM : Mem w0 W8 [(m1, 60, (cellsOf l ++ p1)), (m2, 2, (cellsI c ++ p2)), (g6, 40, (HD.cells HD.zero)), (g5, 30, [.slice none 0 0, .slice none 0 0]), (g4, 40, (HD.cells HD.zero)), (g3, 30, [.slice none 0 0, .slice none 0 0]), (g2, 40, (HD.cells h)), (g1, 30, [.slice ua l.length uc, .slice xa c.length xc])] := hM
    refine wo_call (some 39) rfl rfl (by kernel_rfl) ft #[.agg #[.slice (some ⟨m1, 0, none⟩) l.length k1, .slice (some ⟨m2, 0, none⟩) c.length k2], .int .i64 task, .agg (HD.cells h).toArray] (r_callfn rfl _ rfl (by kernel_rfl) _ (by kernel_rfl) hE) (hTF _ _ _ _ _ _ _ _ _ hM q1 q2 q3 q4) ?_
    rintro e W9 ⟨rfl, hM2⟩
    clear hM; have hM := hM2; clear hM2
    refine ⟨_, rfl, ⟨hM.below, hM.blk 7 rfl, hM.blk 6 rfl⟩, ?_⟩
    go_frame
    refine wa_take 6 (some 33) (.tuple #[.agg #[.slice (some ⟨m1, 0, none⟩) l.length k1, .slice (some ⟨m2, 0, none⟩) c.length k2], .agg (HD.cells R.2).toArray]) rfl rfl (by kernel_rfl) (by kernel_rfl) (by kernel_rfl) (fun _ _ _ h => h) (by kernel_rfl) (fun w hS => by kernel_rfl) ⟨hM.below, hM.blk 7 rfl, hM.blk 6 rfl⟩ ?_
    go_frame
    refine wa_take 7 (some 40) (.agg #[.slice (some ⟨m1, 0, none⟩) l.length k1, .slice (some ⟨m2, 0, none⟩) c.length k2]) rfl rfl (by kernel_rfl) (by kernel_rfl) (by kernel_rfl) (fun _ _ _ h => h) (by kernel_rfl) (fun w hS => by kernel_rfl) ⟨hM.below, hM.blk 7 rfl, hM.blk 6 rfl⟩ ?_
    go_frame
    refine wa_take 8 (some 41) (.agg (HD.cells R.2).toArray) rfl rfl (by kernel_rfl) (by kernel_rfl) (by kernel_rfl) (fun _ _ _ h => h) (by kernel_rfl) (fun w hS => by kernel_rfl) ⟨hM.below, hM.blk 7 rfl, hM.blk 6 rfl⟩ ?_
    go_frame
    refine wa_one 11 (by kernel_rfl) ?_
    refine wo_store rfl (by kernel_rfl) hM 3 rfl 30 _ _ rfl rfl (by kernel_rfl) [.slice (some ⟨m1, 0, none⟩) l.length k1, .slice (some ⟨m2, 0, none⟩) c.length k2] (by kernel_rfl) I_impl_Shared rfl rfl ?_
    clear hM; intro W10 hM
    refine ⟨⟨hM.below, hM.blk 7 rfl, hM.blk 6 rfl⟩, ?_⟩
    refine wa_one 12 (by kernel_rfl) ?_
    refine wo_store rfl (by kernel_rfl) hM 2 rfl 40 _ _ rfl rfl (by kernel_rfl) (HD.cells R.2) (by kernel_rfl) I_impl_Hand rfl (hd_one' _) ?_
    clear hM; intro W11 hM
    refine ⟨⟨hM.below, hM.blk 7 rfl, hM.blk 6 rfl⟩, ?_⟩
    refine wa_doneJ (by kernel_rfl) ?_
    replace hM := hM.pull 7 rfl
    replace hM := hM.pull 7 rfl
    replace hM := hM.pull 7 rfl
    replace hM := hM.pull 7 rfl
    replace hM := hM.pull 5 rfl
    replace hM := hM.pull 5 rfl
    replace hM := hM.pull 7 rfl
    replace hM := hM.pull 7 rfl
    exact ⟨g6, g5, m1, m2, k1, k2, p1, p2, rfl, hM, ⟨q1, q2, q3, q4⟩⟩
    refine wo_alloc (some 14) rfl rfl (by kernel_rfl) hM 40 rfl (HD.cells HD.zero) Z_impl_Hand ?_
    clear hM; intro g5 W6 hM
    refine ⟨⟨hM.below, hM.blk 4 rfl, hM.blk 3 rfl⟩, ?_⟩
    go_frame
    refine wa_two 2 9 (by kernel_rfl) ?_ ?_
    refine wo_call (some 36) rfl rfl (by kernel_rfl) 58 #[.agg #[.slice ua l.length uc, .slice xa c.length xc]] (by kernel_rfl) (impl_copyOf (.slice ua l.length uc) (.slice xa c.length xc) l c _ (h1.below hM.below) (h2.below hM.below) hl0 hc0 hl hc) ?_
    rintro e W7 ⟨m1, m2, k1, k2, p1, p2, rfl, ⟨q1, q2, q3, q4⟩, hMc⟩
    replace hM := hM.join hMc
    refine ⟨_, rfl, ⟨hM.below, hM.blk 6 rfl, hM.blk 5 rfl⟩, ?_⟩
    go_frame
    refine wa_two 5 9 (by kernel_rfl) ?_ ?_
    replace hM := hM.pull 1 rfl
    replace hM := hM.pull 1 rfl
    replace hM : Mem w0 W7 [(m1, 60, (cellsOf l ++ p1)), (m2, 2, (cellsI c ++ p2)), (g5, 40, (HD.cells HD.zero)), (g4, 40, (HD.cells HD.zero)), (g3, 30, [.slice none 0 0, .slice none 0 0]), (g2, 40, (HD.cells h)), (g1, 30, [.slice ua l.length uc, .slice xa c.length xc])] := hM
    refine wo_call (some 39) rfl rfl (by kernel_rfl) ft #[.agg #[.slice (some ⟨m1, 0, none⟩) l.length k1, .slice (some ⟨m2, 0, none⟩) c.length k2], .int .i64 task, .agg (HD.cells h).toArray] (r_callfn rfl _ rfl (by kernel_rfl) _ (by kernel_rfl) hE) (hTF _ _ _ _ _ _ _ _ _ hM q1 q2 q3 q4) ?_
    rintro e W8 ⟨rfl, hM2⟩
    clear hM; have hM := hM2; clear hM2
    refine ⟨_, rfl, ⟨hM.below, hM.blk 6 rfl, hM.blk 5 rfl⟩, ?_⟩
    go_frame
    refine wa_take 6 (some 33) (.tuple #[.agg #[.slice (some ⟨m1, 0, none⟩) l.length k1, .slice (some ⟨m2, 0, none⟩) c.length k2], .agg (HD.cells R.2).toArray]) rfl rfl (by kernel_rfl) (by kernel_rfl) (by kernel_rfl) (fun _ _ _ h => h) (by kernel_rfl) (fun w hS => by kernel_rfl) ⟨hM.below, hM.blk 6 rfl, hM.blk 5 rfl⟩ ?_
    go_frame
    refine wa_take 7 (some 40) (.agg #[.slice (some ⟨m1, 0, none⟩) l.length k1, .slice (some ⟨m2, 0, none⟩) c.length k2]) rfl rfl (by kernel_rfl) (by kernel_rfl) (by kernel_rfl) (fun _ _ _ h => h) (by kernel_rfl) (fun w hS => by kernel_rfl) ⟨hM.below, hM.blk 6 rfl, hM.blk 5 rfl⟩ ?_
    go_frame
    refine wa_take 8 (some 41) (.agg (HD.cells R.2).toArray) rfl rfl (by kernel_rfl) (by kernel_rfl) (by kernel_rfl) (fun _ _ _ h => h) (by kernel_rfl) (fun w hS => by kernel_rfl) ⟨hM.below, hM.blk 6 rfl, hM.blk 5 rfl⟩ ?_
    go_frame
    refine wa_one 9 (by kernel_rfl) ?_
    refine wo_alloc (some 13) rfl rfl (by kernel_rfl) hM 30 rfl [.slice none 0 0, .slice none 0 0] Z_impl_Shared ?_
    clear hM; intro g6 W9 hM
    refine ⟨⟨hM.below, hM.blk 7 rfl, hM.blk 6 rfl⟩, ?_⟩
    go_frame
    refine wa_one 11 (by kernel_rfl) ?_
    refine wo_store rfl (by kernel_rfl) hM 0 rfl 30 _ _ rfl rfl (by kernel_rfl) [.slice (some ⟨m1, 0, none⟩) l.length k1, .slice (some ⟨m2, 0, none⟩) c.length k2] (by kernel_rfl) I_impl_Shared rfl rfl ?_
    clear hM; intro W10 hM
    refine ⟨⟨hM.below, hM.blk 7 rfl, hM.blk 6 rfl⟩, ?_⟩
    refine wa_one 12 (by kernel_rfl) ?_
    refine wo_store rfl (by kernel_rfl) hM 3 rfl 40 _ _ rfl rfl (by kernel_rfl) (HD.cells R.2) (by kernel_rfl) I_impl_Hand rfl (hd_one' _) ?_
    clear hM; intro W11 hM
    refine ⟨⟨hM.below, hM.blk 7 rfl, hM.blk 6 rfl⟩, ?_⟩
    refine wa_doneJ (by kernel_rfl) ?_
    replace hM := hM.pull 7 rfl
    replace hM := hM.pull 7 rfl
    replace hM := hM.pull 7 rfl
    replace hM := hM.pull 7 rfl
    replace hM := hM.pull 6 rfl
    replace hM := hM.pull 6 rfl
    replace hM := hM.pull 6 rfl
    replace hM := hM.pull 7 rfl
    exact ⟨g5, g6, m1, m2, k1, k2, p1, p2, rfl, hM, ⟨q1, q2, q3, q4⟩⟩
    refine wo_alloc (some 13) rfl rfl (by kernel_rfl) hM 30 rfl [.slice none 0 0, .slice none 0 0] Z_impl_Shared ?_
    clear hM; intro g6 W8 hM
    refine ⟨⟨hM.below, hM.blk 7 rfl, hM.blk 6 rfl⟩, ?_⟩
    go_frame
    refine wa_one 5 (by kernel_rfl) ?_
    replace hM := hM.pull 2 rfl
    replace hM := hM.pull 2 rfl
    replace hM : Mem w0 W8 [(m1, 60, (cellsOf l ++ p1)), (m2, 2, (cellsI c ++ p2)), (g6, 30, [.slice none 0 0, .slice none 0 0]), (g5, 40, (HD.cells HD.zero)), (g4, 40, (HD.cells HD.zero)), (g3, 30, [.slice none 0 0, .slice none 0 0]), (g2, 40, (HD.cells h)), (g1, 30, [.slice ua l.length uc, .slice xa c.length xc])] := hM
    refine wo_call (some 39) rfl rfl (by kernel_rfl) ft #[.agg #[.slice (some ⟨m1, 0, none⟩) l.length k1, .slice (some ⟨m2, 0, none⟩) c.length k2], .int .i64 task, .agg (HD.cells h).toArray] (r_callfn rfl _ rfl (by kernel_rfl) _ (by kernel_rfl) hE) (hTF _ _ _ _ _ _ _ _ _ hM q1 q2 q3 q4) ?_
    rintro e W9 ⟨rfl, hM2⟩
    clear hM; have hM := hM2; clear hM2
    refine ⟨_, rfl, ⟨hM.below, hM.blk 7 rfl, hM.blk 6 rfl⟩, ?_⟩
    go_frame
    refine wa_take 6 (some 33) (.tuple #[.agg #[.slice (some ⟨m1, 0, none⟩) l.length k1, .slice (some ⟨m2, 0, none⟩) c.length k2], .agg (HD.cells R.2).toArray]) rfl rfl (by kernel_rfl) (by kernel_rfl) (by kernel_rfl) (fun _ _ _ h => h) (by kernel_rfl) (fun w hS => by kernel_rfl) ⟨hM.below, hM.blk 7 rfl, hM.blk 6 rfl⟩ ?_
    go_frame
    refine wa_take 7 (some 40) (.agg #[.slice (some ⟨m1, 0, none⟩) l.length k1, .slice (some ⟨m2, 0, none⟩) c.length k2]) rfl rfl (by kernel_rfl) (by kernel_rfl) (by kernel_rfl) (fun _ _ _ h => h) (by kernel_rfl) (fun w hS => by kernel_rfl) ⟨hM.below, hM.blk 7 rfl, hM.blk 6 rfl⟩ ?_
    go_frame
    refine wa_take 8 (some 41) (.agg (HD.cells R.2).toArray) rfl rfl (by kernel_rfl) (by kernel_rfl) (by kernel_rfl) (fun _ _ _ h => h) (by kernel_rfl) (fun w hS => by kernel_rfl) ⟨hM.below, hM.blk 7 rfl, hM.blk 6 rfl⟩ ?_
    go_frame
    refine wa_one 11 (by kernel_rfl) ?_
    refine wo_store rfl (by kernel_rfl) hM 2 rfl 30 _ _ rfl rfl (by kernel_rfl) [.slice (some ⟨m1, 0, none⟩) l.length k1, .slice (some ⟨m2, 0, none⟩) c.length k2] (by kernel_rfl) I_impl_Shared rfl rfl ?_
    clear hM; intro W10 hM
    refine ⟨⟨hM.below, hM.blk 7 rfl, hM.blk 6 rfl⟩, ?_⟩
    refine wa_one 12 (by kernel_rfl) ?_
    refine wo_store rfl (by kernel_rfl) hM 3 rfl 40 _ _ rfl rfl (by kernel_rfl) (HD.cells R.2) (by kernel_rfl) I_impl_Hand rfl (hd_one' _) ?_
    clear hM; intro W11 hM
    refine ⟨⟨hM.below, hM.blk 7 rfl, hM.blk 6 rfl⟩, ?_⟩
    refine wa_doneJ (by kernel_rfl) ?_
    replace hM := hM.pull 7 rfl
    replace hM := hM.pull 7 rfl
    replace hM := hM.pull 7 rfl
    replace hM := hM.pull 7 rfl
    replace hM := hM.pull 5 rfl
    replace hM := hM.pull 5 rfl
    replace hM := hM.pull 6 rfl
    replace hM := hM.pull 7 rfl
    exact ⟨g5, g6, m1, m2, k1, k2, p1, p2, rfl, hM, ⟨q1, q2, q3, q4⟩⟩
    refine wo_alloc (some 13) rfl rfl (by kernel_rfl) hM 30 rfl [.slice none 0 0, .slice none 0 0] Z_impl_Shared ?_
    clear hM; intro g6 W7 hM
    refine ⟨⟨hM.below, hM.blk 5 rfl, hM.blk 4 rfl⟩, ?_⟩
    go_frame
    refine wa_one 2 (by kernel_rfl) ?_
    refine wo_call (some 36) rfl rfl (by kernel_rfl) 58 #[.agg #[.slice ua l.length uc, .slice xa c.length xc]] (by kernel_rfl) (impl_copyOf (.slice ua l.length uc) (.slice xa c.length xc) l c _ (h1.below hM.below) (h2.below hM.below) hl0 hc0 hl hc) ?_
    rintro e W8 ⟨m1, m2, k1, k2, p1, p2, rfl, ⟨q1, q2, q3, q4⟩, hMc⟩
    replace hM := hM.join hMc
    refine ⟨_, rfl, ⟨hM.below, hM.blk 7 rfl, hM.blk 6 rfl⟩, ?_⟩
    go_frame
    refine wa_one 5 (by kernel_rfl) ?_
    replace hM := hM.pull 1 rfl
    replace hM := hM.pull 1 rfl
    replace hM : Mem w0 W8 [(m1, 60, (cellsOf l ++ p1)), (m2, 2, (cellsI c ++ p2)), (g6, 30, [.slice none 0 0, .slice none 0 0]), (g5, 40, (HD.cells HD.zero)), (g4, 40, (HD.cells HD.zero)), (g3, 30, [.slice none 0 0, .slice none 0 0]), (g2, 40, (HD.cells h)), (g1, 30, [.slice ua l.length uc, .slice xa c.length xc])] := hM
    refine wo_call (some 39) rfl rfl (by kernel_rfl) ft #[.agg #[.slice (some ⟨m1, 0, none⟩) l.length k1, .slice (some ⟨m2, 0, none⟩) c.length k2], .int .i64 task, .agg (HD.cells h).toArray] (r_callfn rfl _ rfl (by kernel_rfl) _ (by kernel_rfl) hE) (hTF _ _ _ _ _ _ _ _ _ hM q1 q2 q3 q4) ?_
    rintro e W9 ⟨rfl, hM2⟩
    clear hM; have hM := hM2; clear hM2
    refine ⟨_, rfl, ⟨hM.below, hM.blk 7 rfl, hM.blk 6 rfl⟩, ?_⟩
    go_frame
    refine wa_take 6 (some 33) (.tuple #[.agg #[.slice (some ⟨m1, 0, none⟩) l.length k1, .slice (some ⟨m2, 0, none⟩) c.length k2], .agg (HD.cells R.2).toArray]) rfl rfl (by kernel_rfl) (by kernel_rfl) (by kernel_rfl) (fun _ _ _ h => h) (by kernel_rfl) (fun w hS => by kernel_rfl) ⟨hM.below, hM.blk 7 rfl, hM.blk 6 rfl⟩ ?_
    go_frame
    refine wa_take 7 (some 40) (.agg #[.slice (some ⟨m1, 0, none⟩) l.length k1, .slice (some ⟨m2, 0, none⟩) c.length k2]) rfl rfl (by kernel_rfl) (by kernel_rfl) (by kernel_rfl) (fun _ _ _ h => h) (by kernel_rfl) (fun w hS => by kernel_rfl) ⟨hM.below, hM.blk 7 rfl, hM.blk 6 rfl⟩ ?_
    go_frame
    refine wa_take 8 (some 41) (.agg (HD.cells R.2).toArray) rfl rfl (by kernel_rfl) (by kernel_rfl) (by kernel_rfl) (fun _ _ _ h => h) (by kernel_rfl) (fun w hS => by kernel_rfl) ⟨hM.below, hM.blk 7 rfl, hM.blk 6 rfl⟩ ?_
    go_frame
    refine wa_one 11 (by kernel_rfl) ?_
    refine wo_store rfl (by kernel_rfl) hM 2 rfl 30 _ _ rfl rfl (by kernel_rfl) [.slice (some ⟨m1, 0, none⟩) l.length k1, .slice (some ⟨m2, 0, none⟩) c.length k2] (by kernel_rfl) I_impl_Shared rfl rfl ?_
    clear hM; intro W10 hM
    refine ⟨⟨hM.below, hM.blk 7 rfl, hM.blk 6 rfl⟩, ?_⟩
    refine wa_one 12 (by kernel_rfl) ?_
    refine wo_store rfl (by kernel_rfl) hM 3 rfl 40 _ _ rfl rfl (by kernel_rfl) (HD.cells R.2) (by kernel_rfl) I_impl_Hand rfl (hd_one' _) ?_
    clear hM; intro W11 hM
    refine ⟨⟨hM.below, hM.blk 7 rfl, hM.blk 6 rfl⟩, ?_⟩
    refine wa_doneJ (by kernel_rfl) ?_
    replace hM := hM.pull 7 rfl
    replace hM := hM.pull 7 rfl
    replace hM := hM.pull 7 rfl
    replace hM := hM.pull 7 rfl
    replace hM := hM.pull 5 rfl
    replace hM := hM.pull 5 rfl
    replace hM := hM.pull 6 rfl
    replace hM := hM.pull 7 rfl
    exact ⟨g5, g6, m1, m2, k1, k2, p1, p2, rfl, hM, ⟨q1, q2, q3, q4⟩⟩
  · go_enter Try.func33, Try.ntmps33
    refine wp_seq_k fun Kn1 cn1 => ?_
    refine wl_region ?_
    refine wl_box (by kernel_rfl) hM 30 _ rfl [.slice ua l.length uc, .slice xa c.length xc] rfl ?_
    clear hM; intro g1 W1 hM
    go_frame
    refine wl_box (by kernel_rfl) hM 40 _ rfl (HD.cells h) rfl ?_
    clear hM; intro g2 W2 hM
    go_frame
    refine wl_alloc (by kernel_rfl) hM 30 rfl [.slice none 0 0, .slice none 0 0] Z_impl_Shared ?_
    clear hM; intro g3 W3 hM
    go_frame
    refine wl_alloc (by kernel_rfl) hM 40 rfl (HD.cells HD.zero) Z_impl_Hand ?_
    clear hM; intro g4 W4 hM
    go_frame
    refine wl_pure (by kernel_rfl) (.bool false) (by kernel_rfl) ?_
    go_frame
    refine wl_nil ?_
    refine cn1 _ _ ?_
    clear cn1
    refine wp_seq_k fun Kn2 cn2 => ?_
    refine wl_region ?_
    refine wl_pure (by kernel_rfl) (.map (some bT)) (by kernel_rfl) ?_
    go_frame
    refine wl_pure (by kernel_rfl) (.pointer (some ⟨g2, 0, none⟩)) (by kernel_rfl) ?_
    go_frame
    refine wl_loadc (by kernel_rfl) hM 2 rfl 2 _ rfl 0 rfl Try.underlying2 rfl rfl ?_
    go_frame
    refine wl_look (by kernel_rfl) (hTb.below hM.below hTb.lt) 64 2 86 _ _ rfl Try.underlying64 Try.underlying2 rfl h.at_ rfl jt (.func (.func ft) #[] #[]) hft ?_
    go_frame
    refine wl_pure (by kernel_rfl) (.tuple #[.func (.func ft) #[] #[], .bool true]) (by kernel_rfl) ?_
    go_frame
    refine wl_pure (by kernel_rfl) (.func (.func ft) #[] #[]) (by kernel_rfl) ?_
    go_frame
    refine wl_pure (by kernel_rfl) (.bool true) (by kernel_rfl) ?_
    go_frame
    refine wl_pure (by kernel_rfl) (.func (.func ft) #[] #[]) (by kernel_rfl) ?_
    go_frame
    refine wl_pure (by kernel_rfl) (.bool true) (by kernel_rfl) ?_
    go_frame
    refine wl_nil ?_
    refine cn2 _ _ ?_
    clear cn2
    refine wp_seq_k fun Kn3 cn3 => ?_
    refine wp_seq_k fun Kn4 cn4 => ?_
    refine wl_region ?_
    refine wl_pure (by kernel_rfl) (.bool true) (by kernel_rfl) ?_
    go_frame
    refine wl_pure (by kernel_rfl) (.bool false) (by kernel_rfl) ?_
    go_frame
    refine wl_pure (by kernel_rfl) (.bool false) (by kernel_rfl) ?_
    go_frame
    refine wl_load (by kernel_rfl) hM 3 rfl 30 _ rfl rfl Try.underlying30 I_impl_Shared ?_
    go_frame
    refine wl_pure (by kernel_rfl) (.int .i64 task) (by kernel_rfl) ?_
    go_frame
    refine wl_load (by kernel_rfl) hM 2 rfl 40 _ rfl rfl Try.underlying40 I_impl_Hand ?_
    go_frame
    refine wl_call (by kernel_rfl) 57 #[.agg #[.slice ua l.length uc, .slice xa c.length xc], .int .i64 task, .agg (HD.cells h).toArray] (by kernel_rfl) (impl_canTouch ua uc xa xc l c task h _ (h1.below hM.below) (h2.below hM.below) hl hc) ?_
    rintro e W5 ⟨rfl, hb⟩
    refine ⟨.bool false, congrArg (fun b => Ending.returned (.bool b)) hok, ?_⟩
    replace hM := hM.call hb
    go_frame
    refine wl_pure (by kernel_rfl) (.bool true) (by kernel_rfl) ?_
    go_frame
    refine wl_pure (by kernel_rfl) (.bool true) (by kernel_rfl) ?_
    go_frame
    refine wl_nil ?_
    refine cn4 _ _ ?_
    clear cn4
    refine wp_cond_true rfl ?_
    refine wp_seq_k fun Kn5 cn5 => ?_
    refine wl_region ?_
    refine wl_pure (by kernel_rfl) (.agg #[.slice none 0 0, .slice none 0 0]) (by kernel_rfl) ?_
    go_frame
    refine wl_pure (by kernel_rfl) (.agg (HD.cells HD.zero).toArray) (by kernel_rfl) ?_
    go_frame
    refine wl_store (by kernel_rfl) hM 1 rfl 30 _ _ rfl rfl rfl [.slice none 0 0, .slice none 0 0] rfl I_impl_Shared rfl rfl ?_
    clear hM; intro W6 hM
    refine wl_store (by kernel_rfl) hM 0 rfl 40 _ _ rfl rfl rfl (HD.cells HD.zero) rfl I_impl_Hand rfl (hd_one' _) ?_
    clear hM; intro W7 hM
    refine wl_pure (by kernel_rfl) (.bool false) (by kernel_rfl) ?_
    go_frame
    refine wl_nil ?_
    refine cn5 _ _ ?_
    clear cn5
    refine wp_ret ?_
    simp only [Exit.then, Exit.inBlock]
    have hR : (if canB l c task h then doneR l R.1 R.2 else noR) = ([], [], HD.zero, false) := by simp [noR, doneR, hok]
    rw [hR]
    exact bodyPost_ret (ret_three (p := 8) (q := 9) (u := 10) (v := .bool false) rfl hM 1 0 rfl rfl rfl rfl rfl Try.underlying30 Try.underlying40 I_impl_Shared I_impl_Hand) rfl ⟨_, _, rfl, OwnR.nil _ _ _ _ _ _ _ (by simp [maxLen]), OwnR.nil _ _ _ _ _ _ _ (by simp [maxLen]), hM.below⟩

theorem findR_can (l : List ND) (c : List Int) (task : Int) (h : HD) (hat : 1 ≤ h.at_ ∧ h.at_ ≤ 4) : findR l c task h = if canB l c task h then (if h.at_ == 1 then doneR l (cnt1 c task) { h with at_ := 2, prev := 0, cur := 0, side := 1 }
  else if h.at_ == 2 then doneR l c (downH l h)
  else if h.at_ == 3 then doneR l c { h with at_ := 4, tag := kidF h.side (nd l h.prev).lt (nd l h.prev).rt }
  else doneR l (cnt1 c task) (exitH l h)) else noR := by
  unfold findR
  rw [can_l7, show inB h.at_ 1 4 = true by simp [inB]; omega]
  cases canB l c task h <;> rfl
theorem findR_out (l : List ND) (c : List Int) (task : Int) (h : HD) (hat : ¬ (1 ≤ h.at_ ∧ h.at_ ≤ 4)) : findR l c task h = noR := by
  unfold findR
  rw [can_l7, show inB h.at_ 1 4 = false by (rw [Bool.eq_false_iff]; simp [inB]; omega)]
  simp
theorem find_touched (ua : Option Addr) (uc : Nat) (xa : Option Addr) (xc : Nat) (l : List ND) (c : List Int) (task : Int) (h : HD) (hl : l.length ≤ 1048576) (hc : c.length ≤ 1048576) (w0 : World) (bT : Nat) (h1 : NSl w0 (.slice ua l.length uc) l) (h2 : SlI w0 (.slice xa c.length xc) c) (hTb : Tbl w0 bT findT 4) :
    Calls Try.prog 33 #[.map (some bT), .agg #[.slice ua l.length uc, .slice xa c.length xc], .int .i64 task, h.val] w0 (Says3 (findR l c task h) w0) := by
  by_cases hat : 1 ≤ h.at_ ∧ h.at_ ≤ 4
  · rw [findR_can l c task h hat]
    rcases (show h.at_ = 1 ∨ h.at_ = 2 ∨ h.at_ = 3 ∨ h.at_ = 4 by omega) with e | e | e | e
    · rw [show ((h.at_ == 1) = true) from by simp [e]]
      exact touched_at ua uc xa xc l c task h bT findT 4 w0 h1 h2 hl hc hTb 0 60 (by rw [e]; rfl) (fun _ _ => by kernel_rfl) (cnt1 c task, _) (by simp [cnt1]) fun hok => impl_beginWalk l c task h hok
    · rw [show ((h.at_ == 1) = false) from by simp [e], show ((h.at_ == 2) = true) from by simp [e]]
      exact touched_at ua uc xa xc l c task h bT findT 4 w0 h1 h2 hl hc hTb 1 61 (by rw [e]; rfl) (fun _ _ => by kernel_rfl) (c, _) rfl fun hok => impl_walkDown l c task h hok
    · rw [show ((h.at_ == 1) = false) from by simp [e], show ((h.at_ == 2) = false) from by simp [e], show ((h.at_ == 3) = true) from by simp [e]]
      exact touched_at ua uc xa xc l c task h bT findT 4 w0 h1 h2 hl hc hTb 2 62 (by rw [e]; rfl) (fun _ _ => by kernel_rfl) (c, _) rfl fun hok => impl_readTag l c task h hok
    · rw [show ((h.at_ == 1) = false) from by simp [e], show ((h.at_ == 2) = false) from by simp [e], show ((h.at_ == 3) = false) from by simp [e]]
      exact touched_at ua uc xa xc l c task h bT findT 4 w0 h1 h2 hl hc hTb 3 63 (by rw [e]; rfl) (fun _ _ => by kernel_rfl) (cnt1 c task, _) (by simp [cnt1]) fun hok => impl_endWalk l c task h hok (by omega)
  · rw [findR_out l c task h hat]
    refine touched_miss ua uc xa xc l c task h bT findT 4 w0 h1 h2 hl hc hTb ?_
    have e1 : (h.at_ == 1) = false := by simp; omega
    have e2 : (h.at_ == 2) = false := by simp; omega
    have e3 : (h.at_ == 3) = false := by simp; omega
    have e4 : (h.at_ == 4) = false := by simp; omega
    simp [findT, Instr.findNow, Instr.sameNow, e1, e2, e3, e4]
theorem doneR_cases (l : List ND) (c : List Int) (h : HD) : ((0 < l.length ∧ l.length ≤ 30) ∧ (0 < c.length ∧ c.length ≤ 6) ∧ doneR l c h = (l, c, h, true)) ∨ doneR l c h = noR := by
  unfold doneR
  split
  · next hb =>
    simp only [sharedB, Bool.and_eq_true] at hb
    exact .inl ⟨by have := nodes_some hb.1.1; omega, by have := countsB_some hb.1.2; omega, rfl⟩
  · exact .inr rfl
theorem findR_cases (l : List ND) (c : List Int) (task : Int) (h : HD) : (∃ lo co ho, findR l c task h = (lo, co, ho, true) ∧ (0 < lo.length ∧ lo.length ≤ 30) ∧ (0 < co.length ∧ co.length ≤ 6)) ∨ findR l c task h = ([], [], HD.zero, false) := by
  unfold findR
  repeat' split
  all_goals first
    | exact .inr rfl
    | (rcases doneR_cases _ _ _ with ⟨a, b, e⟩ | e <;> rw [e] <;> first | exact .inl ⟨_, _, _, rfl, a, b⟩ | exact .inr rfl)

set_option maxRecDepth 100000 in
set_option maxHeartbeats 4000000 in
theorem impl_FindStep (ua : Option Addr) (uc : Nat) (xa : Option Addr) (xc : Nat) (l : List ND) (c : List Int) (task : Int) (h : HD) (w0 : World) (h1 : NSl w0 (.slice ua l.length uc) l) (h2 : SlI w0 (.slice xa c.length xc) c) (hl : l.length ≤ 1048576) (hc : c.length ≤ 1048576) :
    Calls Try.prog 12 #[.agg #[.slice ua l.length uc, .slice xa c.length xc], .int .i64 task, h.val] w0 (Says3 (findR l c task h) w0) := by
  have hC := fun (w : World) (bT : Nat) => find_touched ua uc xa xc l c task h hl hc w bT
  rcases findR_cases l c task h with ⟨lo, co, ho, e, ⟨hlo, -⟩, ⟨hco, -⟩⟩ | e
  · rw [e] at hC ⊢
    clear e
    unfold HD.val at *
    have hM := Mem.start w0
    go_enter Try.func12, Try.ntmps12
    refine wp_seq_k fun Kn1 cn1 => ?_
    refine wl_region ?_
    refine wl_box (by kernel_rfl) hM 30 _ rfl [.slice ua l.length uc, .slice xa c.length xc] rfl ?_
    clear hM; intro g1 W1 hM
    go_frame
    refine wl_box (by kernel_rfl) hM 40 _ rfl (HD.cells h) rfl ?_
    clear hM; intro g2 W2 hM
    go_frame
    refine wl_alloc (by kernel_rfl) hM 30 rfl [.slice none 0 0, .slice none 0 0] Z_impl_Shared ?_
    clear hM; intro g3 W3 hM
    go_frame
    refine wl_alloc (by kernel_rfl) hM 40 rfl (HD.cells HD.zero) Z_impl_Hand ?_
    clear hM; intro g4 W4 hM
    go_frame
    refine wl_pure (by kernel_rfl) (.bool false) (by kernel_rfl) ?_
    go_frame
    refine wl_nil ?_
    refine cn1 _ _ ?_
    clear cn1
    refine wp_seq_k fun Kn2 cn2 => ?_
    -- region 1, drawn: one after the other
    refine wa_start (fun w => Below w0.heap.size w0 w ∧ Blk w g1 30 [.slice ua l.length uc, .slice xa c.length xc] ∧ Blk w g2 40 (HD.cells h)) 11 rfl (by kernel_rfl) ?_
    replace hM := hM.drew
    refine wa_take 1 (some 10) (.agg #[.slice ua l.length uc, .slice xa c.length xc]) rfl rfl (by kernel_rfl) (by kernel_rfl) (by kernel_rfl) (fun _ _ _ h => h) (by kernel_rfl) (fun w hS => r_load hS.2.1 30 _ rfl rfl Try.underlying30 I_impl_Shared) ⟨hM.below, hM.blk 3 rfl, hM.blk 2 rfl⟩ ?_
    go_frame
    refine wa_take 2 (some 11) (.int .i64 task) rfl rfl (by kernel_rfl) (by kernel_rfl) (by kernel_rfl) (fun _ _ _ h => h) (by kernel_rfl) (fun w hS => by kernel_rfl) ⟨hM.below, hM.blk 3 rfl, hM.blk 2 rfl⟩ ?_
    go_frame
    refine wa_take 3 (some 12) (.agg (HD.cells h).toArray) rfl rfl (by kernel_rfl) (by kernel_rfl) (by kernel_rfl) (fun _ _ _ h => h) (by kernel_rfl) (fun w hS => r_load hS.2.2 40 _ rfl rfl Try.underlying40 I_impl_Hand) ⟨hM.below, hM.blk 3 rfl, hM.blk 2 rfl⟩ ?_
    go_frame
    refine wa_one 0 (by kernel_rfl) ?_
    refine wo_call (some 9) rfl rfl (by kernel_rfl) 34 #[] (by kernel_rfl) (impl_findTouches _) ?_
    rintro e W5 ⟨bT, rfl, hB, hT, hb⟩
    replace hM := hM.call hb
    refine ⟨_, rfl, ⟨hM.below, hM.blk 3 rfl, hM.blk 2 rfl⟩, ?_⟩
    go_frame
    refine wa_one 4 (by kernel_rfl) ?_
    refine wo_call (some 13) rfl rfl (by kernel_rfl) 33 #[.map (some bT), .agg #[.slice ua l.length uc, .slice xa c.length xc], .int .i64 task, .agg (HD.cells h).toArray] (by kernel_rfl) (hC _ bT (h1.below hM.below) (h2.below hM.below) hT) ?_
    rintro e W6 ⟨u', x', rfl, hO1, hO2, hb⟩
    obtain ⟨v1, j1, r1, rfl, s11, s12, s13, s14⟩ := ownr_blk hO1 hlo
    obtain ⟨y1, i1, e1, rfl, s15, s16, s17, s18⟩ := ownr_blk hO2 hco
    replace hM := hM.join (Mem.two hb s14 s18 s13 s17 ne_types)
    refine ⟨_, rfl, ⟨hM.below, hM.blk 5 rfl, hM.blk 4 rfl⟩, ?_⟩
    go_frame
    refine wa_take 5 (some 14) (.agg #[.slice (some ⟨v1, 0, none⟩) lo.length j1, .slice (some ⟨y1, 0, none⟩) co.length i1]) rfl rfl (by kernel_rfl) (by kernel_rfl) (by kernel_rfl) (fun _ _ _ h => h) (by kernel_rfl) (fun w hS => by kernel_rfl) ⟨hM.below, hM.blk 5 rfl, hM.blk 4 rfl⟩ ?_
    go_frame
    refine wa_take 6 (some 15) (.agg (HD.cells ho).toArray) rfl rfl (by kernel_rfl) (by kernel_rfl) (by kernel_rfl) (fun _ _ _ h => h) (by kernel_rfl) (fun w hS => by kernel_rfl) ⟨hM.below, hM.blk 5 rfl, hM.blk 4 rfl⟩ ?_
    go_frame
    refine wa_take 7 (some 16) (.bool true) rfl rfl (by kernel_rfl) (by kernel_rfl) (by kernel_rfl) (fun _ _ _ h => h) (by kernel_rfl) (fun w hS => by kernel_rfl) ⟨hM.below, hM.blk 5 rfl, hM.blk 4 rfl⟩ ?_
    go_frame
    refine wa_one 8 (by kernel_rfl) ?_
    refine wo_store rfl (by kernel_rfl) hM 3 rfl 30 _ _ rfl rfl (by kernel_rfl) [.slice (some ⟨v1, 0, none⟩) lo.length j1, .slice (some ⟨y1, 0, none⟩) co.length i1] (by kernel_rfl) I_impl_Shared rfl rfl ?_
    clear hM; intro W7 hM
    refine ⟨⟨hM.below, hM.blk 5 rfl, hM.blk 4 rfl⟩, ?_⟩
    refine wa_one 9 (by kernel_rfl) ?_
    refine wo_store rfl (by kernel_rfl) hM 2 rfl 40 _ _ rfl rfl (by kernel_rfl) (HD.cells ho) (by kernel_rfl) I_impl_Hand rfl (hd_one' _) ?_
    clear hM; intro W8 hM
    refine ⟨⟨hM.below, hM.blk 5 rfl, hM.blk 4 rfl⟩, ?_⟩
    refine wa_take 10 (some 8) (.bool true) rfl rfl (by kernel_rfl) (by kernel_rfl) (by kernel_rfl) (fun _ _ _ h => h) (by kernel_rfl) (fun w hS => by kernel_rfl) ⟨hM.below, hM.blk 5 rfl, hM.blk 4 rfl⟩ ?_
    go_frame
    refine wa_done (by kernel_rfl) ?_
    refine cn2 _ _ ?_
    clear cn2
    refine wp_ret ?_
    exact bodyPost_ret (ret_three (p := 6) (q := 7) (u := 8) (v := .bool true) rfl hM 3 2 rfl rfl rfl rfl rfl Try.underlying30 Try.underlying40 I_impl_Shared I_impl_Hand) rfl ⟨_, _, rfl, own_nblk (hM.blk 0 rfl) s11 s12 (hM.base 0 rfl) hlo, own_iblk (hM.blk 1 rfl) s15 s16 (hM.base 1 rfl) hco, hM.below⟩
  · rw [e] at hC ⊢
    clear e
    unfold HD.val at *
    have hM := Mem.start w0
    go_enter Try.func12, Try.ntmps12
    refine wp_seq_k fun Kn1 cn1 => ?_
    refine wl_region ?_
    refine wl_box (by kernel_rfl) hM 30 _ rfl [.slice ua l.length uc, .slice xa c.length xc] rfl ?_
    clear hM; intro g1 W1 hM
    go_frame
    refine wl_box (by kernel_rfl) hM 40 _ rfl (HD.cells h) rfl ?_
    clear hM; intro g2 W2 hM
    go_frame
    refine wl_alloc (by kernel_rfl) hM 30 rfl [.slice none 0 0, .slice none 0 0] Z_impl_Shared ?_
    clear hM; intro g3 W3 hM
    go_frame
    refine wl_alloc (by kernel_rfl) hM 40 rfl (HD.cells HD.zero) Z_impl_Hand ?_
    clear hM; intro g4 W4 hM
    go_frame
    refine wl_pure (by kernel_rfl) (.bool false) (by kernel_rfl) ?_
    go_frame
    refine wl_nil ?_
    refine cn1 _ _ ?_
    clear cn1
    refine wp_seq_k fun Kn2 cn2 => ?_
    -- region 1, drawn: one after the other
    refine wa_start (fun w => Below w0.heap.size w0 w ∧ Blk w g1 30 [.slice ua l.length uc, .slice xa c.length xc] ∧ Blk w g2 40 (HD.cells h)) 11 rfl (by kernel_rfl) ?_
    replace hM := hM.drew
    refine wa_take 1 (some 10) (.agg #[.slice ua l.length uc, .slice xa c.length xc]) rfl rfl (by kernel_rfl) (by kernel_rfl) (by kernel_rfl) (fun _ _ _ h => h) (by kernel_rfl) (fun w hS => r_load hS.2.1 30 _ rfl rfl Try.underlying30 I_impl_Shared) ⟨hM.below, hM.blk 3 rfl, hM.blk 2 rfl⟩ ?_
    go_frame
    refine wa_take 2 (some 11) (.int .i64 task) rfl rfl (by kernel_rfl) (by kernel_rfl) (by kernel_rfl) (fun _ _ _ h => h) (by kernel_rfl) (fun w hS => by kernel_rfl) ⟨hM.below, hM.blk 3 rfl, hM.blk 2 rfl⟩ ?_
    go_frame
    refine wa_take 3 (some 12) (.agg (HD.cells h).toArray) rfl rfl (by kernel_rfl) (by kernel_rfl) (by kernel_rfl) (fun _ _ _ h => h) (by kernel_rfl) (fun w hS => r_load hS.2.2 40 _ rfl rfl Try.underlying40 I_impl_Hand) ⟨hM.below, hM.blk 3 rfl, hM.blk 2 rfl⟩ ?_
    go_frame
    refine wa_one 0 (by kernel_rfl) ?_
    refine wo_call (some 9) rfl rfl (by kernel_rfl) 34 #[] (by kernel_rfl) (impl_findTouches _) ?_
    rintro e W5 ⟨bT, rfl, hB, hT, hb⟩
    replace hM := hM.call hb
    refine ⟨_, rfl, ⟨hM.below, hM.blk 3 rfl, hM.blk 2 rfl⟩, ?_⟩
    go_frame
    refine wa_one 4 (by kernel_rfl) ?_
    refine wo_call (some 13) rfl rfl (by kernel_rfl) 33 #[.map (some bT), .agg #[.slice ua l.length uc, .slice xa c.length xc], .int .i64 task, .agg (HD.cells h).toArray] (by kernel_rfl) (hC _ bT (h1.below hM.below) (h2.below hM.below) hT) ?_
    rintro e W6 ⟨u', x', rfl, hO1, hO2, hb⟩
    obtain ⟨v1, j1, rfl, -, s11⟩ := (show OwnR _ _ _ _ 8 0 [] _ from hO1).slice
    obtain ⟨y1, i1, rfl, -, s12⟩ := (show OwnR _ _ _ _ 1 0 [] _ from hO2).slice
    replace hM := hM.call hb
    refine ⟨_, rfl, ⟨hM.below, hM.blk 3 rfl, hM.blk 2 rfl⟩, ?_⟩
    go_frame
    refine wa_take 5 (some 14) (.agg #[.slice v1 0 j1, .slice y1 0 i1]) rfl rfl (by kernel_rfl) (by kernel_rfl) (by kernel_rfl) (fun _ _ _ h => h) (by kernel_rfl) (fun w hS => by kernel_rfl) ⟨hM.below, hM.blk 3 rfl, hM.blk 2 rfl⟩ ?_
    go_frame
    refine wa_take 6 (some 15) (.agg (HD.cells HD.zero).toArray) rfl rfl (by kernel_rfl) (by kernel_rfl) (by kernel_rfl) (fun _ _ _ h => h) (by kernel_rfl) (fun w hS => by kernel_rfl) ⟨hM.below, hM.blk 3 rfl, hM.blk 2 rfl⟩ ?_
    go_frame
    refine wa_take 7 (some 16) (.bool false) rfl rfl (by kernel_rfl) (by kernel_rfl) (by kernel_rfl) (fun _ _ _ h => h) (by kernel_rfl) (fun w hS => by kernel_rfl) ⟨hM.below, hM.blk 3 rfl, hM.blk 2 rfl⟩ ?_
    go_frame
    refine wa_one 8 (by kernel_rfl) ?_
    refine wo_store rfl (by kernel_rfl) hM 1 rfl 30 _ _ rfl rfl (by kernel_rfl) [.slice v1 0 j1, .slice y1 0 i1] (by kernel_rfl) I_impl_Shared rfl rfl ?_
    clear hM; intro W7 hM
    refine ⟨⟨hM.below, hM.blk 3 rfl, hM.blk 2 rfl⟩, ?_⟩
    refine wa_one 9 (by kernel_rfl) ?_
    refine wo_store rfl (by kernel_rfl) hM 0 rfl 40 _ _ rfl rfl (by kernel_rfl) (HD.cells HD.zero) (by kernel_rfl) I_impl_Hand rfl (hd_one' _) ?_
    clear hM; intro W8 hM
    refine ⟨⟨hM.below, hM.blk 3 rfl, hM.blk 2 rfl⟩, ?_⟩
    refine wa_take 10 (some 8) (.bool false) rfl rfl (by kernel_rfl) (by kernel_rfl) (by kernel_rfl) (fun _ _ _ h => h) (by kernel_rfl) (fun w hS => by kernel_rfl) ⟨hM.below, hM.blk 3 rfl, hM.blk 2 rfl⟩ ?_
    go_frame
    refine wa_done (by kernel_rfl) ?_
    refine cn2 _ _ ?_
    clear cn2
    refine wp_ret ?_
    exact bodyPost_ret (ret_three (p := 6) (q := 7) (u := 8) (v := .bool false) rfl hM 1 0 rfl rfl rfl rfl rfl Try.underlying30 Try.underlying40 I_impl_Shared I_impl_Hand) rfl ⟨_, _, rfl, OwnR.nil _ _ _ _ _ _ _ s11, OwnR.nil _ _ _ _ _ _ _ s12, hM.below⟩
end Go.Proofs.Ytoamnecoiicljaa
