/- Adding: the face that catches; the program's step. -/
import Derived.Test.YthllpgjggmdmmaaAddImpl2
import Derived.Recover
namespace Go.Proofs.Ythllpgjggmdmmaa
open Go.ChangeShapes Go.WideShapes Go.ChangeAt Go.RowKit
set_option linter.unusedVariables false
set_option linter.unusedSimpArgs false

/-- A region of a deferred function's, which may recover. -/
structure WS (P : Program) (ops : Array Oper) (Q : Exit → Act → List Frame → World → Prop) (is : List Nat) (a : Act) (cs : List Frame) (w : World) : Prop where
  out : wpOpsS P ops Q is a cs w
section
variable {P : Program} {ops : Array Oper} {Q : Exit → Act → List Frame → World → Prop} {a : Act} {cs : List Frame} {w : World} {i : Nat} {rest : List Nat} {o : Oper}
theorem ws_region {id : Nat} (l : List Nat) (hn : List.range ops.size = l) (h : WS P ops Q l a cs w) : (Code.region id ops false).wpS P Q a cs w := by
  subst hn
  exact wpS_region h.out
theorem ws_pure (d : Option Tmp) (ho : ops[i]? = some o) (hd : o.dst = d) (hw : Region.wanted o (yielded ops a.tmps) = true) (v : Value) (hr : (execOp a.eval o).run P w = .ok (.value v) w) (h : WS P ops Q rest (a.put d v) cs w) : WS P ops Q (i :: rest) a cs w :=
  ⟨by
    subst hd
    unfold wpOpsS
    rw [ho]
    simp only [hw, if_true, hr, Oper.upon]
    exact h.out⟩
theorem ws_recover (d : Option Tmp) (ho : ops[i]? = some o) (hd : o.dst = d) (hw : Region.wanted o (yielded ops a.tmps) = true) (hr : (execOp a.eval o).run P w = .ok .recover w) {v : Value} {cs' : List Frame} (hc : recoverD cs = some (v, cs')) (h : WS P ops Q rest (a.put d v) cs' w) : WS P ops Q (i :: rest) a cs w :=
  ⟨by
    subst hd
    unfold wpOpsS
    rw [ho]
    simp only [hw, if_true, hr, hc]
    exact h.out⟩
theorem ws_idle (d : Option Tmp) (ho : ops[i]? = some o) (hd : o.dst = d) (hw : Region.wanted o (yielded ops a.tmps) = true) (hr : (execOp a.eval o).run P w = .ok .recover w) (hc : recoverD cs = none) (h : WS P ops Q rest (a.put d .nilIface) cs w) : WS P ops Q (i :: rest) a cs w :=
  ⟨by
    subst hd
    unfold wpOpsS
    rw [ho]
    simp only [hw, if_true, hr, hc]
    exact h.out⟩
theorem ws_nil (h : Q .normal a cs w) : WS P ops Q [] a cs w := ⟨h⟩
end

set_option maxRecDepth 100000 in
set_option maxHeartbeats 4000000 in
theorem tried_idle (gs gh ga gb : Nat) (w : World) :
    CallsD Try.prog 48 #[.pointer (some ⟨gs, 0, none⟩), .pointer (some ⟨gh, 0, none⟩), .pointer (some ⟨ga, 0, none⟩), .pointer (some ⟨gb, 0, none⟩)] .returning w fun e u' w' => e = .returned (.tuple #[]) ∧ u' = .returning ∧ w' = w := by
  refine callsD_of_wpS Try.func48 rfl fun c₀ cs hu => ?_
  simp only [Try.ntmps48, List.size_toArray, List.length_cons, List.length_nil, Nat.reduceAdd, Nat.reduceSub, Array.replicate_succ, Array.replicate_zero, List.push_toArray, List.append_toArray, List.nil_append, List.cons_append]
  refine wpS_seq ?_
  refine ws_region [0, 1, 2, 3, 4, 5, 6] rfl ?_
  refine ws_idle (some 7) rfl rfl (by kernel_rfl) (by kernel_rfl) (by simp [recoverD, hu]) ?_
  go_frame
  refine ws_pure (some 8) rfl rfl (by kernel_rfl) (.tuple #[.int .i64 0, .bool false]) (by kernel_rfl) ?_
  go_frame
  refine ws_pure (some 6) rfl rfl (by kernel_rfl) (.tuple #[.int .i64 0, .bool false]) (by kernel_rfl) ?_
  go_frame
  refine ws_pure (some 9) rfl rfl (by kernel_rfl) (.int .i64 0) (by kernel_rfl) ?_
  go_frame
  refine ws_pure (some 10) rfl rfl (by kernel_rfl) (.bool false) (by kernel_rfl) ?_
  go_frame
  refine ws_pure (some 4) rfl rfl (by kernel_rfl) (.int .i64 0) (by kernel_rfl) ?_
  go_frame
  refine ws_pure (some 5) rfl rfl (by kernel_rfl) (.bool false) (by kernel_rfl) ?_
  go_frame
  refine ws_nil ?_
  refine wpS_of_wp ?_
  refine wp_seq_k fun Kn1 cn1 => ?_
  refine wl_region ?_
  refine wl_pure (by kernel_rfl) (.bool false) (by kernel_rfl) ?_
  go_frame
  refine wl_pure (by kernel_rfl) (.bool false) (by kernel_rfl) ?_
  go_frame
  refine wl_skip (by kernel_rfl) ?_
  go_frame
  refine wl_skip (by kernel_rfl) ?_
  go_frame
  refine wl_pure (by kernel_rfl) (.bool false) (by kernel_rfl) ?_
  go_frame
  refine wl_nil ?_
  refine cn1 _ _ ?_
  clear cn1
  refine wp_cond_false rfl ?_
  refine wp_skip ?_
  exact ⟨rfl, _, (by cases c₀; cases hu; rfl), .tuple #[], results_none rfl _ _ _, rfl, rfl, rfl⟩

set_option maxRecDepth 100000 in
set_option maxHeartbeats 4000000 in
theorem tried_refuses (gs gh ga gb : Nat) (w : World) (older : List PanicEntry) :
    CallsD Try.prog 48 #[.pointer (some ⟨gs, 0, none⟩), .pointer (some ⟨gh, 0, none⟩), .pointer (some ⟨ga, 0, none⟩), .pointer (some ⟨gb, 0, none⟩)] (.panicking ({ v := .iface 82 (.int .i64 0), recovered := false } :: older)) w fun e u' w' => e = .returned (.tuple #[]) ∧ u' = .panicking ({ v := .iface 82 (.int .i64 0), recovered := true } :: older) ∧ w' = w := by
  refine callsD_of_wpS Try.func48 rfl fun c₀ cs hu => ?_
  simp only [Try.ntmps48, List.size_toArray, List.length_cons, List.length_nil, Nat.reduceAdd, Nat.reduceSub, Array.replicate_succ, Array.replicate_zero, List.push_toArray, List.append_toArray, List.nil_append, List.cons_append]
  refine wpS_seq ?_
  refine ws_region [0, 1, 2, 3, 4, 5, 6] rfl ?_
  refine ws_recover (some 7) rfl rfl (by kernel_rfl) (by kernel_rfl) (v := .iface 82 (.int .i64 0)) (cs' := { c₀ with mode := .panicking ({ v := .iface 82 (.int .i64 0), recovered := true } :: older) } :: cs) (by simp [recoverD, hu]) ?_
  go_frame
  refine ws_pure (some 8) rfl rfl (by kernel_rfl) (.tuple #[.int .i64 0, .bool true]) (by kernel_rfl) ?_
  go_frame
  refine ws_pure (some 6) rfl rfl (by kernel_rfl) (.tuple #[.int .i64 0, .bool true]) (by kernel_rfl) ?_
  go_frame
  refine ws_pure (some 9) rfl rfl (by kernel_rfl) (.int .i64 0) (by kernel_rfl) ?_
  go_frame
  refine ws_pure (some 10) rfl rfl (by kernel_rfl) (.bool true) (by kernel_rfl) ?_
  go_frame
  refine ws_pure (some 4) rfl rfl (by kernel_rfl) (.int .i64 0) (by kernel_rfl) ?_
  go_frame
  refine ws_pure (some 5) rfl rfl (by kernel_rfl) (.bool true) (by kernel_rfl) ?_
  go_frame
  refine ws_nil ?_
  refine wpS_of_wp ?_
  refine wp_seq_k fun Kn1 cn1 => ?_
  refine wl_region ?_
  refine wl_pure (by kernel_rfl) (.bool true) (by kernel_rfl) ?_
  go_frame
  refine wl_pure (by kernel_rfl) (.bool true) (by kernel_rfl) ?_
  go_frame
  refine wl_pure (by kernel_rfl) (.int .i64 0) (by kernel_rfl) ?_
  go_frame
  refine wl_pure (by kernel_rfl) (.bool false) (by kernel_rfl) ?_
  go_frame
  refine wl_pure (by kernel_rfl) (.bool false) (by kernel_rfl) ?_
  go_frame
  refine wl_nil ?_
  refine cn1 _ _ ?_
  clear cn1
  refine wp_cond_false rfl ?_
  refine wp_skip ?_
  exact ⟨rfl, _, rfl, .tuple #[], results_none rfl _ _ _, rfl, rfl, rfl⟩

set_option maxRecDepth 100000 in
set_option maxHeartbeats 4000000 in
theorem tried_waits (gs gh ga gb : Nat) (ua : Option Addr) (uc : Nat) (xa : Option Addr) (xc : Nat) (l : List ND) (c : List Int) (h : HD) (L : List Bk) (w00 w : World) (hM0 : Mem w00 w ((gs, 33, [.slice ua l.length uc, .slice xa c.length xc]) :: (gh, 36, HD.cells h) :: (ga, 33, [.slice none 0 0, .slice none 0 0]) :: (gb, 36, HD.cells HD.zero) :: L)) (h1 : NSl w00 (.slice ua l.length uc) l) (h2 : SlI w00 (.slice xa c.length xc) c) (hl0 : l ≠ []) (hc0 : c ≠ []) (hl : l.length ≤ 1048576) (hc : c.length ≤ 1048576) (older : List PanicEntry) :
    CallsD Try.prog 48 #[.pointer (some ⟨gs, 0, none⟩), .pointer (some ⟨gh, 0, none⟩), .pointer (some ⟨ga, 0, none⟩), .pointer (some ⟨gb, 0, none⟩)] (.panicking ({ v := .iface 82 (.int .i64 1), recovered := false } :: older)) w fun e u' w' => e = .returned (.tuple #[]) ∧ u' = .panicking ({ v := .iface 82 (.int .i64 1), recovered := true } :: older) ∧ ∃ m1 m2 k1 k2 p1 p2, (l.length ≤ k1 ∧ k1 ≤ maxLen ∧ c.length ≤ k2 ∧ k2 ≤ maxLen ∧ (cellsOf l ++ p1).length = k1 * 8 ∧ (cellsI c ++ p2).length = k2 * 1) ∧
      Mem w00 w' ((ga, 33, [.slice (some ⟨m1, 0, none⟩) l.length k1, .slice (some ⟨m2, 0, none⟩) c.length k2]) :: (gb, 36, HD.cells h) :: (m1, 52, cellsOf l ++ p1) :: (m2, 2, cellsI c ++ p2) :: L) := by
  have hM := hM0
  refine callsD_of_wpS Try.func48 rfl fun c₀ cs hu => ?_
  simp only [Try.ntmps48, List.size_toArray, List.length_cons, List.length_nil, Nat.reduceAdd, Nat.reduceSub, Array.replicate_succ, Array.replicate_zero, List.push_toArray, List.append_toArray, List.nil_append, List.cons_append]
  refine wpS_seq ?_
  refine ws_region [0, 1, 2, 3, 4, 5, 6] rfl ?_
  refine ws_recover (some 7) rfl rfl (by kernel_rfl) (by kernel_rfl) (v := .iface 82 (.int .i64 1)) (cs' := { c₀ with mode := .panicking ({ v := .iface 82 (.int .i64 1), recovered := true } :: older) } :: cs) (by simp [recoverD, hu]) ?_
  go_frame
  refine ws_pure (some 8) rfl rfl (by kernel_rfl) (.tuple #[.int .i64 1, .bool true]) (by kernel_rfl) ?_
  go_frame
  refine ws_pure (some 6) rfl rfl (by kernel_rfl) (.tuple #[.int .i64 1, .bool true]) (by kernel_rfl) ?_
  go_frame
  refine ws_pure (some 9) rfl rfl (by kernel_rfl) (.int .i64 1) (by kernel_rfl) ?_
  go_frame
  refine ws_pure (some 10) rfl rfl (by kernel_rfl) (.bool true) (by kernel_rfl) ?_
  go_frame
  refine ws_pure (some 4) rfl rfl (by kernel_rfl) (.int .i64 1) (by kernel_rfl) ?_
  go_frame
  refine ws_pure (some 5) rfl rfl (by kernel_rfl) (.bool true) (by kernel_rfl) ?_
  go_frame
  refine ws_nil ?_
  refine wpS_of_wp ?_
  refine wp_seq_k fun Kn1 cn1 => ?_
  refine wl_region ?_
  refine wl_pure (by kernel_rfl) (.bool true) (by kernel_rfl) ?_
  go_frame
  refine wl_pure (by kernel_rfl) (.bool true) (by kernel_rfl) ?_
  go_frame
  refine wl_pure (by kernel_rfl) (.int .i64 1) (by kernel_rfl) ?_
  go_frame
  refine wl_pure (by kernel_rfl) (.bool true) (by kernel_rfl) ?_
  go_frame
  refine wl_pure (by kernel_rfl) (.bool true) (by kernel_rfl) ?_
  go_frame
  refine wl_nil ?_
  refine cn1 _ _ ?_
  clear cn1
  refine wp_cond_true rfl ?_
  -- region 2, drawn: one after the other
  refine wa_start (fun w => Below w00.heap.size w00 w ∧ Blk w gs 33 [.slice ua l.length uc, .slice xa c.length xc] ∧ Blk w gh 36 (HD.cells h)) 5 rfl (by kernel_rfl) ?_
  replace hM := hM.drew
  refine wa_take 0 (some 16) (.agg #[.slice ua l.length uc, .slice xa c.length xc]) rfl rfl (by kernel_rfl) (by kernel_rfl) (by kernel_rfl) (fun _ _ _ h => h) (by kernel_rfl) (fun w hS => r_load hS.2.1 33 _ rfl rfl Try.underlying33 I_impl_Shared) ⟨hM.below, hM.blk 0 rfl, hM.blk 1 rfl⟩ ?_
  go_frame
  refine wa_take 2 (some 18) (.agg (HD.cells h).toArray) rfl rfl (by kernel_rfl) (by kernel_rfl) (by kernel_rfl) (fun _ _ _ h => h) (by kernel_rfl) (fun w hS => r_load hS.2.2 36 _ rfl rfl Try.underlying36 I_impl_Hand) ⟨hM.below, hM.blk 0 rfl, hM.blk 1 rfl⟩ ?_
  go_frame
  refine wa_one 1 (by kernel_rfl) ?_
  refine wo_call (some 17) rfl rfl (by kernel_rfl) 49 #[.agg #[.slice ua l.length uc, .slice xa c.length xc]] (by kernel_rfl) (impl_copyOf (.slice ua l.length uc) (.slice xa c.length xc) l c _ (h1.below hM.below) (h2.below hM.below) hl0 hc0 hl hc) ?_
  rintro e W1 ⟨m1, m2, k1, k2, p1, p2, rfl, ⟨q1, q2, q3, q4, q5, q6⟩, hMc⟩
  replace hM := hM.join hMc
  refine ⟨_, rfl, ⟨hM.below, hM.blk 2 rfl, hM.blk 3 rfl⟩, ?_⟩
  go_frame
  refine wa_one 3 (by kernel_rfl) ?_
  refine wo_store rfl (by kernel_rfl) hM 4 rfl 33 _ _ rfl rfl (by kernel_rfl) [.slice (some ⟨m1, 0, none⟩) l.length k1, .slice (some ⟨m2, 0, none⟩) c.length k2] (by kernel_rfl) I_impl_Shared rfl rfl ?_
  clear hM; intro W2 hM
  refine ⟨⟨hM.below, hM.blk 2 rfl, hM.blk 3 rfl⟩, ?_⟩
  refine wa_one 4 (by kernel_rfl) ?_
  refine wo_store rfl (by kernel_rfl) hM 5 rfl 36 _ _ rfl rfl (by kernel_rfl) (HD.cells h) (by kernel_rfl) I_impl_Hand rfl (hd_one' _) ?_
  clear hM; intro W3 hM
  refine ⟨⟨hM.below, hM.blk 2 rfl, hM.blk 3 rfl⟩, ?_⟩
  refine wa_done (by kernel_rfl) ?_
  replace hM := hM.pull 1 rfl
  replace hM := hM.pull 1 rfl
  replace hM := hM.pull 5 rfl
  replace hM := hM.pull 5 rfl
  exact ⟨rfl, _, rfl, .tuple #[], results_none rfl _ _ _, rfl, rfl, m1, m2, k1, k2, p1, p2, ⟨q1, q2, q3, q4, q5, q6⟩, hM.sub (fun i => if i < 4 then i else i + 2) (fun i x hx => by match i, hx with | 0, hx => exact hx | 1, hx => exact hx | 2, hx => exact hx | 3, hx => exact hx | (n + 4), hx => rw [if_neg (by omega)]; exact hx) (fun i j _ _ e => by (try simp only at e); split at e <;> split at e <;> omega)⟩

set_option maxRecDepth 100000 in
set_option maxHeartbeats 4000000 in
theorem tried_says (ua : Option Addr) (uc : Nat) (xa : Option Addr) (xc : Nat) (l : List ND) (c : List Int) (task : Int) (h : HD) (bT : Nat) (es : Array MapEntry) (nT : Nat) (w0 : World) (h1 : NSl w0 (.slice ua l.length uc) l) (h2 : SlI w0 (.slice xa c.length xc) c) (hl : l.length ≤ 1048576) (hc : c.length ≤ 1048576) (hTb : Tbl w0 bT es nT) (lo : List ND) (co : List Int) (ho : HD) (hlo : 0 < lo.length) (hco : 0 < co.length)
    (hC : ∀ w : World, NSl w (.slice ua l.length uc) l → SlI w (.slice xa c.length xc) c → Tbl w bT es nT → Calls Try.prog 50 #[.map (some bT), .agg #[.slice ua l.length uc, .slice xa c.length xc], .int .i64 task, h.val] w (Says3 (lo, co, ho, true) w)) :
    Calls Try.prog 27 #[.map (some bT), .agg #[.slice ua l.length uc, .slice xa c.length xc], .int .i64 task, h.val] w0 (Says3 (lo, co, ho, true) w0) := by
  unfold HD.val at *
  have hM := Mem.start w0
  go_enter_defers Try.func27, Try.ntmps27
  refine wp_seq_k fun Kn1 cn1 => ?_
  refine wl_region ?_
  refine wl_box (by kernel_rfl) hM 33 _ rfl [.slice ua l.length uc, .slice xa c.length xc] rfl ?_
  clear hM; intro g1 W1 hM
  go_frame
  refine wl_box (by kernel_rfl) hM 36 _ rfl (HD.cells h) rfl ?_
  clear hM; intro g2 W2 hM
  go_frame
  refine wl_alloc (by kernel_rfl) hM 33 rfl [.slice none 0 0, .slice none 0 0] Z_impl_Shared ?_
  clear hM; intro g3 W3 hM
  go_frame
  refine wl_alloc (by kernel_rfl) hM 36 rfl (HD.cells HD.zero) Z_impl_Hand ?_
  clear hM; intro g4 W4 hM
  go_frame
  refine wl_pure (by kernel_rfl) (.bool false) (by kernel_rfl) ?_
  go_frame
  refine wl_nil ?_
  refine cn1 _ _ ?_
  clear cn1
  refine wp_seq_k fun Kn2 cn2 => ?_
  refine wl_region ?_
  refine wl_pure (by kernel_rfl) (.func (.func 48) #[] #[.pointer (some ⟨g1, 0, none⟩), .pointer (some ⟨g2, 0, none⟩), .pointer (some ⟨g3, 0, none⟩), .pointer (some ⟨g4, 0, none⟩)]) (by kernel_rfl) ?_
  go_frame
  refine wl_defer (by kernel_rfl) { target := .fn (.func 48) #[.pointer (some ⟨g1, 0, none⟩), .pointer (some ⟨g2, 0, none⟩), .pointer (some ⟨g3, 0, none⟩), .pointer (some ⟨g4, 0, none⟩)], args := #[] } (by kernel_rfl) ?_
  go_frame
  refine wl_nil ?_
  refine cn2 _ _ ?_
  clear cn2
  refine wp_seq_k fun Kn3 cn3 => ?_
  refine wl_region ?_
  refine wl_pure (by kernel_rfl) (.map (some bT)) (by kernel_rfl) ?_
  go_frame
  refine wl_load (by kernel_rfl) hM 3 rfl 33 _ rfl rfl Try.underlying33 I_impl_Shared ?_
  go_frame
  refine wl_pure (by kernel_rfl) (.int .i64 task) (by kernel_rfl) ?_
  go_frame
  refine wl_load (by kernel_rfl) hM 2 rfl 36 _ rfl rfl Try.underlying36 I_impl_Hand ?_
  go_frame
  refine wl_call (by kernel_rfl) 50 #[.map (some bT), .agg #[.slice ua l.length uc, .slice xa c.length xc], .int .i64 task, .agg (HD.cells h).toArray] (by kernel_rfl) (hC _ (h1.below hM.below) (h2.below hM.below) (hTb.below hM.below hTb.lt)) ?_
  rintro e W5 ⟨u', x', rfl, hO1, hO2, hb⟩
  obtain ⟨v1, j1, r1, rfl, s11, s12, s13, s14, s19⟩ := ownr_blk hO1 hlo
  obtain ⟨y1, i1, e1, rfl, s15, s16, s17, s18, s10⟩ := ownr_blk hO2 hco
  replace hM := hM.join (Mem.two hb s14 s18 s13 s17 ne_types)
  refine ⟨_, rfl, ?_⟩
  go_frame
  refine wl_pure (by kernel_rfl) (.agg #[.slice (some ⟨v1, 0, none⟩) lo.length j1, .slice (some ⟨y1, 0, none⟩) co.length i1]) (by kernel_rfl) ?_
  go_frame
  refine wl_pure (by kernel_rfl) (.agg (HD.cells ho).toArray) (by kernel_rfl) ?_
  go_frame
  refine wl_pure (by kernel_rfl) (.bool true) (by kernel_rfl) ?_
  go_frame
  refine wl_store (by kernel_rfl) hM 3 rfl 33 _ _ rfl rfl rfl [.slice (some ⟨v1, 0, none⟩) lo.length j1, .slice (some ⟨y1, 0, none⟩) co.length i1] rfl I_impl_Shared rfl rfl ?_
  clear hM; intro W6 hM
  refine wl_store (by kernel_rfl) hM 2 rfl 36 _ _ rfl rfl rfl (HD.cells ho) rfl I_impl_Hand rfl (hd_one' _) ?_
  clear hM; intro W7 hM
  refine wl_pure (by kernel_rfl) (.bool true) (by kernel_rfl) ?_
  go_frame
  refine wl_nil ?_
  refine cn3 _ _ ?_
  clear cn3
  refine wp_ret ?_
  refine leaves_cons (f := 48) (args := #[.pointer (some ⟨g1, 0, none⟩), .pointer (some ⟨g2, 0, none⟩), .pointer (some ⟨g3, 0, none⟩), .pointer (some ⟨g4, 0, none⟩)]) (by simp) (by kernel_rfl) ?_
  refine (tried_idle g1 g2 g3 g4 _).mono ?_
  rintro e u' w'' ⟨rfl, rfl, rfl⟩
  exact ⟨_, ret_three (p := 8) (q := 9) (u := 10) (v := .bool true) rfl hM 3 2 rfl rfl rfl rfl rfl Try.underlying33 Try.underlying36 I_impl_Shared I_impl_Hand, _, _, rfl, own_nblk (hM.blk 0 rfl) s11 s12 (hM.base 0 rfl) hlo s19, own_iblk (hM.blk 1 rfl) s15 s16 (hM.base 1 rfl) hco s10, hM.below⟩

set_option maxRecDepth 100000 in
set_option maxHeartbeats 4000000 in
theorem tried_says_no (ua : Option Addr) (uc : Nat) (xa : Option Addr) (xc : Nat) (l : List ND) (c : List Int) (task : Int) (h : HD) (bT : Nat) (es : Array MapEntry) (nT : Nat) (w0 : World) (h1 : NSl w0 (.slice ua l.length uc) l) (h2 : SlI w0 (.slice xa c.length xc) c) (hl : l.length ≤ 1048576) (hc : c.length ≤ 1048576) (hTb : Tbl w0 bT es nT)
    (hC : ∀ w : World, NSl w (.slice ua l.length uc) l → SlI w (.slice xa c.length xc) c → Tbl w bT es nT → Calls Try.prog 50 #[.map (some bT), .agg #[.slice ua l.length uc, .slice xa c.length xc], .int .i64 task, h.val] w (Says3 ([], [], HD.zero, false) w)) :
    Calls Try.prog 27 #[.map (some bT), .agg #[.slice ua l.length uc, .slice xa c.length xc], .int .i64 task, h.val] w0 (Says3 ([], [], HD.zero, false) w0) := by
  unfold HD.val at *
  have hM := Mem.start w0
  go_enter_defers Try.func27, Try.ntmps27
  refine wp_seq_k fun Kn1 cn1 => ?_
  refine wl_region ?_
  refine wl_box (by kernel_rfl) hM 33 _ rfl [.slice ua l.length uc, .slice xa c.length xc] rfl ?_
  clear hM; intro g1 W1 hM
  go_frame
  refine wl_box (by kernel_rfl) hM 36 _ rfl (HD.cells h) rfl ?_
  clear hM; intro g2 W2 hM
  go_frame
  refine wl_alloc (by kernel_rfl) hM 33 rfl [.slice none 0 0, .slice none 0 0] Z_impl_Shared ?_
  clear hM; intro g3 W3 hM
  go_frame
  refine wl_alloc (by kernel_rfl) hM 36 rfl (HD.cells HD.zero) Z_impl_Hand ?_
  clear hM; intro g4 W4 hM
  go_frame
  refine wl_pure (by kernel_rfl) (.bool false) (by kernel_rfl) ?_
  go_frame
  refine wl_nil ?_
  refine cn1 _ _ ?_
  clear cn1
  refine wp_seq_k fun Kn2 cn2 => ?_
  refine wl_region ?_
  refine wl_pure (by kernel_rfl) (.func (.func 48) #[] #[.pointer (some ⟨g1, 0, none⟩), .pointer (some ⟨g2, 0, none⟩), .pointer (some ⟨g3, 0, none⟩), .pointer (some ⟨g4, 0, none⟩)]) (by kernel_rfl) ?_
  go_frame
  refine wl_defer (by kernel_rfl) { target := .fn (.func 48) #[.pointer (some ⟨g1, 0, none⟩), .pointer (some ⟨g2, 0, none⟩), .pointer (some ⟨g3, 0, none⟩), .pointer (some ⟨g4, 0, none⟩)], args := #[] } (by kernel_rfl) ?_
  go_frame
  refine wl_nil ?_
  refine cn2 _ _ ?_
  clear cn2
  refine wp_seq_k fun Kn3 cn3 => ?_
  refine wl_region ?_
  refine wl_pure (by kernel_rfl) (.map (some bT)) (by kernel_rfl) ?_
  go_frame
  refine wl_load (by kernel_rfl) hM 3 rfl 33 _ rfl rfl Try.underlying33 I_impl_Shared ?_
  go_frame
  refine wl_pure (by kernel_rfl) (.int .i64 task) (by kernel_rfl) ?_
  go_frame
  refine wl_load (by kernel_rfl) hM 2 rfl 36 _ rfl rfl Try.underlying36 I_impl_Hand ?_
  go_frame
  refine wl_call (by kernel_rfl) 50 #[.map (some bT), .agg #[.slice ua l.length uc, .slice xa c.length xc], .int .i64 task, .agg (HD.cells h).toArray] (by kernel_rfl) (hC _ (h1.below hM.below) (h2.below hM.below) (hTb.below hM.below hTb.lt)) ?_
  rintro e W5 ⟨u', x', rfl, hO1, hO2, hb⟩
  obtain ⟨v1, j1, rfl, -, s11⟩ := (show OwnR _ _ _ _ 8 0 [] _ from hO1).slice
  obtain ⟨y1, i1, rfl, -, s12⟩ := (show OwnR _ _ _ _ 1 0 [] _ from hO2).slice
  replace hM := hM.call hb
  refine ⟨_, rfl, ?_⟩
  go_frame
  refine wl_pure (by kernel_rfl) (.agg #[.slice v1 0 j1, .slice y1 0 i1]) (by kernel_rfl) ?_
  go_frame
  refine wl_pure (by kernel_rfl) (.agg (HD.cells HD.zero).toArray) (by kernel_rfl) ?_
  go_frame
  refine wl_pure (by kernel_rfl) (.bool false) (by kernel_rfl) ?_
  go_frame
  refine wl_store (by kernel_rfl) hM 1 rfl 33 _ _ rfl rfl rfl [.slice v1 0 j1, .slice y1 0 i1] rfl I_impl_Shared rfl rfl ?_
  clear hM; intro W6 hM
  refine wl_store (by kernel_rfl) hM 0 rfl 36 _ _ rfl rfl rfl (HD.cells HD.zero) rfl I_impl_Hand rfl (hd_one' _) ?_
  clear hM; intro W7 hM
  refine wl_pure (by kernel_rfl) (.bool false) (by kernel_rfl) ?_
  go_frame
  refine wl_nil ?_
  refine cn3 _ _ ?_
  clear cn3
  refine wp_ret ?_
  refine leaves_cons (f := 48) (args := #[.pointer (some ⟨g1, 0, none⟩), .pointer (some ⟨g2, 0, none⟩), .pointer (some ⟨g3, 0, none⟩), .pointer (some ⟨g4, 0, none⟩)]) (by simp) (by kernel_rfl) ?_
  refine (tried_idle g1 g2 g3 g4 _).mono ?_
  rintro e u' w'' ⟨rfl, rfl, rfl⟩
  exact ⟨_, ret_three (p := 8) (q := 9) (u := 10) (v := .bool false) rfl hM 1 0 rfl rfl rfl rfl rfl Try.underlying33 Try.underlying36 I_impl_Shared I_impl_Hand, _, _, rfl, OwnR.nil _ _ _ _ _ _ _ s11, OwnR.nil _ _ _ _ _ _ _ s12, hM.below⟩

set_option maxRecDepth 100000 in
set_option maxHeartbeats 4000000 in
theorem tried_no (ua : Option Addr) (uc : Nat) (xa : Option Addr) (xc : Nat) (l : List ND) (c : List Int) (task : Int) (h : HD) (bT : Nat) (es : Array MapEntry) (nT : Nat) (w0 : World) (h1 : NSl w0 (.slice ua l.length uc) l) (h2 : SlI w0 (.slice xa c.length xc) c) (hl : l.length ≤ 1048576) (hc : c.length ≤ 1048576) (hTb : Tbl w0 bT es nT)
    (hC : ∀ w : World, NSl w (.slice ua l.length uc) l → SlI w (.slice xa c.length xc) c → Tbl w bT es nT → Calls Try.prog 50 #[.map (some bT), .agg #[.slice ua l.length uc, .slice xa c.length xc], .int .i64 task, h.val] w (SaysP 0 w)) :
    Calls Try.prog 27 #[.map (some bT), .agg #[.slice ua l.length uc, .slice xa c.length xc], .int .i64 task, h.val] w0 (Says3 ([], [], HD.zero, false) w0) := by
  unfold HD.val at *
  have hM := Mem.start w0
  go_enter_defers Try.func27, Try.ntmps27
  refine wp_seq_k fun Kn1 cn1 => ?_
  refine wl_region ?_
  refine wl_box (by kernel_rfl) hM 33 _ rfl [.slice ua l.length uc, .slice xa c.length xc] rfl ?_
  clear hM; intro g1 W1 hM
  go_frame
  refine wl_box (by kernel_rfl) hM 36 _ rfl (HD.cells h) rfl ?_
  clear hM; intro g2 W2 hM
  go_frame
  refine wl_alloc (by kernel_rfl) hM 33 rfl [.slice none 0 0, .slice none 0 0] Z_impl_Shared ?_
  clear hM; intro g3 W3 hM
  go_frame
  refine wl_alloc (by kernel_rfl) hM 36 rfl (HD.cells HD.zero) Z_impl_Hand ?_
  clear hM; intro g4 W4 hM
  go_frame
  refine wl_pure (by kernel_rfl) (.bool false) (by kernel_rfl) ?_
  go_frame
  refine wl_nil ?_
  refine cn1 _ _ ?_
  clear cn1
  refine wp_seq_k fun Kn2 cn2 => ?_
  refine wl_region ?_
  refine wl_pure (by kernel_rfl) (.func (.func 48) #[] #[.pointer (some ⟨g1, 0, none⟩), .pointer (some ⟨g2, 0, none⟩), .pointer (some ⟨g3, 0, none⟩), .pointer (some ⟨g4, 0, none⟩)]) (by kernel_rfl) ?_
  go_frame
  refine wl_defer (by kernel_rfl) { target := .fn (.func 48) #[.pointer (some ⟨g1, 0, none⟩), .pointer (some ⟨g2, 0, none⟩), .pointer (some ⟨g3, 0, none⟩), .pointer (some ⟨g4, 0, none⟩)], args := #[] } (by kernel_rfl) ?_
  go_frame
  refine wl_nil ?_
  refine cn2 _ _ ?_
  clear cn2
  refine wp_seq_k fun Kn3 cn3 => ?_
  refine wl_region ?_
  refine wl_pure (by kernel_rfl) (.map (some bT)) (by kernel_rfl) ?_
  go_frame
  refine wl_load (by kernel_rfl) hM 3 rfl 33 _ rfl rfl Try.underlying33 I_impl_Shared ?_
  go_frame
  refine wl_pure (by kernel_rfl) (.int .i64 task) (by kernel_rfl) ?_
  go_frame
  refine wl_load (by kernel_rfl) hM 2 rfl 36 _ rfl rfl Try.underlying36 I_impl_Hand ?_
  go_frame
  refine wl_panics (by kernel_rfl) 50 #[.map (some bT), .agg #[.slice ua l.length uc, .slice xa c.length xc], .int .i64 task, .agg (HD.cells h).toArray] (by kernel_rfl) (hC _ (h1.below hM.below) (h2.below hM.below) (hTb.below hM.below hTb.lt)) ?_
  rintro e W5 ⟨rfl, hb⟩
  replace hM := hM.call hb
  refine ⟨_, rfl, ?_⟩
  refine leaves_cons (f := 48) (args := #[.pointer (some ⟨g1, 0, none⟩), .pointer (some ⟨g2, 0, none⟩), .pointer (some ⟨g3, 0, none⟩), .pointer (some ⟨g4, 0, none⟩)]) (by simp) (by kernel_rfl) ?_
  refine (tried_refuses g1 g2 g3 g4 _ []).mono ?_
  rintro e u' w'' ⟨rfl, rfl, rfl⟩
  exact ⟨_, ret_three (p := 8) (q := 9) (u := 10) (v := .bool false) rfl hM 1 0 rfl rfl rfl rfl rfl Try.underlying33 Try.underlying36 I_impl_Shared I_impl_Hand, _, _, rfl, OwnR.nil _ _ _ _ _ _ _ (by simp [maxLen]), OwnR.nil _ _ _ _ _ _ _ (by simp [maxLen]), hM.below⟩

set_option maxRecDepth 100000 in
set_option maxHeartbeats 4000000 in
theorem tried_wait (ua : Option Addr) (uc : Nat) (xa : Option Addr) (xc : Nat) (l : List ND) (c : List Int) (task : Int) (h : HD) (bT : Nat) (es : Array MapEntry) (nT : Nat) (w0 : World) (h1 : NSl w0 (.slice ua l.length uc) l) (h2 : SlI w0 (.slice xa c.length xc) c) (hl : l.length ≤ 1048576) (hc : c.length ≤ 1048576) (hTb : Tbl w0 bT es nT) (hl0 : l ≠ []) (hc0 : c ≠ [])
    (hC : ∀ w : World, NSl w (.slice ua l.length uc) l → SlI w (.slice xa c.length xc) c → Tbl w bT es nT → Calls Try.prog 50 #[.map (some bT), .agg #[.slice ua l.length uc, .slice xa c.length xc], .int .i64 task, h.val] w (SaysP 1 w)) :
    Calls Try.prog 27 #[.map (some bT), .agg #[.slice ua l.length uc, .slice xa c.length xc], .int .i64 task, h.val] w0 (Says3 (l, c, h, false) w0) := by
  unfold HD.val at *
  have hM := Mem.start w0
  go_enter_defers Try.func27, Try.ntmps27
  refine wp_seq_k fun Kn1 cn1 => ?_
  refine wl_region ?_
  refine wl_box (by kernel_rfl) hM 33 _ rfl [.slice ua l.length uc, .slice xa c.length xc] rfl ?_
  clear hM; intro g1 W1 hM
  go_frame
  refine wl_box (by kernel_rfl) hM 36 _ rfl (HD.cells h) rfl ?_
  clear hM; intro g2 W2 hM
  go_frame
  refine wl_alloc (by kernel_rfl) hM 33 rfl [.slice none 0 0, .slice none 0 0] Z_impl_Shared ?_
  clear hM; intro g3 W3 hM
  go_frame
  refine wl_alloc (by kernel_rfl) hM 36 rfl (HD.cells HD.zero) Z_impl_Hand ?_
  clear hM; intro g4 W4 hM
  go_frame
  refine wl_pure (by kernel_rfl) (.bool false) (by kernel_rfl) ?_
  go_frame
  refine wl_nil ?_
  refine cn1 _ _ ?_
  clear cn1
  refine wp_seq_k fun Kn2 cn2 => ?_
  refine wl_region ?_
  refine wl_pure (by kernel_rfl) (.func (.func 48) #[] #[.pointer (some ⟨g1, 0, none⟩), .pointer (some ⟨g2, 0, none⟩), .pointer (some ⟨g3, 0, none⟩), .pointer (some ⟨g4, 0, none⟩)]) (by kernel_rfl) ?_
  go_frame
  refine wl_defer (by kernel_rfl) { target := .fn (.func 48) #[.pointer (some ⟨g1, 0, none⟩), .pointer (some ⟨g2, 0, none⟩), .pointer (some ⟨g3, 0, none⟩), .pointer (some ⟨g4, 0, none⟩)], args := #[] } (by kernel_rfl) ?_
  go_frame
  refine wl_nil ?_
  refine cn2 _ _ ?_
  clear cn2
  refine wp_seq_k fun Kn3 cn3 => ?_
  refine wl_region ?_
  refine wl_pure (by kernel_rfl) (.map (some bT)) (by kernel_rfl) ?_
  go_frame
  refine wl_load (by kernel_rfl) hM 3 rfl 33 _ rfl rfl Try.underlying33 I_impl_Shared ?_
  go_frame
  refine wl_pure (by kernel_rfl) (.int .i64 task) (by kernel_rfl) ?_
  go_frame
  refine wl_load (by kernel_rfl) hM 2 rfl 36 _ rfl rfl Try.underlying36 I_impl_Hand ?_
  go_frame
  refine wl_panics (by kernel_rfl) 50 #[.map (some bT), .agg #[.slice ua l.length uc, .slice xa c.length xc], .int .i64 task, .agg (HD.cells h).toArray] (by kernel_rfl) (hC _ (h1.below hM.below) (h2.below hM.below) (hTb.below hM.below hTb.lt)) ?_
  rintro e W5 ⟨rfl, hb⟩
  replace hM := hM.call hb
  refine ⟨_, rfl, ?_⟩
  refine leaves_cons (f := 48) (args := #[.pointer (some ⟨g1, 0, none⟩), .pointer (some ⟨g2, 0, none⟩), .pointer (some ⟨g3, 0, none⟩), .pointer (some ⟨g4, 0, none⟩)]) (by simp) (by kernel_rfl) ?_
  have hM2 : Mem w0 W5 [(g1, 33, [.slice ua l.length uc, .slice xa c.length xc]), (g2, 36, (HD.cells h)), (g3, 33, [.slice none 0 0, .slice none 0 0]), (g4, 36, (HD.cells HD.zero))] := hM.sub (fun i => [3, 2, 1, 0].getD i i) (fun i b hb => by match i, hb with | 0, hb => exact hb | 1, hb => exact hb | 2, hb => exact hb | 3, hb => exact hb | (n + 4), hb => simp at hb) (fun i j hi hj e => by simp only [List.length_cons, List.length_nil] at hi hj; match i, j, hi, hj, e with | 0, 0, _, _, _ => rfl | 1, 1, _, _, _ => rfl | 2, 2, _, _, _ => rfl | 3, 3, _, _, _ => rfl | 0, 1, _, _, e => simp at e | 0, 2, _, _, e => simp at e | 0, 3, _, _, e => simp at e | 1, 0, _, _, e => simp at e | 1, 2, _, _, e => simp at e | 1, 3, _, _, e => simp at e | 2, 0, _, _, e => simp at e | 2, 1, _, _, e => simp at e | 2, 3, _, _, e => simp at e | 3, 0, _, _, e => simp at e | 3, 1, _, _, e => simp at e | 3, 2, _, _, e => simp at e)
  refine (tried_waits g1 g2 g3 g4 ua uc xa xc l c h [] w0 _ hM2 h1 h2 hl0 hc0 hl hc []).mono ?_
  rintro e u' w'' ⟨rfl, rfl, m1, m2, k1, k2, p1, p2, ⟨q1, q2, q3, q4, q5, q6⟩, hM3⟩
  refine ⟨_, ret_three (p := 8) (q := 9) (u := 10) (v := .bool false) rfl hM3 0 1 rfl rfl rfl rfl rfl Try.underlying33 Try.underlying36 I_impl_Shared I_impl_Hand, ?_⟩
  exact ⟨_, _, rfl, own_nblk (hM3.blk 2 rfl) q1 q2 (hM3.base 2 rfl) (List.length_pos_iff.2 hl0) q5, own_iblk (hM3.blk 3 rfl) q3 q4 (hM3.base 3 rfl) (List.length_pos_iff.2 hc0) q6, hM3.below⟩
/-- What the face answers. -/
def faceR (l : List ND) (c : List Int) (h : HD) : TR → StepR
  | .done lo ho => doneR lo c ho
  | .gives k => if k == 1 then (l, c, h, false) else noR
def TR.right : TR → Prop
  | .done lo _ => lo.length ≤ 1048576
  | .gives k => k = 0 ∨ k = 1
theorem tried_at (ua : Option Addr) (uc : Nat) (xa : Option Addr) (xc : Nat) (l : List ND) (c : List Int) (task : Int) (h : HD) (bT : Nat) (es : Array MapEntry) (nT : Nat) (w0 : World) (h1 : NSl w0 (.slice ua l.length uc) l) (h2 : SlI w0 (.slice xa c.length xc) c) (hl : l.length ≤ 1048576) (hc : c.length ≤ 1048576) (hTb : Tbl w0 bT es nT) (jt : Nat) (ft : FuncId) (hft : Instr.findNow (.int .i64) (.int .i64 h.at_) es.toList 0 = some (some (jt, .func (.func ft) #[] #[]))) (hE : ∀ (vs : Array Value) (w : World), (callFunc ft vs).run Try.prog w = .ok (.enter ft vs) w) (R : TR) (hR : canB l c task h = true → R.right) (hTF : canB l c task h = true → TouchG ft l c task h R) :
    Calls Try.prog 27 #[.map (some bT), .agg #[.slice ua l.length uc, .slice xa c.length xc], .int .i64 task, h.val] w0 (Says3 (if canB l c task h then faceR l c h R else noR) w0) := by
  rcases Bool.eq_false_or_eq_true (canB l c task h) with hok | hok
  · replace hTF := hTF hok
    replace hR := hR hok
    rw [hok]
    obtain ⟨hl0, hc0, hl1, hc1, -⟩ := ok_facts (can_ok hok)
    cases R with
    | done lo ho =>
      have hC := fun (w : World) (h1 : NSl w (.slice ua l.length uc) l) (h2 : SlI w (.slice xa c.length xc) c) (hTb : Tbl w bT es nT) => touchedG_done ua uc xa xc l c task h bT es nT w h1 h2 hl hc hTb jt ft hft hE hok lo ho hR hTF
      show Calls _ _ _ _ (Says3 (doneR lo c ho) w0)
      rcases doneR_cases lo c ho with ⟨⟨hlo, -⟩, ⟨hco, -⟩, e⟩ | e
      · rw [e] at hC ⊢
        exact tried_says ua uc xa xc l c task h bT es nT w0 h1 h2 hl hc hTb lo c ho hlo hco hC
      · rw [e] at hC ⊢
        exact tried_says_no ua uc xa xc l c task h bT es nT w0 h1 h2 hl hc hTb hC
    | gives k =>
      have hC := fun (w : World) (h1 : NSl w (.slice ua l.length uc) l) (h2 : SlI w (.slice xa c.length xc) c) (hTb : Tbl w bT es nT) => touchedG_gives ua uc xa xc l c task h bT es nT w h1 h2 hl hc hTb jt ft hft hE hok k hTF
      rcases hR with rfl | rfl
      · exact tried_no ua uc xa xc l c task h bT es nT w0 h1 h2 hl hc hTb hC
      · exact tried_wait ua uc xa xc l c task h bT es nT w0 h1 h2 hl hc hTb hl0 hc0 hC
  · rw [hok]
    have hC := fun (w : World) (h1 : NSl w (.slice ua l.length uc) l) (h2 : SlI w (.slice xa c.length xc) c) (hTb : Tbl w bT es nT) => touchedG_cannot ua uc xa xc l c task h bT es nT w h1 h2 hl hc hTb jt ft hft hE hok
    exact tried_says_no ua uc xa xc l c task h bT es nT w0 h1 h2 hl hc hTb hC
theorem tried_miss (ua : Option Addr) (uc : Nat) (xa : Option Addr) (xc : Nat) (l : List ND) (c : List Int) (task : Int) (h : HD) (bT : Nat) (es : Array MapEntry) (nT : Nat) (w0 : World) (h1 : NSl w0 (.slice ua l.length uc) l) (h2 : SlI w0 (.slice xa c.length xc) c) (hl : l.length ≤ 1048576) (hc : c.length ≤ 1048576) (hTb : Tbl w0 bT es nT) (hft : Instr.findNow (.int .i64) (.int .i64 h.at_) es.toList 0 = some none) :
    Calls Try.prog 27 #[.map (some bT), .agg #[.slice ua l.length uc, .slice xa c.length xc], .int .i64 task, h.val] w0 (Says3 noR w0) :=
  tried_says_no ua uc xa xc l c task h bT es nT w0 h1 h2 hl hc hTb fun w h1 h2 hTb => touched_miss ua uc xa xc l c task h bT es nT w h1 h2 hl hc hTb hft
theorem lockR_hold {l : List ND} {c : List Int} {task : Int} {h : HD} (hok : canB l c task h = true) (h1 : 1 ≤ h.at_) (a t : Int) (ht : 1 ≤ t ∧ t ≤ 26) : lockR l c task h a t = faceR l c h (holdT l task h a t) := by
  unfold lockR holdT
  have hk := can_ok hok
  simp only [l7okB, Bool.and_eq_true, sharedB] at hk
  obtain ⟨⟨⟨⟨⟨n1, n2⟩, n3⟩, n4⟩, -⟩, -⟩ := hk
  have n4' := inB_t n4
  obtain ⟨c1, c2, -⟩ := countsB_some n2
  split
  · rename_i h7
    have hs : sharedB (lockB l a task).1 c = true := by
      unfold lockB at h7 ⊢
      split at h7
      · rename_i h8
        rw [if_pos h8]
        split at h7
        · rename_i h9
          rw [if_pos h9]
          show sharedB (giveO l a (task + 1)) c = true
          simp only [sharedB, Bool.and_eq_true]
          refine ⟨?_, n2⟩
          unfold giveO
          split
          · rename_i n hn
            exact nodesB_setO n1 hn (by simp [inB]; omega)
          · exact n1
        · simp at h7
      · simp at h7
    show _ = doneR _ _ _
    unfold doneR
    rw [hs, handB_at n3 h1 ht]
    rfl
  · rfl
theorem holdT_right {l : List ND} {task : Int} {h : HD} {a t : Int} (hl : l.length ≤ 1048576) : (holdT l task h a t).right := by
  unfold holdT
  split
  · rename_i h7
    show (lockB l a task).1.length ≤ 1048576
    unfold lockB
    repeat' split
    · show (giveO l a (task + 1)).length ≤ 1048576
      rw [giveO_len]
      exact hl
    · exact hl
    · simp
  · exact .inr rfl
end Go.Proofs.Ythllpgjggmdmmaa
