import Derived.Test.YthkbmdhcpandmaaGreatShort
import Derived.Test.YthkbmdhcpandmaaGreatAddImpl2
import Derived.Recover
namespace Go.Proofs.YthkbmdhcpandmaaGreat
open Go.ChangeShapes Go.WideShapes Go.ChangeAt Go.RowKit
set_option linter.unusedVariables false
set_option maxRecDepth 100000
set_option maxHeartbeats 16000000
set_option linter.unusedSimpArgs false
structure WS (P : Program) (ops : Array Oper) (Q : Exit → Act → List Frame → World → Prop) (is : List Nat) (a : Act) (cs : List Frame) (w : World) : Prop where
  out : wpOpsS P ops Q is a cs w
section
variable {P : Program} {ops : Array Oper} {Q : Exit → Act → List Frame → World → Prop} {a : Act} {cs : List Frame} {w : World} {i : Nat} {rest : List Nat} {o : Oper}
theorem ws_region {id : Nat} (l : List Nat) (hn : List.range ops.size = l) (h : WS P ops Q l a cs w) : (Code.region id ops false).wpS P Q a cs w := by
  subst hn;exact wpS_region h.out
theorem ws_pure (d : Option Tmp) (ho : ops[i]? = some o) (hd : o.dst = d) (hw : Region.wanted o (yielded ops a.tmps) = true) (v : Value) (hr : (execOp a.eval o).run P w = .ok (.value v) w) (h : WS P ops Q rest (a.put d v) cs w) : WS P ops Q (i :: rest) a cs w :=
  ⟨by
    subst hd;unfold wpOpsS;rw [ho];simp only [hw, if_true, hr, Oper.upon];exact h.out⟩
theorem ws_recover (d : Option Tmp) (ho : ops[i]? = some o) (hd : o.dst = d) (hw : Region.wanted o (yielded ops a.tmps) = true) (hr : (execOp a.eval o).run P w = .ok .recover w) {v : Value} {cs' : List Frame} (hc : recoverD cs = some (v, cs')) (h : WS P ops Q rest (a.put d v) cs' w) : WS P ops Q (i :: rest) a cs w :=
  ⟨by
    subst hd;unfold wpOpsS;rw [ho];simp only [hw, if_true, hr, hc];exact h.out⟩
theorem ws_idle (d : Option Tmp) (ho : ops[i]? = some o) (hd : o.dst = d) (hw : Region.wanted o (yielded ops a.tmps) = true) (hr : (execOp a.eval o).run P w = .ok .recover w) (hc : recoverD cs = none) (h : WS P ops Q rest (a.put d .nilIface) cs w) : WS P ops Q (i :: rest) a cs w :=
  ⟨by
    subst hd;unfold wpOpsS;rw [ho];simp only [hw, if_true, hr, hc];exact h.out⟩
theorem ws_nil (h : Q .normal a cs w) : WS P ops Q [] a cs w := ⟨h⟩
end
theorem tried_idle (gs gh ga gb : Nat) (w : World) :
    CallsD Tryz.prog 92 #[.pointer (some ⟨gs, 0, none⟩), .pointer (some ⟨gh, 0, none⟩), .pointer (some ⟨ga, 0, none⟩), .pointer (some ⟨gb, 0, none⟩)] .returning w fun e u' w' => e = .returned (.tuple #[]) ∧ u' = .returning ∧ w' = w := by
  refine callsD_of_wpS Tryz.func92 rfl fun c₀ cs hu => ?_;simp only [Tryz.ntmps92, List.size_toArray, List.length_cons, List.length_nil, Nat.reduceAdd, Nat.reduceSub, Array.replicate_succ, Array.replicate_zero, List.push_toArray, List.append_toArray, List.nil_append, List.cons_append];refine wpS_seq ?_;refine ws_region [0, 1, 2, 3, 4, 5, 6] rfl ?_;refine ws_idle (some 7) rfl rfl (by kernel_rfl) (by kernel_rfl) (by simp [recoverD, hu]) ?_;go_frame;refine ws_pure (some 8) rfl rfl (by kernel_rfl) (.tuple #[.int .i64 0, .bool false]) (by kernel_rfl) ?_;go_frame;refine ws_pure (some 6) rfl rfl (by kernel_rfl) (.tuple #[.int .i64 0, .bool false]) (by kernel_rfl) ?_;go_frame;refine ws_pure (some 9) rfl rfl (by kernel_rfl) (.int .i64 0) (by kernel_rfl) ?_;go_frame;refine ws_pure (some 10) rfl rfl (by kernel_rfl) (.bool false) (by kernel_rfl) ?_;go_frame;refine ws_pure (some 4) rfl rfl (by kernel_rfl) (.int .i64 0) (by kernel_rfl) ?_;go_frame;refine ws_pure (some 5) rfl rfl (by kernel_rfl) (.bool false) (by kernel_rfl) ?_;go_frame;refine ws_nil ?_;refine wpS_of_wp ?_;refine sr fun _ cn1 => ?_;refine np (.bool false) <| np (.bool false) ?_
  iterate 2 refine ns ?_
  refine np (.bool false) ?_;go_frame;refine wz cn1 ?_;clear cn1;refine wp_cond_false rfl ?_;refine wp_skip ?_;exact ⟨rfl, _, (by cases c₀; cases hu; rfl), .tuple #[], results_none rfl _ _ _, rfl, rfl, rfl⟩
theorem tried_refuses (gs gh ga gb : Nat) (w : World) (older : List PanicEntry) :
    CallsD Tryz.prog 92 #[.pointer (some ⟨gs, 0, none⟩), .pointer (some ⟨gh, 0, none⟩), .pointer (some ⟨ga, 0, none⟩), .pointer (some ⟨gb, 0, none⟩)] (.panicking ({ v := .iface 119 (.int .i64 0), recovered := false } :: older)) w fun e u' w' => e = .returned (.tuple #[]) ∧ u' = .panicking ({ v := .iface 119 (.int .i64 0), recovered := true } :: older) ∧ w' = w := by
  refine callsD_of_wpS Tryz.func92 rfl fun c₀ cs hu => ?_;simp only [Tryz.ntmps92, List.size_toArray, List.length_cons, List.length_nil, Nat.reduceAdd, Nat.reduceSub, Array.replicate_succ, Array.replicate_zero, List.push_toArray, List.append_toArray, List.nil_append, List.cons_append];refine wpS_seq ?_;refine ws_region [0, 1, 2, 3, 4, 5, 6] rfl ?_;refine ws_recover (some 7) rfl rfl (by kernel_rfl) (by kernel_rfl) (v := .iface 119 (.int .i64 0)) (cs' := { c₀ with mode := .panicking ({ v := .iface 119 (.int .i64 0), recovered := true } :: older) } :: cs) (by simp [recoverD, hu]) ?_;go_frame;refine ws_pure (some 8) rfl rfl (by kernel_rfl) (.tuple #[.int .i64 0, .bool true]) (by kernel_rfl) ?_;go_frame;refine ws_pure (some 6) rfl rfl (by kernel_rfl) (.tuple #[.int .i64 0, .bool true]) (by kernel_rfl) ?_;go_frame;refine ws_pure (some 9) rfl rfl (by kernel_rfl) (.int .i64 0) (by kernel_rfl) ?_;go_frame;refine ws_pure (some 10) rfl rfl (by kernel_rfl) (.bool true) (by kernel_rfl) ?_;go_frame;refine ws_pure (some 4) rfl rfl (by kernel_rfl) (.int .i64 0) (by kernel_rfl) ?_;go_frame;refine ws_pure (some 5) rfl rfl (by kernel_rfl) (.bool true) (by kernel_rfl) ?_;go_frame;refine ws_nil ?_;refine wpS_of_wp ?_;refine sr fun _ cn1 => ?_;refine np (.bool true) <| np (.bool true) <| np (.int .i64 0) <| np (.bool false) <| np (.bool false) ?_;go_frame;refine wz cn1 ?_;clear cn1;refine wp_cond_false rfl ?_;refine wp_skip ?_;exact ⟨rfl, _, rfl, .tuple #[], results_none rfl _ _ _, rfl, rfl, rfl⟩
theorem tried_waits (gs gh ga gb : Nat) (ua : Option Addr) (uc : Nat) (xa : Option Addr) (xc : Nat) (l : List ND) (c : List Int) (h : HD) (L : List Bk) (w00 w : World) (hM0 : Mem w00 w ((gs, 27, [.slice ua l.length uc, .slice xa c.length xc]) :: (gh, 31, HD.cells h) :: (ga, 27, [.slice none 0 0, .slice none 0 0]) :: (gb, 31, HD.cells HD.zero) :: L)) (h1 : NSl w00 (.slice ua l.length uc) l) (h2 : SlI w00 (.slice xa c.length xc) c) (hl0 : l ≠ []) (hc0 : c ≠ []) (hl : l.length ≤ 1048576) (hc : c.length ≤ 1048576) (older : List PanicEntry) :
    CallsD Tryz.prog 92 #[.pointer (some ⟨gs, 0, none⟩), .pointer (some ⟨gh, 0, none⟩), .pointer (some ⟨ga, 0, none⟩), .pointer (some ⟨gb, 0, none⟩)] (.panicking ({ v := .iface 119 (.int .i64 1), recovered := false } :: older)) w fun e u' w' => e = .returned (.tuple #[]) ∧ u' = .panicking ({ v := .iface 119 (.int .i64 1), recovered := true } :: older) ∧ ∃ m1 m2 k1 k2 p1 p2, (l.length ≤ k1 ∧ k1 ≤ maxLen ∧ c.length ≤ k2 ∧ k2 ≤ maxLen ∧ (cellsOf l ++ p1).length = k1 * 8 ∧ (cellsI c ++ p2).length = k2 * 1) ∧
      Mem w00 w' ((ga, 27, [.slice (some ⟨m1, 0, none⟩) l.length k1, .slice (some ⟨m2, 0, none⟩) c.length k2]) :: (gb, 31, HD.cells h) :: (m1, 52, cellsOf l ++ p1) :: (m2, 2, cellsI c ++ p2) :: L) := by
  have hM := hM0;refine callsD_of_wpS Tryz.func92 rfl fun c₀ cs hu => ?_;simp only [Tryz.ntmps92, List.size_toArray, List.length_cons, List.length_nil, Nat.reduceAdd, Nat.reduceSub, Array.replicate_succ, Array.replicate_zero, List.push_toArray, List.append_toArray, List.nil_append, List.cons_append];refine wpS_seq ?_;refine ws_region [0, 1, 2, 3, 4, 5, 6] rfl ?_;refine ws_recover (some 7) rfl rfl (by kernel_rfl) (by kernel_rfl) (v := .iface 119 (.int .i64 1)) (cs' := { c₀ with mode := .panicking ({ v := .iface 119 (.int .i64 1), recovered := true } :: older) } :: cs) (by simp [recoverD, hu]) ?_;go_frame;refine ws_pure (some 8) rfl rfl (by kernel_rfl) (.tuple #[.int .i64 1, .bool true]) (by kernel_rfl) ?_;go_frame;refine ws_pure (some 6) rfl rfl (by kernel_rfl) (.tuple #[.int .i64 1, .bool true]) (by kernel_rfl) ?_;go_frame;refine ws_pure (some 9) rfl rfl (by kernel_rfl) (.int .i64 1) (by kernel_rfl) ?_;go_frame;refine ws_pure (some 10) rfl rfl (by kernel_rfl) (.bool true) (by kernel_rfl) ?_;go_frame;refine ws_pure (some 4) rfl rfl (by kernel_rfl) (.int .i64 1) (by kernel_rfl) ?_;go_frame;refine ws_pure (some 5) rfl rfl (by kernel_rfl) (.bool true) (by kernel_rfl) ?_;go_frame;refine ws_nil ?_;refine wpS_of_wp ?_;refine sr fun _ cn1 => ?_;refine np (.bool true) <| np (.bool true) <| np (.int .i64 1) <| np (.bool true) <| np (.bool true) ?_;go_frame;refine wz cn1 ?_;clear cn1;refine wp_cond_true rfl ?_;refine wa_start (fun w => Below w00.heap.size w00 w ∧ Blk w gs 27 [.slice ua l.length uc, .slice xa c.length xc] ∧ Blk w gh 31 (HD.cells h)) 5 rfl (by kernel_rfl) ?_;replace hM := hM.drew;refine wL 0 (some 16) (fun w hS => hS.2.1) ⟨hM.below, hM.blk 0 rfl, hM.blk 1 rfl⟩ ?_;go_frame;refine wL 2 (some 18) (fun w hS => hS.2.2) ⟨hM.below, hM.blk 0 rfl, hM.blk 1 rfl⟩ ?_;go_frame;refine wn 1 ?_;refine oc (some 17) (impl_copyOf (.slice ua l.length uc) (.slice xa c.length xc) l c _ (h1.below hM.below) (h2.below hM.below) hl0 hc0 hl hc) ?_;rintro e W1 ⟨m1, m2, k1, k2, p1, p2, rfl, ⟨q1, q2, q3, q4, q5, q6⟩, hMc⟩;replace hM := hM.join hMc;refine ⟨_, rfl, ⟨hM.below, hM.blk 2 rfl, hM.blk 3 rfl⟩, ?_⟩;go_frame;refine wn 3 ?_;refine oS hM 4 rfl [sa m1 l.length k1, sa m2 c.length k2] I_impl_Shared rfl ?_;clear hM;intro W2 hM;refine ⟨⟨hM.below, hM.blk 2 rfl, hM.blk 3 rfl⟩, ?_⟩;refine wn 4 ?_;refine oS hM 5 rfl (HD.cells h) I_impl_Hand (hd_one' _) ?_;clear hM;intro W3 hM;refine ⟨⟨hM.below, hM.blk 2 rfl, hM.blk 3 rfl⟩, ?_⟩;refine wa_done (by kernel_rfl) ?_;replace hM := hM.pull 1 rfl;replace hM := hM.pull 1 rfl;replace hM := hM.pull 5 rfl;replace hM := hM.pull 5 rfl;exact ⟨rfl, _, rfl, .tuple #[], results_none rfl _ _ _, rfl, rfl, m1, m2, k1, k2, p1, p2, ⟨q1, q2, q3, q4, q5, q6⟩, hM.sub (fun i => if i < 4 then i else i + 2) (fun i x hx => by match i, hx with | 0, hx => exact hx | 1, hx => exact hx | 2, hx => exact hx | 3, hx => exact hx | (n + 4), hx => rw [if_neg (by omega)]; exact hx) (fun i j _ _ e => by (try simp only at e); split at e <;> split at e <;> omega)⟩
theorem tried_says (ua : Option Addr) (uc : Nat) (xa : Option Addr) (xc : Nat) (l : List ND) (c : List Int) (task : Int) (h : HD) (bT : Nat) (es : Array MapEntry) (nT : Nat) (w0 : World) (h1 : NSl w0 (.slice ua l.length uc) l) (h2 : SlI w0 (.slice xa c.length xc) c) (hl : l.length ≤ 1048576) (hc : c.length ≤ 1048576) (hTb : Tbl w0 bT es nT) (lo : List ND) (co : List Int) (ho : HD) (hlo : 0 < lo.length) (hco : 0 < co.length)
    (hC : ∀ w : World, NSl w (.slice ua l.length uc) l → SlI w (.slice xa c.length xc) c → Tbl w bT es nT → Calls Tryz.prog 29 #[.map (some bT), .agg #[.slice ua l.length uc, .slice xa c.length xc], .int .i64 task, h.val] w (Says3 (lo, co, ho, true) w)) :
    Calls Tryz.prog 54 #[.map (some bT), .agg #[.slice ua l.length uc, .slice xa c.length xc], .int .i64 task, h.val] w0 (Says3 (lo, co, ho, true) w0) := by
  unfold HD.val at *;have hM := Mem.start w0
  go_enter_defers Tryz.func54, Tryz.ntmps54
  refine sr fun _ cn1 => ?_;refine nx hM 27 [.slice ua l.length uc, .slice xa c.length xc] ?_;clear hM;intro g1 W1 hM;refine nx hM 31 (HD.cells h) ?_;clear hM;intro g2 W2 hM;refine na hM [.slice none 0 0, .slice none 0 0] Z_impl_Shared ?_;clear hM;intro g3 W3 hM;refine na hM (HD.cells HD.zero) Z_impl_Hand ?_;clear hM;intro g4 W4 hM;refine np (.bool false) ?_;go_frame;refine wz cn1 ?_;clear cn1;refine sr fun _ cn2 => ?_;refine np (.func (.func 92) #[] #[pt g1 0, pt g2 0, pt g3 0, pt g4 0]) ?_;go_frame;refine wl_defer (by kernel_rfl) { target := .fn (.func 92) #[pt g1 0, pt g2 0, pt g3 0, pt g4 0], args := #[] } (by kernel_rfl) ?_;go_frame;refine wz cn2 ?_;clear cn2;refine sr fun _ cn3 => ?_;refine np (.map (some bT)) <| nl hM 3 rfl Tryz.underlying27 I_impl_Shared <| np (.int .i64 task) <| nl hM 2 rfl Tryz.underlying31 I_impl_Hand ?_;refine nc (hC _ (h1.below hM.below) (h2.below hM.below) (hTb.below hM.below hTb.lt)) ?_;rintro e W5 ⟨u', x', rfl, hO1, hO2, hb⟩;obtain ⟨v1, j1, r1, rfl, s11, s12, s13, s14, s19⟩ := ownr_blk hO1 hlo;obtain ⟨y1, i1, e1, rfl, s15, s16, s17, s18, s10⟩ := ownr_blk hO2 hco;replace hM := hM.join (Mem.two hb s14 s18 s13 s17 ne_types);refine ⟨_, rfl, ?_⟩;go_frame;refine np (.agg #[sa v1 lo.length j1, sa y1 co.length i1]) <| np (.agg (HD.cells ho).toArray) <| np (.bool true) ?_;refine nS hM 3 rfl [sa v1 lo.length j1, sa y1 co.length i1] I_impl_Shared rfl ?_;clear hM;intro W6 hM;refine nS hM 2 rfl (HD.cells ho) I_impl_Hand (hd_one' _) ?_;clear hM;intro W7 hM;refine np (.bool true) ?_;go_frame;refine wz cn3 ?_;clear cn3;refine wp_ret ?_;refine leaves_cons (f := 92) (args := #[pt g1 0, pt g2 0, pt g3 0, pt g4 0]) (by simp) (by kernel_rfl) ?_;refine (tried_idle g1 g2 g3 g4 _).mono ?_;rintro e u' w'' ⟨rfl, rfl, rfl⟩;exact ⟨_, ret_three (p := 8) (q := 9) (u := 10) (v := .bool true) rfl hM 3 2 rfl rfl rfl rfl rfl Tryz.underlying27 Tryz.underlying31 I_impl_Shared I_impl_Hand, _, _, rfl, own_nblk (hM.blk 0 rfl) s11 s12 (hM.base 0 rfl) hlo s19, own_iblk (hM.blk 1 rfl) s15 s16 (hM.base 1 rfl) hco s10, hM.below⟩
theorem tried_says_no (ua : Option Addr) (uc : Nat) (xa : Option Addr) (xc : Nat) (l : List ND) (c : List Int) (task : Int) (h : HD) (bT : Nat) (es : Array MapEntry) (nT : Nat) (w0 : World) (h1 : NSl w0 (.slice ua l.length uc) l) (h2 : SlI w0 (.slice xa c.length xc) c) (hl : l.length ≤ 1048576) (hc : c.length ≤ 1048576) (hTb : Tbl w0 bT es nT)
    (hC : ∀ w : World, NSl w (.slice ua l.length uc) l → SlI w (.slice xa c.length xc) c → Tbl w bT es nT → Calls Tryz.prog 29 #[.map (some bT), .agg #[.slice ua l.length uc, .slice xa c.length xc], .int .i64 task, h.val] w (Says3 ([], [], HD.zero, false) w)) :
    Calls Tryz.prog 54 #[.map (some bT), .agg #[.slice ua l.length uc, .slice xa c.length xc], .int .i64 task, h.val] w0 (Says3 ([], [], HD.zero, false) w0) := by
  unfold HD.val at *;have hM := Mem.start w0
  go_enter_defers Tryz.func54, Tryz.ntmps54
  refine sr fun _ cn1 => ?_;refine nx hM 27 [.slice ua l.length uc, .slice xa c.length xc] ?_;clear hM;intro g1 W1 hM;refine nx hM 31 (HD.cells h) ?_;clear hM;intro g2 W2 hM;refine na hM [.slice none 0 0, .slice none 0 0] Z_impl_Shared ?_;clear hM;intro g3 W3 hM;refine na hM (HD.cells HD.zero) Z_impl_Hand ?_;clear hM;intro g4 W4 hM;refine np (.bool false) ?_;go_frame;refine wz cn1 ?_;clear cn1;refine sr fun _ cn2 => ?_;refine np (.func (.func 92) #[] #[pt g1 0, pt g2 0, pt g3 0, pt g4 0]) ?_;go_frame;refine wl_defer (by kernel_rfl) { target := .fn (.func 92) #[pt g1 0, pt g2 0, pt g3 0, pt g4 0], args := #[] } (by kernel_rfl) ?_;go_frame;refine wz cn2 ?_;clear cn2;refine sr fun _ cn3 => ?_;refine np (.map (some bT)) <| nl hM 3 rfl Tryz.underlying27 I_impl_Shared <| np (.int .i64 task) <| nl hM 2 rfl Tryz.underlying31 I_impl_Hand ?_;refine nc (hC _ (h1.below hM.below) (h2.below hM.below) (hTb.below hM.below hTb.lt)) ?_;rintro e W5 ⟨u', x', rfl, hO1, hO2, hb⟩;obtain ⟨v1, j1, rfl, -, s11⟩ := (show OwnR _ _ _ _ 8 0 [] _ from hO1).slice;obtain ⟨y1, i1, rfl, -, s12⟩ := (show OwnR _ _ _ _ 1 0 [] _ from hO2).slice;replace hM := hM.call hb;refine ⟨_, rfl, ?_⟩;go_frame;refine np (.agg #[.slice v1 0 j1, .slice y1 0 i1]) <| np (.agg (HD.cells HD.zero).toArray) <| np (.bool false) ?_;refine nS hM 1 rfl [.slice v1 0 j1, .slice y1 0 i1] I_impl_Shared rfl ?_;clear hM;intro W6 hM;refine nS hM 0 rfl (HD.cells HD.zero) I_impl_Hand (hd_one' _) ?_;clear hM;intro W7 hM;refine np (.bool false) ?_;go_frame;refine wz cn3 ?_;clear cn3;refine wp_ret ?_;refine leaves_cons (f := 92) (args := #[pt g1 0, pt g2 0, pt g3 0, pt g4 0]) (by simp) (by kernel_rfl) ?_;refine (tried_idle g1 g2 g3 g4 _).mono ?_;rintro e u' w'' ⟨rfl, rfl, rfl⟩;exact ⟨_, ret_three (p := 8) (q := 9) (u := 10) (v := .bool false) rfl hM 1 0 rfl rfl rfl rfl rfl Tryz.underlying27 Tryz.underlying31 I_impl_Shared I_impl_Hand, _, _, rfl, OwnR.nil _ _ _ _ _ _ _ s11, OwnR.nil _ _ _ _ _ _ _ s12, hM.below⟩
theorem tried_no (ua : Option Addr) (uc : Nat) (xa : Option Addr) (xc : Nat) (l : List ND) (c : List Int) (task : Int) (h : HD) (bT : Nat) (es : Array MapEntry) (nT : Nat) (w0 : World) (h1 : NSl w0 (.slice ua l.length uc) l) (h2 : SlI w0 (.slice xa c.length xc) c) (hl : l.length ≤ 1048576) (hc : c.length ≤ 1048576) (hTb : Tbl w0 bT es nT)
    (hC : ∀ w : World, NSl w (.slice ua l.length uc) l → SlI w (.slice xa c.length xc) c → Tbl w bT es nT → Calls Tryz.prog 29 #[.map (some bT), .agg #[.slice ua l.length uc, .slice xa c.length xc], .int .i64 task, h.val] w (SaysP 0 w)) :
    Calls Tryz.prog 54 #[.map (some bT), .agg #[.slice ua l.length uc, .slice xa c.length xc], .int .i64 task, h.val] w0 (Says3 ([], [], HD.zero, false) w0) := by
  unfold HD.val at *;have hM := Mem.start w0
  go_enter_defers Tryz.func54, Tryz.ntmps54
  refine sr fun _ cn1 => ?_;refine nx hM 27 [.slice ua l.length uc, .slice xa c.length xc] ?_;clear hM;intro g1 W1 hM;refine nx hM 31 (HD.cells h) ?_;clear hM;intro g2 W2 hM;refine na hM [.slice none 0 0, .slice none 0 0] Z_impl_Shared ?_;clear hM;intro g3 W3 hM;refine na hM (HD.cells HD.zero) Z_impl_Hand ?_;clear hM;intro g4 W4 hM;refine np (.bool false) ?_;go_frame;refine wz cn1 ?_;clear cn1;refine sr fun _ cn2 => ?_;refine np (.func (.func 92) #[] #[pt g1 0, pt g2 0, pt g3 0, pt g4 0]) ?_;go_frame;refine wl_defer (by kernel_rfl) { target := .fn (.func 92) #[pt g1 0, pt g2 0, pt g3 0, pt g4 0], args := #[] } (by kernel_rfl) ?_;go_frame;refine wz cn2 ?_;clear cn2;refine sr fun _ cn3 => ?_;refine np (.map (some bT)) <| nl hM 3 rfl Tryz.underlying27 I_impl_Shared <| np (.int .i64 task) <| nl hM 2 rfl Tryz.underlying31 I_impl_Hand ?_;go_frame;refine wl_panics (by kernel_rfl) 29 #[.map (some bT), .agg #[.slice ua l.length uc, .slice xa c.length xc], .int .i64 task, .agg (HD.cells h).toArray] (by kernel_rfl) (hC _ (h1.below hM.below) (h2.below hM.below) (hTb.below hM.below hTb.lt)) ?_;rintro e W5 ⟨rfl, hb⟩;replace hM := hM.call hb;refine ⟨_, rfl, ?_⟩;refine leaves_cons (f := 92) (args := #[pt g1 0, pt g2 0, pt g3 0, pt g4 0]) (by simp) (by kernel_rfl) ?_;refine (tried_refuses g1 g2 g3 g4 _ []).mono ?_;rintro e u' w'' ⟨rfl, rfl, rfl⟩;exact ⟨_, ret_three (p := 8) (q := 9) (u := 10) (v := .bool false) rfl hM 1 0 rfl rfl rfl rfl rfl Tryz.underlying27 Tryz.underlying31 I_impl_Shared I_impl_Hand, _, _, rfl, own0, own0, hM.below⟩
theorem tried_wait (ua : Option Addr) (uc : Nat) (xa : Option Addr) (xc : Nat) (l : List ND) (c : List Int) (task : Int) (h : HD) (bT : Nat) (es : Array MapEntry) (nT : Nat) (w0 : World) (h1 : NSl w0 (.slice ua l.length uc) l) (h2 : SlI w0 (.slice xa c.length xc) c) (hl : l.length ≤ 1048576) (hc : c.length ≤ 1048576) (hTb : Tbl w0 bT es nT) (hl0 : l ≠ []) (hc0 : c ≠ [])
    (hC : ∀ w : World, NSl w (.slice ua l.length uc) l → SlI w (.slice xa c.length xc) c → Tbl w bT es nT → Calls Tryz.prog 29 #[.map (some bT), .agg #[.slice ua l.length uc, .slice xa c.length xc], .int .i64 task, h.val] w (SaysP 1 w)) :
    Calls Tryz.prog 54 #[.map (some bT), .agg #[.slice ua l.length uc, .slice xa c.length xc], .int .i64 task, h.val] w0 (Says3 (l, c, h, false) w0) := by
  unfold HD.val at *;have hM := Mem.start w0
  go_enter_defers Tryz.func54, Tryz.ntmps54
  refine sr fun _ cn1 => ?_;refine nx hM 27 [.slice ua l.length uc, .slice xa c.length xc] ?_;clear hM;intro g1 W1 hM;refine nx hM 31 (HD.cells h) ?_;clear hM;intro g2 W2 hM;refine na hM [.slice none 0 0, .slice none 0 0] Z_impl_Shared ?_;clear hM;intro g3 W3 hM;refine na hM (HD.cells HD.zero) Z_impl_Hand ?_;clear hM;intro g4 W4 hM;refine np (.bool false) ?_;go_frame;refine wz cn1 ?_;clear cn1;refine sr fun _ cn2 => ?_;refine np (.func (.func 92) #[] #[pt g1 0, pt g2 0, pt g3 0, pt g4 0]) ?_;go_frame;refine wl_defer (by kernel_rfl) { target := .fn (.func 92) #[pt g1 0, pt g2 0, pt g3 0, pt g4 0], args := #[] } (by kernel_rfl) ?_;go_frame;refine wz cn2 ?_;clear cn2;refine sr fun _ cn3 => ?_;refine np (.map (some bT)) <| nl hM 3 rfl Tryz.underlying27 I_impl_Shared <| np (.int .i64 task) <| nl hM 2 rfl Tryz.underlying31 I_impl_Hand ?_;go_frame;refine wl_panics (by kernel_rfl) 29 #[.map (some bT), .agg #[.slice ua l.length uc, .slice xa c.length xc], .int .i64 task, .agg (HD.cells h).toArray] (by kernel_rfl) (hC _ (h1.below hM.below) (h2.below hM.below) (hTb.below hM.below hTb.lt)) ?_;rintro e W5 ⟨rfl, hb⟩;replace hM := hM.call hb;refine ⟨_, rfl, ?_⟩;refine leaves_cons (f := 92) (args := #[pt g1 0, pt g2 0, pt g3 0, pt g4 0]) (by simp) (by kernel_rfl) ?_;have hM2 : Mem w0 W5 [(g1, 27, [.slice ua l.length uc, .slice xa c.length xc]), (g2, 31, (HD.cells h)), (g3, 27, [.slice none 0 0, .slice none 0 0]), (g4, 31, (HD.cells HD.zero))] := hM.sub (fun i => [3, 2, 1, 0].getD i i) (fun i b hb => by match i, hb with | 0, hb => exact hb | 1, hb => exact hb | 2, hb => exact hb | 3, hb => exact hb | (n + 4), hb => simp at hb) (fun i j hi hj e => by simp only [List.length_cons, List.length_nil] at hi hj; match i, j, hi, hj, e with | 0, 0, _, _, _ => rfl | 1, 1, _, _, _ => rfl | 2, 2, _, _, _ => rfl | 3, 3, _, _, _ => rfl | 0, 1, _, _, e => simp at e | 0, 2, _, _, e => simp at e | 0, 3, _, _, e => simp at e | 1, 0, _, _, e => simp at e | 1, 2, _, _, e => simp at e | 1, 3, _, _, e => simp at e | 2, 0, _, _, e => simp at e | 2, 1, _, _, e => simp at e | 2, 3, _, _, e => simp at e | 3, 0, _, _, e => simp at e | 3, 1, _, _, e => simp at e | 3, 2, _, _, e => simp at e);refine (tried_waits g1 g2 g3 g4 ua uc xa xc l c h [] w0 _ hM2 h1 h2 hl0 hc0 hl hc []).mono ?_;rintro e u' w'' ⟨rfl, rfl, m1, m2, k1, k2, p1, p2, ⟨q1, q2, q3, q4, q5, q6⟩, hM3⟩;refine ⟨_, ret_three (p := 8) (q := 9) (u := 10) (v := .bool false) rfl hM3 0 1 rfl rfl rfl rfl rfl Tryz.underlying27 Tryz.underlying31 I_impl_Shared I_impl_Hand, ?_⟩;exact ⟨_, _, rfl, own_nblk (hM3.blk 2 rfl) q1 q2 (hM3.base 2 rfl) (List.length_pos_iff.2 hl0) q5, own_iblk (hM3.blk 3 rfl) q3 q4 (hM3.base 3 rfl) (List.length_pos_iff.2 hc0) q6, hM3.below⟩
def faceR (l : List ND) (c : List Int) (h : HD) : TR → StepR
  | .done lo ho => doneR lo c ho
  | .gives k => if k == 1 then (l, c, h, false) else noR
def TR.right : TR → Prop
  | .done lo _ => lo.length ≤ 1048576
  | .gives k => k = 0 ∨ k = 1
theorem tried_at (ua : Option Addr) (uc : Nat) (xa : Option Addr) (xc : Nat) (l : List ND) (c : List Int) (task : Int) (h : HD) (bT : Nat) (es : Array MapEntry) (nT : Nat) (w0 : World) (h1 : NSl w0 (.slice ua l.length uc) l) (h2 : SlI w0 (.slice xa c.length xc) c) (hl : l.length ≤ 1048576) (hc : c.length ≤ 1048576) (hTb : Tbl w0 bT es nT) (jt : Nat) (ft : FuncId) (hft : Instr.findNow (.int .i64) (.int .i64 h.at_) es.toList 0 = some (some (jt, .func (.func ft) #[] #[]))) (hE : ∀ (vs : Array Value) (w : World), (callFunc ft vs).run Tryz.prog w = .ok (.enter ft vs) w) (R : TR) (hR : canB l c task h = true → R.right) (hTF : canB l c task h = true → TouchG ft l c task h R) :
    Calls Tryz.prog 54 #[.map (some bT), .agg #[.slice ua l.length uc, .slice xa c.length xc], .int .i64 task, h.val] w0 (Says3 (if canB l c task h then faceR l c h R else noR) w0) := by
  rcases tf (canB l c task h) with hok | hok
  · replace hTF := hTF hok
    replace hR := hR hok;rw [hok];obtain ⟨hl0, hc0, hl1, hc1, -⟩ := ok_facts (can_ok hok);cases R with
    | done lo ho =>
      have hC := fun (w : World) (h1 : NSl w (.slice ua l.length uc) l) (h2 : SlI w (.slice xa c.length xc) c) (hTb : Tbl w bT es nT) => touchedG_done ua uc xa xc l c task h bT es nT w h1 h2 hl hc hTb jt ft hft hE hok lo ho hR hTF
      show Calls _ _ _ _ (Says3 (doneR lo c ho) w0)
      rcases doneR_cases lo c ho with ⟨⟨hlo, -⟩, ⟨hco, -⟩, e⟩ | e
      · rw [e] at hC ⊢
        exact tried_says ua uc xa xc l c task h bT es nT w0 h1 h2 hl hc hTb lo c ho hlo hco hC
      · rw [e] at hC ⊢
        exact tried_says_no ua uc xa xc l c task h bT es nT w0 h1 h2 hl hc hTb hC
    | gives k =>
      have hC := fun (w : World) (h1 : NSl w (.slice ua l.length uc) l) (h2 : SlI w (.slice xa c.length xc) c) (hTb : Tbl w bT es nT) => touchedG_gives ua uc xa xc l c task h bT es nT w h1 h2 hl hc hTb jt ft hft hE hok k hTF;rcases hR with rfl | rfl
      · exact tried_no ua uc xa xc l c task h bT es nT w0 h1 h2 hl hc hTb hC
      · exact tried_wait ua uc xa xc l c task h bT es nT w0 h1 h2 hl hc hTb hl0 hc0 hC
  · rw [hok]
    have hC := fun (w : World) (h1 : NSl w (.slice ua l.length uc) l) (h2 : SlI w (.slice xa c.length xc) c) (hTb : Tbl w bT es nT) => touchedG_cannot ua uc xa xc l c task h bT es nT w h1 h2 hl hc hTb jt ft hft hE hok;exact tried_says_no ua uc xa xc l c task h bT es nT w0 h1 h2 hl hc hTb hC
theorem tried_miss (ua : Option Addr) (uc : Nat) (xa : Option Addr) (xc : Nat) (l : List ND) (c : List Int) (task : Int) (h : HD) (bT : Nat) (es : Array MapEntry) (nT : Nat) (w0 : World) (h1 : NSl w0 (.slice ua l.length uc) l) (h2 : SlI w0 (.slice xa c.length xc) c) (hl : l.length ≤ 1048576) (hc : c.length ≤ 1048576) (hTb : Tbl w0 bT es nT) (hft : Instr.findNow (.int .i64) (.int .i64 h.at_) es.toList 0 = some none) :
    Calls Tryz.prog 54 #[.map (some bT), .agg #[.slice ua l.length uc, .slice xa c.length xc], .int .i64 task, h.val] w0 (Says3 noR w0) :=
  tried_says_no ua uc xa xc l c task h bT es nT w0 h1 h2 hl hc hTb fun w h1 h2 hTb => touched_miss ua uc xa xc l c task h bT es nT w h1 h2 hl hc hTb hft
def addT (l : List ND) (task : Int) (h : HD) : TR :=
  if h.at_ == 5 then lockT l task h else if h.at_ == 6 then checkT l h else if h.at_ == 7 then makeT l h else hangT l h
theorem lockR_hold {l : List ND} {c : List Int} {task : Int} {h : HD} (hok : canB l c task h = true) (h1 : 1 ≤ h.at_) (a t : Int) (ht : 1 ≤ t ∧ t ≤ 26) : lockR l c task h a t = faceR l c h (holdT l task h a t) := by
  unfold lockR holdT;have hk := can_ok hok;simp only [l7okB, Bool.and_eq_true, sharedB] at hk;obtain ⟨⟨⟨⟨⟨n1, n2⟩, n3⟩, n4⟩, -⟩, -⟩ := hk;have n4' := inB_t n4;obtain ⟨c1, c2, -⟩ := countsB_some n2
  split
  · rename_i h7
    have hs : sharedB (lockB l a task).1 c = true := by
      unfold lockB at h7 ⊢
      split at h7
      · rename_i h8
        rw [if_pos h8]
        split at h7
        · rename_i h9
          rw [if_pos h9]
          show sharedB (giveO l a (task + 1)) c = true
          simp only [sharedB, Bool.and_eq_true];refine ⟨?_, n2⟩;unfold giveO
          split
          · rename_i n hn
            exact nodesB_setO n1 hn (by simp [inB]; omega)
          · exact n1
        · simp at h7
      · simp at h7
    show _ = doneR _ _ _
    unfold doneR;rw [hs, handB_at n3 h1 ht]
    rfl
  · rfl
theorem addR_can {l : List ND} {c : List Int} {task : Int} {h : HD} (hat : 5 ≤ h.at_ ∧ h.at_ ≤ 8) : addR l c task h = if canB l c task h then faceR l c h (addT l task h) else noR := by
  unfold addR;rw [can_l7, show inB h.at_ 5 8 = true by simp [inB]; omega];rcases tf (canB l c task h) with hok | hok
  · have hc := can_call hok (by omega)
    have e2 := lockR_hold hok (by omega) h.prev 6 (by omega);have e3 := lockR_hold hok (by omega) h.prev 9 (by omega);rw [hok];unfold addT;rcases (show h.c = 1 ∨ h.c = 2 ∨ h.c = 3 by omega) with e | e | e
    · rcases (show h.at_ = 5 ∨ h.at_ = 6 ∨ h.at_ = 7 ∨ h.at_ = 8 by omega) with d | d | d | d <;> simp [d, e, lockT, checkT, makeT, hangT, faceR, noR]
    · rcases (show h.at_ = 5 ∨ h.at_ = 6 ∨ h.at_ = 7 ∨ h.at_ = 8 by omega) with d | d | d | d
      · simp [d, e, lockT, ← e2]
      · simp only [d, e, checkT, faceR]
        simp
        split <;> rfl
      · simp [d, e, makeT, faceR]
      · simp [d, e, hangT, faceR]
    · rcases (show h.at_ = 5 ∨ h.at_ = 6 ∨ h.at_ = 7 ∨ h.at_ = 8 by omega) with d | d | d | d
      · simp [d, e, lockT, ← e3]
      all_goals simp [d, e, checkT, makeT, hangT, faceR, noR]
  · rw [hok]
    rfl
theorem addR_out {l : List ND} {c : List Int} {task : Int} {h : HD} (hat : ¬ (5 ≤ h.at_ ∧ h.at_ ≤ 8)) : addR l c task h = noR := by
  unfold addR;rw [can_l7, show inB h.at_ 5 8 = false by (rw [Bool.eq_false_iff]; simp [inB]; omega)]
  simp
theorem holdT_right {l : List ND} {task : Int} {h : HD} {a t : Int} (hl : l.length ≤ 1048576) : (holdT l task h a t).right := by
  unfold holdT
  split
  · rename_i h7
    show (lockB l a task).1.length ≤ 1048576
    unfold lockB
    repeat' split
    · show (giveO l a (task + 1)).length ≤ 1048576
      rw [giveO_len];exact hl
    · exact hl
    · simp
  · exact .inr rfl
theorem lockT_right {l : List ND} {task : Int} {h : HD} (hl : l.length ≤ 1048576) : (lockT l task h).right := by
  unfold lockT
  split
  · exact holdT_right hl
  · split
    · exact holdT_right hl
    · exact .inl rfl
theorem checkT_right {l : List ND} {h : HD} (hl : l.length ≤ 1048576) : (checkT l h).right := by
  unfold checkT
  split
  · exact .inl rfl
  · split <;> exact hl
theorem makeT_right {l : List ND} {h : HD} (hl : l.length ≤ 30) : (makeT l h).right := by
  have h3 := makeR_len l h;unfold makeT
  split
  · exact .inl rfl
  · show (makeR l h).1.length ≤ 1048576
    omega
theorem hangT_right {l : List ND} {h : HD} (hl : l.length ≤ 1048576) : (hangT l h).right := by
  unfold hangT
  split
  · exact .inl rfl
  · show (setK l h.prev _).length ≤ 1048576
    simpa [setK] using hl
theorem add_tried (ua : Option Addr) (uc : Nat) (xa : Option Addr) (xc : Nat) (l : List ND) (c : List Int) (task : Int) (h : HD) (hl : l.length ≤ 1048576) (hc : c.length ≤ 1048576) (w0 : World) (bT : Nat) (h1 : NSl w0 (.slice ua l.length uc) l) (h2 : SlI w0 (.slice xa c.length xc) c) (hTb : Tbl w0 bT addTbl 4) :
    Calls Tryz.prog 54 #[.map (some bT), .agg #[.slice ua l.length uc, .slice xa c.length xc], .int .i64 task, h.val] w0 (Says3 (addR l c task h) w0) := by
  by_cases hat : 5 ≤ h.at_ ∧ h.at_ ≤ 8
  · rw [addR_can hat]
    have hl30 : canB l c task h = true → l.length ≤ 30 := fun hok => by
      obtain ⟨-, -, -, -, -, -, -, -, -, hn, -⟩ := ok_facts (can_ok hok);exact (nodes_some hn).2
    unfold addT;rcases (show h.at_ = 5 ∨ h.at_ = 6 ∨ h.at_ = 7 ∨ h.at_ = 8 by omega) with e | e | e | e
    · rw [show ((h.at_ == 5) = true) from by simp [e]]
      exact tried_at ua uc xa xc l c task h bT addTbl 4 w0 h1 h2 hl hc hTb 0 93 (by rw [e]; rfl) (fun _ _ => by kernel_rfl) (lockT l task h) (fun _ => lockT_right hl) fun hok => impl_lockPrev l c task h hok
    · rw [show ((h.at_ == 5) = false) from by simp [e], show ((h.at_ == 6) = true) from by simp [e]]
      exact tried_at ua uc xa xc l c task h bT addTbl 4 w0 h1 h2 hl hc hTb 1 94 (by rw [e]; rfl) (fun _ _ => by kernel_rfl) (checkT l h) (fun _ => checkT_right hl) fun hok => impl_checkPlace l c task h hok
    · rw [show ((h.at_ == 5) = false) from by simp [e], show ((h.at_ == 6) = false) from by simp [e], show ((h.at_ == 7) = true) from by simp [e]]
      exact tried_at ua uc xa xc l c task h bT addTbl 4 w0 h1 h2 hl hc hTb 2 95 (by rw [e]; rfl) (fun _ _ => by kernel_rfl) (makeT l h) (fun hok => makeT_right (hl30 hok)) fun hok => impl_makeNode l c task h hok
    · rw [show ((h.at_ == 5) = false) from by simp [e], show ((h.at_ == 6) = false) from by simp [e], show ((h.at_ == 7) = false) from by simp [e]]
      exact tried_at ua uc xa xc l c task h bT addTbl 4 w0 h1 h2 hl hc hTb 3 96 (by rw [e]; rfl) (fun _ _ => by kernel_rfl) (hangT l h) (fun _ => hangT_right hl) fun hok => impl_hangNode l c task h hok
  · rw [addR_out hat]
    refine tried_miss ua uc xa xc l c task h bT addTbl 4 w0 h1 h2 hl hc hTb ?_;have e1 : (h.at_ == 5) = false := by simp; omega
    have e2 : (h.at_ == 6) = false := by simp; omega
    have e3 : (h.at_ == 7) = false := by simp; omega
    have e4 : (h.at_ == 8) = false := by simp; omega
    simp [addTbl, Instr.findNow, Instr.sameNow, e1, e2, e3, e4]
theorem addR_cases (l : List ND) (c : List Int) (task : Int) (h : HD) : (∃ lo co ho bo, addR l c task h = (lo, co, ho, bo) ∧ (0 < lo.length ∧ lo.length ≤ 30) ∧ (0 < co.length ∧ co.length ≤ 6)) ∨ addR l c task h = ([], [], HD.zero, false) := by
  by_cases hat : 5 ≤ h.at_ ∧ h.at_ ≤ 8
  · rw [addR_can hat]
    rcases tf (canB l c task h) with hok | hok
    · rw [hok]
      obtain ⟨hl0, hc0, hl1, hc1, -, kt, -, hkt, -, hn, -⟩ := ok_facts (can_ok hok);have hl30 := (nodes_some hn).2;cases hT : addT l task h with
      | done lo ho =>
        show (∃ lo' co ho' bo, doneR lo c ho = _ ∧ _) ∨ doneR lo c ho = _
        rcases doneR_cases lo c ho with ⟨a, b, e⟩ | e
        · exact .inl ⟨_, _, _, _, e, a, b⟩
        · exact .inr e
      | gives k =>
        show (∃ lo' co ho' bo, (if k == 1 then (l, c, h, false) else noR) = _ ∧ _) ∨ (if k == 1 then (l, c, h, false) else noR) = _
        split
        · refine .inl ⟨_, _, _, _, rfl, ⟨hl1, hl30⟩, hc1, ?_⟩
          have h3 := can_ok hok;simp only [l7okB, Bool.and_eq_true, sharedB] at h3;exact (countsB_some h3.1.1.1.1.2).2.1
        · exact .inr rfl
    · rw [hok]
      exact .inr rfl
  · exact .inr (addR_out hat)
theorem impl_AddStep (ua : Option Addr) (uc : Nat) (xa : Option Addr) (xc : Nat) (l : List ND) (c : List Int) (task : Int) (h : HD) (w0 : World) (h1 : NSl w0 (.slice ua l.length uc) l) (h2 : SlI w0 (.slice xa c.length xc) c) (hl : l.length ≤ 1048576) (hc : c.length ≤ 1048576) :
    Calls Tryz.prog 24 #[.agg #[.slice ua l.length uc, .slice xa c.length xc], .int .i64 task, h.val] w0 (Says3 (addR l c task h) w0) := by
  have hC := fun (w : World) (bT : Nat) => add_tried ua uc xa xc l c task h hl hc w bT;rcases addR_cases l c task h with ⟨lo, co, ho, bo, e, ⟨hlo, -⟩, ⟨hco, -⟩⟩ | e
  · rw [e] at hC ⊢
    clear e;unfold HD.val at *;have hM := Mem.start w0
    go_enter Tryz.func24, Tryz.ntmps24
    refine sr fun _ cn1 => ?_;refine nx hM 27 [.slice ua l.length uc, .slice xa c.length xc] ?_;clear hM;intro g1 W1 hM;refine nx hM 31 (HD.cells h) ?_;clear hM;intro g2 W2 hM;refine na hM [.slice none 0 0, .slice none 0 0] Z_impl_Shared ?_;clear hM;intro g3 W3 hM;refine na hM (HD.cells HD.zero) Z_impl_Hand ?_;clear hM;intro g4 W4 hM;refine np (.bool false) ?_;go_frame;refine wz cn1 ?_;clear cn1;refine wp_seq_k fun Kn2 cn2 => ?_;refine wa_start (fun w => Below w0.heap.size w0 w ∧ Blk w g1 27 [.slice ua l.length uc, .slice xa c.length xc] ∧ Blk w g2 31 (HD.cells h)) 11 rfl (by kernel_rfl) ?_;replace hM := hM.drew;refine wL 1 (some 10) (fun w hS => hS.2.1) ⟨hM.below, hM.blk 3 rfl, hM.blk 2 rfl⟩ <| wt 2 (some 11) (.int .i64 task) ⟨hM.below, hM.blk 3 rfl, hM.blk 2 rfl⟩ ?_;go_frame;refine wL 3 (some 12) (fun w hS => hS.2.2) ⟨hM.below, hM.blk 3 rfl, hM.blk 2 rfl⟩ ?_;go_frame;refine wn 0 ?_;refine oc (some 9) (impl_addTouches _) ?_;rintro e W5 ⟨bT, rfl, hB, hT, hb⟩;replace hM := hM.call hb;refine ⟨_, rfl, ⟨hM.below, hM.blk 3 rfl, hM.blk 2 rfl⟩, ?_⟩;go_frame;refine wn 4 ?_;refine oc (some 13) (hC _ bT (h1.below hM.below) (h2.below hM.below) hT) ?_;rintro e W6 ⟨u', x', rfl, hO1, hO2, hb⟩;obtain ⟨v1, j1, r1, rfl, s11, s12, s13, s14, s19⟩ := ownr_blk hO1 hlo;obtain ⟨y1, i1, e1, rfl, s15, s16, s17, s18, s10⟩ := ownr_blk hO2 hco;replace hM := hM.join (Mem.two hb s14 s18 s13 s17 ne_types);refine ⟨_, rfl, wk ⟨hM.below, hM.blk 5 rfl, hM.blk 4 rfl⟩ fun hs => ?_⟩;go_frame;refine wt 5 (some 14) (.agg #[sa v1 lo.length j1, sa y1 co.length i1]) hs <| wt 6 (some 15) (.agg (HD.cells ho).toArray) hs <| wt 7 (some 16) (.bool bo) hs ?_;go_frame;refine wn 8 ?_;refine oS hM 3 rfl [sa v1 lo.length j1, sa y1 co.length i1] I_impl_Shared rfl ?_;clear hM;intro W7 hM;refine ⟨⟨hM.below, hM.blk 5 rfl, hM.blk 4 rfl⟩, ?_⟩;refine wn 9 ?_;refine oS hM 2 rfl (HD.cells ho) I_impl_Hand (hd_one' _) ?_;clear hM;intro W8 hM;refine wk ⟨hM.below, hM.blk 5 rfl, hM.blk 4 rfl⟩ fun hs => ?_;refine wt 10 (some 8) (.bool bo) hs ?_;go_frame;refine wa_done (by kernel_rfl) ?_;refine cn2 _ _ ?_;clear cn2;refine wp_ret ?_;exact b3 hM 3 2 rfl rfl ⟨_, _, rfl, own_nblk (hM.blk 0 rfl) s11 s12 (hM.base 0 rfl) hlo s19, own_iblk (hM.blk 1 rfl) s15 s16 (hM.base 1 rfl) hco s10, hM.below⟩
  · rw [e] at hC ⊢
    clear e;unfold HD.val at *;have hM := Mem.start w0
    go_enter Tryz.func24, Tryz.ntmps24
    refine sr fun _ cn1 => ?_;refine nx hM 27 [.slice ua l.length uc, .slice xa c.length xc] ?_;clear hM;intro g1 W1 hM;refine nx hM 31 (HD.cells h) ?_;clear hM;intro g2 W2 hM;refine na hM [.slice none 0 0, .slice none 0 0] Z_impl_Shared ?_;clear hM;intro g3 W3 hM;refine na hM (HD.cells HD.zero) Z_impl_Hand ?_;clear hM;intro g4 W4 hM;refine np (.bool false) ?_;go_frame;refine wz cn1 ?_;clear cn1;refine wp_seq_k fun Kn2 cn2 => ?_;refine wa_start (fun w => Below w0.heap.size w0 w ∧ Blk w g1 27 [.slice ua l.length uc, .slice xa c.length xc] ∧ Blk w g2 31 (HD.cells h)) 11 rfl (by kernel_rfl) ?_;replace hM := hM.drew;refine wL 1 (some 10) (fun w hS => hS.2.1) ⟨hM.below, hM.blk 3 rfl, hM.blk 2 rfl⟩ <| wt 2 (some 11) (.int .i64 task) ⟨hM.below, hM.blk 3 rfl, hM.blk 2 rfl⟩ ?_;go_frame;refine wL 3 (some 12) (fun w hS => hS.2.2) ⟨hM.below, hM.blk 3 rfl, hM.blk 2 rfl⟩ ?_;go_frame;refine wn 0 ?_;refine oc (some 9) (impl_addTouches _) ?_;rintro e W5 ⟨bT, rfl, hB, hT, hb⟩;replace hM := hM.call hb;refine ⟨_, rfl, ⟨hM.below, hM.blk 3 rfl, hM.blk 2 rfl⟩, ?_⟩;go_frame;refine wn 4 ?_;refine oc (some 13) (hC _ bT (h1.below hM.below) (h2.below hM.below) hT) ?_;rintro e W6 ⟨u', x', rfl, hO1, hO2, hb⟩;obtain ⟨v1, j1, rfl, -, s11⟩ := (show OwnR _ _ _ _ 8 0 [] _ from hO1).slice;obtain ⟨y1, i1, rfl, -, s12⟩ := (show OwnR _ _ _ _ 1 0 [] _ from hO2).slice;replace hM := hM.call hb;refine ⟨_, rfl, wk ⟨hM.below, hM.blk 3 rfl, hM.blk 2 rfl⟩ fun hs => ?_⟩;go_frame;refine wt 5 (some 14) (.agg #[.slice v1 0 j1, .slice y1 0 i1]) hs <| wt 6 (some 15) (.agg (HD.cells HD.zero).toArray) hs <| wt 7 (some 16) (.bool false) hs ?_;go_frame;refine wn 8 ?_;refine oS hM 1 rfl [.slice v1 0 j1, .slice y1 0 i1] I_impl_Shared rfl ?_;clear hM;intro W7 hM;refine ⟨⟨hM.below, hM.blk 3 rfl, hM.blk 2 rfl⟩, ?_⟩;refine wn 9 ?_;refine oS hM 0 rfl (HD.cells HD.zero) I_impl_Hand (hd_one' _) ?_;clear hM;intro W8 hM;refine wk ⟨hM.below, hM.blk 3 rfl, hM.blk 2 rfl⟩ fun hs => ?_;refine wt 10 (some 8) (.bool false) hs ?_;go_frame;refine wa_done (by kernel_rfl) ?_;refine cn2 _ _ ?_;clear cn2;refine wp_ret ?_;exact b3 hM 1 0 rfl rfl ⟨_, _, rfl, OwnR.nil _ _ _ _ _ _ _ s11, OwnR.nil _ _ _ _ _ _ _ s12, hM.below⟩
end Go.Proofs.YthkbmdhcpandmaaGreat
