import Derived.Test.YtfjafncipjdnfaaGreatDrawNode
import Derived.Test.YtfjafncipjdnfaaGreatHandImpl
namespace Go.Proofs.YtfjafncipjdnfaaGreat
open Go.ChangeShapes Go.WideShapes Go.ChangeAt Go.RowKit Go.Deep
set_option linter.unusedVariables false
structure Byte where
  n : Int
  lo : 0 ≤ n
  hi : n ≤ 255
instance : Inhabited Byte := ⟨⟨0, by decide, by decide⟩⟩
theorem DM (l : List Byte) : (l.flatMap fun b => [Value.int .u8 b.n]) = (l.map Byte.n).map (Value.int .u8) := by
  induction l with
  | nil => rfl
  | cons a r ih => simp only [List.flatMap_cons, ih]; rfl
theorem DP {n : Int} (h : (Lit.int .u8 n).wf = true) : 0 ≤ n ∧ n ≤ 255 := by
  simpa [Lit.wf, IntKind.min, IntKind.max, IntKind.signed, IntKind.bits] using h
set_option maxRecDepth 100000 in
theorem uM {H : Type} {enc : TypeId × Value → H} {w : World} {base b0 : Nat} {spare : Nat → Bool} {held : Bool} {v : Value} {d : DataW H} {p : List MemPlace} (hv : Value.okWide Tryz.prog w .any b0 22 v)
    (h : DataW.Trod enc Tryz.prog w base spare held 22 v d p) : ∃ l : List Int, Bts w.heap.size w v l := by
  obtain ⟨a, len, cap, rfl⟩ := okWide_slice Tryz.underlying22 hv
  obtain ⟨l, hl, hs⟩ := GN (fun b : Byte => [Value.int .u8 b.n]) 1 (fun _ => rfl) (by omega) Tryz.underlying22 (by kernel_rfl) (fun n cs x hx => by
    obtain ⟨k, e, _, hw⟩ := DataW.trod_int Tryz.underlying5 hx
    have hb := DP hw
    exact ⟨⟨k, hb.1, hb.2⟩, e⟩) h
  subst hl
  rw [DM] at hs
  refine ⟨l.map Byte.n, Bts.of_sl (by simpa using hs) (fun x hx => ?_)⟩
  obtain ⟨b, -, rfl⟩ := List.mem_map.1 hx
  exact ⟨b.lo, b.hi⟩
set_option maxRecDepth 100000
set_option maxHeartbeats 16000000
set_option linter.unusedSimpArgs false
def DO (a b : ND) : Bool := a.k == b.k && (a.v == b.v && (a.l == b.l && (a.r == b.r && (a.o == b.o && (a.g == b.g && (a.lt == b.lt && (a.rt == b.rt && true)))))))
theorem IN (a : ND) : DO a a = true := by simp [DO]
theorem oP (d : Nat) (w : World) (a b : ND) : (Op.equalIn (d + 2) 37 (.agg a.cells.toArray) (.agg b.cells.toArray)).run Tryz.prog w = .ok (DO a b) w := by
  rw [run_equalIn_struct w (d + 1) 37 _ _ (by kernel_rfl) (by kernel_rfl)];simp only [Program.fieldsOf, IA];exact eqf_cons (by decide) (by kernel_rfl) (by kernel_rfl) (run_equalIn_int _ _ _ .i64 .i64 _ _ bA) (eqf_cons (by decide) (by kernel_rfl) (by kernel_rfl) (run_equalIn_int _ _ _ .i64 .i64 _ _ bA) (eqf_cons (by decide) (by kernel_rfl) (by kernel_rfl) (run_equalIn_int _ _ _ .i64 .i64 _ _ bA) (eqf_cons (by decide) (by kernel_rfl) (by kernel_rfl) (run_equalIn_int _ _ _ .i64 .i64 _ _ bA) (eqf_cons (by decide) (by kernel_rfl) (by kernel_rfl) (run_equalIn_int _ _ _ .i64 .i64 _ _ bA) (eqf_cons (by decide) (by kernel_rfl) (by kernel_rfl) (run_equalIn_bool' _ _ _ _ _ eD) (eqf_cons (by decide) (by kernel_rfl) (by kernel_rfl) (run_equalIn_int _ _ _ .i64 .i64 _ _ bA) (eqf_cons (by decide) (by kernel_rfl) (by kernel_rfl) (run_equalIn_int _ _ _ .i64 .i64 _ _ bA) (eqf_nil _ _ _))))))))
theorem cQ {f : Operand → Value} {o : Oper} {w : World} {T' : TypeId} {x y : Operand} (a b : ND) (ho : o.op = .binOp .neq 37 x y T') (hx : f x = .agg a.cells.toArray) (hy : f y = .agg b.cells.toArray) : (execOp f o).run Tryz.prog w = .ok (.value (.bool (!(DO a b)))) w := by
  have h := oP 9998 w a b;have hg : Tryz.prog.eqGuardType Tryz.prog.depth 37 = false := by kernel_rfl
  unfold execOp;simp only [ho, hx, hy, Sem.run_bind, run_eqGuard_agg w .neq 37 x y _ _ hg, Result.andThen_ok, run_neq_struct];rw [show Op.equalIn 10000 37 (.agg a.cells.toArray) (.agg b.cells.toArray) = Op.equalIn (9998 + 2) 37 (.agg a.cells.toArray) (.agg b.cells.toArray) from rfl, h]
  rfl
theorem NJ (v1 v2 : Value) (l : List Int) (w : World) (h1 : SlI w v1 l) (h2 : SlI w v2 l) :
    Calls Tryz.prog 60 #[v1, v2] w fun e w' => e = .returned (.bool true) ∧ Below w.heap.size w w' := by
  by_cases hn : l = []
  · subst hn
    obtain ⟨a1, c1, rfl⟩ := h1.nil;obtain ⟨a2, c2, rfl⟩ := h2.nil;clear h1 h2
    go_enter Tryz.func60, Tryz.ntmps60
    go_wp2
    go_loopw [5] (fun i wr => i = iJ 0 ∧ Below w.heap.size w wr) (fun i _ => 0)
    case atStart => exact ⟨rfl, Below.refl _ _⟩
    case round =>
      obtain ⟨rfl, hb⟩ := hrel
      go_wp2
      go_ret
      exact ⟨rfl, hb⟩
  · obtain ⟨b1, o1, c1, rfl, k1, m1, s1, H1⟩ := h1.at hn
    obtain ⟨b2, o2, c2, rfl, k2, m2, s2, H2⟩ := h2.at hn;unfold maxLen at m1 m2;clear h1 h2
    go_enter Tryz.func60, Tryz.ntmps60
    go_wp2
    go_loopw [5] (fun i wr => ∃ k : Nat, k ≤ l.length ∧ i = iJ k ∧ Below w.heap.size w wr) (fun i _ => l.length - (intOf i).toNat)
    case atStart => exact ⟨0, Nat.zero_le _, rfl, Below.refl _ _⟩
    case round =>
      obtain ⟨k, hk, rfl, hb⟩ := hrel
      by_cases hlt : k < l.length
      · obtain ⟨n, hg⟩ : ∃ n, l[k]? = some n := ⟨_, List.getElem?_eq_getElem hlt⟩
        have A1 : wr.cell? ⟨b1, o1 + k, none⟩ = some (iJ n) := (hb.cell (p := ⟨b1, o1 + k, none⟩) s1).trans (H1 k n hg);have A2 : wr.cell? ⟨b2, o2 + k, none⟩ = some (iJ n) := (hb.cell (p := ⟨b2, o2 + k, none⟩) s2).trans (H2 k n hg);have i0 : (0 : Int) ≤ (k : Int) := by omega
        have i1 : (k : Int) < (l.length : Int) := by omega
        clear hg H1 H2;have HB := Lib.hid hb;clear hb
        go_wp2
        go_region_held3 (fun w' => w'.cell? ⟨b1, o1 + k, none⟩ = some (iJ n) ∧ w'.cell? ⟨b2, o2 + k, none⟩ = some (iJ n)) (go_keep) (fail)
        go_wp2
        go_roundw
        case rel => exact ⟨k + 1, by omega, by go_num, by repeat (first | exact HB.out | refine Below.drew ?_)⟩
        case measure => simp [intOf]; omega
      · obtain rfl : k = l.length := by omega
        clear H1 H2
        go_wp2
        go_ret
        exact ⟨rfl, hb⟩
theorem YI (a1 a2 : Option Addr) (c1 c2 : Nat) (w0 : World) :
    Calls Tryz.prog 31 #[.slice a1 0 c1, .slice a2 0 c2] w0 fun e w' => e = .returned (.bool true) ∧ Below w0.heap.size w0 w' := by
  have hM := Mem.start w0
  go_enter Tryz.func31, Tryz.ntmps31
  refine sr fun _ cn1 => ?_;refine np (.bool false) ?_;go_frame;refine wz cn1 ?_;clear cn1;refine wp_seq_k fun Kn2 cn2 => ?_;refine sr fun _ cn3 => ?_;refine np (.slice a1 0 c1) <| np (iJ 0) <| np (.slice a2 0 c2) <| np (iJ 0) <| np (.bool false) ?_;go_frame;refine wz cn3 ?_;clear cn3;refine wp_cond_false rfl ?_;refine wp_skip ?_;refine cn2 _ _ ?_;clear cn2;refine wp_seq_k fun Kn4 cn4 => ?_;refine sr fun _ cn5 => ?_;refine np (iJ 0) ?_;go_frame;refine wz cn5 ?_;clear cn5;refine wp_block ?_;refine wp_loop_rounds 1 ?_;rw [rounds_succ];refine wp_seq_k fun Kn6 cn6 => ?_;refine sr fun _ cn7 => ?_;refine np (iJ 0) <| np (.slice a1 0 c1) <| np (iJ 0) <| np (.bool false) ?_;go_frame;refine wz cn7 ?_;clear cn7;refine wp_cond_false rfl ?_;refine wp_exit ?_;refine cn4 _ _ ?_;clear cn4;refine sr fun _ cn8 => ?_;refine np (.bool true) ?_;go_frame;refine wz cn8 ?_;clear cn8;refine wp_ret ?_;exact bt ⟨rfl, hM.below⟩
theorem XI  (b1 o1 b2 o2 : Nat) (l : List ND) (hl : l.length ≤ 1048576) (c1 c2 : Nat) (w0 : World) (sA : b1 < w0.heap.size) (sB : b2 < w0.heap.size) (G1 : ∀ k n, l[k]? = some n → At8 w0 b1 (o1 + k * 8) n) (G2 : ∀ k n, l[k]? = some n → At8 w0 b2 (o2 + k * 8) n) :
    Calls Tryz.prog 31 #[.slice (some ⟨b1, o1, none⟩) l.length c1, .slice (some ⟨b2, o2, none⟩) l.length c2] w0 fun e w' => e = .returned (.bool true) ∧ Below w0.heap.size w0 w' := by
  have hM := Mem.start w0
  go_enter Tryz.func31, Tryz.ntmps31
  refine sr fun _ cn1 => ?_;refine np (.bool false) ?_;go_frame;refine wz cn1 ?_;clear cn1;refine wp_seq_k fun Kn2 cn2 => ?_;refine sr fun _ cn3 => ?_;refine np (.slice (some ⟨b1, o1, none⟩) l.length c1) <| np (iJ (l.length : Int)) <| np (.slice (some ⟨b2, o2, none⟩) l.length c2) <| np (iJ (l.length : Int)) ?_;go_frame;refine qL (by kernel_rfl) (b := ((l.length : Int) != (l.length : Int))) (by kernel_rfl) ((bne_self_eq_false _)) ?_;go_frame;refine wz cn3 ?_;clear cn3;refine wp_cond_false rfl ?_;refine wp_skip ?_;refine cn2 _ _ ?_;clear cn2;refine wp_seq_k fun Kn4 cn4 => ?_;refine sr fun _ cn5 => ?_;refine np (iJ 0) ?_;go_frame;refine wz cn5 ?_;clear cn5;refine wp_block ?_;refine wp_loop (fun act w => ∃ (k : Nat) (U1 : Nat → Value), act = ⟨#[.slice (some ⟨b1, o1, none⟩) l.length c1, .slice (some ⟨b2, o2, none⟩) l.length c2, uD, uD, (U1 0), iJ (k : Int), .slice (some ⟨b1, o1, none⟩) l.length c1, iJ (l.length : Int), .slice (some ⟨b2, o2, none⟩) l.length c2, iJ (l.length : Int), .bool false, (U1 1), (U1 2), (U1 3), (U1 4), (U1 5), (U1 6), (U1 7), (U1 8), (U1 9), (U1 10), (U1 11), (U1 12), (U1 13), (U1 14), (U1 15)], []⟩ ∧ Mem w0 w [] ∧ (k ≤ l.length)) (fun act _ => l.length - (intOf (act.tmps.getD 5 undef)).toNat) ?_ ?_;exact ⟨0, exU (4 :: List.range' 11 15) ⟨hM, by omega⟩⟩;clear hM;rintro act w ⟨k, U1, rfl, hM, hk⟩;refine wp_seq_k fun Kn6 cn6 => ?_;refine sr fun _ cn7 => ?_;refine np (iJ (k : Int)) <| np (.slice (some ⟨b1, o1, none⟩) l.length c1) <| np (iJ (l.length : Int)) <| np (.bool (decide ((k : Int) < (l.length : Int)))) ?_;go_frame;refine wz cn7 ?_;clear cn7;rcases tf (decide ((k : Int) < (l.length : Int))) with hx1 | hx1;rw [hx1];have hkl : k < l.length := by simp at hx1; omega
  obtain ⟨⟨nkk, nkv, nkl, nkr, nko, nkg, nklt, nkrt⟩, hnk⟩ : ∃ n, l[k]? = some n := ⟨_, List.getElem?_eq_getElem hkl⟩;refine wp_cond_true rfl ?_;refine wp_skip ?_;refine cn6 _ _ ?_;clear cn6;refine wp_seq_k fun Kn8 cn8 => ?_;refine wp_block ?_;refine wp_seq_k fun Kn9 cn9 => ?_;refine wa_start (fun w => Below w0.heap.size w0 w ∧ True) 9 rfl (by kernel_rfl) ?_;replace hM := hM.drew;refine wt 0 (some 17) (.slice (some ⟨b1, o1, none⟩) l.length c1) ⟨hM.below, trivial⟩ <| wt 1 (some 18) (iJ (k : Int)) ⟨hM.below, trivial⟩ ?_;go_frame;refine wq 2 (some 19) (pt b1 (o1 + k * 8)) ⟨hM.below, trivial⟩ rfl (fun w hS => r_index 24 37 _ _ rfl b1 o1 l.length c1 8 k rfl rfl rfl (by omega) fA lA) ?_;go_frame;refine wq 3 (some 20) (.agg (ND.cells ⟨nkk, nkv, nkl, nkr, nko, nkg, nklt, nkrt⟩).toArray) ⟨hM.below, trivial⟩ rfl (fun w hS => r_cells 37 _ rfl b1 (o1 + k * 8) rfl IA (ND.cells ⟨nkk, nkv, nkl, nkr, nko, nkg, nklt, nkrt⟩) lA (zC (Mem.ofBelow hS.1) sA (G1 k _ hnk))) ?_;refine wt 4 (some 21) (.slice (some ⟨b2, o2, none⟩) l.length c2) ⟨hM.below, trivial⟩ <| wt 5 (some 22) (iJ (k : Int)) ⟨hM.below, trivial⟩ ?_;go_frame;refine wq 6 (some 23) (pt b2 (o2 + k * 8)) ⟨hM.below, trivial⟩ rfl (fun w hS => r_index 24 37 _ _ rfl b2 o2 l.length c2 8 k rfl rfl rfl (by omega) fA lA) ?_;go_frame;refine wq 7 (some 24) (.agg (ND.cells ⟨nkk, nkv, nkl, nkr, nko, nkg, nklt, nkrt⟩).toArray) ⟨hM.below, trivial⟩ rfl (fun w hS => r_cells 37 _ rfl b2 (o2 + k * 8) rfl IA (ND.cells ⟨nkk, nkv, nkl, nkr, nko, nkg, nklt, nkrt⟩) lA (zC (Mem.ofBelow hS.1) sB (G2 k _ hnk))) ?_;go_frame;refine wq 8 (some 25) (.bool false) ⟨hM.below, trivial⟩ rfl (fun w hS => r_eq (v := .bool (!(DO (⟨nkk, nkv, nkl, nkr, nko, nkg, nklt, nkrt⟩) (⟨nkk, nkv, nkl, nkr, nko, nkg, nklt, nkrt⟩)))) (cQ ⟨nkk, nkv, nkl, nkr, nko, nkg, nklt, nkrt⟩ ⟨nkk, nkv, nkl, nkr, nko, nkg, nklt, nkrt⟩ rfl rfl rfl) (congrArg Value.bool (congrArg Bool.not (IN _)))) ?_;go_frame;refine wa_done (by kernel_rfl) ?_;refine cn9 _ _ ?_;clear cn9;refine wp_cond_false rfl ?_;refine wp_skip ?_;refine cn8 _ _ ?_;clear cn8;refine uA ?_;refine np (iJ (k : Int)) <| nI ((k : Int) + 1) <| np (iJ ((k : Int) + 1)) ?_;go_frame;refine mB ?_;rw [show ((k : Int) + 1) = ((k + 1 : Nat) : Int) by omega];exact ⟨⟨k + 1, exU (4 :: List.range' 11 15) ⟨hM, by omega⟩⟩, by simp [intOf]; omega⟩;rw [hx1];refine wp_cond_false rfl ?_;refine wp_exit ?_;refine cn4 _ _ ?_;clear cn4;refine sr fun _ cn8 => ?_;refine np (.bool true) ?_;go_frame;refine wz cn8 ?_;clear cn8;refine wp_ret ?_;exact bt ⟨rfl, hM.below⟩
theorem qG (v1 v2 : Value) (l : List ND) (w : World) (h1 : NSl w v1 l) (h2 : NSl w v2 l) (hl : l.length ≤ 1048576) :
    Calls Tryz.prog 31 #[v1, v2] w fun e w' => e = .returned (.bool true) ∧ Below w.heap.size w w' := by
  by_cases hn : l = []
  · subst hn
    obtain ⟨a1, c1, rfl, -⟩ := h1;obtain ⟨a2, c2, rfl, -⟩ := h2;exact YI a1 a2 c1 c2 w
  · obtain ⟨b1, o1, c1, rfl, -, -, sA, G1⟩ := h1.at hn
    obtain ⟨b2, o2, c2, rfl, -, -, sB, G2⟩ := h2.at hn;exact XI b1 o1 b2 o2 l hl c1 c2 w sA sB G1 G2
theorem VH (a : Option Addr) (n c : Nat) (w0 : World) :
    Calls Tryz.prog 6 #[.slice a n c] w0 fun e w' => e = .returned (.bool (decide ((n : Int) > 4096))) ∧ Below w0.heap.size w0 w' := by
  have hM := Mem.start w0
  go_enter Tryz.func6, Tryz.ntmps6
  refine sr fun _ cn1 => ?_;refine np (.bool false) ?_;go_frame;refine wz cn1 ?_;clear cn1;refine sr fun _ cn2 => ?_;refine np (.slice a n c) <| np (iJ (n : Int)) <| np (.bool (decide ((n : Int) > 4096))) <| np (.bool (decide ((n : Int) > 4096))) ?_;go_frame;refine wz cn2 ?_;clear cn2;refine wp_ret ?_;exact bt ⟨rfl, hM.below⟩
theorem CI (u1 x1 u2 x2 : Value) (l : List ND) (c : List Int) (w0 : World) (h1 : NSl w0 u1 l) (h2 : NSl w0 u2 l) (h3 : SlI w0 x1 c) (h4 : SlI w0 x2 c) (hl : l.length ≤ 1048576) :
    Calls Tryz.prog 23 #[.agg #[u1, x1], .agg #[u2, x2]] w0 fun e w' => e = .returned (.bool true) ∧ Below w0.heap.size w0 w' := by
  have hM := Mem.start w0
  go_enter Tryz.func23, Tryz.ntmps23
  refine sr fun _ cn1 => ?_;refine nx hM 41 [u1, x1] ?_;clear hM;intro g1 W1 hM;refine nx hM 41 [u2, x2] ?_;clear hM;intro g2 W2 hM;refine np (.bool false) ?_;go_frame;refine wz cn1 ?_;clear cn1;refine sr fun _ cn2 => ?_;refine np (pt g1 0) <| ng hM 1 rfl 0 fA rfl <| np (pt g2 0) <| ng hM 0 rfl 0 fA rfl ?_;refine nc (qG u1 u2 l _ (h1.below hM.below) (h2.below hM.below) hl) ?_;rintro e W3 ⟨rfl, hb⟩;refine ⟨_, rfl, ?_⟩;replace hM := hM.call hb;go_frame;refine np (.bool true) <| np (pt g1 1) <| ng hM 1 rfl 1 GA rfl <| np (pt g2 1) <| ng hM 0 rfl 1 GA rfl ?_;refine nc (NJ x1 x2 c _ (h3.below hM.below) (h4.below hM.below)) ?_;rintro e W4 ⟨rfl, hb⟩;refine ⟨_, rfl, ?_⟩;replace hM := hM.call hb;go_frame;refine np (.bool true) <| np (.bool true) ?_;go_frame;refine wz cn2 ?_;clear cn2;refine wp_ret ?_;exact bt ⟨rfl, hM.below⟩
end Go.Proofs.YtfjafncipjdnfaaGreat
