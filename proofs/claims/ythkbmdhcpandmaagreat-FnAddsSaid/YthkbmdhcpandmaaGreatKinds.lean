import Derived.Test.YthkbmdhcpandmaaGreatOpen
import Derived.Test.YthkbmdhcpandmaaGreatCur2
import Derived.Test.YthkbmdhcpandmaaGreatShort
import Derived.Test.YthkbmdhcpandmaaGreatShort2
import Derived.Test.YthkbmdhcpandmaaGreatDrawSteps
import Derived.Test.YthkbmdhcpandmaaGreatHandImpl
import Derived.Laws.StructEq
import Derived.Test.YthkbmdhcpandmaaGreatFindImpl3
namespace Go.Proofs.YthkbmdhcpandmaaGreat
open Go.ChangeShapes Go.WideShapes Go.ChangeAt Go.RowKit Go.Deep
set_option linter.unusedVariables false
structure Byte where
  n : Int
  lo : 0 ≤ n
  hi : n ≤ 255
instance : Inhabited Byte := ⟨⟨0, by decide, by decide⟩⟩
theorem flat_bytes (l : List Byte) : (l.flatMap fun b => [Value.int .u8 b.n]) = (l.map Byte.n).map (Value.int .u8) := by
  induction l with
  | nil => rfl
  | cons a r ih => simp only [List.flatMap_cons, ih]; rfl
theorem byte_wf {n : Int} (h : (Lit.int .u8 n).wf = true) : 0 ≤ n ∧ n ≤ 255 := by
  simpa [Lit.wf, IntKind.min, IntKind.max, IntKind.signed, IntKind.bits] using h
set_option maxRecDepth 100000 in
theorem open_bytes {H : Type} {enc : TypeId × Value → H} {w : World} {base b0 : Nat} {spare : Nat → Bool} {held : Bool} {v : Value} {d : DataW H} {p : List MemPlace} (hv : Value.okWide Tryz.prog w .any b0 22 v)
    (h : DataW.Trod enc Tryz.prog w base spare held 22 v d p) : ∃ l : List Int, Bts w.heap.size w v l := by
  obtain ⟨a, len, cap, rfl⟩ := okWide_slice Tryz.underlying22 hv
  obtain ⟨l, hl, hs⟩ := open_rows (fun b : Byte => [Value.int .u8 b.n]) 1 (fun _ => rfl) (by omega) Tryz.underlying22 (by kernel_rfl) (fun n cs x hx => by
    obtain ⟨k, e, _, hw⟩ := DataW.trod_int Tryz.underlying5 hx
    have hb := byte_wf hw
    exact ⟨⟨k, hb.1, hb.2⟩, e⟩) h
  subst hl
  rw [flat_bytes] at hs
  refine ⟨l.map Byte.n, Bts.of_sl (by simpa using hs) (fun x hx => ?_)⟩
  obtain ⟨b, -, rfl⟩ := List.mem_map.1 hx
  exact ⟨b.lo, b.hi⟩
set_option maxRecDepth 100000
set_option maxHeartbeats 16000000
set_option linter.unusedSimpArgs false
def ndEq (a b : ND) : Bool := a.k == b.k && (a.v == b.v && (a.l == b.l && (a.r == b.r && (a.o == b.o && (a.g == b.g && (a.lt == b.lt && (a.rt == b.rt && true)))))))
theorem ndEq_self (a : ND) : ndEq a a = true := by simp [ndEq]
theorem nd_eqIn (d : Nat) (w : World) (a b : ND) : (Op.equalIn (d + 2) 52 (.agg a.cells.toArray) (.agg b.cells.toArray)).run Tryz.prog w = .ok (ndEq a b) w := by
  rw [run_equalIn_struct w (d + 1) 52 _ _ (by kernel_rfl) (by kernel_rfl)];simp only [Program.fieldsOf, Tryz.underlying52];exact eqf_cons (by decide) (by kernel_rfl) (by kernel_rfl) (run_equalIn_int _ _ _ .i64 .i64 _ _ Tryz.underlying2) (eqf_cons (by decide) (by kernel_rfl) (by kernel_rfl) (run_equalIn_int _ _ _ .i64 .i64 _ _ Tryz.underlying2) (eqf_cons (by decide) (by kernel_rfl) (by kernel_rfl) (run_equalIn_int _ _ _ .i64 .i64 _ _ Tryz.underlying2) (eqf_cons (by decide) (by kernel_rfl) (by kernel_rfl) (run_equalIn_int _ _ _ .i64 .i64 _ _ Tryz.underlying2) (eqf_cons (by decide) (by kernel_rfl) (by kernel_rfl) (run_equalIn_int _ _ _ .i64 .i64 _ _ Tryz.underlying2) (eqf_cons (by decide) (by kernel_rfl) (by kernel_rfl) (run_equalIn_bool' _ _ _ _ _ Tryz.underlying4) (eqf_cons (by decide) (by kernel_rfl) (by kernel_rfl) (run_equalIn_int _ _ _ .i64 .i64 _ _ Tryz.underlying2) (eqf_cons (by decide) (by kernel_rfl) (by kernel_rfl) (run_equalIn_int _ _ _ .i64 .i64 _ _ Tryz.underlying2) (eqf_nil _ _ _))))))))
theorem nd_neq {f : Operand → Value} {o : Oper} {w : World} {T' : TypeId} {x y : Operand} (a b : ND) (ho : o.op = .binOp .neq 52 x y T') (hx : f x = .agg a.cells.toArray) (hy : f y = .agg b.cells.toArray) : (execOp f o).run Tryz.prog w = .ok (.value (.bool (!(ndEq a b)))) w := by
  have h := nd_eqIn 9998 w a b;have hg : Tryz.prog.eqGuardType Tryz.prog.depth 52 = false := by kernel_rfl
  unfold execOp;simp only [ho, hx, hy, Sem.run_bind, run_eqGuard_agg w .neq 52 x y _ _ hg, Result.andThen_ok, run_neq_struct];rw [show Op.equalIn 10000 52 (.agg a.cells.toArray) (.agg b.cells.toArray) = Op.equalIn (9998 + 2) 52 (.agg a.cells.toArray) (.agg b.cells.toArray) from rfl, h]
  rfl
theorem likeInts_same (v1 v2 : Value) (l : List Int) (w : World) (h1 : SlI w v1 l) (h2 : SlI w v2 l) :
    Calls Tryz.prog 41 #[v1, v2] w fun e w' => e = .returned (.bool true) ∧ Below w.heap.size w w' := by
  by_cases hn : l = []
  · subst hn
    obtain ⟨a1, c1, rfl⟩ := h1.nil;obtain ⟨a2, c2, rfl⟩ := h2.nil;clear h1 h2
    go_enter Tryz.func41, Tryz.ntmps41
    go_wp2
    go_loopw [5] (fun i wr => i = .int .i64 0 ∧ Below w.heap.size w wr) (fun i _ => 0)
    case atStart => exact ⟨rfl, Below.refl _ _⟩
    case round =>
      obtain ⟨rfl, hb⟩ := hrel
      go_wp2
      go_ret
      exact ⟨rfl, hb⟩
  · obtain ⟨b1, o1, c1, rfl, k1, m1, s1, H1⟩ := h1.at hn
    obtain ⟨b2, o2, c2, rfl, k2, m2, s2, H2⟩ := h2.at hn;unfold maxLen at m1 m2;clear h1 h2
    go_enter Tryz.func41, Tryz.ntmps41
    go_wp2
    go_loopw [5] (fun i wr => ∃ k : Nat, k ≤ l.length ∧ i = .int .i64 k ∧ Below w.heap.size w wr) (fun i _ => l.length - (intOf i).toNat)
    case atStart => exact ⟨0, Nat.zero_le _, rfl, Below.refl _ _⟩
    case round =>
      obtain ⟨k, hk, rfl, hb⟩ := hrel
      by_cases hlt : k < l.length
      · obtain ⟨n, hg⟩ : ∃ n, l[k]? = some n := ⟨_, List.getElem?_eq_getElem hlt⟩
        have A1 : wr.cell? ⟨b1, o1 + k, none⟩ = some (.int .i64 n) := (hb.cell (p := ⟨b1, o1 + k, none⟩) s1).trans (H1 k n hg);have A2 : wr.cell? ⟨b2, o2 + k, none⟩ = some (.int .i64 n) := (hb.cell (p := ⟨b2, o2 + k, none⟩) s2).trans (H2 k n hg);have i0 : (0 : Int) ≤ (k : Int) := by omega
        have i1 : (k : Int) < (l.length : Int) := by omega
        clear hg H1 H2;have HB := Lib.hid hb;clear hb
        go_wp2
        go_region_held3 (fun w' => w'.cell? ⟨b1, o1 + k, none⟩ = some (.int .i64 n) ∧ w'.cell? ⟨b2, o2 + k, none⟩ = some (.int .i64 n)) (go_keep) (fail)
        go_wp2
        go_roundw
        case rel => exact ⟨k + 1, by omega, by go_num, by repeat (first | exact HB.out | refine Below.drew ?_)⟩
        case measure => simp [intOf]; omega
      · obtain rfl : k = l.length := by omega
        clear H1 H2
        go_wp2
        go_ret
        exact ⟨rfl, hb⟩
theorem likeNodes_none (a1 a2 : Option Addr) (c1 c2 : Nat) (w0 : World) :
    Calls Tryz.prog 20 #[.slice a1 0 c1, .slice a2 0 c2] w0 fun e w' => e = .returned (.bool true) ∧ Below w0.heap.size w0 w' := by
  have hM := Mem.start w0
  go_enter Tryz.func20, Tryz.ntmps20
  refine sr fun _ cn1 => ?_;refine np (.bool false) ?_;go_frame;refine wz cn1 ?_;clear cn1;refine wp_seq_k fun Kn2 cn2 => ?_;refine sr fun _ cn3 => ?_;refine np (.slice a1 0 c1) <| np (.int .i64 0) <| np (.slice a2 0 c2) <| np (.int .i64 0) <| np (.bool false) ?_;go_frame;refine wz cn3 ?_;clear cn3;refine wp_cond_false rfl ?_;refine wp_skip ?_;refine cn2 _ _ ?_;clear cn2;refine wp_seq_k fun Kn4 cn4 => ?_;refine sr fun _ cn5 => ?_;refine np (.int .i64 0) ?_;go_frame;refine wz cn5 ?_;clear cn5;refine wp_block ?_;refine wp_loop_rounds 1 ?_;rw [rounds_succ];refine wp_seq_k fun Kn6 cn6 => ?_;refine sr fun _ cn7 => ?_;refine np (.int .i64 0) <| np (.slice a1 0 c1) <| np (.int .i64 0) <| np (.bool false) ?_;go_frame;refine wz cn7 ?_;clear cn7;refine wp_cond_false rfl ?_;refine wp_exit ?_;refine cn4 _ _ ?_;clear cn4;refine sr fun _ cn8 => ?_;refine np (.bool true) ?_;go_frame;refine wz cn8 ?_;clear cn8;refine wp_ret ?_;exact bt ⟨rfl, hM.below⟩
theorem likeNodes_some  (b1 o1 b2 o2 : Nat) (l : List ND) (hl : l.length ≤ 1048576) (c1 c2 : Nat) (w0 : World) (sA : b1 < w0.heap.size) (sB : b2 < w0.heap.size) (G1 : ∀ k n, l[k]? = some n → At8 w0 b1 (o1 + k * 8) n) (G2 : ∀ k n, l[k]? = some n → At8 w0 b2 (o2 + k * 8) n) :
    Calls Tryz.prog 20 #[.slice (some ⟨b1, o1, none⟩) l.length c1, .slice (some ⟨b2, o2, none⟩) l.length c2] w0 fun e w' => e = .returned (.bool true) ∧ Below w0.heap.size w0 w' := by
  have hM := Mem.start w0
  go_enter Tryz.func20, Tryz.ntmps20
  refine sr fun _ cn1 => ?_;refine np (.bool false) ?_;go_frame;refine wz cn1 ?_;clear cn1;refine wp_seq_k fun Kn2 cn2 => ?_;refine sr fun _ cn3 => ?_;refine np (.slice (some ⟨b1, o1, none⟩) l.length c1) <| np (.int .i64 (l.length : Int)) <| np (.slice (some ⟨b2, o2, none⟩) l.length c2) <| np (.int .i64 (l.length : Int)) ?_;go_frame;refine wl_pureB (by kernel_rfl) (b := ((l.length : Int) != (l.length : Int))) (by kernel_rfl) ((bne_self_eq_false _)) ?_;go_frame;refine wz cn3 ?_;clear cn3;refine wp_cond_false rfl ?_;refine wp_skip ?_;refine cn2 _ _ ?_;clear cn2;refine wp_seq_k fun Kn4 cn4 => ?_;refine sr fun _ cn5 => ?_;refine np (.int .i64 0) ?_;go_frame;refine wz cn5 ?_;clear cn5;refine wp_block ?_;refine wp_loop (fun act w => ∃ (k : Nat) (U1 : Nat → Value), act = ⟨#[.slice (some ⟨b1, o1, none⟩) l.length c1, .slice (some ⟨b2, o2, none⟩) l.length c2, undef, undef, (U1 0), .int .i64 (k : Int), .slice (some ⟨b1, o1, none⟩) l.length c1, .int .i64 (l.length : Int), .slice (some ⟨b2, o2, none⟩) l.length c2, .int .i64 (l.length : Int), .bool false, (U1 1), (U1 2), (U1 3), (U1 4), (U1 5), (U1 6), (U1 7), (U1 8), (U1 9), (U1 10), (U1 11), (U1 12), (U1 13), (U1 14), (U1 15)], []⟩ ∧ Mem w0 w [] ∧ (k ≤ l.length)) (fun act _ => l.length - (intOf (act.tmps.getD 5 undef)).toNat) ?_ ?_;exact ⟨0, exU (4 :: List.range' 11 15) ⟨hM, by omega⟩⟩;clear hM;rintro act w ⟨k, U1, rfl, hM, hk⟩;refine wp_seq_k fun Kn6 cn6 => ?_;refine sr fun _ cn7 => ?_;refine np (.int .i64 (k : Int)) <| np (.slice (some ⟨b1, o1, none⟩) l.length c1) <| np (.int .i64 (l.length : Int)) <| np (.bool (decide ((k : Int) < (l.length : Int)))) ?_;go_frame;refine wz cn7 ?_;clear cn7;rcases tf (decide ((k : Int) < (l.length : Int))) with hx1 | hx1;rw [hx1];have hkl : k < l.length := by simp at hx1; omega
  obtain ⟨⟨nkk, nkv, nkl, nkr, nko, nkg, nklt, nkrt⟩, hnk⟩ : ∃ n, l[k]? = some n := ⟨_, List.getElem?_eq_getElem hkl⟩;refine wp_cond_true rfl ?_;refine wp_skip ?_;refine cn6 _ _ ?_;clear cn6;refine wp_seq_k fun Kn8 cn8 => ?_;refine wp_block ?_;refine wp_seq_k fun Kn9 cn9 => ?_;refine wa_start (fun w => Below w0.heap.size w0 w ∧ True) 9 rfl (by kernel_rfl) ?_;replace hM := hM.drew;refine wt 0 (some 17) (.slice (some ⟨b1, o1, none⟩) l.length c1) ⟨hM.below, trivial⟩ <| wt 1 (some 18) (.int .i64 (k : Int)) ⟨hM.below, trivial⟩ ?_;go_frame;refine wq 2 (some 19) (pt b1 (o1 + k * 8)) ⟨hM.below, trivial⟩ rfl (fun w hS => r_index 24 52 _ _ rfl b1 o1 l.length c1 8 k rfl rfl rfl (by omega) Tryz.underlying24 I_impl_Node) ?_;go_frame;refine wq 3 (some 20) (.agg (ND.cells ⟨nkk, nkv, nkl, nkr, nko, nkg, nklt, nkrt⟩).toArray) ⟨hM.below, trivial⟩ rfl (fun w hS => r_cells 52 _ rfl b1 (o1 + k * 8) rfl Tryz.underlying52 (ND.cells ⟨nkk, nkv, nkl, nkr, nko, nkg, nklt, nkrt⟩) I_impl_Node (row_of (Mem.ofBelow hS.1) sA (G1 k _ hnk))) ?_;refine wt 4 (some 21) (.slice (some ⟨b2, o2, none⟩) l.length c2) ⟨hM.below, trivial⟩ <| wt 5 (some 22) (.int .i64 (k : Int)) ⟨hM.below, trivial⟩ ?_;go_frame;refine wq 6 (some 23) (pt b2 (o2 + k * 8)) ⟨hM.below, trivial⟩ rfl (fun w hS => r_index 24 52 _ _ rfl b2 o2 l.length c2 8 k rfl rfl rfl (by omega) Tryz.underlying24 I_impl_Node) ?_;go_frame;refine wq 7 (some 24) (.agg (ND.cells ⟨nkk, nkv, nkl, nkr, nko, nkg, nklt, nkrt⟩).toArray) ⟨hM.below, trivial⟩ rfl (fun w hS => r_cells 52 _ rfl b2 (o2 + k * 8) rfl Tryz.underlying52 (ND.cells ⟨nkk, nkv, nkl, nkr, nko, nkg, nklt, nkrt⟩) I_impl_Node (row_of (Mem.ofBelow hS.1) sB (G2 k _ hnk))) ?_;go_frame;refine wq 8 (some 25) (.bool false) ⟨hM.below, trivial⟩ rfl (fun w hS => r_eq (v := .bool (!(ndEq (⟨nkk, nkv, nkl, nkr, nko, nkg, nklt, nkrt⟩) (⟨nkk, nkv, nkl, nkr, nko, nkg, nklt, nkrt⟩)))) (nd_neq ⟨nkk, nkv, nkl, nkr, nko, nkg, nklt, nkrt⟩ ⟨nkk, nkv, nkl, nkr, nko, nkg, nklt, nkrt⟩ rfl rfl rfl) (congrArg Value.bool (congrArg Bool.not (ndEq_self _)))) ?_;go_frame;refine wa_done (by kernel_rfl) ?_;refine cn9 _ _ ?_;clear cn9;refine wp_cond_false rfl ?_;refine wp_skip ?_;refine cn8 _ _ ?_;clear cn8;refine wl_region ?_;refine np (.int .i64 (k : Int)) <| nI ((k : Int) + 1) <| np (.int .i64 ((k : Int) + 1)) ?_;go_frame;refine wl_nil ?_;rw [show ((k : Int) + 1) = ((k + 1 : Nat) : Int) by omega];exact ⟨⟨k + 1, exU (4 :: List.range' 11 15) ⟨hM, by omega⟩⟩, by simp [intOf]; omega⟩;rw [hx1];refine wp_cond_false rfl ?_;refine wp_exit ?_;refine cn4 _ _ ?_;clear cn4;refine sr fun _ cn8 => ?_;refine np (.bool true) ?_;go_frame;refine wz cn8 ?_;clear cn8;refine wp_ret ?_;exact bt ⟨rfl, hM.below⟩
theorem likeNodes_same (v1 v2 : Value) (l : List ND) (w : World) (h1 : NSl w v1 l) (h2 : NSl w v2 l) (hl : l.length ≤ 1048576) :
    Calls Tryz.prog 20 #[v1, v2] w fun e w' => e = .returned (.bool true) ∧ Below w.heap.size w w' := by
  by_cases hn : l = []
  · subst hn
    obtain ⟨a1, c1, rfl, -⟩ := h1;obtain ⟨a2, c2, rfl, -⟩ := h2;exact likeNodes_none a1 a2 c1 c2 w
  · obtain ⟨b1, o1, c1, rfl, -, -, sA, G1⟩ := h1.at hn
    obtain ⟨b2, o2, c2, rfl, -, -, sB, G2⟩ := h2.at hn;exact likeNodes_some b1 o1 b2 o2 l hl c1 c2 w sA sB G1 G2
theorem big_slice (a : Option Addr) (n c : Nat) (w0 : World) :
    Calls Tryz.prog 5 #[.slice a n c] w0 fun e w' => e = .returned (.bool (decide ((n : Int) > 4096))) ∧ Below w0.heap.size w0 w' := by
  have hM := Mem.start w0
  go_enter Tryz.func5, Tryz.ntmps5
  refine sr fun _ cn1 => ?_;refine np (.bool false) ?_;go_frame;refine wz cn1 ?_;clear cn1;refine sr fun _ cn2 => ?_;refine np (.slice a n c) <| np (.int .i64 (n : Int)) <| np (.bool (decide ((n : Int) > 4096))) <| np (.bool (decide ((n : Int) > 4096))) ?_;go_frame;refine wz cn2 ?_;clear cn2;refine wp_ret ?_;exact bt ⟨rfl, hM.below⟩
theorem likeShared_same (u1 x1 u2 x2 : Value) (l : List ND) (c : List Int) (w0 : World) (h1 : NSl w0 u1 l) (h2 : NSl w0 u2 l) (h3 : SlI w0 x1 c) (h4 : SlI w0 x2 c) (hl : l.length ≤ 1048576) :
    Calls Tryz.prog 10 #[.agg #[u1, x1], .agg #[u2, x2]] w0 fun e w' => e = .returned (.bool true) ∧ Below w0.heap.size w0 w' := by
  have hM := Mem.start w0
  go_enter Tryz.func10, Tryz.ntmps10
  refine sr fun _ cn1 => ?_;refine nx hM 27 [u1, x1] ?_;clear hM;intro g1 W1 hM;refine nx hM 27 [u2, x2] ?_;clear hM;intro g2 W2 hM;refine np (.bool false) ?_;go_frame;refine wz cn1 ?_;clear cn1;refine sr fun _ cn2 => ?_;refine np (pt g1 0) <| ng hM 1 rfl 0 Tryz.underlying24 rfl <| np (pt g2 0) <| ng hM 0 rfl 0 Tryz.underlying24 rfl ?_;refine nc (likeNodes_same u1 u2 l _ (h1.below hM.below) (h2.below hM.below) hl) ?_;rintro e W3 ⟨rfl, hb⟩;refine ⟨_, rfl, ?_⟩;replace hM := hM.call hb;go_frame;refine np (.bool true) <| np (pt g1 1) <| ng hM 1 rfl 1 Tryz.underlying25 rfl <| np (pt g2 1) <| ng hM 0 rfl 1 Tryz.underlying25 rfl ?_;refine nc (likeInts_same x1 x2 c _ (h3.below hM.below) (h4.below hM.below)) ?_;rintro e W4 ⟨rfl, hb⟩;refine ⟨_, rfl, ?_⟩;replace hM := hM.call hb;go_frame;refine np (.bool true) <| np (.bool true) ?_;go_frame;refine wz cn2 ?_;clear cn2;refine wp_ret ?_;exact bt ⟨rfl, hM.below⟩
def dOne : Option ND → Option ND → Int
  | some a, some b => if ndEq a b then 0 else 1
  | _, _ => 0
theorem dOne_self (a : Option ND) : dOne a a = 0 := by
  cases a
  · rfl
  · simp [dOne, ndEq_self]
theorem dOne_bound (a b : Option ND) : 0 ≤ dOne a b ∧ dOne a b ≤ 1 := by
  unfold dOne
  repeat' split
  all_goals omega
def dN (l m : List ND) : Nat → Int
  | 0 => 0
  | k + 1 => dN l m k + dOne l[k]? m[k]?
def dI (c d : List Int) : Nat → Int
  | 0 => 0
  | k + 1 => dI c d k + (if (atI c k != atI d k) then 1 else 0)
theorem dN_yes {l m : List ND} {k : Nat} {a b : ND} (h1 : l[k]? = some a) (h2 : m[k]? = some b) (h : (!(ndEq a b)) = true) : dN l m (k + 1) = dN l m k + 1 := by
  have h' : ndEq a b = false := by simpa using h
  simp [dN, dOne, h1, h2, h']
theorem dN_no {l m : List ND} {k : Nat} {a b : ND} (h1 : l[k]? = some a) (h2 : m[k]? = some b) (h : (!(ndEq a b)) = false) : dN l m (k + 1) = dN l m k := by
  have h' : ndEq a b = true := by simpa using h
  simp [dN, dOne, h1, h2, h']
theorem dI_yes {c d : List Int} {k : Nat} (h : (atI c k != atI d k) = true) : dI c d (k + 1) = dI c d k + 1 := by
  rw [dI, h]
  rfl
theorem dI_no {c d : List Int} {k : Nat} (h : (atI c k != atI d k) = false) : dI c d (k + 1) = dI c d k := by
  rw [dI, h]
  simp
theorem dN_bound (l m : List ND) : ∀ k, 0 ≤ dN l m k ∧ dN l m k ≤ k
  | 0 => by simp [dN]
  | k + 1 => by
    have := dN_bound l m k;have := dOne_bound l[k]? m[k]?;rw [dN]
    omega
theorem dI_bound (c d : List Int) : ∀ k, 0 ≤ dI c d k ∧ dI c d k ≤ k
  | 0 => by simp [dI]
  | k + 1 => by
    have := dI_bound c d k;rw [dI]
    split <;> omega
def touchN (l m : List ND) (c d : List Int) : Int := ((m.length : Int) - (l.length : Int)) + dN l m l.length + dI c d c.length
theorem ints_at {w0 w : World} {M : List Bk} {b o cap : Nat} {c : List Int} {j : Nat} (hM : Mem w0 w M) (h : SlI w0 (.slice (some ⟨b, o, none⟩) c.length cap) c) (hj : j < c.length) : w.cell? ⟨b, o + j * 1, none⟩ = some (.int .i64 (atI c j)) := by
  have h' := SlI.below h hM.below;obtain ⟨a, k, e, -, -, h3, h4⟩ := h';rcases h4 with h4 | ⟨b', o', e', hc⟩
  · have : c.length = 0 := by simpa [cellsI] using h4
    omega
  · cases e
    cases e'
    have hj' : j < (cellsI c).length := by simpa [cellsI] using hj
    rw [Nat.mul_one];rw [hc j (by simpa [cellsI] using hj)]
    simp [cellsI, atI, List.getElem?_eq_getElem hj]
theorem touched_is (b1 o1 c1 b2 o2 c2 b3 o3 c3 b4 o4 c4 : Nat) (l m : List ND) (c d : List Int) (w0 : World) (h3 : SlI w0 (.slice (some ⟨b3, o3, none⟩) c.length c3) c) (h4 : SlI w0 (.slice (some ⟨b4, o4, none⟩) d.length c4) d) (sA : b1 < w0.heap.size) (sB : b2 < w0.heap.size) (G1 : ∀ k n, l[k]? = some n → At8 w0 b1 (o1 + k * 8) n) (G2 : ∀ k n, m[k]? = some n → At8 w0 b2 (o2 + k * 8) n) (hl : l.length ≤ 1048576) (hm : m.length ≤ 1048576) (hc : c.length ≤ 1048576) (hle : l.length ≤ m.length) (hcd : c.length = d.length) :
    Calls Tryz.prog 26 #[.agg #[.slice (some ⟨b1, o1, none⟩) l.length c1, .slice (some ⟨b3, o3, none⟩) c.length c3], .agg #[.slice (some ⟨b2, o2, none⟩) m.length c2, .slice (some ⟨b4, o4, none⟩) d.length c4]] w0 fun e w' => e = .returned (.int .i64 (touchN l m c d)) ∧ Below w0.heap.size w0 w' := by
  have hM := Mem.start w0
  go_enter Tryz.func26, Tryz.ntmps26
  refine sr fun _ cn1 => ?_;refine nx hM 27 [.slice (some ⟨b1, o1, none⟩) l.length c1, .slice (some ⟨b3, o3, none⟩) c.length c3] ?_;clear hM;intro g1 W1 hM;refine nx hM 27 [.slice (some ⟨b2, o2, none⟩) m.length c2, .slice (some ⟨b4, o4, none⟩) d.length c4] ?_;clear hM;intro g2 W2 hM;refine np (.int .i64 0) ?_;go_frame;refine wz cn1 ?_;clear cn1;refine sr fun _ cn2 => ?_;refine np (pt g2 0) <| ng hM 0 rfl 0 Tryz.underlying24 rfl <| np (.int .i64 (m.length : Int)) <| np (pt g1 0) <| ng hM 1 rfl 0 Tryz.underlying24 rfl <| np (.int .i64 (l.length : Int)) ?_;refine nI ((m.length : Int) - (l.length : Int)) <| np (.int .i64 ((m.length : Int) - (l.length : Int))) ?_;go_frame;refine wz cn2 ?_;clear cn2;refine wp_seq_k fun Kn3 cn3 => ?_;refine sr fun _ cn4 => ?_;refine np (.int .i64 0) ?_;go_frame;refine wz cn4 ?_;clear cn4;refine wp_block ?_;refine wp_loop (fun act w => ∃ (k : Nat) (nk : Int) (U1 : Nat → Value), act = ⟨#[.agg #[.slice (some ⟨b1, o1, none⟩) l.length c1, .slice (some ⟨b3, o3, none⟩) c.length c3], .agg #[.slice (some ⟨b2, o2, none⟩) m.length c2, .slice (some ⟨b4, o4, none⟩) d.length c4], pt g1 0, pt g2 0, .int .i64 0, .int .i64 nk, .int .i64 (k : Int), undef, pt g2 0, .slice (some ⟨b2, o2, none⟩) m.length c2, .int .i64 (m.length : Int), pt g1 0, .slice (some ⟨b1, o1, none⟩) l.length c1, .int .i64 (l.length : Int), .int .i64 ((m.length : Int) - (l.length : Int)), (U1 0), (U1 1), (U1 2), (U1 3), (U1 4), (U1 5), (U1 6), (U1 7), (U1 8), (U1 9), (U1 10), (U1 11), (U1 12), (U1 13), (U1 14), (U1 15), (U1 16), (U1 17), (U1 18), (U1 19), (U1 20), (U1 21), (U1 22), (U1 23), (U1 24), (U1 25), (U1 26), undef, undef, undef, undef, undef, undef, undef, undef, undef, undef, undef, undef, undef, undef, undef, undef, undef, undef, undef, undef, undef, undef, undef, undef, undef, undef, undef, undef], []⟩ ∧ Mem w0 w [(g2, 27, [.slice (some ⟨b2, o2, none⟩) m.length c2, .slice (some ⟨b4, o4, none⟩) d.length c4]), (g1, 27, [.slice (some ⟨b1, o1, none⟩) l.length c1, .slice (some ⟨b3, o3, none⟩) c.length c3])] ∧ (k ≤ l.length ∧ nk = ((m.length : Int) - (l.length : Int)) + dN l m k)) (fun act _ => l.length - (intOf (act.tmps.getD 6 undef)).toNat) ?_ ?_;exact ⟨0, _, (fun i => [undef, undef, undef, undef, undef, undef, undef, undef, undef, undef, undef, undef, undef, undef, undef, undef, undef, undef, undef, undef, undef, undef, undef, undef, undef, undef, undef].getD i undef), rfl, hM, by omega, by simp [dN]⟩;clear hM;rintro act w ⟨k, nk, U1, rfl, hM, hk, hnk⟩;refine wp_seq_k fun Kn5 cn5 => ?_;refine sr fun _ cn6 => ?_;refine np (.int .i64 (k : Int)) <| np (pt g1 0) <| ng hM 1 rfl 0 Tryz.underlying24 rfl <| np (.int .i64 (l.length : Int)) <| np (.bool (decide ((k : Int) < (l.length : Int)))) <| np (.bool (decide ((k : Int) < (l.length : Int)))) ?_;go_frame;rcases tf (decide ((k : Int) < (l.length : Int))) with hx2 | hx2;rw [hx2];have hkl : k < l.length := by have h9 := of_decide_eq_true hx2; omega
  have hkm : decide ((k : Int) < (m.length : Int)) = true := by simp; omega
  obtain ⟨⟨nak, nav, nal, nar, nao, nag, nalt, nart⟩, hn1⟩ : ∃ n, l[k]? = some n := ⟨_, List.getElem?_eq_getElem hkl⟩;obtain ⟨⟨nbk, nbv, nbl, nbr, nbo, nbg, nblt, nbrt⟩, hn2⟩ : ∃ n, m[k]? = some n := ⟨_, List.getElem?_eq_getElem (Nat.lt_of_lt_of_le hkl hle)⟩;have bN := dN_bound l m k;refine np (.int .i64 (k : Int)) <| np (pt g2 0) <| ng hM 0 rfl 0 Tryz.underlying24 rfl <| np (.int .i64 (m.length : Int)) <| nB (hkm) <| np (.bool true) ?_;go_frame;refine wz cn6 ?_;clear cn6;refine wp_cond_true rfl ?_;refine wp_skip ?_;refine cn5 _ _ ?_;clear cn5;refine wp_seq_k fun Kn7 cn7 => ?_;refine wp_block ?_;refine wp_seq_k fun Kn8 cn8 => ?_;refine wa_start (fun w => Below w0.heap.size w0 w ∧ Blk w g1 27 [.slice (some ⟨b1, o1, none⟩) l.length c1, .slice (some ⟨b3, o3, none⟩) c.length c3] ∧ Blk w g2 27 [.slice (some ⟨b2, o2, none⟩) m.length c2, .slice (some ⟨b4, o4, none⟩) d.length c4]) 11 rfl (by kernel_rfl) ?_;replace hM := hM.drew;refine wt 0 (some 29) (pt g1 0) ⟨hM.below, hM.blk 1 rfl, hM.blk 0 rfl⟩ ?_;go_frame;refine wC 1 (some 30) 0 (fun w hS => hS.2.1) rfl ⟨hM.below, hM.blk 1 rfl, hM.blk 0 rfl⟩ <| wt 2 (some 31) (.int .i64 (k : Int)) ⟨hM.below, hM.blk 1 rfl, hM.blk 0 rfl⟩ ?_;go_frame;refine wq 3 (some 32) (pt b1 (o1 + k * 8)) ⟨hM.below, hM.blk 1 rfl, hM.blk 0 rfl⟩ rfl (fun w hS => r_index 24 52 _ _ rfl b1 o1 l.length c1 8 k rfl rfl rfl (by omega) Tryz.underlying24 I_impl_Node) ?_;go_frame;refine wq 4 (some 33) (.agg (ND.cells ⟨nak, nav, nal, nar, nao, nag, nalt, nart⟩).toArray) ⟨hM.below, hM.blk 1 rfl, hM.blk 0 rfl⟩ rfl (fun w hS => r_cells 52 _ rfl b1 (o1 + k * 8) rfl Tryz.underlying52 (ND.cells ⟨nak, nav, nal, nar, nao, nag, nalt, nart⟩) I_impl_Node (row_of (Mem.ofBelow hS.1) sA (G1 k _ hn1))) ?_;refine wt 5 (some 34) (pt g2 0) ⟨hM.below, hM.blk 1 rfl, hM.blk 0 rfl⟩ ?_;go_frame;refine wC 6 (some 35) 0 (fun w hS => hS.2.2) rfl ⟨hM.below, hM.blk 1 rfl, hM.blk 0 rfl⟩ <| wt 7 (some 36) (.int .i64 (k : Int)) ⟨hM.below, hM.blk 1 rfl, hM.blk 0 rfl⟩ ?_;go_frame;refine wq 8 (some 37) (pt b2 (o2 + k * 8)) ⟨hM.below, hM.blk 1 rfl, hM.blk 0 rfl⟩ rfl (fun w hS => r_index 24 52 _ _ rfl b2 o2 m.length c2 8 k rfl rfl rfl (by omega) Tryz.underlying24 I_impl_Node) ?_;go_frame;refine wq 9 (some 38) (.agg (ND.cells ⟨nbk, nbv, nbl, nbr, nbo, nbg, nblt, nbrt⟩).toArray) ⟨hM.below, hM.blk 1 rfl, hM.blk 0 rfl⟩ rfl (fun w hS => r_cells 52 _ rfl b2 (o2 + k * 8) rfl Tryz.underlying52 (ND.cells ⟨nbk, nbv, nbl, nbr, nbo, nbg, nblt, nbrt⟩) I_impl_Node (row_of (Mem.ofBelow hS.1) sB (G2 k _ hn2))) ?_;go_frame;refine wq 10 (some 39) (.bool (!(ndEq ⟨nak, nav, nal, nar, nao, nag, nalt, nart⟩ ⟨nbk, nbv, nbl, nbr, nbo, nbg, nblt, nbrt⟩))) ⟨hM.below, hM.blk 1 rfl, hM.blk 0 rfl⟩ rfl (fun w hS => nd_neq ⟨nak, nav, nal, nar, nao, nag, nalt, nart⟩ ⟨nbk, nbv, nbl, nbr, nbo, nbg, nblt, nbrt⟩ rfl rfl rfl) ?_;go_frame;refine wa_done (by kernel_rfl) ?_;refine cn8 _ _ ?_;clear cn8;rcases tf ((!(ndEq ⟨nak, nav, nal, nar, nao, nag, nalt, nart⟩ ⟨nbk, nbv, nbl, nbr, nbo, nbg, nblt, nbrt⟩))) with hx3 | hx3;rw [hx3];refine wp_cond_true rfl ?_;refine wl_region ?_;refine np (.int .i64 nk) <| nI (nk + 1) <| np (.int .i64 (nk + 1)) ?_;go_frame;refine wz cn7 ?_;clear cn7;refine wl_region ?_;refine np (.int .i64 (k : Int)) <| nI ((k : Int) + 1) <| np (.int .i64 ((k : Int) + 1)) ?_;go_frame;refine wl_nil ?_;rw [show ((k : Int) + 1) = ((k + 1 : Nat) : Int) by omega];exact ⟨⟨k + 1, (nk + 1), (fun i => [.int .i64 (k : Int), pt g1 0, .slice (some ⟨b1, o1, none⟩) l.length c1, .int .i64 (l.length : Int), .bool true, .bool true, .int .i64 (k : Int), pt g2 0, .slice (some ⟨b2, o2, none⟩) m.length c2, .int .i64 (m.length : Int), .bool true, .bool true, .int .i64 (k : Int), .int .i64 ((k : Int) + 1), pt g1 0, .slice (some ⟨b1, o1, none⟩) l.length c1, .int .i64 (k : Int), pt b1 (o1 + k * 8), .agg (ND.cells ⟨nak, nav, nal, nar, nao, nag, nalt, nart⟩).toArray, pt g2 0, .slice (some ⟨b2, o2, none⟩) m.length c2, .int .i64 (k : Int), pt b2 (o2 + k * 8), .agg (ND.cells ⟨nbk, nbv, nbl, nbr, nbo, nbg, nblt, nbrt⟩).toArray, .bool true, .int .i64 nk, .int .i64 (nk + 1)].getD i undef), rfl, hM, by omega, by first | (rw [dN_yes hn1 hn2 (by assumption)]; omega) | (rw [dN_no hn1 hn2 (by assumption)]; omega)⟩, by simp [intOf]; omega⟩
  rw [hx3];refine wp_cond_false rfl ?_;refine wp_skip ?_;refine cn7 _ _ ?_;clear cn7;refine wl_region ?_;refine np (.int .i64 (k : Int)) <| nI ((k : Int) + 1) <| np (.int .i64 ((k : Int) + 1)) ?_;go_frame;refine wl_nil ?_;rw [show ((k : Int) + 1) = ((k + 1 : Nat) : Int) by omega];exact ⟨⟨k + 1, nk, (fun i => [.int .i64 (k : Int), pt g1 0, .slice (some ⟨b1, o1, none⟩) l.length c1, .int .i64 (l.length : Int), .bool true, .bool true, .int .i64 (k : Int), pt g2 0, .slice (some ⟨b2, o2, none⟩) m.length c2, .int .i64 (m.length : Int), .bool true, .bool true, .int .i64 (k : Int), .int .i64 ((k : Int) + 1), pt g1 0, .slice (some ⟨b1, o1, none⟩) l.length c1, .int .i64 (k : Int), pt b1 (o1 + k * 8), .agg (ND.cells ⟨nak, nav, nal, nar, nao, nag, nalt, nart⟩).toArray, pt g2 0, .slice (some ⟨b2, o2, none⟩) m.length c2, .int .i64 (k : Int), pt b2 (o2 + k * 8), .agg (ND.cells ⟨nbk, nbv, nbl, nbr, nbo, nbg, nblt, nbrt⟩).toArray, .bool false, (U1 25), (U1 26)].getD i undef), rfl, hM, by omega, by first | (rw [dN_yes hn1 hn2 (by assumption)]; omega) | (rw [dN_no hn1 hn2 (by assumption)]; omega)⟩, by simp [intOf]; omega⟩;rw [hx2]
  iterate 5 refine ns ?_
  refine np (.bool false) ?_;go_frame;refine wz cn6 ?_;clear cn6;refine wp_cond_false rfl ?_;refine wp_exit ?_;refine cn3 _ _ ?_;clear cn3;refine wp_seq_k fun Kn7 cn7 => ?_;refine sr fun _ cn8 => ?_;refine np (.int .i64 0) ?_;go_frame;refine wz cn8 ?_;clear cn8;refine wp_block ?_;have hke : k = l.length := by have h9 := of_decide_eq_false hx2; omega
  refine wp_loop (fun act w => ∃ (j : Nat) (nj : Int) (U2 : Nat → Value), act = ⟨#[.agg #[.slice (some ⟨b1, o1, none⟩) l.length c1, .slice (some ⟨b3, o3, none⟩) c.length c3], .agg #[.slice (some ⟨b2, o2, none⟩) m.length c2, .slice (some ⟨b4, o4, none⟩) d.length c4], pt g1 0, pt g2 0, .int .i64 0, .int .i64 nj, .int .i64 (k : Int), .int .i64 (j : Int), pt g2 0, .slice (some ⟨b2, o2, none⟩) m.length c2, .int .i64 (m.length : Int), pt g1 0, .slice (some ⟨b1, o1, none⟩) l.length c1, .int .i64 (l.length : Int), .int .i64 ((m.length : Int) - (l.length : Int)), .int .i64 (k : Int), pt g1 0, .slice (some ⟨b1, o1, none⟩) l.length c1, .int .i64 (l.length : Int), .bool false, .bool false, undef, undef, undef, undef, undef, .bool false, (U1 12), (U1 13), (U1 14), (U1 15), (U1 16), (U1 17), (U1 18), (U1 19), (U1 20), (U1 21), (U1 22), (U1 23), (U1 24), (U1 25), (U1 26), (U2 0), (U2 1), (U2 2), (U2 3), (U2 4), (U2 5), (U2 6), (U2 7), (U2 8), (U2 9), (U2 10), (U2 11), (U2 12), (U2 13), (U2 14), (U2 15), (U2 16), (U2 17), (U2 18), (U2 19), (U2 20), (U2 21), (U2 22), (U2 23), (U2 24), (U2 25), (U2 26), undef], []⟩ ∧ Mem w0 w [(g2, 27, [.slice (some ⟨b2, o2, none⟩) m.length c2, .slice (some ⟨b4, o4, none⟩) d.length c4]), (g1, 27, [.slice (some ⟨b1, o1, none⟩) l.length c1, .slice (some ⟨b3, o3, none⟩) c.length c3])] ∧ (j ≤ c.length ∧ nj = ((m.length : Int) - (l.length : Int)) + dN l m l.length + dI c d j)) (fun act _ => c.length - (intOf (act.tmps.getD 7 undef)).toNat) ?_ ?_;exact ⟨0, _, (fun i => [undef, undef, undef, undef, undef, undef, undef, undef, undef, undef, undef, undef, undef, undef, undef, undef, undef, undef, undef, undef, undef, undef, undef, undef, undef, undef, undef].getD i undef), rfl, hM, by omega, by rw [dI, ← hke]; omega⟩;clear hM;rintro act w ⟨j, nj, U2, rfl, hM, hj, hnj⟩;refine wp_seq_k fun Kn9 cn9 => ?_;refine sr fun _ cn10 => ?_;refine np (.int .i64 (j : Int)) <| np (pt g1 1) <| ng hM 1 rfl 1 Tryz.underlying25 rfl <| np (.int .i64 (c.length : Int)) <| np (.bool (decide ((j : Int) < (c.length : Int)))) <| np (.bool (decide ((j : Int) < (c.length : Int)))) ?_;go_frame;rcases tf (decide ((j : Int) < (c.length : Int))) with hx5 | hx5;rw [hx5];have hjl : j < c.length := by have h9 := of_decide_eq_true hx5; omega
  have hjm : j < d.length := by omega
  have hjd : decide ((j : Int) < (d.length : Int)) = true := by simp; omega
  have bI := dI_bound c d j;have bN := dN_bound l m l.length;refine np (.int .i64 (j : Int)) <| np (pt g2 1) <| ng hM 0 rfl 1 Tryz.underlying25 rfl <| np (.int .i64 (d.length : Int)) <| nB (hjd) <| np (.bool true) ?_;go_frame;refine wz cn10 ?_;clear cn10;refine wp_cond_true rfl ?_;refine wp_skip ?_;refine cn9 _ _ ?_;clear cn9;refine wp_seq_k fun Kn11 cn11 => ?_;refine wp_block ?_;refine wp_seq_k fun Kn12 cn12 => ?_;refine wa_start (fun w => Below w0.heap.size w0 w ∧ Blk w g1 27 [.slice (some ⟨b1, o1, none⟩) l.length c1, .slice (some ⟨b3, o3, none⟩) c.length c3] ∧ Blk w g2 27 [.slice (some ⟨b2, o2, none⟩) m.length c2, .slice (some ⟨b4, o4, none⟩) d.length c4]) 11 rfl (by kernel_rfl) ?_;replace hM := hM.drew;refine wt 0 (some 56) (pt g1 1) ⟨hM.below, hM.blk 1 rfl, hM.blk 0 rfl⟩ ?_;go_frame;refine wC 1 (some 57) 1 (fun w hS => hS.2.1) rfl ⟨hM.below, hM.blk 1 rfl, hM.blk 0 rfl⟩ <| wt 2 (some 58) (.int .i64 (j : Int)) ⟨hM.below, hM.blk 1 rfl, hM.blk 0 rfl⟩ ?_;go_frame;refine wq 3 (some 59) (pt b3 (o3 + j * 1)) ⟨hM.below, hM.blk 1 rfl, hM.blk 0 rfl⟩ rfl (fun w hS => r_index 25 2 _ _ rfl b3 o3 c.length c3 1 j rfl rfl rfl (by omega) Tryz.underlying25 I_int64) ?_;go_frame;refine wq 4 (some 60) (.int .i64 (atI c j)) ⟨hM.below, hM.blk 1 rfl, hM.blk 0 rfl⟩ rfl (fun w hS => r_cell 2 _ rfl ⟨b3, o3 + j * 1, none⟩ rfl Tryz.underlying2 rfl (ints_at (Mem.ofBelow hS.1) h3 hjl)) ?_;refine wt 5 (some 61) (pt g2 1) ⟨hM.below, hM.blk 1 rfl, hM.blk 0 rfl⟩ ?_;go_frame;refine wC 6 (some 62) 1 (fun w hS => hS.2.2) rfl ⟨hM.below, hM.blk 1 rfl, hM.blk 0 rfl⟩ <| wt 7 (some 63) (.int .i64 (j : Int)) ⟨hM.below, hM.blk 1 rfl, hM.blk 0 rfl⟩ ?_;go_frame;refine wq 8 (some 64) (pt b4 (o4 + j * 1)) ⟨hM.below, hM.blk 1 rfl, hM.blk 0 rfl⟩ rfl (fun w hS => r_index 25 2 _ _ rfl b4 o4 d.length c4 1 j rfl rfl rfl (by omega) Tryz.underlying25 I_int64) ?_;go_frame;refine wq 9 (some 65) (.int .i64 (atI d j)) ⟨hM.below, hM.blk 1 rfl, hM.blk 0 rfl⟩ rfl (fun w hS => r_cell 2 _ rfl ⟨b4, o4 + j * 1, none⟩ rfl Tryz.underlying2 rfl (ints_at (Mem.ofBelow hS.1) h4 hjm)) ?_;refine wt 10 (some 66) (.bool ((atI c j) != (atI d j))) ⟨hM.below, hM.blk 1 rfl, hM.blk 0 rfl⟩ ?_;go_frame;refine wa_done (by kernel_rfl) ?_;refine cn12 _ _ ?_;clear cn12;rcases tf (((atI c j) != (atI d j))) with hx6 | hx6;rw [hx6];refine wp_cond_true rfl ?_;refine wl_region ?_;refine np (.int .i64 nj) <| nI (nj + 1) <| np (.int .i64 (nj + 1)) ?_;go_frame;refine wz cn11 ?_;clear cn11;refine wl_region ?_;refine np (.int .i64 (j : Int)) <| nI ((j : Int) + 1) <| np (.int .i64 ((j : Int) + 1)) ?_;go_frame;refine wl_nil ?_;rw [show ((j : Int) + 1) = ((j + 1 : Nat) : Int) by omega];exact ⟨⟨j + 1, (nj + 1), (fun i => [.int .i64 (j : Int), pt g1 1, .slice (some ⟨b3, o3, none⟩) c.length c3, .int .i64 (c.length : Int), .bool true, .bool true, .int .i64 (j : Int), pt g2 1, .slice (some ⟨b4, o4, none⟩) d.length c4, .int .i64 (d.length : Int), .bool true, .bool true, .int .i64 (j : Int), .int .i64 ((j : Int) + 1), pt g1 1, .slice (some ⟨b3, o3, none⟩) c.length c3, .int .i64 (j : Int), pt b3 (o3 + j * 1), .int .i64 (atI c j), pt g2 1, .slice (some ⟨b4, o4, none⟩) d.length c4, .int .i64 (j : Int), pt b4 (o4 + j * 1), .int .i64 (atI d j), .bool true, .int .i64 nj, .int .i64 (nj + 1)].getD i undef), rfl, hM, by omega, by first | (rw [dI_yes (by assumption)]; omega) | (rw [dI_no (by assumption)]; omega)⟩, by simp [intOf]; omega⟩;rw [hx6];refine wp_cond_false rfl ?_;refine wp_skip ?_;refine cn11 _ _ ?_;clear cn11;refine wl_region ?_;refine np (.int .i64 (j : Int)) <| nI ((j : Int) + 1) <| np (.int .i64 ((j : Int) + 1)) ?_;go_frame;refine wl_nil ?_;rw [show ((j : Int) + 1) = ((j + 1 : Nat) : Int) by omega];exact ⟨⟨j + 1, nj, (fun i => [.int .i64 (j : Int), pt g1 1, .slice (some ⟨b3, o3, none⟩) c.length c3, .int .i64 (c.length : Int), .bool true, .bool true, .int .i64 (j : Int), pt g2 1, .slice (some ⟨b4, o4, none⟩) d.length c4, .int .i64 (d.length : Int), .bool true, .bool true, .int .i64 (j : Int), .int .i64 ((j : Int) + 1), pt g1 1, .slice (some ⟨b3, o3, none⟩) c.length c3, .int .i64 (j : Int), pt b3 (o3 + j * 1), .int .i64 (atI c j), pt g2 1, .slice (some ⟨b4, o4, none⟩) d.length c4, .int .i64 (j : Int), pt b4 (o4 + j * 1), .int .i64 (atI d j), .bool false, (U2 25), (U2 26)].getD i undef), rfl, hM, by omega, by first | (rw [dI_yes (by assumption)]; omega) | (rw [dI_no (by assumption)]; omega)⟩, by simp [intOf]; omega⟩
  rw [hx5]
  iterate 5 refine ns ?_
  refine np (.bool false) ?_;go_frame;refine wz cn10 ?_;clear cn10;refine wp_cond_false rfl ?_;refine wp_exit ?_;refine cn7 _ _ ?_;clear cn7;refine sr fun _ cn11 => ?_;refine np (.int .i64 nj) <| np (.int .i64 nj) ?_;go_frame;refine wz cn11 ?_;clear cn11;refine wp_ret ?_;have hje : j = c.length := by have h9 := of_decide_eq_false hx5; omega
  exact bodyPost_ret (v := .int .i64 nj) (ret_tmp 4 rfl rfl) rfl ⟨congrArg (fun z => Ending.returned (Value.int .i64 z)) (show nj = touchN l m c d by unfold touchN; rw [← hje]; omega), hM.below⟩
theorem nsl_nil0 {w : World} {a : Option Addr} {k : Nat} (h : k ≤ maxLen) : NSl w (.slice a 0 k) [] := ⟨a, k, rfl, Nat.zero_le _, h, rfl, .inl rfl⟩
theorem sli_nil0 {w : World} {a : Option Addr} {k : Nat} (h : k ≤ maxLen) : SlI w (.slice a 0 k) [] := ⟨a, k, rfl, Nat.zero_le _, h, rfl, .inl rfl⟩
def Kinds (l : List ND) (c : List Int) (h : HD) (R : StepR) : Prop :=
  (∃ lo co ho, R = (lo, co, ho, true) ∧ sharedB lo co = true ∧ handB ho = true ∧ (0 < l.length ∧ 0 < c.length ∧ c.length ≤ 6) ∧ (l.length ≤ lo.length ∧ lo.length ≤ 30) ∧ c.length = co.length ∧ touchN l lo c co ≤ 1) ∨ (R = (l, c, h, false) ∧ 0 < l.length ∧ 0 < c.length) ∨ R = ([], [], HD.zero, false)
theorem dN_same (l : List ND) : ∀ k, dN l l k = 0
  | 0 => rfl
  | k + 1 => by rw [dN, dN_same l k, dOne_self]; rfl
theorem dI_same (c : List Int) : ∀ k, dI c c k = 0
  | 0 => rfl
  | k + 1 => by simp [dI, dI_same c k]
theorem dN_app (l m : List ND) : ∀ k, k ≤ l.length → dN l (l ++ m) k = 0
  | 0, _ => rfl
  | k + 1, hk => by rw [dN, dN_app l m k (by omega), List.getElem?_append_left (by omega), dOne_self]; rfl
theorem dN_set (l : List ND) (i : Nat) (x : ND) : ∀ k, dN l (l.set i x) k ≤ (if i < k then 1 else 0)
  | 0 => by simp [dN]
  | k + 1 => by
    have ih := dN_set l i x k
    rw [dN]
    by_cases e : i = k
    · subst e
      simp only [Nat.lt_irrefl, if_false] at ih
      rw [if_pos (by omega)]
      have := dOne_bound l[i]? (l.set i x)[i]?
      omega
    · rw [List.getElem?_set_ne e, dOne_self, Int.add_zero]
      by_cases h1 : i < k
      · rw [if_pos h1] at ih
        rw [if_pos (by omega)]
        exact ih
      · rw [if_neg h1] at ih
        rw [if_neg (by omega)]
        exact ih
def OneN (l lo : List ND) : Prop := lo = l ∨ (∃ (i : Nat) (x : ND), lo = l.set i x) ∨ ∃ x : ND, lo = l ++ [x]
theorem touch_one {l lo : List ND} {c : List Int} (h : OneN l lo) : l.length ≤ lo.length ∧ touchN l lo c c ≤ 1 := by
  unfold touchN
  rw [dI_same]
  rcases h with rfl | ⟨i, x, rfl⟩ | ⟨x, rfl⟩
  · rw [dN_same]; exact ⟨Nat.le_refl _, by omega⟩
  · have := dN_set l i x l.length
    rw [List.length_set]
    exact ⟨Nat.le_refl _, by split at this <;> omega⟩
  · rw [dN_app _ _ _ (Nat.le_refl _)]
    refine ⟨by simp, ?_⟩
    simp only [List.length_append, List.length_cons, List.length_nil]
    omega
theorem done_kinds {l lo : List ND} {c : List Int} {h ho : HD} (h0 : 0 < l.length ∧ 0 < c.length ∧ c.length ≤ 6) (ho1 : OneN l lo) : Kinds l c h (doneR lo c ho) := by
  unfold doneR
  split
  · rename_i hb
    simp only [Bool.and_eq_true] at hb
    have hb1 := hb.1
    simp only [sharedB, Bool.and_eq_true] at hb1
    have := (nodes_some hb1.1).2
    obtain ⟨t1, t2⟩ := touch_one (c := c) ho1
    exact .inl ⟨lo, c, ho, rfl, hb.1, hb.2, h0, ⟨t1, this⟩, rfl, t2⟩
  · exact .inr (.inr rfl)
theorem touched_says (u1 x1 u2 x2 : Value) (l m : List ND) (c d : List Int) (w0 : World) (h1 : NSl w0 u1 l) (h2 : NSl w0 u2 m) (h3 : SlI w0 x1 c) (h4 : SlI w0 x2 d) (l0 : 0 < l.length) (c0 : 0 < c.length) (hm : m.length ≤ 1048576) (hc : c.length ≤ 1048576) (hle : l.length ≤ m.length) (hcd : c.length = d.length) :
    Calls Tryz.prog 26 #[.agg #[u1, x1], .agg #[u2, x2]] w0 fun e w' => e = .returned (.int .i64 (touchN l m c d)) ∧ Below w0.heap.size w0 w' := by
  have g3 := h3
  have g4 := h4
  obtain ⟨b1, o1, c1, rfl, -, -, sA, G1⟩ := h1.at (List.length_pos_iff.1 l0)
  obtain ⟨b2, o2, c2, rfl, -, -, sB, G2⟩ := h2.at (List.length_pos_iff.1 (by omega))
  obtain ⟨a3, k3, rfl, -, -, -, h3⟩ := h3
  obtain ⟨a4, k4, rfl, -, -, -, h4⟩ := h4
  rcases h3 with h3 | ⟨b3, o3, rfl, -⟩
  · have : c.length = 0 := by simpa [cellsI] using h3
    omega
  · rcases h4 with h4 | ⟨b4, o4, rfl, -⟩
    · have : d.length = 0 := by simpa [cellsI] using h4
      omega
    · exact touched_is b1 o1 c1 b2 o2 c2 b3 o3 k3 b4 o4 k4 l m c d w0 g3 g4 sA sB G1 G2 (by omega) hm hc hle hcd
end Go.Proofs.YthkbmdhcpandmaaGreat
