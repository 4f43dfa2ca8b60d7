import Derived.Test.YtfjafncipjdnfaaGreatDrawSteps
import Derived.Test.YtfjafncipjdnfaaGreatFindImpl3
namespace Go.Proofs.YtfjafncipjdnfaaGreat
open Go.ChangeShapes Go.WideShapes Go.ChangeAt Go.RowKit Go.Deep
set_option linter.unusedVariables false
structure Byte where
  n : Int
  lo : 0 ≤ n
  hi : n ≤ 255
instance : Inhabited Byte := ⟨⟨0, by decide, by decide⟩⟩
theorem rM (l : List Byte) : (l.flatMap fun b => [Value.int .u8 b.n]) = (l.map Byte.n).map (Value.int .u8) := by
  induction l with
  | nil => rfl
  | cons a r ih => simp only [List.flatMap_cons, ih]; rfl
theorem fP {n : Int} (h : (Lit.int .u8 n).wf = true) : 0 ≤ n ∧ n ≤ 255 := by
  simpa [Lit.wf, IntKind.min, IntKind.max, IntKind.signed, IntKind.bits] using h
set_option maxRecDepth 100000 in
theorem fM {H : Type} {enc : TypeId × Value → H} {w : World} {base b0 : Nat} {spare : Nat → Bool} {held : Bool} {v : Value} {d : DataW H} {p : List MemPlace} (hv : Value.okWide Tryz.prog w .any b0 22 v)
    (h : DataW.Trod enc Tryz.prog w base spare held 22 v d p) : ∃ l : List Int, Bts w.heap.size w v l := by
  obtain ⟨a, len, cap, rfl⟩ := okWide_slice Tryz.underlying22 hv
  obtain ⟨l, hl, hs⟩ := qN (fun b : Byte => [Value.int .u8 b.n]) 1 (fun _ => rfl) (by omega) Tryz.underlying22 (by kernel_rfl) (fun n cs x hx => by
    obtain ⟨k, e, _, hw⟩ := DataW.trod_int Tryz.underlying5 hx
    have hb := fP hw
    exact ⟨⟨k, hb.1, hb.2⟩, e⟩) h
  subst hl
  rw [rM] at hs
  refine ⟨l.map Byte.n, Bts.of_sl (by simpa using hs) (fun x hx => ?_)⟩
  obtain ⟨b, -, rfl⟩ := List.mem_map.1 hx
  exact ⟨b.lo, b.hi⟩
set_option maxRecDepth 100000
set_option maxHeartbeats 16000000
set_option linter.unusedSimpArgs false
def mI (a b : ND) : Bool := a.k == b.k && (a.v == b.v && (a.l == b.l && (a.r == b.r && (a.o == b.o && (a.g == b.g && (a.lt == b.lt && (a.rt == b.rt && true)))))))
theorem MJ (a : ND) : mI a a = true := by simp [mI]
theorem PO (d : Nat) (w : World) (a b : ND) : (Op.equalIn (d + 2) 37 (.agg a.cells.toArray) (.agg b.cells.toArray)).run Tryz.prog w = .ok (mI a b) w := by
  rw [run_equalIn_struct w (d + 1) 37 _ _ (by kernel_rfl) (by kernel_rfl)];simp only [Program.fieldsOf, GA];exact EB (by decide) (by kernel_rfl) (by kernel_rfl) (run_equalIn_int _ _ _ .i64 .i64 _ _ bA) (EB (by decide) (by kernel_rfl) (by kernel_rfl) (run_equalIn_int _ _ _ .i64 .i64 _ _ bA) (EB (by decide) (by kernel_rfl) (by kernel_rfl) (run_equalIn_int _ _ _ .i64 .i64 _ _ bA) (EB (by decide) (by kernel_rfl) (by kernel_rfl) (run_equalIn_int _ _ _ .i64 .i64 _ _ bA) (EB (by decide) (by kernel_rfl) (by kernel_rfl) (run_equalIn_int _ _ _ .i64 .i64 _ _ bA) (EB (by decide) (by kernel_rfl) (by kernel_rfl) (run_equalIn_bool' _ _ _ _ _ ED) (EB (by decide) (by kernel_rfl) (by kernel_rfl) (run_equalIn_int _ _ _ .i64 .i64 _ _ bA) (EB (by decide) (by kernel_rfl) (by kernel_rfl) (run_equalIn_int _ _ _ .i64 .i64 _ _ bA) (KK _ _ _))))))))
theorem jO {f : Operand → Value} {o : Oper} {w : World} {T' : TypeId} {x y : Operand} (a b : ND) (ho : o.op = .binOp .neq 37 x y T') (hx : f x = .agg a.cells.toArray) (hy : f y = .agg b.cells.toArray) : (execOp f o).run Tryz.prog w = .ok (.value (.bool (!(mI a b)))) w := by
  have h := PO 9998 w a b;have hg : Tryz.prog.eqGuardType Tryz.prog.depth 37 = false := by kernel_rfl
  unfold execOp;simp only [ho, hx, hy, Sem.run_bind, run_eqGuard_agg w .neq 37 x y _ _ hg, Result.andThen_ok, run_neq_struct];rw [show Op.equalIn 10000 37 (.agg a.cells.toArray) (.agg b.cells.toArray) = Op.equalIn (9998 + 2) 37 (.agg a.cells.toArray) (.agg b.cells.toArray) from rfl, h]
  rfl
theorem xJ (v1 v2 : Value) (l : List Int) (w : World) (h1 : SlI w v1 l) (h2 : SlI w v2 l) :
    Calls Tryz.prog 60 #[v1, v2] w fun e w' => e = .returned (.bool true) ∧ Below w.heap.size w w' := by
  by_cases hn : l = []
  · subst hn
    obtain ⟨a1, c1, rfl⟩ := h1.nil;obtain ⟨a2, c2, rfl⟩ := h2.nil;clear h1 h2
    go_enter Tryz.func60, Tryz.ntmps60
    go_wp2
    go_loopw [5] (fun i wr => i = iJ 0 ∧ Below w.heap.size w wr) (fun i _ => 0)
    case atStart => exact ⟨rfl, Below.refl _ _⟩
    case round =>
      obtain ⟨rfl, hb⟩ := hrel
      go_wp2
      go_ret
      exact ⟨rfl, hb⟩
  · obtain ⟨b1, o1, c1, rfl, k1, m1, s1, H1⟩ := h1.at hn
    obtain ⟨b2, o2, c2, rfl, k2, m2, s2, H2⟩ := h2.at hn;unfold maxLen at m1 m2;clear h1 h2
    go_enter Tryz.func60, Tryz.ntmps60
    go_wp2
    go_loopw [5] (fun i wr => ∃ k : Nat, k ≤ l.length ∧ i = iJ k ∧ Below w.heap.size w wr) (fun i _ => l.length - (intOf i).toNat)
    case atStart => exact ⟨0, Nat.zero_le _, rfl, Below.refl _ _⟩
    case round =>
      obtain ⟨k, hk, rfl, hb⟩ := hrel
      by_cases hlt : k < l.length
      · obtain ⟨n, hg⟩ : ∃ n, l[k]? = some n := ⟨_, List.getElem?_eq_getElem hlt⟩
        have A1 : wr.cell? ⟨b1, o1 + k, none⟩ = some (iJ n) := (hb.cell (p := ⟨b1, o1 + k, none⟩) s1).trans (H1 k n hg);have A2 : wr.cell? ⟨b2, o2 + k, none⟩ = some (iJ n) := (hb.cell (p := ⟨b2, o2 + k, none⟩) s2).trans (H2 k n hg);have i0 : (0 : Int) ≤ (k : Int) := by omega
        have i1 : (k : Int) < (l.length : Int) := by omega
        clear hg H1 H2;have HB := Lib.hid hb;clear hb
        go_wp2
        go_region_held3 (fun w' => w'.cell? ⟨b1, o1 + k, none⟩ = some (iJ n) ∧ w'.cell? ⟨b2, o2 + k, none⟩ = some (iJ n)) (go_keep) (fail)
        go_wp2
        go_roundw
        case rel => exact ⟨k + 1, by omega, by go_num, by repeat (first | exact HB.out | refine Below.drew ?_)⟩
        case measure => simp [intOf]; omega
      · obtain rfl : k = l.length := by omega
        clear H1 H2
        go_wp2
        go_ret
        exact ⟨rfl, hb⟩
theorem FI (a1 a2 : Option Addr) (c1 c2 : Nat) (w0 : World) :
    Calls Tryz.prog 31 #[.slice a1 0 c1, .slice a2 0 c2] w0 fun e w' => e = .returned (.bool true) ∧ Below w0.heap.size w0 w' := by
  have hM := Mem.start w0
  go_enter Tryz.func31, Tryz.ntmps31
  refine sr fun _ cn1 => ?_;refine np (.bool false) ?_;go_frame;refine wz cn1 ?_;clear cn1;refine wp_seq_k fun Kn2 cn2 => ?_;refine sr fun _ cn3 => ?_;refine np (.slice a1 0 c1) <| np (iJ 0) <| np (.slice a2 0 c2) <| np (iJ 0) <| np (.bool false) ?_;go_frame;refine wz cn3 ?_;clear cn3;refine wp_cond_false rfl ?_;refine wp_skip ?_;refine cn2 _ _ ?_;clear cn2;refine wp_seq_k fun Kn4 cn4 => ?_;refine sr fun _ cn5 => ?_;refine np (iJ 0) ?_;go_frame;refine wz cn5 ?_;clear cn5;refine wp_block ?_;refine wp_loop_rounds 1 ?_;rw [rounds_succ];refine wp_seq_k fun Kn6 cn6 => ?_;refine sr fun _ cn7 => ?_;refine np (iJ 0) <| np (.slice a1 0 c1) <| np (iJ 0) <| np (.bool false) ?_;go_frame;refine wz cn7 ?_;clear cn7;refine wp_cond_false rfl ?_;refine wp_exit ?_;refine cn4 _ _ ?_;clear cn4;refine sr fun _ cn8 => ?_;refine np (.bool true) ?_;go_frame;refine wz cn8 ?_;clear cn8;refine wp_ret ?_;exact bt ⟨rfl, hM.below⟩
theorem DI  (b1 o1 b2 o2 : Nat) (l : List ND) (hl : l.length ≤ 1048576) (c1 c2 : Nat) (w0 : World) (sA : b1 < w0.heap.size) (sB : b2 < w0.heap.size) (G1 : ∀ k n, l[k]? = some n → At8 w0 b1 (o1 + k * 8) n) (G2 : ∀ k n, l[k]? = some n → At8 w0 b2 (o2 + k * 8) n) :
    Calls Tryz.prog 31 #[.slice (some ⟨b1, o1, none⟩) l.length c1, .slice (some ⟨b2, o2, none⟩) l.length c2] w0 fun e w' => e = .returned (.bool true) ∧ Below w0.heap.size w0 w' := by
  have hM := Mem.start w0
  go_enter Tryz.func31, Tryz.ntmps31
  refine sr fun _ cn1 => ?_;refine np (.bool false) ?_;go_frame;refine wz cn1 ?_;clear cn1;refine wp_seq_k fun Kn2 cn2 => ?_;refine sr fun _ cn3 => ?_;refine np (.slice (some ⟨b1, o1, none⟩) l.length c1) <| np (iJ (l.length : Int)) <| np (.slice (some ⟨b2, o2, none⟩) l.length c2) <| np (iJ (l.length : Int)) ?_;go_frame;refine sF (by kernel_rfl) (b := ((l.length : Int) != (l.length : Int))) (by kernel_rfl) ((bne_self_eq_false _)) ?_;go_frame;refine wz cn3 ?_;clear cn3;refine wp_cond_false rfl ?_;refine wp_skip ?_;refine cn2 _ _ ?_;clear cn2;refine wp_seq_k fun Kn4 cn4 => ?_;refine sr fun _ cn5 => ?_;refine np (iJ 0) ?_;go_frame;refine wz cn5 ?_;clear cn5;refine wp_block ?_;refine wp_loop (fun act w => ∃ (k : Nat) (U1 : Nat → Value), act = ⟨#[.slice (some ⟨b1, o1, none⟩) l.length c1, .slice (some ⟨b2, o2, none⟩) l.length c2, uD, uD, (U1 0), iJ (k : Int), .slice (some ⟨b1, o1, none⟩) l.length c1, iJ (l.length : Int), .slice (some ⟨b2, o2, none⟩) l.length c2, iJ (l.length : Int), .bool false, (U1 1), (U1 2), (U1 3), (U1 4), (U1 5), (U1 6), (U1 7), (U1 8), (U1 9), (U1 10), (U1 11), (U1 12), (U1 13), (U1 14), (U1 15)], []⟩ ∧ Mem w0 w [] ∧ (k ≤ l.length)) (fun act _ => l.length - (intOf (act.tmps.getD 5 undef)).toNat) ?_ ?_;exact ⟨0, exU (4 :: List.range' 11 15) ⟨hM, by omega⟩⟩;clear hM;rintro act w ⟨k, U1, rfl, hM, hk⟩;refine wp_seq_k fun Kn6 cn6 => ?_;refine sr fun _ cn7 => ?_;refine np (iJ (k : Int)) <| np (.slice (some ⟨b1, o1, none⟩) l.length c1) <| np (iJ (l.length : Int)) <| np (.bool (decide ((k : Int) < (l.length : Int)))) ?_;go_frame;refine wz cn7 ?_;clear cn7;rcases tf (decide ((k : Int) < (l.length : Int))) with hx1 | hx1;rw [hx1];have hkl : k < l.length := by simp at hx1; omega
  obtain ⟨⟨nkk, nkv, nkl, nkr, nko, nkg, nklt, nkrt⟩, hnk⟩ : ∃ n, l[k]? = some n := ⟨_, List.getElem?_eq_getElem hkl⟩;refine wp_cond_true rfl ?_;refine wp_skip ?_;refine cn6 _ _ ?_;clear cn6;refine wp_seq_k fun Kn8 cn8 => ?_;refine wp_block ?_;refine wp_seq_k fun Kn9 cn9 => ?_;refine wa_start (fun w => Below w0.heap.size w0 w ∧ True) 9 rfl (by kernel_rfl) ?_;replace hM := hM.drew;refine wt 0 (some 17) (.slice (some ⟨b1, o1, none⟩) l.length c1) ⟨hM.below, trivial⟩ <| wt 1 (some 18) (iJ (k : Int)) ⟨hM.below, trivial⟩ ?_;go_frame;refine wq 2 (some 19) (pt b1 (o1 + k * 8)) ⟨hM.below, trivial⟩ rfl (fun w hS => r_index 24 37 _ _ rfl b1 o1 l.length c1 8 k rfl rfl rfl (by omega) fA mA) ?_;go_frame;refine wq 3 (some 20) (.agg (ND.cells ⟨nkk, nkv, nkl, nkr, nko, nkg, nklt, nkrt⟩).toArray) ⟨hM.below, trivial⟩ rfl (fun w hS => r_cells 37 _ rfl b1 (o1 + k * 8) rfl GA (ND.cells ⟨nkk, nkv, nkl, nkr, nko, nkg, nklt, nkrt⟩) mA (lC (Mem.ofBelow hS.1) sA (G1 k _ hnk))) ?_;refine wt 4 (some 21) (.slice (some ⟨b2, o2, none⟩) l.length c2) ⟨hM.below, trivial⟩ <| wt 5 (some 22) (iJ (k : Int)) ⟨hM.below, trivial⟩ ?_;go_frame;refine wq 6 (some 23) (pt b2 (o2 + k * 8)) ⟨hM.below, trivial⟩ rfl (fun w hS => r_index 24 37 _ _ rfl b2 o2 l.length c2 8 k rfl rfl rfl (by omega) fA mA) ?_;go_frame;refine wq 7 (some 24) (.agg (ND.cells ⟨nkk, nkv, nkl, nkr, nko, nkg, nklt, nkrt⟩).toArray) ⟨hM.below, trivial⟩ rfl (fun w hS => r_cells 37 _ rfl b2 (o2 + k * 8) rfl GA (ND.cells ⟨nkk, nkv, nkl, nkr, nko, nkg, nklt, nkrt⟩) mA (lC (Mem.ofBelow hS.1) sB (G2 k _ hnk))) ?_;go_frame;refine wq 8 (some 25) (.bool false) ⟨hM.below, trivial⟩ rfl (fun w hS => r_eq (v := .bool (!(mI (⟨nkk, nkv, nkl, nkr, nko, nkg, nklt, nkrt⟩) (⟨nkk, nkv, nkl, nkr, nko, nkg, nklt, nkrt⟩)))) (jO ⟨nkk, nkv, nkl, nkr, nko, nkg, nklt, nkrt⟩ ⟨nkk, nkv, nkl, nkr, nko, nkg, nklt, nkrt⟩ rfl rfl rfl) (congrArg Value.bool (congrArg Bool.not (MJ _)))) ?_;go_frame;refine wa_done (by kernel_rfl) ?_;refine cn9 _ _ ?_;clear cn9;refine wp_cond_false rfl ?_;refine wp_skip ?_;refine cn8 _ _ ?_;clear cn8;refine wA ?_;refine np (iJ (k : Int)) <| nI ((k : Int) + 1) <| np (iJ ((k : Int) + 1)) ?_;go_frame;refine iB ?_;rw [show ((k : Int) + 1) = ((k + 1 : Nat) : Int) by omega];exact ⟨⟨k + 1, exU (4 :: List.range' 11 15) ⟨hM, by omega⟩⟩, by simp [intOf]; omega⟩;rw [hx1];refine wp_cond_false rfl ?_;refine wp_exit ?_;refine cn4 _ _ ?_;clear cn4;refine sr fun _ cn8 => ?_;refine np (.bool true) ?_;go_frame;refine wz cn8 ?_;clear cn8;refine wp_ret ?_;exact bt ⟨rfl, hM.below⟩
theorem EI (v1 v2 : Value) (l : List ND) (w : World) (h1 : NSl w v1 l) (h2 : NSl w v2 l) (hl : l.length ≤ 1048576) :
    Calls Tryz.prog 31 #[v1, v2] w fun e w' => e = .returned (.bool true) ∧ Below w.heap.size w w' := by
  by_cases hn : l = []
  · subst hn
    obtain ⟨a1, c1, rfl, -⟩ := h1;obtain ⟨a2, c2, rfl, -⟩ := h2;exact FI a1 a2 c1 c2 w
  · obtain ⟨b1, o1, c1, rfl, -, -, sA, G1⟩ := h1.at hn
    obtain ⟨b2, o2, c2, rfl, -, -, sB, G2⟩ := h2.at hn;exact DI b1 o1 b2 o2 l hl c1 c2 w sA sB G1 G2
theorem KH (a : Option Addr) (n c : Nat) (w0 : World) :
    Calls Tryz.prog 6 #[.slice a n c] w0 fun e w' => e = .returned (.bool (decide ((n : Int) > 4096))) ∧ Below w0.heap.size w0 w' := by
  have hM := Mem.start w0
  go_enter Tryz.func6, Tryz.ntmps6
  refine sr fun _ cn1 => ?_;refine np (.bool false) ?_;go_frame;refine wz cn1 ?_;clear cn1;refine sr fun _ cn2 => ?_;refine np (.slice a n c) <| np (iJ (n : Int)) <| np (.bool (decide ((n : Int) > 4096))) <| np (.bool (decide ((n : Int) > 4096))) ?_;go_frame;refine wz cn2 ?_;clear cn2;refine wp_ret ?_;exact bt ⟨rfl, hM.below⟩
theorem UD (u1 x1 u2 x2 : Value) (l : List ND) (c : List Int) (w0 : World) (h1 : NSl w0 u1 l) (h2 : NSl w0 u2 l) (h3 : SlI w0 x1 c) (h4 : SlI w0 x2 c) (hl : l.length ≤ 1048576) :
    Calls Tryz.prog 23 #[.agg #[u1, x1], .agg #[u2, x2]] w0 fun e w' => e = .returned (.bool true) ∧ Below w0.heap.size w0 w' := by
  have hM := Mem.start w0
  go_enter Tryz.func23, Tryz.ntmps23
  refine sr fun _ cn1 => ?_;refine nx hM 41 [u1, x1] ?_;clear hM;intro g1 W1 hM;refine nx hM 41 [u2, x2] ?_;clear hM;intro g2 W2 hM;refine np (.bool false) ?_;go_frame;refine wz cn1 ?_;clear cn1;refine sr fun _ cn2 => ?_;refine np (pt g1 0) <| ng hM 1 rfl 0 fA rfl <| np (pt g2 0) <| ng hM 0 rfl 0 fA rfl ?_;refine nc (EI u1 u2 l _ (h1.below hM.below) (h2.below hM.below) hl) ?_;rintro e W3 ⟨rfl, hb⟩;refine ⟨_, rfl, ?_⟩;replace hM := hM.call hb;go_frame;refine np (.bool true) <| np (pt g1 1) <| ng hM 1 rfl 1 KA rfl <| np (pt g2 1) <| ng hM 0 rfl 1 KA rfl ?_;refine nc (xJ x1 x2 c _ (h3.below hM.below) (h4.below hM.below)) ?_;rintro e W4 ⟨rfl, hb⟩;refine ⟨_, rfl, ?_⟩;replace hM := hM.call hb;go_frame;refine np (.bool true) <| np (.bool true) ?_;go_frame;refine wz cn2 ?_;clear cn2;refine wp_ret ?_;exact bt ⟨rfl, hM.below⟩
def GL : Option ND → Option ND → Int
  | some a, some b => if mI a b then 0 else 1
  | _, _ => 0
theorem FH (a : Option ND) : GL a a = 0 := by
  cases a
  · rfl
  · simp [GL, MJ]
theorem SI (a b : Option ND) : 0 ≤ GL a b ∧ GL a b ≤ 1 := by
  unfold GL
  repeat' split
  all_goals omega
def dN (l m : List ND) : Nat → Int
  | 0 => 0
  | k + 1 => dN l m k + GL l[k]? m[k]?
def dI (c d : List Int) : Nat → Int
  | 0 => 0
  | k + 1 => dI c d k + (if (NC c k != NC d k) then 1 else 0)
theorem rO {l m : List ND} {k : Nat} {a b : ND} (h1 : l[k]? = some a) (h2 : m[k]? = some b) (h : (!(mI a b)) = true) : dN l m (k + 1) = dN l m k + 1 := by
  have h' : mI a b = false := by simpa using h
  simp [dN, GL, h1, h2, h']
theorem nP {l m : List ND} {k : Nat} {a b : ND} (h1 : l[k]? = some a) (h2 : m[k]? = some b) (h : (!(mI a b)) = false) : dN l m (k + 1) = dN l m k := by
  have h' : mI a b = true := by simpa using h
  simp [dN, GL, h1, h2, h']
theorem uO {c d : List Int} {k : Nat} (h : (NC c k != NC d k) = true) : dI c d (k + 1) = dI c d k + 1 := by
  rw [dI, h]
  rfl
theorem oP {c d : List Int} {k : Nat} (h : (NC c k != NC d k) = false) : dI c d (k + 1) = dI c d k := by
  rw [dI, h]
  simp
theorem TI (l m : List ND) : ∀ k, 0 ≤ dN l m k ∧ dN l m k ≤ k
  | 0 => by simp [dN]
  | k + 1 => by
    have := TI l m k;have := SI l[k]? m[k]?;rw [dN]
    omega
theorem IL (c d : List Int) : ∀ k, 0 ≤ dI c d k ∧ dI c d k ≤ k
  | 0 => by simp [dI]
  | k + 1 => by
    have := IL c d k;rw [dI]
    split <;> omega
def YF (l m : List ND) (c d : List Int) : Int := ((m.length : Int) - (l.length : Int)) + dN l m l.length + dI c d c.length
theorem QM {w0 w : World} {M : List Bk} {b o cap : Nat} {c : List Int} {j : Nat} (hM : Mem w0 w M) (h : SlI w0 (.slice (some ⟨b, o, none⟩) c.length cap) c) (hj : j < c.length) : w.cell? ⟨b, o + j * 1, none⟩ = some (iJ (NC c j)) := by
  have h' := SlI.below h hM.below;obtain ⟨a, k, e, -, -, h3, h4⟩ := h';rcases h4 with h4 | ⟨b', o', e', hc⟩
  · have : c.length = 0 := by simpa [DA] using h4
    omega
  · cases e
    cases e'
    have hj' : j < (DA c).length := by simpa [DA] using hj
    rw [Nat.mul_one];rw [hc j (by simpa [DA] using hj)]
    simp [DA, NC, List.getElem?_eq_getElem hj]
theorem aM (b1 o1 c1 b2 o2 c2 b3 o3 c3 b4 o4 c4 : Nat) (l m : List ND) (c d : List Int) (w0 : World) (h3 : SlI w0 (.slice (some ⟨b3, o3, none⟩) c.length c3) c) (h4 : SlI w0 (.slice (some ⟨b4, o4, none⟩) d.length c4) d) (sA : b1 < w0.heap.size) (sB : b2 < w0.heap.size) (G1 : ∀ k n, l[k]? = some n → At8 w0 b1 (o1 + k * 8) n) (G2 : ∀ k n, m[k]? = some n → At8 w0 b2 (o2 + k * 8) n) (hl : l.length ≤ 1048576) (hm : m.length ≤ 1048576) (hc : c.length ≤ 1048576) (hle : l.length ≤ m.length) (hcd : c.length = d.length) :
    Calls Tryz.prog 36 #[.agg #[.slice (some ⟨b1, o1, none⟩) l.length c1, .slice (some ⟨b3, o3, none⟩) c.length c3], .agg #[.slice (some ⟨b2, o2, none⟩) m.length c2, .slice (some ⟨b4, o4, none⟩) d.length c4]] w0 fun e w' => e = .returned (iJ (YF l m c d)) ∧ Below w0.heap.size w0 w' := by
  have hM := Mem.start w0
  go_enter Tryz.func36, Tryz.ntmps36
  refine sr fun _ cn1 => ?_;refine nx hM 41 [.slice (some ⟨b1, o1, none⟩) l.length c1, .slice (some ⟨b3, o3, none⟩) c.length c3] ?_;clear hM;intro g1 W1 hM;refine nx hM 41 [.slice (some ⟨b2, o2, none⟩) m.length c2, .slice (some ⟨b4, o4, none⟩) d.length c4] ?_;clear hM;intro g2 W2 hM;refine np (iJ 0) ?_;go_frame;refine wz cn1 ?_;clear cn1;refine sr fun _ cn2 => ?_;refine np (pt g2 0) <| ng hM 0 rfl 0 fA rfl <| np (iJ (m.length : Int)) <| np (pt g1 0) <| ng hM 1 rfl 0 fA rfl <| np (iJ (l.length : Int)) ?_;refine nI ((m.length : Int) - (l.length : Int)) <| np (iJ ((m.length : Int) - (l.length : Int))) ?_;go_frame;refine wz cn2 ?_;clear cn2;refine wp_seq_k fun Kn3 cn3 => ?_;refine sr fun _ cn4 => ?_;refine np (iJ 0) ?_;go_frame;refine wz cn4 ?_;clear cn4;refine wp_block ?_;refine wp_loop (fun act w => ∃ (k : Nat) (nk : Int) (U1 : Nat → Value), act = ⟨#[.agg #[.slice (some ⟨b1, o1, none⟩) l.length c1, .slice (some ⟨b3, o3, none⟩) c.length c3], .agg #[.slice (some ⟨b2, o2, none⟩) m.length c2, .slice (some ⟨b4, o4, none⟩) d.length c4], pt g1 0, pt g2 0, iJ 0, iJ nk, iJ (k : Int), uD, pt g2 0, .slice (some ⟨b2, o2, none⟩) m.length c2, iJ (m.length : Int), pt g1 0, .slice (some ⟨b1, o1, none⟩) l.length c1, iJ (l.length : Int), iJ ((m.length : Int) - (l.length : Int)), (U1 0), (U1 1), (U1 2), (U1 3), (U1 4), (U1 5), (U1 6), (U1 7), (U1 8), (U1 9), (U1 10), (U1 11), (U1 12), (U1 13), (U1 14), (U1 15), (U1 16), (U1 17), (U1 18), (U1 19), (U1 20), (U1 21), (U1 22), (U1 23), (U1 24), (U1 25), (U1 26), uD, uD, uD, uD, uD, uD, uD, uD, uD, uD, uD, uD, uD, uD, uD, uD, uD, uD, uD, uD, uD, uD, uD, uD, uD, uD, uD, uD], []⟩ ∧ Mem w0 w [(g2, 41, [.slice (some ⟨b2, o2, none⟩) m.length c2, .slice (some ⟨b4, o4, none⟩) d.length c4]), (g1, 41, [.slice (some ⟨b1, o1, none⟩) l.length c1, .slice (some ⟨b3, o3, none⟩) c.length c3])] ∧ (k ≤ l.length ∧ nk = ((m.length : Int) - (l.length : Int)) + dN l m k)) (fun act _ => l.length - (intOf (act.tmps.getD 6 undef)).toNat) ?_ ?_;exact ⟨0, _, (fun i => [uD, uD, uD, uD, uD, uD, uD, uD, uD, uD, uD, uD, uD, uD, uD, uD, uD, uD, uD, uD, uD, uD, uD, uD, uD, uD, uD].getD i undef), rfl, hM, by omega, by simp [dN]⟩;clear hM;rintro act w ⟨k, nk, U1, rfl, hM, hk, hnk⟩;refine wp_seq_k fun Kn5 cn5 => ?_;refine sr fun _ cn6 => ?_;refine np (iJ (k : Int)) <| np (pt g1 0) <| ng hM 1 rfl 0 fA rfl <| np (iJ (l.length : Int)) <| np (.bool (decide ((k : Int) < (l.length : Int)))) <| np (.bool (decide ((k : Int) < (l.length : Int)))) ?_;go_frame;rcases tf (decide ((k : Int) < (l.length : Int))) with hx2 | hx2;rw [hx2];have hkl : k < l.length := by have h9 := of_decide_eq_true hx2; omega
  have hkm : decide ((k : Int) < (m.length : Int)) = true := by simp; omega
  obtain ⟨⟨nak, nav, nal, nar, nao, nag, nalt, nart⟩, hn1⟩ : ∃ n, l[k]? = some n := ⟨_, List.getElem?_eq_getElem hkl⟩;obtain ⟨⟨nbk, nbv, nbl, nbr, nbo, nbg, nblt, nbrt⟩, hn2⟩ : ∃ n, m[k]? = some n := ⟨_, List.getElem?_eq_getElem (Nat.lt_of_lt_of_le hkl hle)⟩;have bN := TI l m k;refine np (iJ (k : Int)) <| np (pt g2 0) <| ng hM 0 rfl 0 fA rfl <| np (iJ (m.length : Int)) <| nB (hkm) <| np (.bool true) ?_;go_frame;refine wz cn6 ?_;clear cn6;refine wp_cond_true rfl ?_;refine wp_skip ?_;refine cn5 _ _ ?_;clear cn5;refine wp_seq_k fun Kn7 cn7 => ?_;refine wp_block ?_;refine wp_seq_k fun Kn8 cn8 => ?_;refine wa_start (fun w => Below w0.heap.size w0 w ∧ Blk w g1 41 [.slice (some ⟨b1, o1, none⟩) l.length c1, .slice (some ⟨b3, o3, none⟩) c.length c3] ∧ Blk w g2 41 [.slice (some ⟨b2, o2, none⟩) m.length c2, .slice (some ⟨b4, o4, none⟩) d.length c4]) 11 rfl (by kernel_rfl) ?_;replace hM := hM.drew;refine wt 0 (some 29) (pt g1 0) (hM.b2 1 0 rfl rfl) ?_;go_frame;refine wC 1 (some 30) 0 (fun w hS => hS.2.1) rfl (hM.b2 1 0 rfl rfl) <| wt 2 (some 31) (iJ (k : Int)) (hM.b2 1 0 rfl rfl) ?_;go_frame;refine wq 3 (some 32) (pt b1 (o1 + k * 8)) (hM.b2 1 0 rfl rfl) rfl (fun w hS => r_index 24 37 _ _ rfl b1 o1 l.length c1 8 k rfl rfl rfl (by omega) fA mA) ?_;go_frame;refine wq 4 (some 33) (.agg (ND.cells ⟨nak, nav, nal, nar, nao, nag, nalt, nart⟩).toArray) (hM.b2 1 0 rfl rfl) rfl (fun w hS => r_cells 37 _ rfl b1 (o1 + k * 8) rfl GA (ND.cells ⟨nak, nav, nal, nar, nao, nag, nalt, nart⟩) mA (lC (Mem.ofBelow hS.1) sA (G1 k _ hn1))) ?_;refine wt 5 (some 34) (pt g2 0) (hM.b2 1 0 rfl rfl) ?_;go_frame;refine wC 6 (some 35) 0 (fun w hS => hS.2.2) rfl (hM.b2 1 0 rfl rfl) <| wt 7 (some 36) (iJ (k : Int)) (hM.b2 1 0 rfl rfl) ?_;go_frame;refine wq 8 (some 37) (pt b2 (o2 + k * 8)) (hM.b2 1 0 rfl rfl) rfl (fun w hS => r_index 24 37 _ _ rfl b2 o2 m.length c2 8 k rfl rfl rfl (by omega) fA mA) ?_;go_frame;refine wq 9 (some 38) (.agg (ND.cells ⟨nbk, nbv, nbl, nbr, nbo, nbg, nblt, nbrt⟩).toArray) (hM.b2 1 0 rfl rfl) rfl (fun w hS => r_cells 37 _ rfl b2 (o2 + k * 8) rfl GA (ND.cells ⟨nbk, nbv, nbl, nbr, nbo, nbg, nblt, nbrt⟩) mA (lC (Mem.ofBelow hS.1) sB (G2 k _ hn2))) ?_;go_frame;refine wq 10 (some 39) (.bool (!(mI ⟨nak, nav, nal, nar, nao, nag, nalt, nart⟩ ⟨nbk, nbv, nbl, nbr, nbo, nbg, nblt, nbrt⟩))) (hM.b2 1 0 rfl rfl) rfl (fun w hS => jO ⟨nak, nav, nal, nar, nao, nag, nalt, nart⟩ ⟨nbk, nbv, nbl, nbr, nbo, nbg, nblt, nbrt⟩ rfl rfl rfl) ?_;go_frame;refine wa_done (by kernel_rfl) ?_;refine cn8 _ _ ?_;clear cn8;rcases tf ((!(mI ⟨nak, nav, nal, nar, nao, nag, nalt, nart⟩ ⟨nbk, nbv, nbl, nbr, nbo, nbg, nblt, nbrt⟩))) with hx3 | hx3;rw [hx3];refine wp_cond_true rfl ?_;refine wA ?_;refine np (iJ nk) <| nI (nk + 1) <| np (iJ (nk + 1)) ?_;go_frame;refine wz cn7 ?_;clear cn7;refine wA ?_;refine np (iJ (k : Int)) <| nI ((k : Int) + 1) <| np (iJ ((k : Int) + 1)) ?_;go_frame;refine iB ?_;rw [show ((k : Int) + 1) = ((k + 1 : Nat) : Int) by omega];exact ⟨⟨k + 1, (nk + 1), (fun i => [iJ (k : Int), pt g1 0, .slice (some ⟨b1, o1, none⟩) l.length c1, iJ (l.length : Int), .bool true, .bool true, iJ (k : Int), pt g2 0, .slice (some ⟨b2, o2, none⟩) m.length c2, iJ (m.length : Int), .bool true, .bool true, iJ (k : Int), iJ ((k : Int) + 1), pt g1 0, .slice (some ⟨b1, o1, none⟩) l.length c1, iJ (k : Int), pt b1 (o1 + k * 8), .agg (ND.cells ⟨nak, nav, nal, nar, nao, nag, nalt, nart⟩).toArray, pt g2 0, .slice (some ⟨b2, o2, none⟩) m.length c2, iJ (k : Int), pt b2 (o2 + k * 8), .agg (ND.cells ⟨nbk, nbv, nbl, nbr, nbo, nbg, nblt, nbrt⟩).toArray, .bool true, iJ nk, iJ (nk + 1)].getD i undef), rfl, hM, by omega, by first | (rw [rO hn1 hn2 (by assumption)]; omega) | (rw [nP hn1 hn2 (by assumption)]; omega)⟩, by simp [intOf]; omega⟩
  rw [hx3];refine wp_cond_false rfl ?_;refine wp_skip ?_;refine cn7 _ _ ?_;clear cn7;refine wA ?_;refine np (iJ (k : Int)) <| nI ((k : Int) + 1) <| np (iJ ((k : Int) + 1)) ?_;go_frame;refine iB ?_;rw [show ((k : Int) + 1) = ((k + 1 : Nat) : Int) by omega];exact ⟨⟨k + 1, nk, (fun i => [iJ (k : Int), pt g1 0, .slice (some ⟨b1, o1, none⟩) l.length c1, iJ (l.length : Int), .bool true, .bool true, iJ (k : Int), pt g2 0, .slice (some ⟨b2, o2, none⟩) m.length c2, iJ (m.length : Int), .bool true, .bool true, iJ (k : Int), iJ ((k : Int) + 1), pt g1 0, .slice (some ⟨b1, o1, none⟩) l.length c1, iJ (k : Int), pt b1 (o1 + k * 8), .agg (ND.cells ⟨nak, nav, nal, nar, nao, nag, nalt, nart⟩).toArray, pt g2 0, .slice (some ⟨b2, o2, none⟩) m.length c2, iJ (k : Int), pt b2 (o2 + k * 8), .agg (ND.cells ⟨nbk, nbv, nbl, nbr, nbo, nbg, nblt, nbrt⟩).toArray, .bool false, (U1 25), (U1 26)].getD i undef), rfl, hM, by omega, by first | (rw [rO hn1 hn2 (by assumption)]; omega) | (rw [nP hn1 hn2 (by assumption)]; omega)⟩, by simp [intOf]; omega⟩;rw [hx2]
  iterate 5 refine ns ?_
  refine np (.bool false) ?_;go_frame;refine wz cn6 ?_;clear cn6;refine wp_cond_false rfl ?_;refine wp_exit ?_;refine cn3 _ _ ?_;clear cn3;refine wp_seq_k fun Kn7 cn7 => ?_;refine sr fun _ cn8 => ?_;refine np (iJ 0) ?_;go_frame;refine wz cn8 ?_;clear cn8;refine wp_block ?_;have hke : k = l.length := by have h9 := of_decide_eq_false hx2; omega
  refine wp_loop (fun act w => ∃ (j : Nat) (nj : Int) (U2 : Nat → Value), act = ⟨#[.agg #[.slice (some ⟨b1, o1, none⟩) l.length c1, .slice (some ⟨b3, o3, none⟩) c.length c3], .agg #[.slice (some ⟨b2, o2, none⟩) m.length c2, .slice (some ⟨b4, o4, none⟩) d.length c4], pt g1 0, pt g2 0, iJ 0, iJ nj, iJ (k : Int), iJ (j : Int), pt g2 0, .slice (some ⟨b2, o2, none⟩) m.length c2, iJ (m.length : Int), pt g1 0, .slice (some ⟨b1, o1, none⟩) l.length c1, iJ (l.length : Int), iJ ((m.length : Int) - (l.length : Int)), iJ (k : Int), pt g1 0, .slice (some ⟨b1, o1, none⟩) l.length c1, iJ (l.length : Int), .bool false, .bool false, uD, uD, uD, uD, uD, .bool false, (U1 12), (U1 13), (U1 14), (U1 15), (U1 16), (U1 17), (U1 18), (U1 19), (U1 20), (U1 21), (U1 22), (U1 23), (U1 24), (U1 25), (U1 26), (U2 0), (U2 1), (U2 2), (U2 3), (U2 4), (U2 5), (U2 6), (U2 7), (U2 8), (U2 9), (U2 10), (U2 11), (U2 12), (U2 13), (U2 14), (U2 15), (U2 16), (U2 17), (U2 18), (U2 19), (U2 20), (U2 21), (U2 22), (U2 23), (U2 24), (U2 25), (U2 26), uD], []⟩ ∧ Mem w0 w [(g2, 41, [.slice (some ⟨b2, o2, none⟩) m.length c2, .slice (some ⟨b4, o4, none⟩) d.length c4]), (g1, 41, [.slice (some ⟨b1, o1, none⟩) l.length c1, .slice (some ⟨b3, o3, none⟩) c.length c3])] ∧ (j ≤ c.length ∧ nj = ((m.length : Int) - (l.length : Int)) + dN l m l.length + dI c d j)) (fun act _ => c.length - (intOf (act.tmps.getD 7 undef)).toNat) ?_ ?_;exact ⟨0, _, (fun i => [uD, uD, uD, uD, uD, uD, uD, uD, uD, uD, uD, uD, uD, uD, uD, uD, uD, uD, uD, uD, uD, uD, uD, uD, uD, uD, uD].getD i undef), rfl, hM, by omega, by rw [dI, ← hke]; omega⟩;clear hM;rintro act w ⟨j, nj, U2, rfl, hM, hj, hnj⟩;refine wp_seq_k fun Kn9 cn9 => ?_;refine sr fun _ cn10 => ?_;refine np (iJ (j : Int)) <| np (pt g1 1) <| ng hM 1 rfl 1 KA rfl <| np (iJ (c.length : Int)) <| np (.bool (decide ((j : Int) < (c.length : Int)))) <| np (.bool (decide ((j : Int) < (c.length : Int)))) ?_;go_frame;rcases tf (decide ((j : Int) < (c.length : Int))) with hx5 | hx5;rw [hx5];have hjl : j < c.length := by have h9 := of_decide_eq_true hx5; omega
  have hjm : j < d.length := by omega
  have hjd : decide ((j : Int) < (d.length : Int)) = true := by simp; omega
  have bI := IL c d j;have bN := TI l m l.length;refine np (iJ (j : Int)) <| np (pt g2 1) <| ng hM 0 rfl 1 KA rfl <| np (iJ (d.length : Int)) <| nB (hjd) <| np (.bool true) ?_;go_frame;refine wz cn10 ?_;clear cn10;refine wp_cond_true rfl ?_;refine wp_skip ?_;refine cn9 _ _ ?_;clear cn9;refine wp_seq_k fun Kn11 cn11 => ?_;refine wp_block ?_;refine wp_seq_k fun Kn12 cn12 => ?_;refine wa_start (fun w => Below w0.heap.size w0 w ∧ Blk w g1 41 [.slice (some ⟨b1, o1, none⟩) l.length c1, .slice (some ⟨b3, o3, none⟩) c.length c3] ∧ Blk w g2 41 [.slice (some ⟨b2, o2, none⟩) m.length c2, .slice (some ⟨b4, o4, none⟩) d.length c4]) 11 rfl (by kernel_rfl) ?_;replace hM := hM.drew;refine wt 0 (some 56) (pt g1 1) (hM.b2 1 0 rfl rfl) ?_;go_frame;refine wC 1 (some 57) 1 (fun w hS => hS.2.1) rfl (hM.b2 1 0 rfl rfl) <| wt 2 (some 58) (iJ (j : Int)) (hM.b2 1 0 rfl rfl) ?_;go_frame;refine wq 3 (some 59) (pt b3 (o3 + j * 1)) (hM.b2 1 0 rfl rfl) rfl (fun w hS => r_index 39 2 _ _ rfl b3 o3 c.length c3 1 j rfl rfl rfl (by omega) KA AA) ?_;go_frame;refine wq 4 (some 60) (iJ (NC c j)) (hM.b2 1 0 rfl rfl) rfl (fun w hS => r_cell 2 _ rfl ⟨b3, o3 + j * 1, none⟩ rfl bA rfl (QM (Mem.ofBelow hS.1) h3 hjl)) ?_;refine wt 5 (some 61) (pt g2 1) (hM.b2 1 0 rfl rfl) ?_;go_frame;refine wC 6 (some 62) 1 (fun w hS => hS.2.2) rfl (hM.b2 1 0 rfl rfl) <| wt 7 (some 63) (iJ (j : Int)) (hM.b2 1 0 rfl rfl) ?_;go_frame;refine wq 8 (some 64) (pt b4 (o4 + j * 1)) (hM.b2 1 0 rfl rfl) rfl (fun w hS => r_index 39 2 _ _ rfl b4 o4 d.length c4 1 j rfl rfl rfl (by omega) KA AA) ?_;go_frame;refine wq 9 (some 65) (iJ (NC d j)) (hM.b2 1 0 rfl rfl) rfl (fun w hS => r_cell 2 _ rfl ⟨b4, o4 + j * 1, none⟩ rfl bA rfl (QM (Mem.ofBelow hS.1) h4 hjm)) ?_;refine wt 10 (some 66) (.bool ((NC c j) != (NC d j))) (hM.b2 1 0 rfl rfl) ?_;go_frame;refine wa_done (by kernel_rfl) ?_;refine cn12 _ _ ?_;clear cn12;rcases tf (((NC c j) != (NC d j))) with hx6 | hx6;rw [hx6];refine wp_cond_true rfl ?_;refine wA ?_;refine np (iJ nj) <| nI (nj + 1) <| np (iJ (nj + 1)) ?_;go_frame;refine wz cn11 ?_;clear cn11;refine wA ?_;refine np (iJ (j : Int)) <| nI ((j : Int) + 1) <| np (iJ ((j : Int) + 1)) ?_;go_frame;refine iB ?_;rw [show ((j : Int) + 1) = ((j + 1 : Nat) : Int) by omega];exact ⟨⟨j + 1, (nj + 1), (fun i => [iJ (j : Int), pt g1 1, .slice (some ⟨b3, o3, none⟩) c.length c3, iJ (c.length : Int), .bool true, .bool true, iJ (j : Int), pt g2 1, .slice (some ⟨b4, o4, none⟩) d.length c4, iJ (d.length : Int), .bool true, .bool true, iJ (j : Int), iJ ((j : Int) + 1), pt g1 1, .slice (some ⟨b3, o3, none⟩) c.length c3, iJ (j : Int), pt b3 (o3 + j * 1), iJ (NC c j), pt g2 1, .slice (some ⟨b4, o4, none⟩) d.length c4, iJ (j : Int), pt b4 (o4 + j * 1), iJ (NC d j), .bool true, iJ nj, iJ (nj + 1)].getD i undef), rfl, hM, by omega, by first | (rw [uO (by assumption)]; omega) | (rw [oP (by assumption)]; omega)⟩, by simp [intOf]; omega⟩;rw [hx6];refine wp_cond_false rfl ?_;refine wp_skip ?_;refine cn11 _ _ ?_;clear cn11;refine wA ?_;refine np (iJ (j : Int)) <| nI ((j : Int) + 1) <| np (iJ ((j : Int) + 1)) ?_;go_frame;refine iB ?_;rw [show ((j : Int) + 1) = ((j + 1 : Nat) : Int) by omega];exact ⟨⟨j + 1, nj, (fun i => [iJ (j : Int), pt g1 1, .slice (some ⟨b3, o3, none⟩) c.length c3, iJ (c.length : Int), .bool true, .bool true, iJ (j : Int), pt g2 1, .slice (some ⟨b4, o4, none⟩) d.length c4, iJ (d.length : Int), .bool true, .bool true, iJ (j : Int), iJ ((j : Int) + 1), pt g1 1, .slice (some ⟨b3, o3, none⟩) c.length c3, iJ (j : Int), pt b3 (o3 + j * 1), iJ (NC c j), pt g2 1, .slice (some ⟨b4, o4, none⟩) d.length c4, iJ (j : Int), pt b4 (o4 + j * 1), iJ (NC d j), .bool false, (U2 25), (U2 26)].getD i undef), rfl, hM, by omega, by first | (rw [uO (by assumption)]; omega) | (rw [oP (by assumption)]; omega)⟩, by simp [intOf]; omega⟩
  rw [hx5]
  iterate 5 refine ns ?_
  refine np (.bool false) ?_;go_frame;refine wz cn10 ?_;clear cn10;refine wp_cond_false rfl ?_;refine wp_exit ?_;refine cn7 _ _ ?_;clear cn7;refine sr fun _ cn11 => ?_;refine np (iJ nj) <| np (iJ nj) ?_;go_frame;refine wz cn11 ?_;clear cn11;refine wp_ret ?_;have hje : j = c.length := by have h9 := of_decide_eq_false hx5; omega
  exact bodyPost_ret (v := iJ nj) (LC 4 rfl rfl) rfl ⟨congrArg (fun z => Ending.returned (Value.int .i64 z)) (show nj = YF l m c d by unfold YF; rw [← hje]; omega), hM.below⟩
theorem mL {w : World} {a : Option Addr} {k : Nat} (h : k ≤ maxLen) : NSl w (.slice a 0 k) [] := ⟨a, k, rfl, Nat.zero_le _, h, rfl, .inl rfl⟩
theorem cL {w : World} {a : Option Addr} {k : Nat} (h : k ≤ maxLen) : SlI w (.slice a 0 k) [] := ⟨a, k, rfl, Nat.zero_le _, h, rfl, .inl rfl⟩
def SL (l : List ND) (c : List Int) (h : HD) (R : KE) : Prop :=
  (∃ lo co ho, R = (lo, co, ho, true) ∧ NA lo co = true ∧ UA ho = true ∧ (0 < l.length ∧ 0 < c.length ∧ c.length ≤ 6) ∧ (l.length ≤ lo.length ∧ lo.length ≤ 30) ∧ c.length = co.length ∧ YF l lo c co ≤ 1) ∨ (R = (l, c, h, false) ∧ 0 < l.length ∧ 0 < c.length) ∨ R = ([], [], HD.zero, false)
theorem UM (l : List ND) : ∀ k, dN l l k = 0
  | 0 => rfl
  | k + 1 => by rw [dN, UM l k, FH]; rfl
theorem VM (c : List Int) : ∀ k, dI c c k = 0
  | 0 => rfl
  | k + 1 => by simp [dI, VM c k]
theorem tO (l m : List ND) : ∀ k, k ≤ l.length → dN l (l ++ m) k = 0
  | 0, _ => rfl
  | k + 1, hk => by rw [dN, tO l m k (by omega), List.getElem?_append_left (by omega), FH]; rfl
theorem sO (l : List ND) (i : Nat) (x : ND) : ∀ k, dN l (l.set i x) k ≤ (if i < k then 1 else 0)
  | 0 => by simp [dN]
  | k + 1 => by
    have ih := sO l i x k
    rw [dN]
    by_cases e : i = k
    · subst e
      simp only [Nat.lt_irrefl, if_false] at ih
      rw [if_pos (by omega)]
      have := SI l[i]? (l.set i x)[i]?
      omega
    · rw [List.getElem?_set_ne e, FH, Int.add_zero]
      by_cases h1 : i < k
      · rw [if_pos h1] at ih
        rw [if_pos (by omega)]
        exact ih
      · rw [if_neg h1] at ih
        rw [if_neg (by omega)]
        exact ih
def EP (l lo : List ND) : Prop := lo = l ∨ (∃ (i : Nat) (x : ND), lo = l.set i x) ∨ ∃ x : ND, lo = l ++ [x]
theorem lN {l lo : List ND} {c : List Int} (h : EP l lo) : l.length ≤ lo.length ∧ YF l lo c c ≤ 1 := by
  unfold YF
  rw [VM]
  rcases h with rfl | ⟨i, x, rfl⟩ | ⟨x, rfl⟩
  · rw [UM]; exact ⟨Nat.le_refl _, by omega⟩
  · have := sO l i x l.length
    rw [List.length_set]
    exact ⟨Nat.le_refl _, by split at this <;> omega⟩
  · rw [tO _ _ _ (Nat.le_refl _)]
    refine ⟨by simp, ?_⟩
    simp only [List.length_append, List.length_cons, List.length_nil]
    omega
theorem KD {l lo : List ND} {c : List Int} {h ho : HD} (h0 : 0 < l.length ∧ 0 < c.length ∧ c.length ≤ 6) (ho1 : EP l lo) : SL l c h (RA lo c ho) := by
  unfold RA
  split
  · rename_i hb
    simp only [Bool.and_eq_true] at hb
    have hb1 := hb.1
    simp only [NA, Bool.and_eq_true] at hb1
    have := (gB hb1.1).2
    obtain ⟨t1, t2⟩ := lN (c := c) ho1
    exact .inl ⟨lo, c, ho, rfl, hb.1, hb.2, h0, ⟨t1, this⟩, rfl, t2⟩
  · exact .inr (.inr rfl)
theorem VJ (u1 x1 u2 x2 : Value) (l m : List ND) (c d : List Int) (w0 : World) (h1 : NSl w0 u1 l) (h2 : NSl w0 u2 m) (h3 : SlI w0 x1 c) (h4 : SlI w0 x2 d) (l0 : 0 < l.length) (c0 : 0 < c.length) (hm : m.length ≤ 1048576) (hc : c.length ≤ 1048576) (hle : l.length ≤ m.length) (hcd : c.length = d.length) :
    Calls Tryz.prog 36 #[.agg #[u1, x1], .agg #[u2, x2]] w0 fun e w' => e = .returned (iJ (YF l m c d)) ∧ Below w0.heap.size w0 w' := by
  have g3 := h3
  have g4 := h4
  obtain ⟨b1, o1, c1, rfl, -, -, sA, G1⟩ := h1.at (List.length_pos_iff.1 l0)
  obtain ⟨b2, o2, c2, rfl, -, -, sB, G2⟩ := h2.at (List.length_pos_iff.1 (by omega))
  obtain ⟨a3, k3, rfl, -, -, -, h3⟩ := h3
  obtain ⟨a4, k4, rfl, -, -, -, h4⟩ := h4
  rcases h3 with h3 | ⟨b3, o3, rfl, -⟩
  · have : c.length = 0 := by simpa [DA] using h3
    omega
  · rcases h4 with h4 | ⟨b4, o4, rfl, -⟩
    · have : d.length = 0 := by simpa [DA] using h4
      omega
    · exact aM b1 o1 c1 b2 o2 c2 b3 o3 k3 b4 o4 k4 l m c d w0 g3 g4 sA sB G1 G2 (by omega) hm hc hle hcd
end Go.Proofs.YtfjafncipjdnfaaGreat
