import Derived.Test.YtfjafncipjdnfaaGreatNodesImpl
import Derived.Test.YtfjafncipjdnfaaGreatHandImpl
import Derived.Test.YtfjafncipjdnfaaGreatStep10
namespace Go.Proofs.YtfjafncipjdnfaaGreat
open Go.ChangeShapes Go.WideShapes Go.ChangeAt Go.RowKit
set_option linter.unusedVariables false
set_option linter.unusedSimpArgs false
set_option maxHeartbeats 1000000 in
theorem eM (v : Value) (l : List ND) (w : World) (h : NSl w v l) (hn : l ≠ []) (hl : l.length ≤ 1048576) : Calls Tryz.prog 134 #[v] w (QP w l) := by
  obtain ⟨b1, o1, c1, rfl, k1, m1, s1, H1⟩ := h.at hn
  have hl0 : 0 < l.length := List.length_pos_iff.2 hn
  obtain ⟨i0, hi0, hz0, hz1, hz2⟩ := info_parts lF
  have HW := Lib.hid h
  have he : ∀ w : World, (binOp .eql 24 (.slice (some ⟨b1, o1, none⟩) l.length c1) (sZ)).run Tryz.prog w = .ok (.bool false) w := fun _ => by kernel_rfl
  clear H1 h
  go_enter Tryz.func134, Tryz.ntmps134
  go_wp2_with (first
    | (at_builtin; refine wpList_append_lies _ rfl _ _ 24 rfl w.heap.size 37 i0 _ 8 64 fA hi0 hz0 hz1 hz2 rfl (by decide) (.slice (some ⟨w.heap.size, 0, none⟩) 0 0) 0 [] rfl (lE _ _ (Below.refl _ _)) ⟨b1, o1, none⟩ l.length c1 (cellsOf l) rfl (jA l) (qJ HW.out ((Below.refl _ _).alloc (Nat.le_refl _) _) hn) (yI l) hl0 (by unfold maxLen; omega) (by omega) (by simp) (w.heap.size + 1) (by simp) ?_; intro g cap w1 hown hgrow hat hgl)
    | go_in)
  go_ret
  rw [List.nil_append, Nat.zero_add] at hown
  obtain ⟨q1, q2⟩ : w.heap.size ≤ g ∧ Below w.heap.size w w1 := ⟨by
      rcases hat with h | h
      · simp [Value.ownBlock] at h; omega
      · omega, ((Below.refl _ _).alloc (Nat.le_refl _) _).grown hgrow (by simp) (fun j hj => by simp [Value.ownBlock] at hj; omega)⟩
  exact ⟨g, _, rfl, q1, iD hown, q2⟩
set_option maxRecDepth 100000
set_option maxHeartbeats 16000000
def mx (x y : Int) : Int := if y > x then y else x
def KN (h : HD) : Int := mx (mx (mx (mx h.prev h.cur) h.up) h.next) h.new
def uJ (h : HD) (l : List ND) : Bool := decide (KN h < (l.length : Int))
def wE (l : List ND) (c : List Int) (task : Int) (h : HD) : Bool := ((PA l c && TA h) && aB task 0 ((c.length : Int) - 1)) && uJ h l
theorem zF (u x : Value) (l : List ND) (c : List Int) (w0 : World) (h1 : NSl w0 u l) (h2 : SlI w0 x c) (hl : l.length ≤ 1048576) (hc : c.length ≤ 1048576) :
    Calls Tryz.prog 24 #[.agg #[u, x]] w0 fun e w' => e = .returned (.bool (PA l c)) ∧ Below w0.heap.size w0 w' := by
  have hM := Mem.start w0
  go_enter Tryz.func24, Tryz.ntmps24
  refine sr fun _ cn1 => ?_;refine nx hM 41 [u, x] ?_;clear hM;intro g1 W1 hM;refine np (.bool false) ?_;go_frame;refine wz cn1 ?_;clear cn1;refine sr fun _ cn2 => ?_;refine np (pt g1 0) <| ng hM 0 rfl 0 fA rfl ?_;refine nc (cL u l _ (h1.below hM.below) hl) ?_;rintro e W2 ⟨rfl, hb⟩;refine ⟨_, rfl, ?_⟩;replace hM := hM.call hb;go_frame;refine np (.bool (YA l)) ?_;go_frame;rcases tf ((YA l)) with hx2 | hx2;rw [hx2];refine np (pt g1 1) <| ng hM 0 rfl 1 GA rfl ?_;refine nc (RJ x c _ (h2.below hM.below) hc) ?_;rintro e W3 ⟨rfl, hb⟩;refine ⟨_, rfl, ?_⟩;replace hM := hM.call hb;go_frame;refine np (.bool (MB c)) <| np (.bool (MB c)) ?_;go_frame;refine wz cn2 ?_;clear cn2;refine wp_ret ?_;exact bt ⟨aC (show (MB c) = PA l c from by simp [PA, hx2]), hM.below⟩;rw [hx2]
  iterate 3 refine ns ?_
  refine np (.bool false) <| np (.bool false) ?_;go_frame;refine wz cn2 ?_;clear cn2;refine wp_ret ?_;exact bt ⟨aC (show false = PA l c from by simp [PA, hx2]), hM.below⟩
theorem ZK (h : HD) (ua : Option Addr) (n uc : Nat) (w0 : World) :
    Calls Tryz.prog 133 #[h.val, .slice ua n uc] w0 fun e w' => e = .returned (.bool (decide (KN h < (n : Int)))) ∧ Below w0.heap.size w0 w' := by
  unfold HD.val;have hM := Mem.start w0
  go_enter Tryz.func133, Tryz.ntmps133
  refine sr fun _ cn1 => ?_;refine nx hM 45 (HD.cells h) ?_;clear hM;intro g1 W1 hM;refine np (.bool false) ?_;go_frame;refine wz cn1 ?_;clear cn1;refine sr fun _ cn2 => ?_;refine np (pt g1 4) <| ng hM 0 rfl 4 bA rfl <| np (pt g1 5) <| ng hM 0 rfl 5 bA rfl <| np (pt g1 8) <| ng hM 0 rfl 8 bA rfl ?_;refine np (pt g1 9) <| ng hM 0 rfl 9 bA rfl <| np (pt g1 10) <| ng hM 0 rfl 10 bA rfl <| np (iJ (KN h)) <| np (.slice ua n uc) ?_;refine np (iJ (n : Int)) <| np (.bool (decide ((KN h) < (n : Int)))) <| np (.bool (decide ((KN h) < (n : Int)))) ?_;go_frame;refine wz cn2 ?_;clear cn2;refine wp_ret ?_;exact bt ⟨rfl, hM.below⟩
theorem NG (ua : Option Addr) (uc : Nat) (xa : Option Addr) (xc : Nat) (l : List ND) (c : List Int) (task : Int) (h : HD) (w0 : World) (h1 : NSl w0 (.slice ua l.length uc) l) (h2 : SlI w0 (.slice xa c.length xc) c) (hl : l.length ≤ 1048576) (hc : c.length ≤ 1048576) :
    Calls Tryz.prog 94 #[.agg #[.slice ua l.length uc, .slice xa c.length xc], iJ task, h.val] w0 fun e w' => e = .returned (.bool (wE l c task h)) ∧ Below w0.heap.size w0 w' := by
  unfold HD.val;have hM := Mem.start w0
  go_enter Tryz.func94, Tryz.ntmps94
  refine sr fun _ cn1 => ?_;refine nx hM 41 [.slice ua l.length uc, .slice xa c.length xc] ?_;clear hM;intro g1 W1 hM;refine nx hM 45 (HD.cells h) ?_;clear hM;intro g2 W2 hM;refine np (.bool false) ?_;go_frame;refine wz cn1 ?_;clear cn1;refine sr fun _ cn2 => ?_;refine nl hM 1 rfl eA cA ?_;refine nc (zF (.slice ua l.length uc) (.slice xa c.length xc) l c _ (h1.below hM.below) (h2.below hM.below) hl hc) ?_;rintro e W3 ⟨rfl, hb⟩;refine ⟨_, rfl, ?_⟩;replace hM := hM.call hb;go_frame;refine np (.bool (PA l c)) ?_;go_frame;rcases tf ((PA l c)) with hx4 | hx4;rw [hx4];refine nl hM 0 rfl dA aA ?_;refine nc (oI h _) ?_;rintro e W4 ⟨rfl, hb⟩;refine ⟨_, rfl, ?_⟩;replace hM := hM.call hb;go_frame;refine np (.bool (TA h)) <| np (.bool (TA h)) ?_;go_frame;rcases tf ((TA h)) with hx5 | hx5;rw [hx5];refine np (iJ task) <| np (pt g1 1) <| ng hM 1 rfl 1 GA rfl <| np (iJ (c.length : Int)) <| nI ((c.length : Int) - 1) ?_;refine nc (YB task 0 ((c.length : Int) - 1) _) ?_;rintro e W5 ⟨rfl, rfl⟩;refine ⟨_, rfl, ?_⟩;go_frame;refine np (.bool (aB task 0 ((c.length : Int) - 1))) <| np (.bool (aB task 0 ((c.length : Int) - 1))) ?_;go_frame;rcases tf ((aB task 0 ((c.length : Int) - 1))) with hx6 | hx6;rw [hx6];refine nl hM 0 rfl dA aA <| np (pt g1 0) <| ng hM 1 rfl 0 fA rfl ?_;refine nc (ZK h ua l.length uc _) ?_;rintro e W6 ⟨rfl, hb⟩;refine ⟨_, rfl, ?_⟩;replace hM := hM.call hb;go_frame;refine np (.bool (uJ h l)) <| np (.bool (uJ h l)) ?_;go_frame;refine wz cn2 ?_;clear cn2;refine wp_ret ?_;exact bt ⟨aC (show (uJ h l) = wE l c task h from by simp [wE, hx4, hx5, hx6]), hM.below⟩;rw [hx6]
  iterate 4 refine ns ?_
  refine np (.bool false) <| np (.bool false) ?_;go_frame;refine wz cn2 ?_;clear cn2;refine wp_ret ?_;exact bt ⟨aC (show false = wE l c task h from by simp [wE, hx4, hx5, hx6]), hM.below⟩;rw [hx5]
  iterate 6 refine ns ?_
  refine np (.bool false) <| np (.bool false) ?_
  iterate 4 refine ns ?_
  refine np (.bool false) <| np (.bool false) ?_;go_frame;refine wz cn2 ?_;clear cn2;refine wp_ret ?_;exact bt ⟨aC (show false = wE l c task h from by simp [wE, hx4, hx5]), hM.below⟩;rw [hx4]
  iterate 2 refine ns ?_
  refine np (.bool false) <| np (.bool false) ?_
  iterate 6 refine ns ?_
  refine np (.bool false) <| np (.bool false) ?_
  iterate 4 refine ns ?_
  refine np (.bool false) <| np (.bool false) ?_;go_frame;refine wz cn2 ?_;clear cn2;refine wp_ret ?_;exact bt ⟨aC (show false = wE l c task h from by simp [wE, hx4]), hM.below⟩
theorem JE (u x : Value) (l : List ND) (c : List Int) (w0 : World) (h1 : NSl w0 u l) (h2 : SlI w0 x c) (hl0 : l ≠ []) (hc0 : c ≠ []) (hl : l.length ≤ 1048576) (hc : c.length ≤ 1048576) :
    Calls Tryz.prog 95 #[.agg #[u, x]] w0 (YO w0 l c) := by
  have hM := Mem.start w0
  go_enter Tryz.func95, Tryz.ntmps95
  refine sr fun _ cn1 => ?_;refine nx hM 41 [u, x] ?_;clear hM;intro g1 W1 hM;refine na hM [sZ, sZ] kA ?_;clear hM;intro g2 W2 hM;go_frame;refine wz cn1 ?_;clear cn1;refine wp_seq_k fun Kn2 cn2 => ?_;refine ZD 7 (fun D act w => ∃ (s3 s4 s5 s6 s7 s8 s9 : Value) (E : List Bk), act = ⟨#[.agg #[u, x], pt g1 0, pt g2 0, s3, s4, s5, s6, s7, s8, s9], []⟩ ∧ Mem w0 w (E ++ [(g2, 41, [Value.slice none 0 0, sZ]), (g1, 41, [u, x])]) ∧ (D 0 → s3 = pt g1 0) ∧ (D 1 → s4 = u) ∧ (D 2 → ∃ (g k : Nat) (p : List Value), s5 = sa g l.length k ∧ (l.length ≤ k ∧ k ≤ maxLen ∧ (cellsOf l ++ p).length = k * 8) ∧ (g, 37, cellsOf l ++ p) ∈ E) ∧ (D 3 → s6 = pt g1 1) ∧ (D 4 → s7 = x) ∧ (D 5 → ∃ (g k : Nat) (p : List Value), s8 = sa g c.length k ∧ (c.length ≤ k ∧ k ≤ maxLen ∧ (AA c ++ p).length = k * 1) ∧ (g, 2, AA c ++ p) ∈ E) ∧ (D 6 → ∃ (g k : Nat) (p : List Value) (g' k' : Nat) (p' : List Value), s9 = .agg #[sa g l.length k, sa g' c.length k'] ∧ (l.length ≤ k ∧ k ≤ maxLen ∧ c.length ≤ k' ∧ k' ≤ maxLen ∧ (cellsOf l ++ p).length = k * 8 ∧ (AA c ++ p').length = k' * 1) ∧ (g, 37, cellsOf l ++ p) ∈ E ∧ (g', 2, AA c ++ p') ∈ E)) (by kernel_rfl) (by kernel_rfl) (by kernel_rfl) (by simp) ?_ ?_ ?_
  · exact ⟨uD, uD, uD, uD, uD, uD, uD, [], rfl, hM.drew, fun h => h.elim, fun h => h.elim, fun h => h.elim, fun h => h.elim, fun h => h.elim, fun h => h.elim, fun h => h.elim⟩
  · intro i o ho hi
    have hh : i = 0 ∨ i = 1 ∨ i = 2 ∨ i = 3 ∨ i = 4 ∨ i = 5 ∨ i = 6 := by omega
    clear hi;rcases hh with rfl | rfl | rfl | rfl | rfl | rfl | rfl
    all_goals
      simp only [List.getElem?_toArray, List.getElem?_cons_zero, List.getElem?_cons_succ, Option.some.injEq] at ho;subst ho;rintro D act w K hpre ⟨s3, s4, s5, s6, s7, s8, s9, E, rfl, hM, f0, f1, f2, f3, f4, f5, f6⟩ hK
    · refine EC (by kernel_rfl) ?_; exact XD (.pointer (some ⟨g1, 0, none⟩)) (by kernel_rfl) (hK.out _ _ ⟨_, _, _, _, _, _, _, _, rfl, hM, fun _ => rfl, rR f1, rR f2, rR f3, rR f4, rR f5, rR f6⟩)
    · obtain rfl := f0 (hpre ⟨0, .data⟩ (by simp) rfl)
      refine EC (by kernel_rfl) ?_; exact xH hM.tail 1 rfl 24 _ rfl 0 rfl fA rfl rfl (hK.out _ _ ⟨_, _, _, _, _, _, _, _, rfl, hM, rR f0, fun _ => rfl, rR f2, rR f3, rR f4, rR f5, rR f6⟩)
    · obtain rfl := f1 (hpre ⟨1, .data⟩ (by simp) rfl)
      refine EC (by kernel_rfl) ?_;refine QF 134 #[s4] (by kernel_rfl) (eM s4 l w (h1.below (hM.below.mono (Nat.le_refl _))) hl0 hl) ?_;rintro e W ⟨g, v, rfl, hg, ⟨k, p, rfl, hk, hm, ⟨-, hx⟩, hO⟩, hb⟩;exact ⟨_, rfl, hK.out _ _ ⟨_, _, _, _, _, _, _, (_ :: E), rfl, hM.got hb hg hO, rR f0, rR f1, fun _ => ⟨g, k, p, rfl, ⟨hk, hm, hx⟩, List.mem_cons_self⟩, rR f3, rR f4, fun hD => by obtain ⟨g, k, p, h1, h2, h3⟩ := f5 (hD.resolve_right (by decide)); exact ⟨g, k, p, h1, h2, List.mem_cons_of_mem _ h3⟩, fun hD => by obtain ⟨g, k, p, g', k', p', h1, h2, h3, h4⟩ := f6 (hD.resolve_right (by decide)); exact ⟨g, k, p, g', k', p', h1, h2, List.mem_cons_of_mem _ h3, List.mem_cons_of_mem _ h4⟩⟩⟩
    · refine EC (by kernel_rfl) ?_; exact XD (.pointer (some ⟨g1, 1, none⟩)) (by kernel_rfl) (hK.out _ _ ⟨_, _, _, _, _, _, _, _, rfl, hM, rR f0, rR f1, rR f2, fun _ => rfl, rR f4, rR f5, rR f6⟩)
    · obtain rfl := f3 (hpre ⟨3, .data⟩ (by simp) rfl)
      refine EC (by kernel_rfl) ?_; exact xH hM.tail 1 rfl 39 _ rfl 1 rfl GA rfl rfl (hK.out _ _ ⟨_, _, _, _, _, _, _, _, rfl, hM, rR f0, rR f1, rR f2, rR f3, fun _ => rfl, rR f5, rR f6⟩)
    · obtain rfl := f4 (hpre ⟨4, .data⟩ (by simp) rfl)
      refine EC (by kernel_rfl) ?_;refine QF 135 #[s7] (by kernel_rfl) (IM s7 c w (h2.below (hM.below.mono (Nat.le_refl _))) hc0 hc) ?_;rintro e W ⟨g, v, rfl, hg, ⟨k, p, rfl, hk, hm, ⟨-, hx⟩, hO⟩, hb⟩;exact ⟨_, rfl, hK.out _ _ ⟨_, _, _, _, _, _, _, (_ :: E), rfl, hM.got hb hg hO, rR f0, rR f1, fun hD => by obtain ⟨g, k, p, h1, h2, h3⟩ := f2 (hD.resolve_right (by decide)); exact ⟨g, k, p, h1, h2, List.mem_cons_of_mem _ h3⟩, rR f3, rR f4, fun _ => ⟨g, k, p, rfl, ⟨hk, hm, hx⟩, List.mem_cons_self⟩, fun hD => by obtain ⟨g, k, p, g', k', p', h1, h2, h3, h4⟩ := f6 (hD.resolve_right (by decide)); exact ⟨g, k, p, g', k', p', h1, h2, List.mem_cons_of_mem _ h3, List.mem_cons_of_mem _ h4⟩⟩⟩
    · obtain ⟨g, k, p, rfl, ⟨a1, a2, a5⟩, b1⟩ := f2 (hpre ⟨2, .data⟩ (by simp) rfl)
      obtain ⟨g', k', p', rfl, ⟨a3, a4, a6⟩, b2⟩ := f5 (hpre ⟨5, .data⟩ (by simp) rfl);refine EC (by kernel_rfl) ?_; exact XD (.agg #[sa g l.length k, sa g' c.length k']) (by kernel_rfl) (hK.out _ _ ⟨_, _, _, _, _, _, _, _, rfl, hM, rR f0, rR f1, rR f2, rR f3, rR f4, rR f5, fun _ => ⟨g, k, p, g', k', p', rfl, ⟨a1, a2, a3, a4, a5, a6⟩, b1, b2⟩⟩)
  · intro D act w' hD hI
    obtain ⟨s3, s4, s5, s6, s7, s8, s9, E, rfl, hM', f0, f1, f2, f3, f4, f5, f6⟩ := hI;obtain ⟨m1, k1, p1, m2, k2, p2, rfl, ⟨q1, q2, q3, q4, q5, q6⟩, e1, e2⟩ := f6 (hD 6 (by decide));clear hM;have hM := hM'.front2 e1 e2 (fun h => sC (congrArg (fun b => b.2.1) h));refine WL.out ?_;simp only [List.drop_succ_cons, List.drop_zero, List.toList_toArray];refine nS hM 2 rfl [sa m1 l.length k1, sa m2 c.length k2] cA rfl ?_;clear hM;intro W3 hM;refine wz cn2 ?_;clear cn2;refine wp_ret ?_;exact bodyPost_ret (lB rfl hM 2 rfl rfl eA cA) rfl ⟨m1, m2, k1, k2, p1, p2, rfl, ⟨q1, q2, q3, q4, q5, q6⟩, hM.sub (fun i => i) (fun i b hb => by match i, hb with | 0, hb => exact hb | 1, hb => exact hb | (n + 2), hb => simp at hb) (fun i j _ _ e => e)⟩
end Go.Proofs.YtfjafncipjdnfaaGreat
