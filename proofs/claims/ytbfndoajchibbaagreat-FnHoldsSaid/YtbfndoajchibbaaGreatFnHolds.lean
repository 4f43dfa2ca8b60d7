/- FnHolds: whatever the arguments are, the law answers true and leaves them as they were. No condition. -/
import Derived.Test.YtbfndoajchibbaaGreatShort
import Derived.Test.YtbfndoajchibbaaGreatShort2
import Derived.Test.YtbfndoajchibbaaGreatOpenB
import Derived.Test.YtbfndoajchibbaaGreatDrawHeld
import Derived.Test.YtbfndoajchibbaaGreatHeldImpl4
import Derived.Laws.StructEq
namespace Go.Proofs.YtbfndoajchibbaaGreat.fnHolds
open Go.ChangeShapes Go.WideShapes Go.ChangeAt Go.RowKit
set_option linter.unusedVariables false
set_option maxRecDepth 100000
set_option maxHeartbeats 16000000
set_option linter.unusedSimpArgs false

def ndEq (a b : ND) : Bool := a.k == b.k && (a.v == b.v && (a.l == b.l && (a.r == b.r && (a.o == b.o && (a.g == b.g && (a.lt == b.lt && (a.rt == b.rt && true)))))))
theorem ndEq_self (a : ND) : ndEq a a = true := by simp [ndEq]
section
variable {P : Program} {w : World}
theorem eqf_nil (d : Nat) (xs ys : Array Value) : (Op.eqFields d xs ys []).run P w = .ok true w := by simp [Op.eqFields]
theorem eqf_cons {d : Nat} {xs ys : Array Value} {f : Field} {fs : List Field} {a b : Value} {r s : Bool} (hn : f.name ≠ "_") (ha : (part f.type xs f.offset).run P w = .ok a w) (hb : (part f.type ys f.offset).run P w = .ok b w)
    (he : (Op.equalIn d f.type a b).run P w = .ok r w) (hr : (Op.eqFields d xs ys fs).run P w = .ok s w) : (Op.eqFields d xs ys (f :: fs)).run P w = .ok (r && s) w := by
  rw [Op.eqFields, if_pos hn]
  simp only [Sem.run_bind, ha, hb, he, Result.andThen_ok]
  cases r
  · simp
  · simpa using hr
end
theorem nd_eqIn (d : Nat) (w : World) (a b : ND) : (Op.equalIn (d + 2) 49 (.agg a.cells.toArray) (.agg b.cells.toArray)).run Tryz.prog w = .ok (ndEq a b) w := by
  rw [run_equalIn_struct w (d + 1) 49 _ _ (by kernel_rfl) (by kernel_rfl)]
  simp only [Program.fieldsOf, Tryz.underlying49]
  exact eqf_cons (by decide) (by kernel_rfl) (by kernel_rfl) (run_equalIn_int _ _ _ .i64 .i64 _ _ Tryz.underlying2) (eqf_cons (by decide) (by kernel_rfl) (by kernel_rfl) (run_equalIn_int _ _ _ .i64 .i64 _ _ Tryz.underlying2) (eqf_cons (by decide) (by kernel_rfl) (by kernel_rfl) (run_equalIn_int _ _ _ .i64 .i64 _ _ Tryz.underlying2) (eqf_cons (by decide) (by kernel_rfl) (by kernel_rfl) (run_equalIn_int _ _ _ .i64 .i64 _ _ Tryz.underlying2) (eqf_cons (by decide) (by kernel_rfl) (by kernel_rfl) (run_equalIn_int _ _ _ .i64 .i64 _ _ Tryz.underlying2) (eqf_cons (by decide) (by kernel_rfl) (by kernel_rfl) (run_equalIn_bool' _ _ _ _ _ Tryz.underlying4) (eqf_cons (by decide) (by kernel_rfl) (by kernel_rfl) (run_equalIn_int _ _ _ .i64 .i64 _ _ Tryz.underlying2) (eqf_cons (by decide) (by kernel_rfl) (by kernel_rfl) (run_equalIn_int _ _ _ .i64 .i64 _ _ Tryz.underlying2) (eqf_nil _ _ _))))))))
theorem nd_neq {f : Operand → Value} {o : Oper} {w : World} {T' : TypeId} {x y : Operand} (a b : ND) (ho : o.op = .binOp .neq 49 x y T') (hx : f x = .agg a.cells.toArray) (hy : f y = .agg b.cells.toArray) : (execOp f o).run Tryz.prog w = .ok (.value (.bool (!(ndEq a b)))) w := by
  have h := nd_eqIn 9998 w a b
  have hg : Tryz.prog.eqGuardType Tryz.prog.depth 49 = false := by kernel_rfl
  unfold execOp
  simp only [ho, hx, hy, Sem.run_bind, run_eqGuard_agg w .neq 49 x y _ _ hg, Result.andThen_ok, run_neq_struct]
  rw [show Op.equalIn 10000 49 (.agg a.cells.toArray) (.agg b.cells.toArray) = Op.equalIn (9998 + 2) 49 (.agg a.cells.toArray) (.agg b.cells.toArray) from rfl, h]
  rfl
theorem count_one {p q : Nat → Bool} {k : Nat} (hp : p k = false) (hq : q k = true) (h : ∀ i, i ≠ k → q i = p i) : ∀ N, ((List.range N).filter q).length = ((List.range N).filter p).length + (if k < N then 1 else 0)
  | 0 => by simp
  | N + 1 => by
    have ih := count_one hp hq h N
    rw [List.range_succ, List.filter_append, List.filter_append, List.length_append, List.length_append, ih]
    by_cases e : N = k
    · subst e
      simp [hp, hq]
    · have e1 : ([N].filter q).length = ([N].filter p).length := by simp [List.filter, h N e]
      rw [e1]
      by_cases h2 : k < N
      · rw [if_pos h2, if_pos (by omega)]; omega
      · rw [if_neg h2, if_neg (by omega)]; omega
theorem lock_facts {l : List ND} {at' tk : Int} (h : (lockB l at' tk).2 = true) : (lockB (lockB l at' tk).1 at' tk).2 = false ∧ (unlockB (lockB l at' tk).1 at' ((tk + 1) % 6)).2 = false ∧ unlockB (lockB l at' tk).1 at' tk = (l, true) ∧ (heldB (lockB l at' tk).1 tk).length = (heldB l tk).length + 1 := by
  obtain ⟨hn, ht, k, n, rfl, hk, ho, hL⟩ : nodesB l = true ∧ taskB tk = true ∧ ∃ (k : Nat) (n : ND), at' = (k : Int) ∧ l[k]? = some n ∧ n.o = 0 ∧ lockB l (k : Int) tk = (l.set k (setO n (tk + 1)), true) := by
    unfold lockB at h
    split at h
    · rename_i h1
      simp only [Bool.and_eq_true] at h1
      split at h
      · rename_i h2
        simp only [Bool.and_eq_true, beq_iff_eq] at h2
        obtain ⟨a0, a1⟩ := inB_t h2.1
        obtain ⟨k, rfl⟩ := Int.eq_ofNat_of_zero_le a0
        have hk : k < l.length := by omega
        have hg : l[k]? = some l[k] := List.getElem?_eq_getElem hk
        have ho : (l[k]).o = 0 := by
          have := h2.2
          simpa [ownerAt, hg] using this
        refine ⟨h1.1, h1.2, k, l[k], rfl, hg, ho, ?_⟩
        unfold lockB
        rw [if_pos (by simp [h1.1, h1.2]), if_pos (by simp [h2.1, h2.2])]
        simp [giveO, hg]
      · simp at h
    · simp at h
  have t0 := inB_t (show inB tk 0 5 = true from ht)
  have hlk : k < l.length := (List.getElem?_eq_some_iff.1 hk).1
  have hX : nodesB (l.set k (setO n (tk + 1))) = true := nodesB_setO hn hk (by simp [inB]; omega)
  have hXk : (l.set k (setO n (tk + 1)))[k]? = some (setO n (tk + 1)) := List.getElem?_set_self hlk
  have hhas : hasB (l.set k (setO n (tk + 1))) (k : Int) = true := by simp [hasB, inB]; omega
  have hown : ownerAt (l.set k (setO n (tk + 1))) (k : Int) = tk + 1 := by
    unfold ownerAt
    rw [Int.toNat_natCast, hXk]
    rfl
  rw [hL]
  refine ⟨?_, ?_, ?_, ?_⟩
  · show (lockB (l.set k (setO n (tk + 1))) k tk).2 = false
    unfold lockB
    rw [if_pos (by rw [hX, ht]; rfl), if_neg (by rw [hhas, hown]; simp; omega)]
  · show (unlockB (l.set k (setO n (tk + 1))) k ((tk + 1) % 6)).2 = false
    have ht2 : taskB ((tk + 1) % 6) = true := by unfold taskB; simp [inB]; omega
    unfold unlockB
    rw [if_pos (by rw [hX, ht2]; rfl), if_neg (by rw [hhas, hown]; simp; omega)]
  · show unlockB (l.set k (setO n (tk + 1))) k tk = (l, true)
    have e0 : setO (setO n (tk + 1)) 0 = n := by
      obtain ⟨x1, x2, x3, x4, x5, x6, x7, x8⟩ := n
      simp only [setO] at ho ⊢
      rw [ho]
    unfold unlockB
    rw [if_pos (by rw [hX, ht]; rfl), if_pos (by rw [hhas, hown]; simp)]
    have e1 : giveO (l.set k (setO n (tk + 1))) k 0 = l := by
      unfold giveO
      rw [Int.toNat_natCast, hXk]
      show (l.set k (setO n (tk + 1))).set k (setO (setO n (tk + 1)) 0) = l
      rw [e0, List.set_set]
      apply List.ext_getElem?
      intro i
      rw [List.getElem?_set]
      split
      · rename_i e
        subst e
        first | exact hk.symm | rw [if_pos hlk, hk]
      · rfl
    rw [e1]
  · show (heldB (l.set k (setO n (tk + 1))) tk).length = _
    unfold heldB
    rw [if_pos (by rw [hX, ht]; rfl), if_pos (by rw [hn, ht]; rfl)]
    unfold ownedBy
    rw [List.length_map, List.length_map, List.length_set]
    have := count_one (k := k) (p := fun i => match l[i]? with | some n => n.o == tk + 1 | none => false) (q := fun i => match (l.set k (setO n (tk + 1)))[i]? with | some n => n.o == tk + 1 | none => false)
      (by simp [hk, ho]; omega) (by show (match (l.set k (setO n (tk + 1)))[k]? with | some n => n.o == tk + 1 | none => false) = true; rw [hXk]; simp [setO]) (fun i hi => by simp only [List.getElem?_set_ne (Ne.symm hi)]) l.length
    rw [if_pos hlk] at this
    exact this
theorem SaysL.cast {P : Program} {f : FuncId} {args : Array Value} {w : World} {R R' : List ND × Bool} (e : R = R') (h : Calls P f args w (SaysL R w)) : Calls P f args w (SaysL R' w) := e ▸ h
theorem likeInts_same (v1 v2 : Value) (l : List Int) (w : World) (h1 : SlI w v1 l) (h2 : SlI w v2 l) :
    Calls Tryz.prog 13 #[v1, v2] w fun e w' => e = .returned (.bool true) ∧ Below w.heap.size w w' := by
  by_cases hn : l = []
  · subst hn
    obtain ⟨a1, c1, rfl⟩ := h1.nil
    obtain ⟨a2, c2, rfl⟩ := h2.nil
    clear h1 h2
    go_enter Tryz.func13, Tryz.ntmps13
    go_wp2
    go_loopw [5] (fun i wr => i = .int .i64 0 ∧ Below w.heap.size w wr) (fun i _ => 0)
    case atStart => exact ⟨rfl, Below.refl _ _⟩
    case round =>
      obtain ⟨rfl, hb⟩ := hrel
      go_wp2
      go_ret
      exact ⟨rfl, hb⟩
  · obtain ⟨b1, o1, c1, rfl, k1, m1, s1, H1⟩ := h1.at hn
    obtain ⟨b2, o2, c2, rfl, k2, m2, s2, H2⟩ := h2.at hn
    unfold maxLen at m1 m2
    clear h1 h2
    go_enter Tryz.func13, Tryz.ntmps13
    go_wp2
    go_loopw [5] (fun i wr => ∃ k : Nat, k ≤ l.length ∧ i = .int .i64 k ∧ Below w.heap.size w wr) (fun i _ => l.length - (intOf i).toNat)
    case atStart => exact ⟨0, Nat.zero_le _, rfl, Below.refl _ _⟩
    case round =>
      obtain ⟨k, hk, rfl, hb⟩ := hrel
      by_cases hlt : k < l.length
      · obtain ⟨n, hg⟩ : ∃ n, l[k]? = some n := ⟨_, List.getElem?_eq_getElem hlt⟩
        have A1 : wr.cell? ⟨b1, o1 + k, none⟩ = some (.int .i64 n) := (hb.cell (p := ⟨b1, o1 + k, none⟩) s1).trans (H1 k n hg)
        have A2 : wr.cell? ⟨b2, o2 + k, none⟩ = some (.int .i64 n) := (hb.cell (p := ⟨b2, o2 + k, none⟩) s2).trans (H2 k n hg)
        have i0 : (0 : Int) ≤ (k : Int) := by omega
        have i1 : (k : Int) < (l.length : Int) := by omega
        clear hg H1 H2
        have HB := Lib.hid hb
        clear hb
        go_wp2
        go_region_held3 (fun w' => w'.cell? ⟨b1, o1 + k, none⟩ = some (.int .i64 n) ∧ w'.cell? ⟨b2, o2 + k, none⟩ = some (.int .i64 n)) (go_keep) (fail)
        go_wp2
        go_roundw
        case rel => exact ⟨k + 1, by omega, by go_num, by repeat (first | exact HB.out | refine Below.drew ?_)⟩
        case measure => simp [intOf]; omega
      · obtain rfl : k = l.length := by omega
        clear H1 H2
        go_wp2
        go_ret
        exact ⟨rfl, hb⟩

theorem likeNodes_none (a1 a2 : Option Addr) (c1 c2 : Nat) (w0 : World) :
    Calls Tryz.prog 12 #[.slice a1 0 c1, .slice a2 0 c2] w0 fun e w' => e = .returned (.bool true) ∧ Below w0.heap.size w0 w' := by
  have hM := Mem.start w0
  go_enter Tryz.func12, Tryz.ntmps12
  refine wp_seq_k fun _ cn1 => wl_region ?_
  refine np (.bool false) ?_
  go_frame
  refine wl_nil (cn1 _ _ ?_)
  clear cn1
  refine wp_seq_k fun Kn2 cn2 => ?_
  refine wp_seq_k fun _ cn3 => wl_region ?_
  refine np (.slice a1 0 c1) ?_
  refine np (.int .i64 0) ?_
  refine np (.slice a2 0 c2) ?_
  refine np (.int .i64 0) ?_
  refine np (.bool false) ?_
  go_frame
  refine wl_nil (cn3 _ _ ?_)
  clear cn3
  refine wp_cond_false rfl ?_
  refine wp_skip ?_
  refine cn2 _ _ ?_
  clear cn2
  refine wp_seq_k fun Kn4 cn4 => ?_
  refine wp_seq_k fun _ cn5 => wl_region ?_
  refine np (.int .i64 0) ?_
  go_frame
  refine wl_nil (cn5 _ _ ?_)
  clear cn5
  refine wp_block ?_
  refine wp_loop_rounds 1 ?_
  rw [rounds_succ]
  refine wp_seq_k fun Kn6 cn6 => ?_
  refine wp_seq_k fun _ cn7 => wl_region ?_
  refine np (.int .i64 0) ?_
  refine np (.slice a1 0 c1) ?_
  refine np (.int .i64 0) ?_
  refine np (.bool false) ?_
  go_frame
  refine wl_nil (cn7 _ _ ?_)
  clear cn7
  refine wp_cond_false rfl ?_
  refine wp_exit ?_
  refine cn4 _ _ ?_
  clear cn4
  refine wp_seq_k fun _ cn8 => wl_region ?_
  refine np (.bool true) ?_
  go_frame
  refine wl_nil (cn8 _ _ ?_)
  clear cn8
  refine wp_ret ?_
  exact bodyPost_ret (v := .bool true) (ret_tmp 4 rfl rfl) rfl ⟨rfl, hM.below⟩

theorem likeNodes_some  (b1 o1 b2 o2 : Nat) (l : List ND) (hl : l.length ≤ 1048576) (c1 c2 : Nat) (w0 : World) (sA : b1 < w0.heap.size) (sB : b2 < w0.heap.size) (G1 : ∀ k n, l[k]? = some n → At8 w0 b1 (o1 + k * 8) n) (G2 : ∀ k n, l[k]? = some n → At8 w0 b2 (o2 + k * 8) n) :
    Calls Tryz.prog 12 #[.slice (some ⟨b1, o1, none⟩) l.length c1, .slice (some ⟨b2, o2, none⟩) l.length c2] w0 fun e w' => e = .returned (.bool true) ∧ Below w0.heap.size w0 w' := by
  have hM := Mem.start w0
  go_enter Tryz.func12, Tryz.ntmps12
  refine wp_seq_k fun _ cn1 => wl_region ?_
  refine np (.bool false) ?_
  go_frame
  refine wl_nil (cn1 _ _ ?_)
  clear cn1
  refine wp_seq_k fun Kn2 cn2 => ?_
  refine wp_seq_k fun _ cn3 => wl_region ?_
  refine np (.slice (some ⟨b1, o1, none⟩) l.length c1) ?_
  refine np (.int .i64 (l.length : Int)) ?_
  refine np (.slice (some ⟨b2, o2, none⟩) l.length c2) ?_
  refine np (.int .i64 (l.length : Int)) ?_
  go_frame
  refine wl_pureB (by kernel_rfl) (b := ((l.length : Int) != (l.length : Int))) (by kernel_rfl) ((bne_self_eq_false _)) ?_
  go_frame
  refine wl_nil (cn3 _ _ ?_)
  clear cn3
  refine wp_cond_false rfl ?_
  refine wp_skip ?_
  refine cn2 _ _ ?_
  clear cn2
  refine wp_seq_k fun Kn4 cn4 => ?_
  refine wp_seq_k fun _ cn5 => wl_region ?_
  refine np (.int .i64 0) ?_
  go_frame
  refine wl_nil (cn5 _ _ ?_)
  clear cn5
  refine wp_block ?_
  refine wp_loop (fun act w => ∃ (k : Nat) (U1 : Nat → Value), act = ⟨#[.slice (some ⟨b1, o1, none⟩) l.length c1, .slice (some ⟨b2, o2, none⟩) l.length c2, undef, undef, (U1 0), .int .i64 (k : Int), .slice (some ⟨b1, o1, none⟩) l.length c1, .int .i64 (l.length : Int), .slice (some ⟨b2, o2, none⟩) l.length c2, .int .i64 (l.length : Int), .bool false, (U1 1), (U1 2), (U1 3), (U1 4), (U1 5), (U1 6), (U1 7), (U1 8), (U1 9), (U1 10), (U1 11), (U1 12), (U1 13), (U1 14), (U1 15)], []⟩ ∧ Mem w0 w [] ∧ (k ≤ l.length)) (fun act _ => l.length - (intOf (act.tmps.getD 5 undef)).toNat) ?_ ?_
  exact ⟨0, (fun i => [.bool false, undef, undef, undef, undef, undef, undef, undef, undef, undef, undef, undef, undef, undef, undef, undef].getD i undef), rfl, hM, by omega⟩
  clear hM
  rintro act w ⟨k, U1, rfl, hM, hk⟩
  refine wp_seq_k fun Kn6 cn6 => ?_
  refine wp_seq_k fun _ cn7 => wl_region ?_
  refine np (.int .i64 (k : Int)) ?_
  refine np (.slice (some ⟨b1, o1, none⟩) l.length c1) ?_
  refine np (.int .i64 (l.length : Int)) ?_
  refine np (.bool (decide ((k : Int) < (l.length : Int)))) ?_
  go_frame
  refine wl_nil (cn7 _ _ ?_)
  clear cn7
  rcases tf (decide ((k : Int) < (l.length : Int))) with hx1 | hx1
  rw [hx1]
  have hkl : k < l.length := by simp at hx1; omega
  obtain ⟨⟨nkk, nkv, nkl, nkr, nko, nkg, nklt, nkrt⟩, hnk⟩ : ∃ n, l[k]? = some n := ⟨_, List.getElem?_eq_getElem hkl⟩
  refine wp_cond_true rfl ?_
  refine wp_skip ?_
  refine cn6 _ _ ?_
  clear cn6
  refine wp_seq_k fun Kn8 cn8 => ?_
  refine wp_block ?_
  refine wp_seq_k fun Kn9 cn9 => ?_
  refine wa_start (fun w => Below w0.heap.size w0 w ∧ True) 9 rfl (by kernel_rfl) ?_
  replace hM := hM.drew
  refine wt 0 (some 17) (.slice (some ⟨b1, o1, none⟩) l.length c1) ⟨hM.below, trivial⟩ ?_
  refine wt 1 (some 18) (.int .i64 (k : Int)) ⟨hM.below, trivial⟩ ?_
  go_frame
  refine wq 2 (some 19) (.pointer (some ⟨b1, o1 + k * 8, none⟩)) ⟨hM.below, trivial⟩ rfl (fun w hS => r_index 24 49 _ _ rfl b1 o1 l.length c1 8 k rfl rfl rfl (by omega) Tryz.underlying24 I_impl_Node) ?_
  go_frame
  refine wq 3 (some 20) (.agg (ND.cells ⟨nkk, nkv, nkl, nkr, nko, nkg, nklt, nkrt⟩).toArray) ⟨hM.below, trivial⟩ rfl (fun w hS => r_cells 49 _ rfl b1 (o1 + k * 8) rfl Tryz.underlying49 (ND.cells ⟨nkk, nkv, nkl, nkr, nko, nkg, nklt, nkrt⟩) I_impl_Node (row_of (Mem.ofBelow hS.1) sA (G1 k _ hnk))) ?_
  refine wt 4 (some 21) (.slice (some ⟨b2, o2, none⟩) l.length c2) ⟨hM.below, trivial⟩ ?_
  refine wt 5 (some 22) (.int .i64 (k : Int)) ⟨hM.below, trivial⟩ ?_
  go_frame
  refine wq 6 (some 23) (.pointer (some ⟨b2, o2 + k * 8, none⟩)) ⟨hM.below, trivial⟩ rfl (fun w hS => r_index 24 49 _ _ rfl b2 o2 l.length c2 8 k rfl rfl rfl (by omega) Tryz.underlying24 I_impl_Node) ?_
  go_frame
  refine wq 7 (some 24) (.agg (ND.cells ⟨nkk, nkv, nkl, nkr, nko, nkg, nklt, nkrt⟩).toArray) ⟨hM.below, trivial⟩ rfl (fun w hS => r_cells 49 _ rfl b2 (o2 + k * 8) rfl Tryz.underlying49 (ND.cells ⟨nkk, nkv, nkl, nkr, nko, nkg, nklt, nkrt⟩) I_impl_Node (row_of (Mem.ofBelow hS.1) sB (G2 k _ hnk))) ?_
  go_frame
  refine wq 8 (some 25) (.bool false) ⟨hM.below, trivial⟩ rfl (fun w hS => r_eq (v := .bool (!(ndEq (⟨nkk, nkv, nkl, nkr, nko, nkg, nklt, nkrt⟩) (⟨nkk, nkv, nkl, nkr, nko, nkg, nklt, nkrt⟩)))) (nd_neq ⟨nkk, nkv, nkl, nkr, nko, nkg, nklt, nkrt⟩ ⟨nkk, nkv, nkl, nkr, nko, nkg, nklt, nkrt⟩ rfl rfl rfl) (congrArg Value.bool (congrArg Bool.not (ndEq_self _)))) ?_
  go_frame
  refine wa_done (by kernel_rfl) ?_
  refine cn9 _ _ ?_
  clear cn9
  refine wp_cond_false rfl ?_
  refine wp_skip ?_
  refine cn8 _ _ ?_
  clear cn8
  refine wl_region ?_
  refine np (.int .i64 (k : Int)) ?_
  refine nI ((k : Int) + 1) ?_
  refine np (.int .i64 ((k : Int) + 1)) ?_
  go_frame
  refine wl_nil ?_
  rw [show ((k : Int) + 1) = ((k + 1 : Nat) : Int) by omega]
  exact ⟨⟨k + 1, (fun i => [(U1 0), .int .i64 (k : Int), .slice (some ⟨b1, o1, none⟩) l.length c1, .int .i64 (l.length : Int), .bool true, .int .i64 (k : Int), .int .i64 ((k : Int) + 1), .slice (some ⟨b1, o1, none⟩) l.length c1, .int .i64 (k : Int), .pointer (some ⟨b1, o1 + k * 8, none⟩), .agg (ND.cells ⟨nkk, nkv, nkl, nkr, nko, nkg, nklt, nkrt⟩).toArray, .slice (some ⟨b2, o2, none⟩) l.length c2, .int .i64 (k : Int), .pointer (some ⟨b2, o2 + k * 8, none⟩), .agg (ND.cells ⟨nkk, nkv, nkl, nkr, nko, nkg, nklt, nkrt⟩).toArray, .bool false].getD i undef), rfl, hM, by omega⟩, by simp [intOf]; omega⟩
  rw [hx1]
  refine wp_cond_false rfl ?_
  refine wp_exit ?_
  refine cn4 _ _ ?_
  clear cn4
  refine wp_seq_k fun _ cn8 => wl_region ?_
  refine np (.bool true) ?_
  go_frame
  refine wl_nil (cn8 _ _ ?_)
  clear cn8
  refine wp_ret ?_
  exact bodyPost_ret (v := .bool true) (ret_tmp 4 rfl rfl) rfl ⟨rfl, hM.below⟩
theorem likeNodes_same (v1 v2 : Value) (l : List ND) (w : World) (h1 : NSl w v1 l) (h2 : NSl w v2 l) (hl : l.length ≤ 1048576 := by first | omega | exact Nat.le_trans (lockB_len _ _ _) (by omega) | exact Nat.le_trans (unlockB_len _ _ _) (by omega)) :
    Calls Tryz.prog 12 #[v1, v2] w fun e w' => e = .returned (.bool true) ∧ Below w.heap.size w w' := by
  by_cases hn : l = []
  · subst hn
    obtain ⟨a1, c1, rfl, -⟩ := h1
    obtain ⟨a2, c2, rfl, -⟩ := h2
    exact likeNodes_none a1 a2 c1 c2 w
  · obtain ⟨b1, o1, c1, rfl, -, -, sA, G1⟩ := h1.at hn
    obtain ⟨b2, o2, c2, rfl, -, -, sB, G2⟩ := h2.at hn
    exact likeNodes_some b1 o1 b2 o2 l hl c1 c2 w sA sB G1 G2

theorem big_slice (a : Option Addr) (n c : Nat) (w0 : World) :
    Calls Tryz.prog 4 #[.slice a n c] w0 fun e w' => e = .returned (.bool (decide ((n : Int) > 4096))) ∧ Below w0.heap.size w0 w' := by
  have hM := Mem.start w0
  go_enter Tryz.func4, Tryz.ntmps4
  refine wp_seq_k fun _ cn1 => wl_region ?_
  refine np (.bool false) ?_
  go_frame
  refine wl_nil (cn1 _ _ ?_)
  clear cn1
  refine wp_seq_k fun _ cn2 => wl_region ?_
  refine np (.slice a n c) ?_
  refine np (.int .i64 (n : Int)) ?_
  refine np (.bool (decide ((n : Int) > 4096))) ?_
  refine np (.bool (decide ((n : Int) > 4096))) ?_
  go_frame
  refine wl_nil (cn2 _ _ ?_)
  clear cn2
  refine wp_ret ?_
  exact bodyPost_ret (v := .bool (decide ((n : Int) > 4096))) (ret_tmp 2 rfl rfl) rfl ⟨rfl, hM.below⟩

theorem walk1 (va : Option Addr) (vc : Nat) (lb : List Int) (w0 : World) (hbt : Bts w0.heap.size w0 (.slice va lb.length vc) lb) (hl4 : lb.length ≤ 4096) :
    Calls Tryz.prog 3 #[(.slice va lb.length vc)] w0 fun e w' => e = .returned (.bool true) ∧ Below w0.heap.size w0 w' := by
  have hbg : decide ((lb.length : Int) > 4096) = false := by simp; omega
  have hM := Mem.start w0
  go_enter Tryz.func3, Tryz.ntmps3
  refine wp_seq_k fun _ cn1 => wl_region ?_
  refine np (.bool false) ?_
  go_frame
  refine wl_nil (cn1 _ _ ?_)
  clear cn1
  refine wp_seq_k fun Kn2 cn2 => ?_
  refine wp_seq_k fun _ cn3 => wl_region ?_
  refine np (.slice va lb.length vc) ?_
  refine nc (big_slice va lb.length vc _) ?_
  rintro e W1 ⟨rfl, hb⟩
  refine ⟨.bool false, rb hbg, ?_⟩
  replace hM := hM.call hb
  go_frame
  refine wl_nil (cn3 _ _ ?_)
  clear cn3
  refine wp_cond_false rfl ?_
  refine wp_skip ?_
  refine cn2 _ _ ?_
  clear cn2
  refine wp_seq_k fun _ cn4 => wl_region ?_
  refine np (.slice va lb.length vc) ?_
  refine nc (spec_DrawLocked va vc lb _ (bts_after hbt hM.below) hl4) ?_
  rintro e W2 ⟨⟨l1, b1, o1, k1, at1, tk1, rfl, hl1, ha1, ht1, hN1⟩, hb⟩
  replace hM := hM.call hb
  refine ⟨_, rfl, ?_⟩
  go_frame
  refine np (.tuple #[.slice (some ⟨b1, o1, none⟩) l1.length k1, .int .i64 at1, .int .i64 tk1]) ?_
  refine np (.slice (some ⟨b1, o1, none⟩) l1.length k1) ?_
  refine np (.int .i64 at1) ?_
  refine np (.int .i64 tk1) ?_
  refine np (.slice (some ⟨b1, o1, none⟩) l1.length k1) ?_
  refine np (.int .i64 at1) ?_
  refine np (.int .i64 tk1) ?_
  go_frame
  refine wl_nil (cn4 _ _ ?_)
  clear cn4
  refine wp_seq_k fun _ cn5 => wl_region ?_
  refine np (.slice (some ⟨b1, o1, none⟩) l1.length k1) ?_
  refine np (.int .i64 at1) ?_
  refine np (.int .i64 tk1) ?_
  refine nc (impl_Locked (.slice (some ⟨b1, o1, none⟩) l1.length k1) l1 at1 tk1 _ hN1 (by omega) ⟨by omega, by omega⟩) ?_
  rintro e W3 ⟨u'1, rfl, hO, hb⟩
  replace hM := hM.call hb
  replace hN1 := hN1.below hb
  have hN'2 : NSl W3 u'1 (lockB l1 at1 tk1).1 := hO.sl
  clear hO
  refine ⟨_, rfl, ?_⟩
  go_frame
  refine np (.tuple #[u'1, .bool ((lockB l1 at1 tk1).2)]) ?_
  refine np (u'1) ?_
  refine np (.bool ((lockB l1 at1 tk1).2)) ?_
  refine np (u'1) ?_
  refine np (.bool ((lockB l1 at1 tk1).2)) ?_
  go_frame
  refine wl_nil (cn5 _ _ ?_)
  clear cn5
  refine wp_seq_k fun _ cn6 => wl_region ?_
  refine np (.slice (some ⟨b1, o1, none⟩) l1.length k1) ?_
  refine np (.int .i64 at1) ?_
  refine np (.int .i64 tk1) ?_
  refine nc (spec_Locked (.slice (some ⟨b1, o1, none⟩) l1.length k1) l1 at1 tk1 _ hN1 (by omega) ⟨by omega, by omega⟩) ?_
  rintro e W4 ⟨u'3, rfl, hO, hb⟩
  replace hM := hM.call hb
  replace hN1 := hN1.below hb
  replace hN'2 := hN'2.below hb
  have hN'4 : NSl W4 u'3 (lockB l1 at1 tk1).1 := hO.sl
  clear hO
  refine ⟨_, rfl, ?_⟩
  go_frame
  refine np (.tuple #[u'3, .bool ((lockB l1 at1 tk1).2)]) ?_
  refine np (u'3) ?_
  refine np (.bool ((lockB l1 at1 tk1).2)) ?_
  refine np (u'3) ?_
  refine np (.bool ((lockB l1 at1 tk1).2)) ?_
  go_frame
  refine wl_nil (cn6 _ _ ?_)
  clear cn6
  refine wp_seq_k fun _ cn7 => wl_region ?_
  refine np (.slice va lb.length vc) ?_
  refine nc (spec_DrawUnlocked va vc lb _ (bts_after hbt hM.below) hl4) ?_
  rintro e W5 ⟨⟨l2, b2, o2, k2, at2, tk2, rfl, hl2, ha2, hN2⟩, hb⟩
  replace hM := hM.call hb
  replace hN1 := hN1.below hb
  replace hN'2 := hN'2.below hb
  replace hN'4 := hN'4.below hb
  refine ⟨_, rfl, ?_⟩
  go_frame
  refine np (.tuple #[.slice (some ⟨b2, o2, none⟩) l2.length k2, .int .i64 at2, .int .i64 tk2]) ?_
  refine np (.slice (some ⟨b2, o2, none⟩) l2.length k2) ?_
  refine np (.int .i64 at2) ?_
  refine np (.int .i64 tk2) ?_
  refine np (.slice (some ⟨b2, o2, none⟩) l2.length k2) ?_
  refine np (.int .i64 at2) ?_
  refine np (.int .i64 tk2) ?_
  go_frame
  refine wl_nil (cn7 _ _ ?_)
  clear cn7
  refine wp_seq_k fun _ cn8 => wl_region ?_
  refine np (.slice (some ⟨b2, o2, none⟩) l2.length k2) ?_
  refine np (.int .i64 at2) ?_
  refine np (.int .i64 tk2) ?_
  refine nc (impl_Unlocked (.slice (some ⟨b2, o2, none⟩) l2.length k2) l2 at2 tk2 _ hN2 (by omega) ⟨by omega, by omega⟩) ?_
  rintro e W6 ⟨u'5, rfl, hO, hb⟩
  replace hM := hM.call hb
  replace hN1 := hN1.below hb
  replace hN'2 := hN'2.below hb
  replace hN'4 := hN'4.below hb
  replace hN2 := hN2.below hb
  have hN'6 : NSl W6 u'5 (unlockB l2 at2 tk2).1 := hO.sl
  clear hO
  refine ⟨_, rfl, ?_⟩
  go_frame
  refine np (.tuple #[u'5, .bool ((unlockB l2 at2 tk2).2)]) ?_
  refine np (u'5) ?_
  refine np (.bool ((unlockB l2 at2 tk2).2)) ?_
  refine np (u'5) ?_
  refine np (.bool ((unlockB l2 at2 tk2).2)) ?_
  go_frame
  refine wl_nil (cn8 _ _ ?_)
  clear cn8
  refine wp_seq_k fun _ cn9 => wl_region ?_
  refine np (.slice (some ⟨b2, o2, none⟩) l2.length k2) ?_
  refine np (.int .i64 at2) ?_
  refine np (.int .i64 tk2) ?_
  refine nc (spec_Unlocked (.slice (some ⟨b2, o2, none⟩) l2.length k2) l2 at2 tk2 _ hN2 (by omega) ⟨by omega, by omega⟩) ?_
  rintro e W7 ⟨u'7, rfl, hO, hb⟩
  replace hM := hM.call hb
  replace hN1 := hN1.below hb
  replace hN'2 := hN'2.below hb
  replace hN'4 := hN'4.below hb
  replace hN2 := hN2.below hb
  replace hN'6 := hN'6.below hb
  have hN'8 : NSl W7 u'7 (unlockB l2 at2 tk2).1 := hO.sl
  clear hO
  refine ⟨_, rfl, ?_⟩
  go_frame
  refine np (.tuple #[u'7, .bool ((unlockB l2 at2 tk2).2)]) ?_
  refine np (u'7) ?_
  refine np (.bool ((unlockB l2 at2 tk2).2)) ?_
  refine np (u'7) ?_
  refine np (.bool ((unlockB l2 at2 tk2).2)) ?_
  go_frame
  refine wl_nil (cn9 _ _ ?_)
  clear cn9
  refine wp_seq_k fun _ cn10 => wl_region ?_
  refine np (.slice va lb.length vc) ?_
  refine nc (spec_DrawHeldBy va vc lb _ (bts_after hbt hM.below) hl4) ?_
  rintro e W8 ⟨⟨l3, b3, o3, k3, tk3, rfl, hl3, hN3⟩, hb⟩
  replace hM := hM.call hb
  replace hN1 := hN1.below hb
  replace hN'2 := hN'2.below hb
  replace hN'4 := hN'4.below hb
  replace hN2 := hN2.below hb
  replace hN'6 := hN'6.below hb
  replace hN'8 := hN'8.below hb
  refine ⟨_, rfl, ?_⟩
  go_frame
  refine np (.tuple #[.slice (some ⟨b3, o3, none⟩) l3.length k3, .int .i64 tk3]) ?_
  refine np (.slice (some ⟨b3, o3, none⟩) l3.length k3) ?_
  refine np (.int .i64 tk3) ?_
  refine np (.slice (some ⟨b3, o3, none⟩) l3.length k3) ?_
  refine np (.int .i64 tk3) ?_
  go_frame
  refine wl_nil (cn10 _ _ ?_)
  clear cn10
  refine wp_seq_k fun Kn11 cn11 => ?_
  refine wp_seq_k fun _ cn12 => wl_region ?_
  refine np (.bool ((lockB l1 at1 tk1).2)) ?_
  refine np (.bool ((lockB l1 at1 tk1).2)) ?_
  go_frame
  refine wl_pureB (by kernel_rfl) (b := ((lockB l1 at1 tk1).2 != (lockB l1 at1 tk1).2)) (by kernel_rfl) ((bne_self_eq_false _)) ?_
  go_frame
  refine np (.bool false) ?_
  refine np (u'1) ?_
  refine np (u'3) ?_
  refine nc (likeNodes_same (u'1) (u'3) ((lockB l1 at1 tk1).1) _ hN'2 hN'4) ?_
  rintro e W9 ⟨rfl, hb⟩
  refine ⟨_, rfl, ?_⟩
  replace hM := hM.call hb
  replace hN1 := hN1.below hb
  replace hN'2 := hN'2.below hb
  replace hN'4 := hN'4.below hb
  replace hN2 := hN2.below hb
  replace hN'6 := hN'6.below hb
  replace hN'8 := hN'8.below hb
  replace hN3 := hN3.below hb
  go_frame
  refine np (.bool false) ?_
  refine np (.bool false) ?_
  refine np (.bool false) ?_
  refine np (.bool ((unlockB l2 at2 tk2).2)) ?_
  refine np (.bool ((unlockB l2 at2 tk2).2)) ?_
  go_frame
  refine wl_pureB (by kernel_rfl) (b := ((unlockB l2 at2 tk2).2 != (unlockB l2 at2 tk2).2)) (by kernel_rfl) ((bne_self_eq_false _)) ?_
  go_frame
  refine np (.bool false) ?_
  refine np (.bool false) ?_
  refine np (u'5) ?_
  refine np (u'7) ?_
  refine nc (likeNodes_same (u'5) (u'7) ((unlockB l2 at2 tk2).1) _ hN'6 hN'8) ?_
  rintro e W10 ⟨rfl, hb⟩
  refine ⟨_, rfl, ?_⟩
  replace hM := hM.call hb
  replace hN1 := hN1.below hb
  replace hN'2 := hN'2.below hb
  replace hN'4 := hN'4.below hb
  replace hN2 := hN2.below hb
  replace hN'6 := hN'6.below hb
  replace hN'8 := hN'8.below hb
  replace hN3 := hN3.below hb
  go_frame
  refine np (.bool false) ?_
  refine np (.bool false) ?_
  refine np (.bool false) ?_
  refine np (.slice (some ⟨b3, o3, none⟩) l3.length k3) ?_
  refine np (.int .i64 tk3) ?_
  refine nc (impl_HeldBy (.slice (some ⟨b3, o3, none⟩) l3.length k3) l3 tk3 _ hN3 (by omega)) ?_
  rintro e W11 ⟨u'9, rfl, hO, hb⟩
  replace hM := hM.call hb
  replace hN1 := hN1.below hb
  replace hN'2 := hN'2.below hb
  replace hN'4 := hN'4.below hb
  replace hN2 := hN2.below hb
  replace hN'6 := hN'6.below hb
  replace hN'8 := hN'8.below hb
  replace hN3 := hN3.below hb
  obtain ⟨aa'11, cc'12, rfl, -, -⟩ := hO.slice
  have hI'10 : SlI W11 (.slice aa'11 (heldB l3 tk3).length cc'12) (heldB l3 tk3) := hO.sl
  clear hO
  refine ⟨_, rfl, ?_⟩
  go_frame
  refine np (.slice (some ⟨b3, o3, none⟩) l3.length k3) ?_
  refine np (.int .i64 tk3) ?_
  refine nc (spec_HeldBy (.slice (some ⟨b3, o3, none⟩) l3.length k3) l3 tk3 _ hN3 (by omega)) ?_
  rintro e W12 ⟨u'13, rfl, hO, hb⟩
  replace hM := hM.call hb
  replace hN1 := hN1.below hb
  replace hN'2 := hN'2.below hb
  replace hN'4 := hN'4.below hb
  replace hN2 := hN2.below hb
  replace hN'6 := hN'6.below hb
  replace hN'8 := hN'8.below hb
  replace hN3 := hN3.below hb
  replace hI'10 := hI'10.below hb
  obtain ⟨aa'15, cc'16, rfl, -, -⟩ := hO.slice
  have hI'14 : SlI W12 (.slice aa'15 (heldB l3 tk3).length cc'16) (heldB l3 tk3) := hO.sl
  clear hO
  refine ⟨_, rfl, ?_⟩
  go_frame
  refine nc (likeInts_same (.slice aa'11 ((heldB l3 tk3).length) cc'12) (.slice aa'15 ((heldB l3 tk3).length) cc'16) (heldB l3 tk3) _ hI'10 hI'14) ?_
  rintro e W13 ⟨rfl, hb⟩
  refine ⟨_, rfl, ?_⟩
  replace hM := hM.call hb
  replace hN1 := hN1.below hb
  replace hN'2 := hN'2.below hb
  replace hN'4 := hN'4.below hb
  replace hN2 := hN2.below hb
  replace hN'6 := hN'6.below hb
  replace hN'8 := hN'8.below hb
  replace hN3 := hN3.below hb
  replace hI'10 := hI'10.below hb
  replace hI'14 := hI'14.below hb
  go_frame
  refine np (.bool false) ?_
  refine np (.bool false) ?_
  go_frame
  refine wl_nil (cn12 _ _ ?_)
  clear cn12
  refine wp_cond_false rfl ?_
  refine wp_skip ?_
  refine cn11 _ _ ?_
  clear cn11
  refine wp_seq_k fun Kn13 cn13 => ?_
  refine wp_seq_k fun _ cn14 => wl_region ?_
  refine np (.bool ((lockB l1 at1 tk1).2)) ?_
  go_frame
  rcases tf ((lockB l1 at1 tk1).2) with hx2 | hx2
  rw [hx2]
  obtain ⟨hf1, hf2, hUL, hf3⟩ := lock_facts hx2
  have hf4 : (((heldB ((lockB l1 at1 tk1).1) tk1).length : Int) == (((heldB l1 tk1).length : Int) + 1)) = true := by rw [hf3]; simp
  have hh1 := heldB_len l1 tk1
  refine np (.bool false) ?_
  go_frame
  refine wl_nil (cn14 _ _ ?_)
  clear cn14
  refine wp_cond_false rfl ?_
  refine wp_skip ?_
  refine cn13 _ _ ?_
  clear cn13
  refine wp_seq_k fun _ cn15 => wl_region ?_
  refine np (u'1) ?_
  refine np (.int .i64 at1) ?_
  refine np (.int .i64 tk1) ?_
  go_frame
  refine nC #[u'1, .int .i64 at1, .int .i64 tk1] (impl_Locked (u'1) ((lockB l1 at1 tk1).1) at1 tk1 _ hN'2 (Nat.le_trans (lockB_len _ _ _) (by omega)) ⟨by omega, by omega⟩) ?_
  rintro e W14 ⟨u'17, rfl, hO, hb⟩
  replace hM := hM.call hb
  replace hN1 := hN1.below hb
  replace hN'2 := hN'2.below hb
  replace hN'4 := hN'4.below hb
  replace hN2 := hN2.below hb
  replace hN'6 := hN'6.below hb
  replace hN'8 := hN'8.below hb
  replace hN3 := hN3.below hb
  replace hI'10 := hI'10.below hb
  replace hI'14 := hI'14.below hb
  have hN'18 : NSl W14 u'17 (lockB ((lockB l1 at1 tk1).1) at1 tk1).1 := hO.sl
  clear hO
  rw [hf1]
  refine ⟨_, rfl, ?_⟩
  go_frame
  refine np (.tuple #[u'17, .bool false]) ?_
  refine np (u'17) ?_
  refine np (.bool false) ?_
  refine np (u'17) ?_
  refine np (.bool false) ?_
  go_frame
  refine wl_nil (cn15 _ _ ?_)
  clear cn15
  refine wp_seq_k fun _ cn16 => wl_region ?_
  refine np (u'1) ?_
  refine np (.int .i64 at1) ?_
  refine np (.int .i64 tk1) ?_
  refine nI (tk1 + 1) ?_
  go_frame
  refine wl_pureE (by kernel_rfl) (m := ((tk1 + 1)).tmod 6) (n := ((tk1 + 1) % 6)) (by kernel_rfl) (IntWalk.rem_in _ _ (by omega)) ?_
  go_frame
  refine nC #[u'1, .int .i64 at1, .int .i64 ((tk1 + 1) % 6)] (impl_Unlocked (u'1) ((lockB l1 at1 tk1).1) at1 ((tk1 + 1) % 6) _ hN'2 (Nat.le_trans (lockB_len _ _ _) (by omega)) ⟨by omega, by omega⟩) ?_
  rintro e W15 ⟨u'19, rfl, hO, hb⟩
  replace hM := hM.call hb
  replace hN1 := hN1.below hb
  replace hN'2 := hN'2.below hb
  replace hN'4 := hN'4.below hb
  replace hN2 := hN2.below hb
  replace hN'6 := hN'6.below hb
  replace hN'8 := hN'8.below hb
  replace hN3 := hN3.below hb
  replace hI'10 := hI'10.below hb
  replace hI'14 := hI'14.below hb
  replace hN'18 := hN'18.below hb
  have hN'20 : NSl W15 u'19 (unlockB ((lockB l1 at1 tk1).1) at1 ((tk1 + 1) % 6)).1 := hO.sl
  clear hO
  rw [hf2]
  refine ⟨_, rfl, ?_⟩
  go_frame
  refine np (.tuple #[u'19, .bool false]) ?_
  refine np (u'19) ?_
  refine np (.bool false) ?_
  refine np (u'19) ?_
  refine np (.bool false) ?_
  go_frame
  refine wl_nil (cn16 _ _ ?_)
  clear cn16
  refine wp_seq_k fun _ cn17 => wl_region ?_
  refine np (u'1) ?_
  refine np (.int .i64 at1) ?_
  refine np (.int .i64 tk1) ?_
  go_frame
  refine nC #[u'1, .int .i64 at1, .int .i64 tk1] (SaysL.cast hUL (impl_Unlocked (u'1) ((lockB l1 at1 tk1).1) at1 tk1 _ hN'2 (Nat.le_trans (lockB_len _ _ _) (by omega)) ⟨by omega, by omega⟩)) ?_
  rintro e W16 ⟨u'21, rfl, hO, hb⟩
  replace hM := hM.call hb
  replace hN1 := hN1.below hb
  replace hN'2 := hN'2.below hb
  replace hN'4 := hN'4.below hb
  replace hN2 := hN2.below hb
  replace hN'6 := hN'6.below hb
  replace hN'8 := hN'8.below hb
  replace hN3 := hN3.below hb
  replace hI'10 := hI'10.below hb
  replace hI'14 := hI'14.below hb
  replace hN'18 := hN'18.below hb
  replace hN'20 := hN'20.below hb
  have hN'22 : NSl W16 u'21 l1 := hO.sl
  clear hO
  refine ⟨_, rfl, ?_⟩
  go_frame
  refine np (.tuple #[u'21, .bool true]) ?_
  refine np (u'21) ?_
  refine np (.bool true) ?_
  refine np (u'21) ?_
  refine np (.bool true) ?_
  go_frame
  refine wl_nil (cn17 _ _ ?_)
  clear cn17
  refine wp_seq_k fun _ cn18 => wl_region ?_
  refine np (.bool false) ?_
  refine np (.bool true) ?_
  refine np (.bool true) ?_
  refine np (.bool false) ?_
  refine np (.bool true) ?_
  refine np (.bool true) ?_
  refine np (.bool true) ?_
  refine np (.bool true) ?_
  refine np (.bool true) ?_
  refine np (.bool true) ?_
  refine np (u'21) ?_
  refine np (.slice (some ⟨b1, o1, none⟩) l1.length k1) ?_
  refine nc (likeNodes_same (u'21) (.slice (some ⟨b1, o1, none⟩) l1.length k1) l1 _ hN'22 hN1) ?_
  rintro e W17 ⟨rfl, hb⟩
  refine ⟨_, rfl, ?_⟩
  replace hM := hM.call hb
  replace hN1 := hN1.below hb
  replace hN'2 := hN'2.below hb
  replace hN'4 := hN'4.below hb
  replace hN2 := hN2.below hb
  replace hN'6 := hN'6.below hb
  replace hN'8 := hN'8.below hb
  replace hN3 := hN3.below hb
  replace hI'10 := hI'10.below hb
  replace hI'14 := hI'14.below hb
  replace hN'18 := hN'18.below hb
  replace hN'20 := hN'20.below hb
  replace hN'22 := hN'22.below hb
  go_frame
  refine np (.bool true) ?_
  refine np (.bool true) ?_
  refine np (u'1) ?_
  refine np (.int .i64 tk1) ?_
  go_frame
  refine nC #[u'1, .int .i64 tk1] (impl_HeldBy (u'1) ((lockB l1 at1 tk1).1) tk1 _ hN'2 (Nat.le_trans (lockB_len _ _ _) (by omega))) ?_
  rintro e W18 ⟨u'23, rfl, hO, hb⟩
  replace hM := hM.call hb
  replace hN1 := hN1.below hb
  replace hN'2 := hN'2.below hb
  replace hN'4 := hN'4.below hb
  replace hN2 := hN2.below hb
  replace hN'6 := hN'6.below hb
  replace hN'8 := hN'8.below hb
  replace hN3 := hN3.below hb
  replace hI'10 := hI'10.below hb
  replace hI'14 := hI'14.below hb
  replace hN'18 := hN'18.below hb
  replace hN'20 := hN'20.below hb
  replace hN'22 := hN'22.below hb
  obtain ⟨aa'25, cc'26, rfl, -, -⟩ := hO.slice
  have hI'24 : SlI W18 (.slice aa'25 (heldB ((lockB l1 at1 tk1).1) tk1).length cc'26) (heldB ((lockB l1 at1 tk1).1) tk1) := hO.sl
  clear hO
  refine ⟨_, rfl, ?_⟩
  go_frame
  refine np (.int .i64 ((heldB ((lockB l1 at1 tk1).1) tk1).length : Int)) ?_
  refine np (.slice (some ⟨b1, o1, none⟩) l1.length k1) ?_
  refine np (.int .i64 tk1) ?_
  refine nc (impl_HeldBy (.slice (some ⟨b1, o1, none⟩) l1.length k1) l1 tk1 _ hN1 (by omega)) ?_
  rintro e W19 ⟨u'27, rfl, hO, hb⟩
  replace hM := hM.call hb
  replace hN1 := hN1.below hb
  replace hN'2 := hN'2.below hb
  replace hN'4 := hN'4.below hb
  replace hN2 := hN2.below hb
  replace hN'6 := hN'6.below hb
  replace hN'8 := hN'8.below hb
  replace hN3 := hN3.below hb
  replace hI'10 := hI'10.below hb
  replace hI'14 := hI'14.below hb
  replace hN'18 := hN'18.below hb
  replace hN'20 := hN'20.below hb
  replace hN'22 := hN'22.below hb
  replace hI'24 := hI'24.below hb
  obtain ⟨aa'29, cc'30, rfl, -, -⟩ := hO.slice
  have hI'28 : SlI W19 (.slice aa'29 (heldB l1 tk1).length cc'30) (heldB l1 tk1) := hO.sl
  clear hO
  refine ⟨_, rfl, ?_⟩
  go_frame
  refine np (.int .i64 ((heldB l1 tk1).length : Int)) ?_
  refine nI (((heldB l1 tk1).length : Int) + 1) ?_
  refine nB (hf4) ?_
  refine np (.bool true) ?_
  refine np (.bool true) ?_
  go_frame
  refine wl_nil (cn18 _ _ ?_)
  clear cn18
  refine wp_ret ?_
  exact bodyPost_ret (v := .bool true) (ret_tmp 2 rfl rfl) rfl ⟨rfl, hM.below⟩
  rw [hx2]
  refine np (.bool true) ?_
  go_frame
  refine wl_nil (cn14 _ _ ?_)
  clear cn14
  refine wp_cond_true rfl ?_
  refine wp_seq_k fun _ cn15 => wl_region ?_
  refine np (.bool true) ?_
  go_frame
  refine wl_nil (cn15 _ _ ?_)
  clear cn15
  refine wp_ret ?_
  simp only [Exit.then, Exit.inBlock]
  exact bodyPost_ret (v := .bool true) (ret_tmp 2 rfl rfl) rfl ⟨rfl, hM.below⟩

theorem walk0 (va : Option Addr) (vc : Nat) (lb : List Int) (w0 : World) (hbt : Bts w0.heap.size w0 (.slice va lb.length vc) lb) (hl4 : ¬ lb.length ≤ 4096) :
    Calls Tryz.prog 3 #[(.slice va lb.length vc)] w0 fun e w' => e = .returned (.bool true) ∧ Below w0.heap.size w0 w' := by
  have hbg : decide ((lb.length : Int) > 4096) = true := by simp; omega
  have hM := Mem.start w0
  go_enter Tryz.func3, Tryz.ntmps3
  refine wp_seq_k fun _ cn1 => wl_region ?_
  refine np (.bool false) ?_
  go_frame
  refine wl_nil (cn1 _ _ ?_)
  clear cn1
  refine wp_seq_k fun Kn2 cn2 => ?_
  refine wp_seq_k fun _ cn3 => wl_region ?_
  refine np (.slice va lb.length vc) ?_
  refine nc (big_slice va lb.length vc _) ?_
  rintro e W1 ⟨rfl, hb⟩
  refine ⟨.bool true, rb hbg, ?_⟩
  replace hM := hM.call hb
  go_frame
  refine wl_nil (cn3 _ _ ?_)
  clear cn3
  refine wp_cond_true rfl ?_
  refine wp_seq_k fun _ cn4 => wl_region ?_
  refine np (.bool true) ?_
  go_frame
  refine wl_nil (cn4 _ _ ?_)
  clear cn4
  refine wp_ret ?_
  simp only [Exit.then, Exit.inBlock]
  exact bodyPost_ret (v := .bool true) (ret_tmp 2 rfl rfl) rfl ⟨rfl, hM.below⟩
theorem walk (v : Value) (l : List Int) (w : World) (h : Bts w.heap.size w v l) :
    Calls Tryz.prog 3 #[v] w fun e w' => e = .returned (.bool true) ∧ Below w.heap.size w w' := by
  obtain ⟨⟨a, c, rfl, hc1, hc2, -⟩, -⟩ := id h
  by_cases hl : l.length ≤ 4096
  · exact walk1 a c l w h hl
  · exact walk0 a c l w h hl

theorem lifted (os : Os) (started : os.Started) (H : Type) (enc : TypeId × Value → H) :
    ReturnsInHanded {} Tryz.checked os 3 .any (Rows.fnHoldsSpec.pre6 enc Tryz.prog Tryz.f3 Rows.fnHoldsRow.domain false) (Rows.fnHoldsSpec.post enc Tryz.prog Tryz.f3 false true false false) := by
  refine returnsInHanded_of_change (C := Tryz.checked) own started (by kernel_rfl) Tryz.func3
    (ChangeSpec.witness6 (enc := enc) (C := Tryz.checked) false ⟨#[], #[.slice none 0 0], []⟩ 8 (by kernel_rfl) (by kernel_rfl) (by kernel_rfl) (by kernel_rfl)) ?_
  intro W base args ds gs before hval0 hW hcnd _
  have hval : ∀ (j : Nat) t v, Tryz.f3.params[j]? = some t → args[j]? = some v → Value.okWide Tryz.prog W .any base t v := hval0
  have hW' := hW
  obtain ⟨p, q, hA0, hV, rfl, hfz, hnd⟩ := hW
  have hA : DataW.TrodAll enc Tryz.prog W 0 (fun _ => true) true Tryz.f3.params.toList args.toList ds p := hA0
  rw [Tryz.params3] at hA hval
  obtain ⟨v0, vs0, d0, ds0, p0, q0, hargs, rfl, rfl, h0, r0⟩ := trodAll_cons hA
  obtain ⟨rfl, rfl, rfl⟩ := trodAll_nil r0
  obtain rfl : args = #[v0] := by cases args; simp_all
  obtain ⟨rfl, rfl⟩ := trodVars_none hV
  have k0 := h0
  have lt0 : ∀ x ∈ p0, x.block < W.heap.size := by obtain ⟨m, hm⟩ := k0; exact DataW.trod_lt m _ _ _ hm
  obtain ⟨l_0, hl_0⟩ := open_bytes (hval 0 22 v0 rfl rfl) h0
  clear hA0 hval0
  refine (walk v0 l_0 W hl_0).mono fun e W' ⟨he, bel⟩ => ?_
  subst he
  exact ⟨_, rfl, _, _, _, [], _, [], hW', trodAll_mk1 (shut_bool Tryz.underlying4 _), (trodAll_cons_mk (Below.trod laidOut (by kernel_rfl) (of_decide_eq_true (by kernel_rfl)) k0 bel lt0) trodAll_mk0), rfl, bel.frame _, fun h => by cases h⟩

theorem over : Rows.fnHoldsRow.holds Tryz.pinned (OpenSpec.ofChange Rows.fnHoldsSpec) :=
  OpenClaim.holds_of_wide 3 Tryz.f3 rfl rfl rfl rfl rfl rfl rfl ⟨rfl, rfl, rfl, rfl, rfl⟩ rfl rfl rfl rfl rfl (by kernel_rfl) Tryz.func3 (by kernel_rfl)
    (of_decide_eq_true (by kernel_rfl)) (by unfold Func.isWrapper; rw [if_neg (of_decide_eq_false (by kernel_rfl))]; exact ⟨rfl, rfl⟩)
    (fun os started H enc _ => lifted os started H enc)

theorem proved : Rows.FnHoldsSaid := over
end Go.Proofs.YtbfndoajchibbaaGreat.fnHolds
