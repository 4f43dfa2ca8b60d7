/- What is shared, in the laws: opened, copied, compared, marked. -/
import Derived.Test.YthllpgjggmdmmaaOpen
import Derived.Test.YthllpgjggmdmmaaRowInt
import Derived.Test.YthllpgjggmdmmaaFindImpl3
import Derived.Test.YthllpgjggmdmmaaLawHand
namespace Go.Proofs.Ythllpgjggmdmmaa
open Go.ChangeShapes Go.WideShapes Go.ChangeAt Go.RowKit Go.Deep
set_option linter.unusedVariables false

theorem flat_ints (l : List Int) : (l.flatMap fun n => [Value.int .i64 n]) = cellsI l := by
  induction l with
  | nil => rfl
  | cons a r ih => simp only [List.flatMap_cons, ih]; rfl
end Go.Proofs.Ythllpgjggmdmmaa
namespace Go.Proofs.Ythllpgjggmdmmaa
open Go.ChangeShapes Go.WideShapes Go.ChangeAt Go.RowKit Go.Deep
set_option linter.unusedVariables false
set_option linter.unusedSimpArgs false

theorem I_laws_Shared : (Try.prog.info? 25).map (fun i => i.size) = some 2 := by kernel_rfl
theorem slice_field {H : Type} {enc : TypeId × Value → H} {w : World} {base : Nat} {spare : Nat → Bool} {held : Bool} {t el : TypeId} {fs : Array Field} {fuel : Nat} {cs : List Value} {x : DataW H × List MemPlace}
    (ht : Try.prog.underlying t = some (.struct fs)) (h : DataW.trod enc Try.prog w base spare held fuel t cs = some x) (i off : Nat) (f : Field) (hf : fs[i]? = some f) (ho : f.offset = off) (hC : Try.prog.cellsOf f.type = 1) (hT : Try.prog.underlying f.type = some (.slice el)) :
    ∃ a n c d p, cs[off]? = some (.slice a n c) ∧ DataW.Trod enc Try.prog w base spare held f.type (.slice a n c) d p := by
  obtain ⟨n, y, hy⟩ := field_of ht h i f hf
  rw [hC, ho] at hy
  have hs : ∃ a l c, (cs.drop off).take 1 = [.slice a l c] := by
    rcases open_slice hT hy with ⟨hcs, _⟩ | ⟨a', len', cap', m, n, D, Pl, hcs, _⟩
    · exact ⟨none, 0, 0, hcs⟩
    · exact ⟨some a', len', cap', hcs⟩
  obtain ⟨a, l, c, e1⟩ := hs
  rw [e1] at hy
  refine ⟨a, l, c, y.1, y.2, ?_, n, hy⟩
  have := congrArg (fun q : List Value => q[0]?) e1
  simpa [List.getElem?_take, List.getElem?_drop] using this
set_option maxRecDepth 100000 in
theorem open_shared {H : Type} {enc : TypeId × Value → H} {w : World} {base b0 : Nat} {spare : Nat → Bool} {held : Bool} {v : Value} {d : DataW H} {p : List MemPlace} (hv : Value.okWide Try.prog w .any b0 25 v)
    (h : DataW.Trod enc Try.prog w base spare held 25 v d p) : ∃ (ua : Option Addr) (uc : Nat) (xa : Option Addr) (xc : Nat) (l : List ND) (c : List Int), v = .agg #[.slice ua l.length uc, .slice xa c.length xc] ∧ NSl w (.slice ua l.length uc) l ∧ SlI w (.slice xa c.length xc) c := by
  obtain ⟨cs, rfl, _⟩ := okWide_struct Try.underlying25 hv
  obtain ⟨fuel, hf⟩ := h
  obtain ⟨_, _, _, _, hl, _, _⟩ := DataW.trod_struct Try.underlying25 hf
  have hC : Try.prog.cellsOf 25 = 2 := by kernel_rfl
  rw [hC] at hl
  obtain ⟨a, n, k, d1, p1, e1, t1⟩ := slice_field Try.underlying25 hf 0 0 _ rfl rfl (by kernel_rfl) Try.underlying22
  obtain ⟨a2, m, k2, d2, p2, e2, t2⟩ := slice_field Try.underlying25 hf 1 1 _ rfl rfl (by kernel_rfl) Try.underlying23
  obtain ⟨l, hl1, s1⟩ := open_rows ND.cells 8 ND.cells_len (by omega) Try.underlying22 (by kernel_rfl) (fun n cs x hx => by
    obtain ⟨k, v, l, r, o, g, lt, rt, rfl, _⟩ := node_cells hx
    exact ⟨⟨k, v, l, r, o, g, lt, rt⟩, rfl⟩) t1
  obtain ⟨c, hc1, s2⟩ := open_rows (fun n : Int => [Value.int .i64 n]) 1 (fun _ => rfl) (by omega) Try.underlying23 (by kernel_rfl) (fun n cs x hx => by
    obtain ⟨k, e, _, _⟩ := DataW.trod_int Try.underlying2 hx
    exact ⟨k, e⟩) t2
  subst hl1 hc1
  rw [flat_ints] at s2
  obtain ⟨x, y, hcs⟩ : ∃ x y, (Value.agg cs).cells.toList = [x, y] := by
    match hq : (Value.agg cs).cells.toList, hl with
    | [x, y], _ => exact ⟨x, y, rfl⟩
  rw [hcs] at e1 e2
  simp only [List.getElem?_cons_zero, List.getElem?_cons_succ, Option.some.injEq] at e1 e2
  subst e1 e2
  exact ⟨a, k, a2, k2, l, c, by rw [agg_eta (show cs.toList = _ from hcs)], s1, s2⟩
theorem nsl_nil {w : World} {a : Option Addr} {k : Nat} (h : k ≤ maxLen) : NSl w (.slice a 0 k) [] := ⟨a, k, rfl, Nat.zero_le _, h, rfl, .inl rfl⟩
theorem sli_nil {w : World} {a : Option Addr} {k : Nat} (h : k ≤ maxLen) : SlI w (.slice a 0 k) [] := ⟨a, k, rfl, Nat.zero_le _, h, rfl, .inl rfl⟩
theorem nsl_marked {w : World} {g k n : Nat} {m : Int} {t : TypeId} {p : List Value} (hb : Blk w g t (cellsOf (markL m n) ++ p)) (h1 : n ≤ k) (h2 : k ≤ maxLen) : NSl w (.slice (some ⟨g, 0, none⟩) n k) (markL m n) := by
  have := nsl_blk (l := markL m n) hb (by rw [markL_len]; exact h1) h2
  rwa [markL_len] at this
theorem sli_marked {w : World} {g k n : Nat} {m : Int} {t : TypeId} {p : List Value} (hb : Blk w g t (cellsI (markLI m n) ++ p)) (h1 : n ≤ k) (h2 : k ≤ maxLen) : SlI w (.slice (some ⟨g, 0, none⟩) n k) (markLI m n) := by
  have := sli_blk (c := markLI m n) hb (by rw [markLI_len]; exact h1) h2
  rwa [markLI_len] at this
set_option maxHeartbeats 400000 in
theorem szInt64S_in (a : Option Addr) (len cap : Nat) (left : Int) (w : World) (h : (len : Int) ≤ left) (hl : left ≤ 1048576) :
    Calls Try.prog 14 #[.slice a len cap, .int .i64 left] w fun e w' => e = .returned (.int .i64 (left - len)) ∧ w = w' := by
  have g0 : ¬ (left - (len : Int) < 0) := by omega
  have g1 : 0 ≤ left - (len : Int) := by omega
  have g2 : left - (len : Int) ≤ 1048576 := by omega
  go_enter Try.func14, Try.ntmps14
  go_wp2
  go_ret
  exact ⟨rfl, rfl⟩
set_option maxHeartbeats 400000 in
theorem szInt64S_out (a : Option Addr) (len cap : Nat) (left : Int) (w : World) (h : left < len) (h0 : 0 ≤ left) (hl : left ≤ 1048576) (hm : len ≤ maxLen) :
    Calls Try.prog 14 #[.slice a len cap, .int .i64 left] w fun e w' => e = .returned (.int .i64 (-1)) ∧ w = w' := by
  unfold maxLen at hm
  have g0 : left - (len : Int) < 0 := by omega
  have g1 : -9223372036854775807 ≤ left - (len : Int) := by omega
  go_enter Try.func14, Try.ntmps14
  go_wp2
  go_ret
  exact ⟨rfl, rfl⟩

set_option maxRecDepth 100000 in
set_option maxHeartbeats 4000000 in
theorem szShared_in (ua : Option Addr) (n uc : Nat) (xa : Option Addr) (m xc : Nat) (w0 : World) (hs : n + m ≤ 1048576) :
    Calls Try.prog 4 #[.agg #[.slice ua n uc, .slice xa m xc], .int .i64 1048576] w0 fun e w' => e = .returned (.int .i64 (1048576 - (n : Int) - (m : Int))) ∧ Below w0.heap.size w0 w' := by
  have z1 : decide ((1048576 - (n : Int)) < 0) = false := by simp; omega
  have z2 : decide ((1048576 - (n : Int) - (m : Int)) < 0) = false := by simp; omega
  have hM := Mem.start w0
  go_enter Try.func4, Try.ntmps4
  refine wp_seq_k fun Kn1 cn1 => ?_
  refine wl_region ?_
  refine wl_box (by kernel_rfl) hM 25 _ rfl [.slice ua n uc, .slice xa m xc] rfl ?_
  clear hM; intro g1 W1 hM
  go_frame
  refine wl_pure (by kernel_rfl) (.int .i64 0) (by kernel_rfl) ?_
  go_frame
  refine wl_nil ?_
  refine cn1 _ _ ?_
  clear cn1
  refine wp_seq_k fun Kn2 cn2 => ?_
  refine wl_region ?_
  refine wl_pure (by kernel_rfl) (.pointer (some ⟨g1, 0, none⟩)) (by kernel_rfl) ?_
  go_frame
  refine wl_loadc (by kernel_rfl) hM 0 rfl 22 _ rfl 0 rfl Try.underlying22 rfl rfl ?_
  go_frame
  refine wl_pure (by kernel_rfl) (.int .i64 1048576) (by kernel_rfl) ?_
  go_frame
  refine wl_call (by kernel_rfl) 13 #[.slice ua n uc, .int .i64 1048576] (by kernel_rfl) (szNodeS_in ua n uc 1048576 _ (by omega) (by omega)) ?_
  rintro e W2 ⟨rfl, rfl⟩
  refine ⟨_, rfl, ?_⟩
  go_frame
  refine wl_pure (by kernel_rfl) (.int .i64 (1048576 - (n : Int))) (by kernel_rfl) ?_
  go_frame
  refine wl_nil ?_
  refine cn2 _ _ ?_
  clear cn2
  refine wp_seq_k fun Kn3 cn3 => ?_
  refine wp_seq_k fun Kn4 cn4 => ?_
  refine wl_region ?_
  refine wl_pure (by kernel_rfl) (.int .i64 (1048576 - (n : Int))) (by kernel_rfl) ?_
  go_frame
  refine wl_pureB (by kernel_rfl) (b := decide ((1048576 - (n : Int)) < 0)) (by kernel_rfl) (z1) ?_
  go_frame
  refine wl_nil ?_
  refine cn4 _ _ ?_
  clear cn4
  refine wp_cond_false rfl ?_
  refine wp_skip ?_
  refine cn3 _ _ ?_
  clear cn3
  refine wp_seq_k fun Kn5 cn5 => ?_
  refine wl_region ?_
  refine wl_pure (by kernel_rfl) (.pointer (some ⟨g1, 1, none⟩)) (by kernel_rfl) ?_
  go_frame
  refine wl_loadc (by kernel_rfl) hM 0 rfl 23 _ rfl 1 rfl Try.underlying23 rfl rfl ?_
  go_frame
  refine wl_pure (by kernel_rfl) (.int .i64 (1048576 - (n : Int))) (by kernel_rfl) ?_
  go_frame
  refine wl_call (by kernel_rfl) 14 #[.slice xa m xc, .int .i64 (1048576 - (n : Int))] (by kernel_rfl) (szInt64S_in xa m xc (1048576 - (n : Int)) _ (by omega) (by omega)) ?_
  rintro e W3 ⟨rfl, rfl⟩
  refine ⟨_, rfl, ?_⟩
  go_frame
  refine wl_pure (by kernel_rfl) (.int .i64 (1048576 - (n : Int) - (m : Int))) (by kernel_rfl) ?_
  go_frame
  refine wl_nil ?_
  refine cn5 _ _ ?_
  clear cn5
  refine wp_seq_k fun Kn6 cn6 => ?_
  refine wp_seq_k fun Kn7 cn7 => ?_
  refine wl_region ?_
  refine wl_pure (by kernel_rfl) (.int .i64 (1048576 - (n : Int) - (m : Int))) (by kernel_rfl) ?_
  go_frame
  refine wl_pureB (by kernel_rfl) (b := decide ((1048576 - (n : Int) - (m : Int)) < 0)) (by kernel_rfl) (z2) ?_
  go_frame
  refine wl_nil ?_
  refine cn7 _ _ ?_
  clear cn7
  refine wp_cond_false rfl ?_
  refine wp_skip ?_
  refine cn6 _ _ ?_
  clear cn6
  refine wp_seq_k fun Kn8 cn8 => ?_
  refine wl_region ?_
  refine wl_pure (by kernel_rfl) (.int .i64 (1048576 - (n : Int) - (m : Int))) (by kernel_rfl) ?_
  go_frame
  refine wl_pure (by kernel_rfl) (.int .i64 (1048576 - (n : Int) - (m : Int))) (by kernel_rfl) ?_
  go_frame
  refine wl_nil ?_
  refine cn8 _ _ ?_
  clear cn8
  refine wp_ret ?_
  exact bodyPost_ret (v := .int .i64 (1048576 - (n : Int) - (m : Int))) (ret_tmp 4 rfl rfl) rfl ⟨congrArg (fun z => Ending.returned (Value.int .i64 z)) (show (1048576 - (n : Int) - (m : Int)) = (1048576 - (n : Int) - (m : Int)) from by omega), hM.below⟩

set_option maxRecDepth 100000 in
set_option maxHeartbeats 4000000 in
theorem szShared_mid (ua : Option Addr) (n uc : Nat) (xa : Option Addr) (m xc : Nat) (w0 : World) (hs : 1048576 < n + m) (hn : n ≤ 1048576) (hm : m ≤ maxLen) :
    Calls Try.prog 4 #[.agg #[.slice ua n uc, .slice xa m xc], .int .i64 1048576] w0 fun e w' => e = .returned (.int .i64 (-1)) ∧ Below w0.heap.size w0 w' := by
  have z1 : decide ((1048576 - (n : Int)) < 0) = false := by simp; omega
  have hM := Mem.start w0
  go_enter Try.func4, Try.ntmps4
  refine wp_seq_k fun Kn1 cn1 => ?_
  refine wl_region ?_
  refine wl_box (by kernel_rfl) hM 25 _ rfl [.slice ua n uc, .slice xa m xc] rfl ?_
  clear hM; intro g1 W1 hM
  go_frame
  refine wl_pure (by kernel_rfl) (.int .i64 0) (by kernel_rfl) ?_
  go_frame
  refine wl_nil ?_
  refine cn1 _ _ ?_
  clear cn1
  refine wp_seq_k fun Kn2 cn2 => ?_
  refine wl_region ?_
  refine wl_pure (by kernel_rfl) (.pointer (some ⟨g1, 0, none⟩)) (by kernel_rfl) ?_
  go_frame
  refine wl_loadc (by kernel_rfl) hM 0 rfl 22 _ rfl 0 rfl Try.underlying22 rfl rfl ?_
  go_frame
  refine wl_pure (by kernel_rfl) (.int .i64 1048576) (by kernel_rfl) ?_
  go_frame
  refine wl_call (by kernel_rfl) 13 #[.slice ua n uc, .int .i64 1048576] (by kernel_rfl) (szNodeS_in ua n uc 1048576 _ (by omega) (by omega)) ?_
  rintro e W2 ⟨rfl, rfl⟩
  refine ⟨_, rfl, ?_⟩
  go_frame
  refine wl_pure (by kernel_rfl) (.int .i64 (1048576 - (n : Int))) (by kernel_rfl) ?_
  go_frame
  refine wl_nil ?_
  refine cn2 _ _ ?_
  clear cn2
  refine wp_seq_k fun Kn3 cn3 => ?_
  refine wp_seq_k fun Kn4 cn4 => ?_
  refine wl_region ?_
  refine wl_pure (by kernel_rfl) (.int .i64 (1048576 - (n : Int))) (by kernel_rfl) ?_
  go_frame
  refine wl_pureB (by kernel_rfl) (b := decide ((1048576 - (n : Int)) < 0)) (by kernel_rfl) (z1) ?_
  go_frame
  refine wl_nil ?_
  refine cn4 _ _ ?_
  clear cn4
  refine wp_cond_false rfl ?_
  refine wp_skip ?_
  refine cn3 _ _ ?_
  clear cn3
  refine wp_seq_k fun Kn5 cn5 => ?_
  refine wl_region ?_
  refine wl_pure (by kernel_rfl) (.pointer (some ⟨g1, 1, none⟩)) (by kernel_rfl) ?_
  go_frame
  refine wl_loadc (by kernel_rfl) hM 0 rfl 23 _ rfl 1 rfl Try.underlying23 rfl rfl ?_
  go_frame
  refine wl_pure (by kernel_rfl) (.int .i64 (1048576 - (n : Int))) (by kernel_rfl) ?_
  go_frame
  refine wl_call (by kernel_rfl) 14 #[.slice xa m xc, .int .i64 (1048576 - (n : Int))] (by kernel_rfl) (szInt64S_out xa m xc (1048576 - (n : Int)) _ (by omega) (by omega) (by omega) hm) ?_
  rintro e W3 ⟨rfl, rfl⟩
  refine ⟨_, rfl, ?_⟩
  go_frame
  refine wl_pure (by kernel_rfl) (.int .i64 (-1)) (by kernel_rfl) ?_
  go_frame
  refine wl_nil ?_
  refine cn5 _ _ ?_
  clear cn5
  refine wp_seq_k fun Kn6 cn6 => ?_
  refine wp_seq_k fun Kn7 cn7 => ?_
  refine wl_region ?_
  refine wl_pure (by kernel_rfl) (.int .i64 (-1)) (by kernel_rfl) ?_
  go_frame
  refine wl_pure (by kernel_rfl) (.bool true) (by kernel_rfl) ?_
  go_frame
  refine wl_nil ?_
  refine cn7 _ _ ?_
  clear cn7
  refine wp_cond_true rfl ?_
  refine wp_seq_k fun Kn8 cn8 => ?_
  refine wl_region ?_
  refine wl_pure (by kernel_rfl) (.int .i64 (-1)) (by kernel_rfl) ?_
  go_frame
  refine wl_nil ?_
  refine cn8 _ _ ?_
  clear cn8
  refine wp_ret ?_
  simp only [Exit.then, Exit.inBlock]
  exact bodyPost_ret (v := .int .i64 (-1)) (ret_tmp 4 rfl rfl) rfl ⟨congrArg (fun z => Ending.returned (Value.int .i64 z)) (show (-1) = (-1) from by omega), hM.below⟩

set_option maxRecDepth 100000 in
set_option maxHeartbeats 4000000 in
theorem szShared_out (ua : Option Addr) (n uc : Nat) (xa : Option Addr) (m xc : Nat) (w0 : World) (hs : 1048576 < n) (hn : n ≤ maxLen) :
    Calls Try.prog 4 #[.agg #[.slice ua n uc, .slice xa m xc], .int .i64 1048576] w0 fun e w' => e = .returned (.int .i64 (-1)) ∧ Below w0.heap.size w0 w' := by
  have hM := Mem.start w0
  go_enter Try.func4, Try.ntmps4
  refine wp_seq_k fun Kn1 cn1 => ?_
  refine wl_region ?_
  refine wl_box (by kernel_rfl) hM 25 _ rfl [.slice ua n uc, .slice xa m xc] rfl ?_
  clear hM; intro g1 W1 hM
  go_frame
  refine wl_pure (by kernel_rfl) (.int .i64 0) (by kernel_rfl) ?_
  go_frame
  refine wl_nil ?_
  refine cn1 _ _ ?_
  clear cn1
  refine wp_seq_k fun Kn2 cn2 => ?_
  refine wl_region ?_
  refine wl_pure (by kernel_rfl) (.pointer (some ⟨g1, 0, none⟩)) (by kernel_rfl) ?_
  go_frame
  refine wl_loadc (by kernel_rfl) hM 0 rfl 22 _ rfl 0 rfl Try.underlying22 rfl rfl ?_
  go_frame
  refine wl_pure (by kernel_rfl) (.int .i64 1048576) (by kernel_rfl) ?_
  go_frame
  refine wl_call (by kernel_rfl) 13 #[.slice ua n uc, .int .i64 1048576] (by kernel_rfl) (szNodeS_out ua n uc 1048576 _ (by omega) (by omega) hn) ?_
  rintro e W2 ⟨rfl, rfl⟩
  refine ⟨_, rfl, ?_⟩
  go_frame
  refine wl_pure (by kernel_rfl) (.int .i64 (-1)) (by kernel_rfl) ?_
  go_frame
  refine wl_nil ?_
  refine cn2 _ _ ?_
  clear cn2
  refine wp_seq_k fun Kn3 cn3 => ?_
  refine wp_seq_k fun Kn4 cn4 => ?_
  refine wl_region ?_
  refine wl_pure (by kernel_rfl) (.int .i64 (-1)) (by kernel_rfl) ?_
  go_frame
  refine wl_pure (by kernel_rfl) (.bool true) (by kernel_rfl) ?_
  go_frame
  refine wl_nil ?_
  refine cn4 _ _ ?_
  clear cn4
  refine wp_cond_true rfl ?_
  refine wp_seq_k fun Kn5 cn5 => ?_
  refine wl_region ?_
  refine wl_pure (by kernel_rfl) (.int .i64 (-1)) (by kernel_rfl) ?_
  go_frame
  refine wl_nil ?_
  refine cn5 _ _ ?_
  clear cn5
  refine wp_ret ?_
  simp only [Exit.then, Exit.inBlock]
  exact bodyPost_ret (v := .int .i64 (-1)) (ret_tmp 4 rfl rfl) rfl ⟨congrArg (fun z => Ending.returned (Value.int .i64 z)) (show (-1) = (-1) from by omega), hM.below⟩
theorem szShared_over (ua : Option Addr) (n uc : Nat) (xa : Option Addr) (m xc : Nat) (w0 : World) (hs : 1048576 < n + m) (hn : n ≤ maxLen) (hm : m ≤ maxLen) : Calls Try.prog 4 #[.agg #[.slice ua n uc, .slice xa m xc], .int .i64 1048576] w0 fun e w' => e = .returned (.int .i64 (-1)) ∧ Below w0.heap.size w0 w' := by
  rcases Nat.lt_or_ge 1048576 n with h | h
  · exact szShared_out ua n uc xa m xc w0 h hn
  · exact szShared_mid ua n uc xa m xc w0 hs h hm

set_option maxRecDepth 100000 in
set_option maxHeartbeats 4000000 in
theorem toShared_any (u x : Value) (l : List ND) (c : List Int) (w0 : World) (h1 : NSl w0 u l) (h2 : SlI w0 x c) (hl : l.length ≤ 1048576) (hc : c.length ≤ 1048576) :
    Calls Try.prog 6 #[.agg #[u, x]] w0 (Copied w0 l c) := by
  have hM := Mem.start w0
  go_enter Try.func6, Try.ntmps6
  refine wp_seq_k fun Kn1 cn1 => ?_
  refine wl_region ?_
  refine wl_box (by kernel_rfl) hM 25 _ rfl [u, x] rfl ?_
  clear hM; intro g1 W1 hM
  go_frame
  refine wl_alloc (by kernel_rfl) hM 33 rfl [.slice none 0 0, .slice none 0 0] Z_impl_Shared ?_
  clear hM; intro g2 W2 hM
  go_frame
  refine wl_nil ?_
  refine cn1 _ _ ?_
  clear cn1
  refine wp_seq_k fun Kn2 cn2 => ?_
  refine wl_region ?_
  refine wl_alloc (by kernel_rfl) hM 33 rfl [.slice none 0 0, .slice none 0 0] Z_impl_Shared ?_
  clear hM; intro g3 W3 hM
  go_frame
  refine wl_nil ?_
  refine cn2 _ _ ?_
  clear cn2
  refine wp_seq_k fun Kn3 cn3 => ?_
  refine wl_region ?_
  refine wl_pure (by kernel_rfl) (.pointer (some ⟨g1, 0, none⟩)) (by kernel_rfl) ?_
  go_frame
  refine wl_loadc (by kernel_rfl) hM 2 rfl 22 _ rfl 0 rfl Try.underlying22 rfl rfl ?_
  go_frame
  refine wl_call (by kernel_rfl) 23 #[u] (by kernel_rfl) (toNodeS_any (u) l _ (h1.below hM.below) hl) ?_
  rintro e W4 ⟨m1, v, rfl, hg, ⟨k1, p1, rfl, qa1, qb1, ⟨-, qx1⟩, hO⟩, hb⟩
  replace hM := hM.got hb hg hO
  refine ⟨_, rfl, ?_⟩
  go_frame
  refine wl_pure (by kernel_rfl) (.pointer (some ⟨g3, 0, none⟩)) (by kernel_rfl) ?_
  go_frame
  refine wl_storec (by kernel_rfl) hM 1 rfl 31 _ _ rfl rfl 0 rfl (.slice (some ⟨m1, 0, none⟩) l.length k1) rfl rfl rfl I_S_impl_Node (by simp) ?_
  clear hM; intro W5 hM
  refine wl_nil ?_
  refine cn3 _ _ ?_
  clear cn3
  refine wp_seq_k fun Kn4 cn4 => ?_
  refine wl_region ?_
  refine wl_pure (by kernel_rfl) (.pointer (some ⟨g1, 1, none⟩)) (by kernel_rfl) ?_
  go_frame
  refine wl_loadc (by kernel_rfl) hM 3 rfl 23 _ rfl 1 rfl Try.underlying23 rfl rfl ?_
  go_frame
  refine wl_call (by kernel_rfl) 24 #[x] (by kernel_rfl) (toInt64S_any (x) c _ (h2.below hM.below) hc) ?_
  rintro e W6 ⟨m2, v, rfl, hg, ⟨k2, p2, rfl, qa2, qb2, ⟨-, qx2⟩, hO⟩, hb⟩
  replace hM := hM.got hb hg hO
  refine ⟨_, rfl, ?_⟩
  go_frame
  refine wl_pure (by kernel_rfl) (.pointer (some ⟨g3, 1, none⟩)) (by kernel_rfl) ?_
  go_frame
  refine wl_storec (by kernel_rfl) hM 2 rfl 23 _ _ rfl rfl 1 rfl (.slice (some ⟨m2, 0, none⟩) c.length k2) rfl rfl rfl I_S_int64 (by simp) ?_
  clear hM; intro W7 hM
  refine wl_nil ?_
  refine cn4 _ _ ?_
  clear cn4
  refine wp_seq_k fun Kn5 cn5 => ?_
  refine wl_region ?_
  refine wl_load (by kernel_rfl) hM 2 rfl 33 _ rfl rfl Try.underlying33 I_impl_Shared ?_
  go_frame
  refine wl_store (by kernel_rfl) hM 3 rfl 33 _ _ rfl rfl rfl [.slice (some ⟨m1, 0, none⟩) l.length k1, .slice (some ⟨m2, 0, none⟩) c.length k2] rfl I_impl_Shared rfl rfl ?_
  clear hM; intro W8 hM
  refine wl_nil ?_
  refine cn5 _ _ ?_
  clear cn5
  refine wp_ret ?_
  exact bodyPost_ret (ret_row rfl hM 3 rfl rfl Try.underlying33 I_impl_Shared) rfl ⟨m1, m2, k1, k2, p1, p2, rfl, ⟨qa1, qb1, qa2, qb2, qx1, qx2⟩, hM.sub (fun i => if i = 0 then 1 else 0) (fun i b hb => by match i, hb with | 0, hb => exact hb | 1, hb => exact hb | (n + 2), hb => simp at hb) (fun i j hi hj e => by simp only [List.length_cons, List.length_nil] at hi hj; split at e <;> split at e <;> omega)⟩

set_option maxRecDepth 100000 in
set_option maxHeartbeats 4000000 in
theorem eqShared_same (u1 x1 u2 x2 : Value) (l : List ND) (c : List Int) (w0 : World) (h1 : NSl w0 u1 l) (h2 : NSl w0 u2 l) (h3 : SlI w0 x1 c) (h4 : SlI w0 x2 c) :
    Calls Try.prog 9 #[.agg #[u1, x1], .agg #[u2, x2]] w0 fun e w' => e = .returned (.bool true) ∧ Below w0.heap.size w0 w' := by
  have hM := Mem.start w0
  go_enter Try.func9, Try.ntmps9
  refine wp_seq_k fun Kn1 cn1 => ?_
  refine wl_region ?_
  refine wl_box (by kernel_rfl) hM 33 _ rfl [u1, x1] rfl ?_
  clear hM; intro g1 W1 hM
  go_frame
  refine wl_box (by kernel_rfl) hM 33 _ rfl [u2, x2] rfl ?_
  clear hM; intro g2 W2 hM
  go_frame
  refine wl_pure (by kernel_rfl) (.bool false) (by kernel_rfl) ?_
  go_frame
  refine wl_nil ?_
  refine cn1 _ _ ?_
  clear cn1
  refine wp_seq_k fun Kn2 cn2 => ?_
  refine wp_seq_k fun Kn3 cn3 => ?_
  refine wl_region ?_
  refine wl_pure (by kernel_rfl) (.pointer (some ⟨g1, 0, none⟩)) (by kernel_rfl) ?_
  go_frame
  refine wl_loadc (by kernel_rfl) hM 1 rfl 31 _ rfl 0 rfl Try.underlying31 rfl rfl ?_
  go_frame
  refine wl_pure (by kernel_rfl) (.pointer (some ⟨g2, 0, none⟩)) (by kernel_rfl) ?_
  go_frame
  refine wl_loadc (by kernel_rfl) hM 0 rfl 31 _ rfl 0 rfl Try.underlying31 rfl rfl ?_
  go_frame
  refine wl_call (by kernel_rfl) 29 #[u1, u2] (by kernel_rfl) (eqNodeS_same u1 u2 l _ (h1.below hM.below) (h2.below hM.below)) ?_
  rintro e W3 ⟨rfl, hb⟩
  refine ⟨_, rfl, ?_⟩
  replace hM := hM.call hb
  go_frame
  refine wl_pure (by kernel_rfl) (.bool false) (by kernel_rfl) ?_
  go_frame
  refine wl_nil ?_
  refine cn3 _ _ ?_
  clear cn3
  refine wp_cond_false rfl ?_
  refine wp_skip ?_
  refine cn2 _ _ ?_
  clear cn2
  refine wp_seq_k fun Kn4 cn4 => ?_
  refine wp_seq_k fun Kn5 cn5 => ?_
  refine wl_region ?_
  refine wl_pure (by kernel_rfl) (.pointer (some ⟨g1, 1, none⟩)) (by kernel_rfl) ?_
  go_frame
  refine wl_loadc (by kernel_rfl) hM 1 rfl 23 _ rfl 1 rfl Try.underlying23 rfl rfl ?_
  go_frame
  refine wl_pure (by kernel_rfl) (.pointer (some ⟨g2, 1, none⟩)) (by kernel_rfl) ?_
  go_frame
  refine wl_loadc (by kernel_rfl) hM 0 rfl 23 _ rfl 1 rfl Try.underlying23 rfl rfl ?_
  go_frame
  refine wl_call (by kernel_rfl) 30 #[x1, x2] (by kernel_rfl) (eqInt64S_same x1 x2 c _ (h3.below hM.below) (h4.below hM.below)) ?_
  rintro e W4 ⟨rfl, hb⟩
  refine ⟨_, rfl, ?_⟩
  replace hM := hM.call hb
  go_frame
  refine wl_pure (by kernel_rfl) (.bool false) (by kernel_rfl) ?_
  go_frame
  refine wl_nil ?_
  refine cn5 _ _ ?_
  clear cn5
  refine wp_cond_false rfl ?_
  refine wp_skip ?_
  refine cn4 _ _ ?_
  clear cn4
  refine wp_seq_k fun Kn6 cn6 => ?_
  refine wl_region ?_
  refine wl_pure (by kernel_rfl) (.bool true) (by kernel_rfl) ?_
  go_frame
  refine wl_nil ?_
  refine cn6 _ _ ?_
  clear cn6
  refine wp_ret ?_
  exact bodyPost_ret (v := .bool true) (ret_tmp 4 rfl rfl) rfl ⟨rfl, hM.below⟩

set_option maxRecDepth 100000 in
set_option maxHeartbeats 4000000 in
theorem markShared_own (n m : Nat) (x1 x2 : List Value) (k : Int) (ga0 k1 : Nat) (p1 : List Value) (gb0 k2 : Nat) (p2 : List Value) (L : List Bk) (w00 w0 : World) (hM0 : Mem w00 w0 ((ga0, 52, x1 ++ p1) :: (gb0, 2, x2 ++ p2) :: L)) (q1 : n ≤ k1) (q2 : k1 ≤ maxLen) (q3 : m ≤ k2) (q4 : k2 ≤ maxLen) (hx1 : x1.length = n * 8) (hx2 : x2.length = m * 1) (hn : n ≤ 1048576) (hm : m ≤ 1048576) (m0 : 0 ≤ k) (m1 : k ≤ 1000) :
    Calls Try.prog 11 #[.agg #[.slice (some ⟨ga0, 0, none⟩) n k1, .slice (some ⟨gb0, 0, none⟩) m k2], .int .i64 k] w0 fun e w' => ∃ p1' p2', e = .returned (.int .i64 (k + 8 * (n : Int) + (m : Int))) ∧ Mem w00 w' ((ga0, 52, cellsOf (markL k n) ++ p1') :: (gb0, 2, cellsI (markLI (k + 8 * (n : Int)) m) ++ p2') :: L) := by
  have hM := hM0
  go_enter Try.func11, Try.ntmps11
  refine wp_seq_k fun Kn1 cn1 => ?_
  refine wl_region ?_
  refine wl_box (by kernel_rfl) hM 33 _ rfl [.slice (some ⟨ga0, 0, none⟩) n k1, .slice (some ⟨gb0, 0, none⟩) m k2] rfl ?_
  clear hM; intro g1 W1 hM
  go_frame
  refine wl_pure (by kernel_rfl) (.int .i64 0) (by kernel_rfl) ?_
  go_frame
  refine wl_nil ?_
  refine cn1 _ _ ?_
  clear cn1
  refine wp_seq_k fun Kn2 cn2 => ?_
  refine wl_region ?_
  refine wl_pure (by kernel_rfl) (.pointer (some ⟨g1, 0, none⟩)) (by kernel_rfl) ?_
  go_frame
  refine wl_loadc (by kernel_rfl) hM 0 rfl 31 _ rfl 0 rfl Try.underlying31 rfl rfl ?_
  go_frame
  refine wl_pure (by kernel_rfl) (.int .i64 k) (by kernel_rfl) ?_
  go_frame
  refine wl_call (by kernel_rfl) 32 #[.slice (some ⟨ga0, 0, none⟩) n k1, .int .i64 k] (by kernel_rfl) (markNodeS_own _ ga0 n x1 k _ ⟨k1, p1, rfl, q1, q2, hx1, hM.blk 1 rfl⟩ (by omega) (by omega) (by omega)) ?_
  rintro e W2 ⟨rfl, ⟨kk1, p1', -, -, -, -, hB⟩, hU⟩
  refine ⟨_, rfl, ?_⟩
  replace hM := hM.but 1 rfl hU hB
  replace hM : Mem w00 W2 ((g1, 33, [.slice (some ⟨ga0, 0, none⟩) n k1, .slice (some ⟨gb0, 0, none⟩) m k2]) :: (ga0, 52, (cellsOf (markL k n) ++ p1')) :: (gb0, 2, (x2 ++ p2)) :: L) := hM
  go_frame
  refine wl_pure (by kernel_rfl) (.int .i64 (k + 8 * (n : Int))) (by kernel_rfl) ?_
  go_frame
  refine wl_nil ?_
  refine cn2 _ _ ?_
  clear cn2
  refine wp_seq_k fun Kn3 cn3 => ?_
  refine wl_region ?_
  refine wl_pure (by kernel_rfl) (.pointer (some ⟨g1, 1, none⟩)) (by kernel_rfl) ?_
  go_frame
  refine wl_loadc (by kernel_rfl) hM 0 rfl 23 _ rfl 1 rfl Try.underlying23 rfl rfl ?_
  go_frame
  refine wl_pure (by kernel_rfl) (.int .i64 (k + 8 * (n : Int))) (by kernel_rfl) ?_
  go_frame
  refine wl_call (by kernel_rfl) 33 #[.slice (some ⟨gb0, 0, none⟩) m k2, .int .i64 (k + 8 * (n : Int))] (by kernel_rfl) (markInt64S_own _ gb0 m x2 (k + 8 * (n : Int)) _ ⟨k2, p2, rfl, q3, q4, hx2, hM.blk 2 rfl⟩ (by omega) (by omega) (by omega)) ?_
  rintro e W3 ⟨rfl, ⟨kk2, p2', -, -, -, -, hB⟩, hU⟩
  refine ⟨_, rfl, ?_⟩
  replace hM := hM.but 2 rfl hU hB
  replace hM : Mem w00 W3 ((g1, 33, [.slice (some ⟨ga0, 0, none⟩) n k1, .slice (some ⟨gb0, 0, none⟩) m k2]) :: (ga0, 52, (cellsOf (markL k n) ++ p1')) :: (gb0, 2, (cellsI (markLI (k + 8 * (n : Int)) m) ++ p2')) :: L) := hM
  go_frame
  refine wl_pure (by kernel_rfl) (.int .i64 ((k + 8 * (n : Int)) + (m : Int))) (by kernel_rfl) ?_
  go_frame
  refine wl_nil ?_
  refine cn3 _ _ ?_
  clear cn3
  refine wp_seq_k fun Kn4 cn4 => ?_
  refine wl_region ?_
  refine wl_pure (by kernel_rfl) (.int .i64 ((k + 8 * (n : Int)) + (m : Int))) (by kernel_rfl) ?_
  go_frame
  refine wl_pure (by kernel_rfl) (.int .i64 ((k + 8 * (n : Int)) + (m : Int))) (by kernel_rfl) ?_
  go_frame
  refine wl_nil ?_
  refine cn4 _ _ ?_
  clear cn4
  refine wp_ret ?_
  exact bodyPost_ret (v := .int .i64 ((k + 8 * (n : Int)) + (m : Int))) (ret_tmp 4 rfl rfl) rfl ⟨p1', p2', rfl, hM.sub (fun i => i + 1) (fun i b hb => hb) (fun i j _ _ e => by omega)⟩

set_option maxRecDepth 100000 in
set_option maxHeartbeats 4000000 in
theorem markShared_nil (ua : Option Addr) (uc : Nat) (xa : Option Addr) (xc : Nat) (k : Int) (w0 : World) (m0 : 0 ≤ k) (m1 : k ≤ 1000) :
    Calls Try.prog 11 #[.agg #[.slice ua 0 uc, .slice xa 0 xc], .int .i64 k] w0 fun e w' => e = .returned (.int .i64 k) ∧ Below w0.heap.size w0 w' := by
  have hM := Mem.start w0
  go_enter Try.func11, Try.ntmps11
  refine wp_seq_k fun Kn1 cn1 => ?_
  refine wl_region ?_
  refine wl_box (by kernel_rfl) hM 33 _ rfl [.slice ua 0 uc, .slice xa 0 xc] rfl ?_
  clear hM; intro g1 W1 hM
  go_frame
  refine wl_pure (by kernel_rfl) (.int .i64 0) (by kernel_rfl) ?_
  go_frame
  refine wl_nil ?_
  refine cn1 _ _ ?_
  clear cn1
  refine wp_seq_k fun Kn2 cn2 => ?_
  refine wl_region ?_
  refine wl_pure (by kernel_rfl) (.pointer (some ⟨g1, 0, none⟩)) (by kernel_rfl) ?_
  go_frame
  refine wl_loadc (by kernel_rfl) hM 0 rfl 31 _ rfl 0 rfl Try.underlying31 rfl rfl ?_
  go_frame
  refine wl_pure (by kernel_rfl) (.int .i64 k) (by kernel_rfl) ?_
  go_frame
  refine wl_call (by kernel_rfl) 32 #[.slice ua 0 uc, .int .i64 k] (by kernel_rfl) (markNodeS_nil ua uc k _ (by omega) (by omega)) ?_
  rintro e W2 ⟨rfl, hb⟩
  refine ⟨_, rfl, ?_⟩
  replace hM := hM.call hb
  go_frame
  refine wl_pure (by kernel_rfl) (.int .i64 k) (by kernel_rfl) ?_
  go_frame
  refine wl_nil ?_
  refine cn2 _ _ ?_
  clear cn2
  refine wp_seq_k fun Kn3 cn3 => ?_
  refine wl_region ?_
  refine wl_pure (by kernel_rfl) (.pointer (some ⟨g1, 1, none⟩)) (by kernel_rfl) ?_
  go_frame
  refine wl_loadc (by kernel_rfl) hM 0 rfl 23 _ rfl 1 rfl Try.underlying23 rfl rfl ?_
  go_frame
  refine wl_pure (by kernel_rfl) (.int .i64 k) (by kernel_rfl) ?_
  go_frame
  refine wl_call (by kernel_rfl) 33 #[.slice xa 0 xc, .int .i64 k] (by kernel_rfl) (markInt64S_nil xa xc k _ (by omega) (by omega)) ?_
  rintro e W3 ⟨rfl, hb⟩
  refine ⟨_, rfl, ?_⟩
  replace hM := hM.call hb
  go_frame
  refine wl_pure (by kernel_rfl) (.int .i64 k) (by kernel_rfl) ?_
  go_frame
  refine wl_nil ?_
  refine cn3 _ _ ?_
  clear cn3
  refine wp_seq_k fun Kn4 cn4 => ?_
  refine wl_region ?_
  refine wl_pure (by kernel_rfl) (.int .i64 k) (by kernel_rfl) ?_
  go_frame
  refine wl_pure (by kernel_rfl) (.int .i64 k) (by kernel_rfl) ?_
  go_frame
  refine wl_nil ?_
  refine cn4 _ _ ?_
  clear cn4
  refine wp_ret ?_
  exact bodyPost_ret (v := .int .i64 k) (ret_tmp 4 rfl rfl) rfl ⟨congrArg (fun z => Ending.returned (Value.int .i64 z)) (show k = k from by omega), hM.below⟩

set_option maxRecDepth 100000 in
set_option maxHeartbeats 4000000 in
theorem heldShared_same (u x : Value) (n m : Nat) (k : Int) (w0 : World) (h1 : NSl w0 u (markL k n)) (h2 : SlI w0 x (markLI (k + 8 * (n : Int)) m)) (hn : n ≤ 1048576) (hm : m ≤ 1048576) (m0 : 0 ≤ k) (m1 : k ≤ 1000) :
    Calls Try.prog 12 #[.agg #[u, x], .int .i64 k] w0 fun e w' => e = .returned (.int .i64 (k + 8 * (n : Int) + (m : Int))) ∧ Below w0.heap.size w0 w' := by
  have z1 : decide ((k + 8 * (n : Int)) < 0) = false := by simp; omega
  have z2 : decide ((k + 8 * (n : Int) + (m : Int)) < 0) = false := by simp; omega
  have hM := Mem.start w0
  go_enter Try.func12, Try.ntmps12
  refine wp_seq_k fun Kn1 cn1 => ?_
  refine wl_region ?_
  refine wl_box (by kernel_rfl) hM 33 _ rfl [u, x] rfl ?_
  clear hM; intro g1 W1 hM
  go_frame
  refine wl_pure (by kernel_rfl) (.int .i64 0) (by kernel_rfl) ?_
  go_frame
  refine wl_nil ?_
  refine cn1 _ _ ?_
  clear cn1
  refine wp_seq_k fun Kn2 cn2 => ?_
  refine wl_region ?_
  refine wl_pure (by kernel_rfl) (.pointer (some ⟨g1, 0, none⟩)) (by kernel_rfl) ?_
  go_frame
  refine wl_loadc (by kernel_rfl) hM 0 rfl 31 _ rfl 0 rfl Try.underlying31 rfl rfl ?_
  go_frame
  refine wl_pure (by kernel_rfl) (.int .i64 k) (by kernel_rfl) ?_
  go_frame
  refine wl_call (by kernel_rfl) 34 #[u, .int .i64 k] (by kernel_rfl) (heldNodeS_same u n k _ (h1.below hM.below) hn (by omega) (by omega)) ?_
  rintro e W2 ⟨rfl, rfl⟩
  refine ⟨_, rfl, ?_⟩
  go_frame
  refine wl_pure (by kernel_rfl) (.int .i64 (k + 8 * (n : Int))) (by kernel_rfl) ?_
  go_frame
  refine wl_nil ?_
  refine cn2 _ _ ?_
  clear cn2
  refine wp_seq_k fun Kn3 cn3 => ?_
  refine wp_seq_k fun Kn4 cn4 => ?_
  refine wl_region ?_
  refine wl_pure (by kernel_rfl) (.int .i64 (k + 8 * (n : Int))) (by kernel_rfl) ?_
  go_frame
  refine wl_pureB (by kernel_rfl) (b := decide ((k + 8 * (n : Int)) < 0)) (by kernel_rfl) (z1) ?_
  go_frame
  refine wl_nil ?_
  refine cn4 _ _ ?_
  clear cn4
  refine wp_cond_false rfl ?_
  refine wp_skip ?_
  refine cn3 _ _ ?_
  clear cn3
  refine wp_seq_k fun Kn5 cn5 => ?_
  refine wl_region ?_
  refine wl_pure (by kernel_rfl) (.pointer (some ⟨g1, 1, none⟩)) (by kernel_rfl) ?_
  go_frame
  refine wl_loadc (by kernel_rfl) hM 0 rfl 23 _ rfl 1 rfl Try.underlying23 rfl rfl ?_
  go_frame
  refine wl_pure (by kernel_rfl) (.int .i64 (k + 8 * (n : Int))) (by kernel_rfl) ?_
  go_frame
  refine wl_call (by kernel_rfl) 35 #[x, .int .i64 (k + 8 * (n : Int))] (by kernel_rfl) (heldInt64S_same x m (k + 8 * (n : Int)) _ (h2.below hM.below) hm (by omega) (by omega)) ?_
  rintro e W3 ⟨rfl, rfl⟩
  refine ⟨_, rfl, ?_⟩
  go_frame
  refine wl_pure (by kernel_rfl) (.int .i64 (k + 8 * (n : Int) + (m : Int))) (by kernel_rfl) ?_
  go_frame
  refine wl_nil ?_
  refine cn5 _ _ ?_
  clear cn5
  refine wp_seq_k fun Kn6 cn6 => ?_
  refine wp_seq_k fun Kn7 cn7 => ?_
  refine wl_region ?_
  refine wl_pure (by kernel_rfl) (.int .i64 (k + 8 * (n : Int) + (m : Int))) (by kernel_rfl) ?_
  go_frame
  refine wl_pureB (by kernel_rfl) (b := decide ((k + 8 * (n : Int) + (m : Int)) < 0)) (by kernel_rfl) (z2) ?_
  go_frame
  refine wl_nil ?_
  refine cn7 _ _ ?_
  clear cn7
  refine wp_cond_false rfl ?_
  refine wp_skip ?_
  refine cn6 _ _ ?_
  clear cn6
  refine wp_seq_k fun Kn8 cn8 => ?_
  refine wl_region ?_
  refine wl_pure (by kernel_rfl) (.int .i64 (k + 8 * (n : Int) + (m : Int))) (by kernel_rfl) ?_
  go_frame
  refine wl_pure (by kernel_rfl) (.int .i64 (k + 8 * (n : Int) + (m : Int))) (by kernel_rfl) ?_
  go_frame
  refine wl_nil ?_
  refine cn8 _ _ ?_
  clear cn8
  refine wp_ret ?_
  exact bodyPost_ret (v := .int .i64 (k + 8 * (n : Int) + (m : Int))) (ret_tmp 4 rfl rfl) rfl ⟨congrArg (fun z => Ending.returned (Value.int .i64 z)) (show (k + 8 * (n : Int) + (m : Int)) = (k + 8 * (n : Int) + (m : Int)) from by omega), hM.below⟩
end Go.Proofs.Ythllpgjggmdmmaa
