/- A hand of the laws: opened; their own copy of it; two that are the same. -/
import Derived.Test.YthllpgjggmdmmaaBase
import Derived.Test.YthllpgjggmdmmaaHand
namespace Go.Proofs.Ythllpgjggmdmmaa
open Go.ChangeShapes Go.WideShapes Go.ChangeAt Go.RowKit
set_option linter.unusedVariables false

theorem call_cells {H : Type} {enc : TypeId × Value → H} {w : World} {base : Nat} {spare : Nat → Bool} {held : Bool} {fuel : Nat} {cs : List Value} {x : DataW H × List MemPlace}
    (h : DataW.trod enc Try.prog w base spare held fuel 27 cs = some x) :
    ∃ (c k v : Int), cs = [.int .i64 c, .int .i64 k, .int .i64 v] ∧ In64 c ∧ In64 k ∧ In64 v := by
  obtain ⟨_, _, _, _, hl, _, _⟩ := DataW.trod_struct Try.underlying27 h
  have hC : Try.prog.cellsOf 27 = 3 := by kernel_rfl
  obtain ⟨c, e0, b0⟩ := int_field Try.underlying27 h 0 0 _ rfl rfl (by kernel_rfl) Try.underlying2
  obtain ⟨k, e1, b1⟩ := int_field Try.underlying27 h 1 1 _ rfl rfl (by kernel_rfl) Try.underlying2
  obtain ⟨v, e2, b2⟩ := int_field Try.underlying27 h 2 2 _ rfl rfl (by kernel_rfl) Try.underlying2
  rw [hC] at hl
  obtain ⟨a0, a1, a2, rfl⟩ := len3 hl
  simp only [List.getElem?_cons_zero, List.getElem?_cons_succ, Option.some.injEq] at e0 e1 e2
  subst e0 e1 e2
  exact ⟨c, k, v, rfl, b0, b1, b2⟩

set_option maxHeartbeats 1000000 in
theorem toCall_any (c k v : Int) (w : World) :
    Calls Try.prog 25 #[.agg #[.int .i64 c, .int .i64 k, .int .i64 v]] w fun e w' => e = .returned (.agg #[.int .i64 c, .int .i64 k, .int .i64 v]) ∧ Below w.heap.size w w' := by
  go_enter Try.func25, Try.ntmps25
  go_wp2
  exact bodyPost_ret (v := .agg #[.int .i64 c, .int .i64 k, .int .i64 v]) (by simp [results, Try.results25, go_sem]) rfl ⟨rfl, by repeat (first | exact Below.refl _ _ | refine Below.alloc ?_ (by simp; try omega) _ | refine Below.setCell ?_ (by simp; try omega) _)⟩
end Go.Proofs.Ythllpgjggmdmmaa
namespace Go.Proofs.Ythllpgjggmdmmaa
open Go.ChangeShapes Go.WideShapes Go.ChangeAt Go.RowKit
set_option linter.unusedVariables false
set_option linter.unusedSimpArgs false

def HD.Fits (h : HD) : Prop := In64 h.at_ ∧ In64 h.c ∧ In64 h.k ∧ In64 h.v ∧ In64 h.prev ∧ In64 h.cur ∧ In64 h.side ∧ In64 h.tag ∧ In64 h.up ∧ In64 h.next ∧ In64 h.new ∧ In64 h.index ∧ In64 h.seen ∧ In64 h.begin_ ∧ In64 h.reply ∧ In64 h.out
theorem call_field {H : Type} {enc : TypeId × Value → H} {w : World} {base : Nat} {spare : Nat → Bool} {held : Bool} {t : TypeId} {fs : Array Field} {fuel : Nat} {cs : List Value} {x : DataW H × List MemPlace}
    (ht : Try.prog.underlying t = some (.struct fs)) (h : DataW.trod enc Try.prog w base spare held fuel t cs = some x) (i off : Nat) (f : Field) (hf : fs[i]? = some f) (ho : f.offset = off) (hT : f.type = 27) :
    ∃ a b c, cs[off]? = some (.int .i64 a) ∧ cs[off + 1]? = some (.int .i64 b) ∧ cs[off + 2]? = some (.int .i64 c) ∧ In64 a ∧ In64 b ∧ In64 c := by
  obtain ⟨n, y, hy⟩ := field_of ht h i f hf
  have hC3 : Try.prog.cellsOf 27 = 3 := by kernel_rfl
  rw [hT, hC3, ho] at hy
  obtain ⟨x1, x2, x3, hc, b1, b2, b3⟩ := call_cells hy
  have e0 : ((cs.drop off).take 3)[0]? = some (.int .i64 x1) := by rw [hc]; rfl
  have e1 : ((cs.drop off).take 3)[1]? = some (.int .i64 x2) := by rw [hc]; rfl
  have e2 : ((cs.drop off).take 3)[2]? = some (.int .i64 x3) := by rw [hc]; rfl
  simp [List.getElem?_take, List.getElem?_drop] at e0 e1 e2
  exact ⟨x1, x2, x3, e0, e1, e2, b1, b2, b3⟩
theorem hand_cells {H : Type} {enc : TypeId × Value → H} {w : World} {base : Nat} {spare : Nat → Bool} {held : Bool} {fuel : Nat} {cs : List Value} {x : DataW H × List MemPlace}
    (h : DataW.trod enc Try.prog w base spare held fuel 29 cs = some x) :
    ∃ h : HD, cs = h.cells ∧ h.Fits := by
  obtain ⟨_, _, _, _, hl, _, _⟩ := DataW.trod_struct Try.underlying29 h
  have hC : Try.prog.cellsOf 29 = 17 := by kernel_rfl
  obtain ⟨x0, e0, b0⟩ := int_field Try.underlying29 h 0 0 _ rfl rfl (by kernel_rfl) Try.underlying2
  obtain ⟨x4, e4, b4⟩ := int_field Try.underlying29 h 2 4 _ rfl rfl (by kernel_rfl) Try.underlying2
  obtain ⟨x5, e5, b5⟩ := int_field Try.underlying29 h 3 5 _ rfl rfl (by kernel_rfl) Try.underlying2
  obtain ⟨x6, e6, b6⟩ := int_field Try.underlying29 h 4 6 _ rfl rfl (by kernel_rfl) Try.underlying2
  obtain ⟨x7, e7, b7⟩ := int_field Try.underlying29 h 5 7 _ rfl rfl (by kernel_rfl) Try.underlying2
  obtain ⟨x8, e8, b8⟩ := int_field Try.underlying29 h 6 8 _ rfl rfl (by kernel_rfl) Try.underlying2
  obtain ⟨x9, e9, b9⟩ := int_field Try.underlying29 h 7 9 _ rfl rfl (by kernel_rfl) Try.underlying2
  obtain ⟨x10, e10, b10⟩ := int_field Try.underlying29 h 8 10 _ rfl rfl (by kernel_rfl) Try.underlying2
  obtain ⟨x11, e11, b11⟩ := int_field Try.underlying29 h 9 11 _ rfl rfl (by kernel_rfl) Try.underlying2
  obtain ⟨x12, e12, b12⟩ := int_field Try.underlying29 h 10 12 _ rfl rfl (by kernel_rfl) Try.underlying2
  obtain ⟨x13, e13⟩ := bool_field Try.underlying29 h 11 13 _ rfl rfl (by kernel_rfl) Try.underlying4
  obtain ⟨x14, e14, b14⟩ := int_field Try.underlying29 h 12 14 _ rfl rfl (by kernel_rfl) Try.underlying2
  obtain ⟨x15, e15, b15⟩ := int_field Try.underlying29 h 13 15 _ rfl rfl (by kernel_rfl) Try.underlying2
  obtain ⟨x16, e16, b16⟩ := int_field Try.underlying29 h 14 16 _ rfl rfl (by kernel_rfl) Try.underlying2
  obtain ⟨x1, x2, x3, e1, e2, e3, b1, b2, b3⟩ := call_field Try.underlying29 h 1 1 _ rfl rfl rfl
  rw [hC] at hl
  refine ⟨⟨x0, x1, x2, x3, x4, x5, x6, x7, x8, x9, x10, x11, x12, x13, x14, x15, x16⟩, ?_, b0, b1, b2, b3, b4, b5, b6, b7, b8, b9, b10, b11, b12, b14, b15, b16⟩
  apply List.ext_getElem?
  intro i
  match i with
  | 0 => exact e0
  | 1 => exact e1
  | 2 => exact e2
  | 3 => exact e3
  | 4 => exact e4
  | 5 => exact e5
  | 6 => exact e6
  | 7 => exact e7
  | 8 => exact e8
  | 9 => exact e9
  | 10 => exact e10
  | 11 => exact e11
  | 12 => exact e12
  | 13 => exact e13
  | 14 => exact e14
  | 15 => exact e15
  | 16 => exact e16
  | (i + 17) => rw [List.getElem?_eq_none (by omega), List.getElem?_eq_none (by simp [HD.cells])]
set_option maxRecDepth 100000 in
theorem open_hand {H : Type} {enc : TypeId × Value → H} {w : World} {base b0 : Nat} {spare : Nat → Bool} {held : Bool} {v : Value} {d : DataW H} {p : List MemPlace} (hv : Value.okWide Try.prog w .any b0 29 v)
    (h : DataW.Trod enc Try.prog w base spare held 29 v d p) : ∃ x : HD, v = x.val ∧ x.Fits := by
  obtain ⟨cs, rfl, _⟩ := okWide_struct Try.underlying29 hv
  obtain ⟨fuel, hf⟩ := h
  obtain ⟨x, hcs, hb⟩ := hand_cells hf
  exact ⟨x, by rw [agg_eta hcs]; rfl, hb⟩
theorem I_laws_Hand : (Try.prog.info? 29).map (fun i => i.size) = some 17 := by kernel_rfl
theorem I_laws_Call : (Try.prog.info? 27).map (fun i => i.size) = some 3 := by kernel_rfl

set_option maxRecDepth 100000 in
set_option maxHeartbeats 4000000 in
theorem toHand_any (h : HD) (w0 : World) :
    Calls Try.prog 7 #[h.val] w0 fun e w' => e = .returned h.val ∧ Below w0.heap.size w0 w' := by
  unfold HD.val
  have hM := Mem.start w0
  go_enter Try.func7, Try.ntmps7
  refine wp_seq_k fun Kn1 cn1 => ?_
  refine wl_region ?_
  refine wl_box (by kernel_rfl) hM 29 _ rfl (HD.cells h) rfl ?_
  clear hM; intro g1 W1 hM
  go_frame
  refine wl_alloc (by kernel_rfl) hM 36 rfl (HD.cells HD.zero) Z_impl_Hand ?_
  clear hM; intro g2 W2 hM
  go_frame
  refine wl_nil ?_
  refine cn1 _ _ ?_
  clear cn1
  refine wp_seq_k fun Kn2 cn2 => ?_
  refine wl_region ?_
  refine wl_alloc (by kernel_rfl) hM 36 rfl (HD.cells HD.zero) Z_impl_Hand ?_
  clear hM; intro g3 W3 hM
  go_frame
  refine wl_nil ?_
  refine cn2 _ _ ?_
  clear cn2
  refine wp_seq_k fun Kn3 cn3 => ?_
  refine wl_region ?_
  refine wl_pure (by kernel_rfl) (.pointer (some ⟨g1, 0, none⟩)) (by kernel_rfl) ?_
  go_frame
  refine wl_loadc (by kernel_rfl) hM 2 rfl 2 _ rfl 0 rfl Try.underlying2 rfl rfl ?_
  go_frame
  refine wl_pure (by kernel_rfl) (.pointer (some ⟨g3, 0, none⟩)) (by kernel_rfl) ?_
  go_frame
  refine wl_storec (by kernel_rfl) hM 0 rfl 2 _ _ rfl rfl 0 rfl (.int .i64 h.at_) rfl rfl rfl I_int64 (by simp [HD.cells]) ?_
  clear hM; intro W4 hM; replace hM : Mem w0 W4 [(g3, 36, (HD.cells { HD.zero with at_ := h.at_ })), (g2, 36, (HD.cells HD.zero)), (g1, 29, (HD.cells h))] := hM
  refine wl_nil ?_
  refine cn3 _ _ ?_
  clear cn3
  refine wp_seq_k fun Kn4 cn4 => ?_
  refine wl_region ?_
  refine wl_pure (by kernel_rfl) (.pointer (some ⟨g1, 1, none⟩)) (by kernel_rfl) ?_
  go_frame
  refine wl_part (by kernel_rfl) hM 2 rfl 27 _ rfl 1 rfl Try.underlying27 [.int .i64 h.c, .int .i64 h.k, .int .i64 h.v] I_laws_Call rfl ?_
  go_frame
  refine wl_call (by kernel_rfl) 25 #[.agg #[.int .i64 h.c, .int .i64 h.k, .int .i64 h.v]] (by kernel_rfl) (toCall_any h.c h.k h.v _) ?_
  rintro e W5 ⟨rfl, hb⟩
  refine ⟨_, rfl, ?_⟩
  replace hM := hM.call hb
  go_frame
  refine wl_pure (by kernel_rfl) (.pointer (some ⟨g3, 1, none⟩)) (by kernel_rfl) ?_
  go_frame
  refine wl_storep (by kernel_rfl) hM 0 rfl 34 _ _ rfl rfl 1 rfl [.int .i64 h.c, .int .i64 h.k, .int .i64 h.v] rfl I_impl_Call (by simp [HD.cells]) rfl ?_
  clear hM; intro W6 hM; replace hM : Mem w0 W6 [(g3, 36, (HD.cells { HD.zero with at_ := h.at_, c := h.c, k := h.k, v := h.v })), (g2, 36, (HD.cells HD.zero)), (g1, 29, (HD.cells h))] := hM
  refine wl_nil ?_
  refine cn4 _ _ ?_
  clear cn4
  refine wp_seq_k fun Kn5 cn5 => ?_
  refine wl_region ?_
  refine wl_pure (by kernel_rfl) (.pointer (some ⟨g1, 4, none⟩)) (by kernel_rfl) ?_
  go_frame
  refine wl_loadc (by kernel_rfl) hM 2 rfl 2 _ rfl 4 rfl Try.underlying2 rfl rfl ?_
  go_frame
  refine wl_pure (by kernel_rfl) (.pointer (some ⟨g3, 4, none⟩)) (by kernel_rfl) ?_
  go_frame
  refine wl_storec (by kernel_rfl) hM 0 rfl 2 _ _ rfl rfl 4 rfl (.int .i64 h.prev) rfl rfl rfl I_int64 (by simp [HD.cells]) ?_
  clear hM; intro W7 hM; replace hM : Mem w0 W7 [(g3, 36, (HD.cells { HD.zero with at_ := h.at_, c := h.c, k := h.k, v := h.v, prev := h.prev })), (g2, 36, (HD.cells HD.zero)), (g1, 29, (HD.cells h))] := hM
  refine wl_nil ?_
  refine cn5 _ _ ?_
  clear cn5
  refine wp_seq_k fun Kn6 cn6 => ?_
  refine wl_region ?_
  refine wl_pure (by kernel_rfl) (.pointer (some ⟨g1, 5, none⟩)) (by kernel_rfl) ?_
  go_frame
  refine wl_loadc (by kernel_rfl) hM 2 rfl 2 _ rfl 5 rfl Try.underlying2 rfl rfl ?_
  go_frame
  refine wl_pure (by kernel_rfl) (.pointer (some ⟨g3, 5, none⟩)) (by kernel_rfl) ?_
  go_frame
  refine wl_storec (by kernel_rfl) hM 0 rfl 2 _ _ rfl rfl 5 rfl (.int .i64 h.cur) rfl rfl rfl I_int64 (by simp [HD.cells]) ?_
  clear hM; intro W8 hM; replace hM : Mem w0 W8 [(g3, 36, (HD.cells { HD.zero with at_ := h.at_, c := h.c, k := h.k, v := h.v, prev := h.prev, cur := h.cur })), (g2, 36, (HD.cells HD.zero)), (g1, 29, (HD.cells h))] := hM
  refine wl_nil ?_
  refine cn6 _ _ ?_
  clear cn6
  refine wp_seq_k fun Kn7 cn7 => ?_
  refine wl_region ?_
  refine wl_pure (by kernel_rfl) (.pointer (some ⟨g1, 6, none⟩)) (by kernel_rfl) ?_
  go_frame
  refine wl_loadc (by kernel_rfl) hM 2 rfl 2 _ rfl 6 rfl Try.underlying2 rfl rfl ?_
  go_frame
  refine wl_pure (by kernel_rfl) (.pointer (some ⟨g3, 6, none⟩)) (by kernel_rfl) ?_
  go_frame
  refine wl_storec (by kernel_rfl) hM 0 rfl 2 _ _ rfl rfl 6 rfl (.int .i64 h.side) rfl rfl rfl I_int64 (by simp [HD.cells]) ?_
  clear hM; intro W9 hM; replace hM : Mem w0 W9 [(g3, 36, (HD.cells { HD.zero with at_ := h.at_, c := h.c, k := h.k, v := h.v, prev := h.prev, cur := h.cur, side := h.side })), (g2, 36, (HD.cells HD.zero)), (g1, 29, (HD.cells h))] := hM
  refine wl_nil ?_
  refine cn7 _ _ ?_
  clear cn7
  refine wp_seq_k fun Kn8 cn8 => ?_
  refine wl_region ?_
  refine wl_pure (by kernel_rfl) (.pointer (some ⟨g1, 7, none⟩)) (by kernel_rfl) ?_
  go_frame
  refine wl_loadc (by kernel_rfl) hM 2 rfl 2 _ rfl 7 rfl Try.underlying2 rfl rfl ?_
  go_frame
  refine wl_pure (by kernel_rfl) (.pointer (some ⟨g3, 7, none⟩)) (by kernel_rfl) ?_
  go_frame
  refine wl_storec (by kernel_rfl) hM 0 rfl 2 _ _ rfl rfl 7 rfl (.int .i64 h.tag) rfl rfl rfl I_int64 (by simp [HD.cells]) ?_
  clear hM; intro W10 hM; replace hM : Mem w0 W10 [(g3, 36, (HD.cells { HD.zero with at_ := h.at_, c := h.c, k := h.k, v := h.v, prev := h.prev, cur := h.cur, side := h.side, tag := h.tag })), (g2, 36, (HD.cells HD.zero)), (g1, 29, (HD.cells h))] := hM
  refine wl_nil ?_
  refine cn8 _ _ ?_
  clear cn8
  refine wp_seq_k fun Kn9 cn9 => ?_
  refine wl_region ?_
  refine wl_pure (by kernel_rfl) (.pointer (some ⟨g1, 8, none⟩)) (by kernel_rfl) ?_
  go_frame
  refine wl_loadc (by kernel_rfl) hM 2 rfl 2 _ rfl 8 rfl Try.underlying2 rfl rfl ?_
  go_frame
  refine wl_pure (by kernel_rfl) (.pointer (some ⟨g3, 8, none⟩)) (by kernel_rfl) ?_
  go_frame
  refine wl_storec (by kernel_rfl) hM 0 rfl 2 _ _ rfl rfl 8 rfl (.int .i64 h.up) rfl rfl rfl I_int64 (by simp [HD.cells]) ?_
  clear hM; intro W11 hM; replace hM : Mem w0 W11 [(g3, 36, (HD.cells { HD.zero with at_ := h.at_, c := h.c, k := h.k, v := h.v, prev := h.prev, cur := h.cur, side := h.side, tag := h.tag, up := h.up })), (g2, 36, (HD.cells HD.zero)), (g1, 29, (HD.cells h))] := hM
  refine wl_nil ?_
  refine cn9 _ _ ?_
  clear cn9
  refine wp_seq_k fun Kn10 cn10 => ?_
  refine wl_region ?_
  refine wl_pure (by kernel_rfl) (.pointer (some ⟨g1, 9, none⟩)) (by kernel_rfl) ?_
  go_frame
  refine wl_loadc (by kernel_rfl) hM 2 rfl 2 _ rfl 9 rfl Try.underlying2 rfl rfl ?_
  go_frame
  refine wl_pure (by kernel_rfl) (.pointer (some ⟨g3, 9, none⟩)) (by kernel_rfl) ?_
  go_frame
  refine wl_storec (by kernel_rfl) hM 0 rfl 2 _ _ rfl rfl 9 rfl (.int .i64 h.next) rfl rfl rfl I_int64 (by simp [HD.cells]) ?_
  clear hM; intro W12 hM; replace hM : Mem w0 W12 [(g3, 36, (HD.cells { HD.zero with at_ := h.at_, c := h.c, k := h.k, v := h.v, prev := h.prev, cur := h.cur, side := h.side, tag := h.tag, up := h.up, next := h.next })), (g2, 36, (HD.cells HD.zero)), (g1, 29, (HD.cells h))] := hM
  refine wl_nil ?_
  refine cn10 _ _ ?_
  clear cn10
  refine wp_seq_k fun Kn11 cn11 => ?_
  refine wl_region ?_
  refine wl_pure (by kernel_rfl) (.pointer (some ⟨g1, 10, none⟩)) (by kernel_rfl) ?_
  go_frame
  refine wl_loadc (by kernel_rfl) hM 2 rfl 2 _ rfl 10 rfl Try.underlying2 rfl rfl ?_
  go_frame
  refine wl_pure (by kernel_rfl) (.pointer (some ⟨g3, 10, none⟩)) (by kernel_rfl) ?_
  go_frame
  refine wl_storec (by kernel_rfl) hM 0 rfl 2 _ _ rfl rfl 10 rfl (.int .i64 h.new) rfl rfl rfl I_int64 (by simp [HD.cells]) ?_
  clear hM; intro W13 hM; replace hM : Mem w0 W13 [(g3, 36, (HD.cells { HD.zero with at_ := h.at_, c := h.c, k := h.k, v := h.v, prev := h.prev, cur := h.cur, side := h.side, tag := h.tag, up := h.up, next := h.next, new := h.new })), (g2, 36, (HD.cells HD.zero)), (g1, 29, (HD.cells h))] := hM
  refine wl_nil ?_
  refine cn11 _ _ ?_
  clear cn11
  refine wp_seq_k fun Kn12 cn12 => ?_
  refine wl_region ?_
  refine wl_pure (by kernel_rfl) (.pointer (some ⟨g1, 11, none⟩)) (by kernel_rfl) ?_
  go_frame
  refine wl_loadc (by kernel_rfl) hM 2 rfl 2 _ rfl 11 rfl Try.underlying2 rfl rfl ?_
  go_frame
  refine wl_pure (by kernel_rfl) (.pointer (some ⟨g3, 11, none⟩)) (by kernel_rfl) ?_
  go_frame
  refine wl_storec (by kernel_rfl) hM 0 rfl 2 _ _ rfl rfl 11 rfl (.int .i64 h.index) rfl rfl rfl I_int64 (by simp [HD.cells]) ?_
  clear hM; intro W14 hM; replace hM : Mem w0 W14 [(g3, 36, (HD.cells { HD.zero with at_ := h.at_, c := h.c, k := h.k, v := h.v, prev := h.prev, cur := h.cur, side := h.side, tag := h.tag, up := h.up, next := h.next, new := h.new, index := h.index })), (g2, 36, (HD.cells HD.zero)), (g1, 29, (HD.cells h))] := hM
  refine wl_nil ?_
  refine cn12 _ _ ?_
  clear cn12
  refine wp_seq_k fun Kn13 cn13 => ?_
  refine wl_region ?_
  refine wl_pure (by kernel_rfl) (.pointer (some ⟨g1, 12, none⟩)) (by kernel_rfl) ?_
  go_frame
  refine wl_loadc (by kernel_rfl) hM 2 rfl 2 _ rfl 12 rfl Try.underlying2 rfl rfl ?_
  go_frame
  refine wl_pure (by kernel_rfl) (.pointer (some ⟨g3, 12, none⟩)) (by kernel_rfl) ?_
  go_frame
  refine wl_storec (by kernel_rfl) hM 0 rfl 2 _ _ rfl rfl 12 rfl (.int .i64 h.seen) rfl rfl rfl I_int64 (by simp [HD.cells]) ?_
  clear hM; intro W15 hM; replace hM : Mem w0 W15 [(g3, 36, (HD.cells { HD.zero with at_ := h.at_, c := h.c, k := h.k, v := h.v, prev := h.prev, cur := h.cur, side := h.side, tag := h.tag, up := h.up, next := h.next, new := h.new, index := h.index, seen := h.seen })), (g2, 36, (HD.cells HD.zero)), (g1, 29, (HD.cells h))] := hM
  refine wl_nil ?_
  refine cn13 _ _ ?_
  clear cn13
  refine wp_seq_k fun Kn14 cn14 => ?_
  refine wl_region ?_
  refine wl_pure (by kernel_rfl) (.pointer (some ⟨g1, 13, none⟩)) (by kernel_rfl) ?_
  go_frame
  refine wl_loadc (by kernel_rfl) hM 2 rfl 4 _ rfl 13 rfl Try.underlying4 rfl rfl ?_
  go_frame
  refine wl_pure (by kernel_rfl) (.pointer (some ⟨g3, 13, none⟩)) (by kernel_rfl) ?_
  go_frame
  refine wl_storec (by kernel_rfl) hM 0 rfl 4 _ _ rfl rfl 13 rfl (.bool h.again) rfl rfl rfl I_bool (by simp [HD.cells]) ?_
  clear hM; intro W16 hM; replace hM : Mem w0 W16 [(g3, 36, (HD.cells { HD.zero with at_ := h.at_, c := h.c, k := h.k, v := h.v, prev := h.prev, cur := h.cur, side := h.side, tag := h.tag, up := h.up, next := h.next, new := h.new, index := h.index, seen := h.seen, again := h.again })), (g2, 36, (HD.cells HD.zero)), (g1, 29, (HD.cells h))] := hM
  refine wl_nil ?_
  refine cn14 _ _ ?_
  clear cn14
  refine wp_seq_k fun Kn15 cn15 => ?_
  refine wl_region ?_
  refine wl_pure (by kernel_rfl) (.pointer (some ⟨g1, 14, none⟩)) (by kernel_rfl) ?_
  go_frame
  refine wl_loadc (by kernel_rfl) hM 2 rfl 2 _ rfl 14 rfl Try.underlying2 rfl rfl ?_
  go_frame
  refine wl_pure (by kernel_rfl) (.pointer (some ⟨g3, 14, none⟩)) (by kernel_rfl) ?_
  go_frame
  refine wl_storec (by kernel_rfl) hM 0 rfl 2 _ _ rfl rfl 14 rfl (.int .i64 h.begin_) rfl rfl rfl I_int64 (by simp [HD.cells]) ?_
  clear hM; intro W17 hM; replace hM : Mem w0 W17 [(g3, 36, (HD.cells { HD.zero with at_ := h.at_, c := h.c, k := h.k, v := h.v, prev := h.prev, cur := h.cur, side := h.side, tag := h.tag, up := h.up, next := h.next, new := h.new, index := h.index, seen := h.seen, again := h.again, begin_ := h.begin_ })), (g2, 36, (HD.cells HD.zero)), (g1, 29, (HD.cells h))] := hM
  refine wl_nil ?_
  refine cn15 _ _ ?_
  clear cn15
  refine wp_seq_k fun Kn16 cn16 => ?_
  refine wl_region ?_
  refine wl_pure (by kernel_rfl) (.pointer (some ⟨g1, 15, none⟩)) (by kernel_rfl) ?_
  go_frame
  refine wl_loadc (by kernel_rfl) hM 2 rfl 2 _ rfl 15 rfl Try.underlying2 rfl rfl ?_
  go_frame
  refine wl_pure (by kernel_rfl) (.pointer (some ⟨g3, 15, none⟩)) (by kernel_rfl) ?_
  go_frame
  refine wl_storec (by kernel_rfl) hM 0 rfl 2 _ _ rfl rfl 15 rfl (.int .i64 h.reply) rfl rfl rfl I_int64 (by simp [HD.cells]) ?_
  clear hM; intro W18 hM; replace hM : Mem w0 W18 [(g3, 36, (HD.cells { HD.zero with at_ := h.at_, c := h.c, k := h.k, v := h.v, prev := h.prev, cur := h.cur, side := h.side, tag := h.tag, up := h.up, next := h.next, new := h.new, index := h.index, seen := h.seen, again := h.again, begin_ := h.begin_, reply := h.reply })), (g2, 36, (HD.cells HD.zero)), (g1, 29, (HD.cells h))] := hM
  refine wl_nil ?_
  refine cn16 _ _ ?_
  clear cn16
  refine wp_seq_k fun Kn17 cn17 => ?_
  refine wl_region ?_
  refine wl_pure (by kernel_rfl) (.pointer (some ⟨g1, 16, none⟩)) (by kernel_rfl) ?_
  go_frame
  refine wl_loadc (by kernel_rfl) hM 2 rfl 2 _ rfl 16 rfl Try.underlying2 rfl rfl ?_
  go_frame
  refine wl_pure (by kernel_rfl) (.pointer (some ⟨g3, 16, none⟩)) (by kernel_rfl) ?_
  go_frame
  refine wl_storec (by kernel_rfl) hM 0 rfl 2 _ _ rfl rfl 16 rfl (.int .i64 h.out) rfl rfl rfl I_int64 (by simp [HD.cells]) ?_
  clear hM; intro W19 hM; replace hM : Mem w0 W19 [(g3, 36, (HD.cells { HD.zero with at_ := h.at_, c := h.c, k := h.k, v := h.v, prev := h.prev, cur := h.cur, side := h.side, tag := h.tag, up := h.up, next := h.next, new := h.new, index := h.index, seen := h.seen, again := h.again, begin_ := h.begin_, reply := h.reply, out := h.out })), (g2, 36, (HD.cells HD.zero)), (g1, 29, (HD.cells h))] := hM
  refine wl_nil ?_
  refine cn17 _ _ ?_
  clear cn17
  refine wp_seq_k fun Kn18 cn18 => ?_
  refine wl_region ?_
  refine wl_load (by kernel_rfl) hM 0 rfl 36 _ rfl rfl Try.underlying36 I_impl_Hand ?_
  go_frame
  refine wl_store (by kernel_rfl) hM 1 rfl 36 _ _ rfl rfl rfl (HD.cells { HD.zero with at_ := h.at_, c := h.c, k := h.k, v := h.v, prev := h.prev, cur := h.cur, side := h.side, tag := h.tag, up := h.up, next := h.next, new := h.new, index := h.index, seen := h.seen, again := h.again, begin_ := h.begin_, reply := h.reply, out := h.out }) rfl I_impl_Hand rfl (hd_one' _) ?_
  clear hM; intro W20 hM; replace hM : Mem w0 W20 [(g3, 36, (HD.cells { HD.zero with at_ := h.at_, c := h.c, k := h.k, v := h.v, prev := h.prev, cur := h.cur, side := h.side, tag := h.tag, up := h.up, next := h.next, new := h.new, index := h.index, seen := h.seen, again := h.again, begin_ := h.begin_, reply := h.reply, out := h.out })), (g2, 36, (HD.cells { HD.zero with at_ := h.at_, c := h.c, k := h.k, v := h.v, prev := h.prev, cur := h.cur, side := h.side, tag := h.tag, up := h.up, next := h.next, new := h.new, index := h.index, seen := h.seen, again := h.again, begin_ := h.begin_, reply := h.reply, out := h.out })), (g1, 29, (HD.cells h))] := hM
  refine wl_nil ?_
  refine cn18 _ _ ?_
  clear cn18
  refine wp_ret ?_
  exact bodyPost_ret (ret_row rfl hM 1 rfl rfl Try.underlying36 I_impl_Hand) rfl ⟨congrArg (fun z => Ending.returned (Value.agg (HD.cells z).toArray)) (show { HD.zero with at_ := h.at_, c := h.c, k := h.k, v := h.v, prev := h.prev, cur := h.cur, side := h.side, tag := h.tag, up := h.up, next := h.next, new := h.new, index := h.index, seen := h.seen, again := h.again, begin_ := h.begin_, reply := h.reply, out := h.out } = h from by simp [HD.zero]), hM.below⟩

set_option maxRecDepth 100000 in
set_option maxHeartbeats 4000000 in
theorem eqCall_self (c k v : Int) (w0 : World) :
    Calls Try.prog 31 #[.agg #[.int .i64 c, .int .i64 k, .int .i64 v], .agg #[.int .i64 c, .int .i64 k, .int .i64 v]] w0 fun e w' => e = .returned (.bool true) ∧ Below w0.heap.size w0 w' := by
  have hM := Mem.start w0
  go_enter Try.func31, Try.ntmps31
  refine wp_seq_k fun Kn1 cn1 => ?_
  refine wl_region ?_
  refine wl_box (by kernel_rfl) hM 34 _ rfl [.int .i64 c, .int .i64 k, .int .i64 v] rfl ?_
  clear hM; intro g1 W1 hM
  go_frame
  refine wl_box (by kernel_rfl) hM 34 _ rfl [.int .i64 c, .int .i64 k, .int .i64 v] rfl ?_
  clear hM; intro g2 W2 hM
  go_frame
  refine wl_pure (by kernel_rfl) (.bool false) (by kernel_rfl) ?_
  go_frame
  refine wl_nil ?_
  refine cn1 _ _ ?_
  clear cn1
  refine wp_seq_k fun Kn2 cn2 => ?_
  refine wp_seq_k fun Kn3 cn3 => ?_
  refine wl_region ?_
  refine wl_pure (by kernel_rfl) (.pointer (some ⟨g1, 0, none⟩)) (by kernel_rfl) ?_
  go_frame
  refine wl_loadc (by kernel_rfl) hM 1 rfl 2 _ rfl 0 rfl Try.underlying2 rfl rfl ?_
  go_frame
  refine wl_pure (by kernel_rfl) (.pointer (some ⟨g2, 0, none⟩)) (by kernel_rfl) ?_
  go_frame
  refine wl_loadc (by kernel_rfl) hM 0 rfl 2 _ rfl 0 rfl Try.underlying2 rfl rfl ?_
  go_frame
  refine wl_pureB (by kernel_rfl) (b := (c != c)) (by kernel_rfl) ((bne_self_eq_false _)) ?_
  go_frame
  refine wl_nil ?_
  refine cn3 _ _ ?_
  clear cn3
  refine wp_cond_false rfl ?_
  refine wp_skip ?_
  refine cn2 _ _ ?_
  clear cn2
  refine wp_seq_k fun Kn4 cn4 => ?_
  refine wp_seq_k fun Kn5 cn5 => ?_
  refine wl_region ?_
  refine wl_pure (by kernel_rfl) (.pointer (some ⟨g1, 1, none⟩)) (by kernel_rfl) ?_
  go_frame
  refine wl_loadc (by kernel_rfl) hM 1 rfl 2 _ rfl 1 rfl Try.underlying2 rfl rfl ?_
  go_frame
  refine wl_pure (by kernel_rfl) (.pointer (some ⟨g2, 1, none⟩)) (by kernel_rfl) ?_
  go_frame
  refine wl_loadc (by kernel_rfl) hM 0 rfl 2 _ rfl 1 rfl Try.underlying2 rfl rfl ?_
  go_frame
  refine wl_pureB (by kernel_rfl) (b := (k != k)) (by kernel_rfl) ((bne_self_eq_false _)) ?_
  go_frame
  refine wl_nil ?_
  refine cn5 _ _ ?_
  clear cn5
  refine wp_cond_false rfl ?_
  refine wp_skip ?_
  refine cn4 _ _ ?_
  clear cn4
  refine wp_seq_k fun Kn6 cn6 => ?_
  refine wp_seq_k fun Kn7 cn7 => ?_
  refine wl_region ?_
  refine wl_pure (by kernel_rfl) (.pointer (some ⟨g1, 2, none⟩)) (by kernel_rfl) ?_
  go_frame
  refine wl_loadc (by kernel_rfl) hM 1 rfl 2 _ rfl 2 rfl Try.underlying2 rfl rfl ?_
  go_frame
  refine wl_pure (by kernel_rfl) (.pointer (some ⟨g2, 2, none⟩)) (by kernel_rfl) ?_
  go_frame
  refine wl_loadc (by kernel_rfl) hM 0 rfl 2 _ rfl 2 rfl Try.underlying2 rfl rfl ?_
  go_frame
  refine wl_pureB (by kernel_rfl) (b := (v != v)) (by kernel_rfl) ((bne_self_eq_false _)) ?_
  go_frame
  refine wl_nil ?_
  refine cn7 _ _ ?_
  clear cn7
  refine wp_cond_false rfl ?_
  refine wp_skip ?_
  refine cn6 _ _ ?_
  clear cn6
  refine wp_seq_k fun Kn8 cn8 => ?_
  refine wl_region ?_
  refine wl_pure (by kernel_rfl) (.bool true) (by kernel_rfl) ?_
  go_frame
  refine wl_nil ?_
  refine cn8 _ _ ?_
  clear cn8
  refine wp_ret ?_
  exact bodyPost_ret (v := .bool true) (ret_tmp 4 rfl rfl) rfl ⟨rfl, hM.below⟩

set_option maxRecDepth 100000 in
set_option maxHeartbeats 4000000 in
theorem eqHand_self (h : HD) (w0 : World) :
    Calls Try.prog 10 #[h.val, h.val] w0 fun e w' => e = .returned (.bool true) ∧ Below w0.heap.size w0 w' := by
  unfold HD.val
  have hM := Mem.start w0
  go_enter Try.func10, Try.ntmps10
  refine wp_seq_k fun Kn1 cn1 => ?_
  refine wl_region ?_
  refine wl_box (by kernel_rfl) hM 36 _ rfl (HD.cells h) rfl ?_
  clear hM; intro g1 W1 hM
  go_frame
  refine wl_box (by kernel_rfl) hM 36 _ rfl (HD.cells h) rfl ?_
  clear hM; intro g2 W2 hM
  go_frame
  refine wl_pure (by kernel_rfl) (.bool false) (by kernel_rfl) ?_
  go_frame
  refine wl_nil ?_
  refine cn1 _ _ ?_
  clear cn1
  refine wp_seq_k fun Kn2 cn2 => ?_
  refine wp_seq_k fun Kn3 cn3 => ?_
  refine wl_region ?_
  refine wl_pure (by kernel_rfl) (.pointer (some ⟨g1, 0, none⟩)) (by kernel_rfl) ?_
  go_frame
  refine wl_loadc (by kernel_rfl) hM 1 rfl 2 _ rfl 0 rfl Try.underlying2 rfl rfl ?_
  go_frame
  refine wl_pure (by kernel_rfl) (.pointer (some ⟨g2, 0, none⟩)) (by kernel_rfl) ?_
  go_frame
  refine wl_loadc (by kernel_rfl) hM 0 rfl 2 _ rfl 0 rfl Try.underlying2 rfl rfl ?_
  go_frame
  refine wl_pureB (by kernel_rfl) (b := (h.at_ != h.at_)) (by kernel_rfl) ((bne_self_eq_false _)) ?_
  go_frame
  refine wl_nil ?_
  refine cn3 _ _ ?_
  clear cn3
  refine wp_cond_false rfl ?_
  refine wp_skip ?_
  refine cn2 _ _ ?_
  clear cn2
  refine wp_seq_k fun Kn4 cn4 => ?_
  refine wp_seq_k fun Kn5 cn5 => ?_
  refine wl_region ?_
  refine wl_pure (by kernel_rfl) (.pointer (some ⟨g1, 1, none⟩)) (by kernel_rfl) ?_
  go_frame
  refine wl_part (by kernel_rfl) hM 1 rfl 34 _ rfl 1 rfl Try.underlying34 [.int .i64 h.c, .int .i64 h.k, .int .i64 h.v] I_impl_Call rfl ?_
  go_frame
  refine wl_pure (by kernel_rfl) (.pointer (some ⟨g2, 1, none⟩)) (by kernel_rfl) ?_
  go_frame
  refine wl_part (by kernel_rfl) hM 0 rfl 34 _ rfl 1 rfl Try.underlying34 [.int .i64 h.c, .int .i64 h.k, .int .i64 h.v] I_impl_Call rfl ?_
  go_frame
  refine wl_call (by kernel_rfl) 31 #[.agg #[.int .i64 h.c, .int .i64 h.k, .int .i64 h.v], .agg #[.int .i64 h.c, .int .i64 h.k, .int .i64 h.v]] (by kernel_rfl) (eqCall_self h.c h.k h.v _) ?_
  rintro e W3 ⟨rfl, hb⟩
  refine ⟨_, rfl, ?_⟩
  replace hM := hM.call hb
  go_frame
  refine wl_pure (by kernel_rfl) (.bool false) (by kernel_rfl) ?_
  go_frame
  refine wl_nil ?_
  refine cn5 _ _ ?_
  clear cn5
  refine wp_cond_false rfl ?_
  refine wp_skip ?_
  refine cn4 _ _ ?_
  clear cn4
  refine wp_seq_k fun Kn6 cn6 => ?_
  refine wp_seq_k fun Kn7 cn7 => ?_
  refine wl_region ?_
  refine wl_pure (by kernel_rfl) (.pointer (some ⟨g1, 4, none⟩)) (by kernel_rfl) ?_
  go_frame
  refine wl_loadc (by kernel_rfl) hM 1 rfl 2 _ rfl 4 rfl Try.underlying2 rfl rfl ?_
  go_frame
  refine wl_pure (by kernel_rfl) (.pointer (some ⟨g2, 4, none⟩)) (by kernel_rfl) ?_
  go_frame
  refine wl_loadc (by kernel_rfl) hM 0 rfl 2 _ rfl 4 rfl Try.underlying2 rfl rfl ?_
  go_frame
  refine wl_pureB (by kernel_rfl) (b := (h.prev != h.prev)) (by kernel_rfl) ((bne_self_eq_false _)) ?_
  go_frame
  refine wl_nil ?_
  refine cn7 _ _ ?_
  clear cn7
  refine wp_cond_false rfl ?_
  refine wp_skip ?_
  refine cn6 _ _ ?_
  clear cn6
  refine wp_seq_k fun Kn8 cn8 => ?_
  refine wp_seq_k fun Kn9 cn9 => ?_
  refine wl_region ?_
  refine wl_pure (by kernel_rfl) (.pointer (some ⟨g1, 5, none⟩)) (by kernel_rfl) ?_
  go_frame
  refine wl_loadc (by kernel_rfl) hM 1 rfl 2 _ rfl 5 rfl Try.underlying2 rfl rfl ?_
  go_frame
  refine wl_pure (by kernel_rfl) (.pointer (some ⟨g2, 5, none⟩)) (by kernel_rfl) ?_
  go_frame
  refine wl_loadc (by kernel_rfl) hM 0 rfl 2 _ rfl 5 rfl Try.underlying2 rfl rfl ?_
  go_frame
  refine wl_pureB (by kernel_rfl) (b := (h.cur != h.cur)) (by kernel_rfl) ((bne_self_eq_false _)) ?_
  go_frame
  refine wl_nil ?_
  refine cn9 _ _ ?_
  clear cn9
  refine wp_cond_false rfl ?_
  refine wp_skip ?_
  refine cn8 _ _ ?_
  clear cn8
  refine wp_seq_k fun Kn10 cn10 => ?_
  refine wp_seq_k fun Kn11 cn11 => ?_
  refine wl_region ?_
  refine wl_pure (by kernel_rfl) (.pointer (some ⟨g1, 6, none⟩)) (by kernel_rfl) ?_
  go_frame
  refine wl_loadc (by kernel_rfl) hM 1 rfl 2 _ rfl 6 rfl Try.underlying2 rfl rfl ?_
  go_frame
  refine wl_pure (by kernel_rfl) (.pointer (some ⟨g2, 6, none⟩)) (by kernel_rfl) ?_
  go_frame
  refine wl_loadc (by kernel_rfl) hM 0 rfl 2 _ rfl 6 rfl Try.underlying2 rfl rfl ?_
  go_frame
  refine wl_pureB (by kernel_rfl) (b := (h.side != h.side)) (by kernel_rfl) ((bne_self_eq_false _)) ?_
  go_frame
  refine wl_nil ?_
  refine cn11 _ _ ?_
  clear cn11
  refine wp_cond_false rfl ?_
  refine wp_skip ?_
  refine cn10 _ _ ?_
  clear cn10
  refine wp_seq_k fun Kn12 cn12 => ?_
  refine wp_seq_k fun Kn13 cn13 => ?_
  refine wl_region ?_
  refine wl_pure (by kernel_rfl) (.pointer (some ⟨g1, 7, none⟩)) (by kernel_rfl) ?_
  go_frame
  refine wl_loadc (by kernel_rfl) hM 1 rfl 2 _ rfl 7 rfl Try.underlying2 rfl rfl ?_
  go_frame
  refine wl_pure (by kernel_rfl) (.pointer (some ⟨g2, 7, none⟩)) (by kernel_rfl) ?_
  go_frame
  refine wl_loadc (by kernel_rfl) hM 0 rfl 2 _ rfl 7 rfl Try.underlying2 rfl rfl ?_
  go_frame
  refine wl_pureB (by kernel_rfl) (b := (h.tag != h.tag)) (by kernel_rfl) ((bne_self_eq_false _)) ?_
  go_frame
  refine wl_nil ?_
  refine cn13 _ _ ?_
  clear cn13
  refine wp_cond_false rfl ?_
  refine wp_skip ?_
  refine cn12 _ _ ?_
  clear cn12
  refine wp_seq_k fun Kn14 cn14 => ?_
  refine wp_seq_k fun Kn15 cn15 => ?_
  refine wl_region ?_
  refine wl_pure (by kernel_rfl) (.pointer (some ⟨g1, 8, none⟩)) (by kernel_rfl) ?_
  go_frame
  refine wl_loadc (by kernel_rfl) hM 1 rfl 2 _ rfl 8 rfl Try.underlying2 rfl rfl ?_
  go_frame
  refine wl_pure (by kernel_rfl) (.pointer (some ⟨g2, 8, none⟩)) (by kernel_rfl) ?_
  go_frame
  refine wl_loadc (by kernel_rfl) hM 0 rfl 2 _ rfl 8 rfl Try.underlying2 rfl rfl ?_
  go_frame
  refine wl_pureB (by kernel_rfl) (b := (h.up != h.up)) (by kernel_rfl) ((bne_self_eq_false _)) ?_
  go_frame
  refine wl_nil ?_
  refine cn15 _ _ ?_
  clear cn15
  refine wp_cond_false rfl ?_
  refine wp_skip ?_
  refine cn14 _ _ ?_
  clear cn14
  refine wp_seq_k fun Kn16 cn16 => ?_
  refine wp_seq_k fun Kn17 cn17 => ?_
  refine wl_region ?_
  refine wl_pure (by kernel_rfl) (.pointer (some ⟨g1, 9, none⟩)) (by kernel_rfl) ?_
  go_frame
  refine wl_loadc (by kernel_rfl) hM 1 rfl 2 _ rfl 9 rfl Try.underlying2 rfl rfl ?_
  go_frame
  refine wl_pure (by kernel_rfl) (.pointer (some ⟨g2, 9, none⟩)) (by kernel_rfl) ?_
  go_frame
  refine wl_loadc (by kernel_rfl) hM 0 rfl 2 _ rfl 9 rfl Try.underlying2 rfl rfl ?_
  go_frame
  refine wl_pureB (by kernel_rfl) (b := (h.next != h.next)) (by kernel_rfl) ((bne_self_eq_false _)) ?_
  go_frame
  refine wl_nil ?_
  refine cn17 _ _ ?_
  clear cn17
  refine wp_cond_false rfl ?_
  refine wp_skip ?_
  refine cn16 _ _ ?_
  clear cn16
  refine wp_seq_k fun Kn18 cn18 => ?_
  refine wp_seq_k fun Kn19 cn19 => ?_
  refine wl_region ?_
  refine wl_pure (by kernel_rfl) (.pointer (some ⟨g1, 10, none⟩)) (by kernel_rfl) ?_
  go_frame
  refine wl_loadc (by kernel_rfl) hM 1 rfl 2 _ rfl 10 rfl Try.underlying2 rfl rfl ?_
  go_frame
  refine wl_pure (by kernel_rfl) (.pointer (some ⟨g2, 10, none⟩)) (by kernel_rfl) ?_
  go_frame
  refine wl_loadc (by kernel_rfl) hM 0 rfl 2 _ rfl 10 rfl Try.underlying2 rfl rfl ?_
  go_frame
  refine wl_pureB (by kernel_rfl) (b := (h.new != h.new)) (by kernel_rfl) ((bne_self_eq_false _)) ?_
  go_frame
  refine wl_nil ?_
  refine cn19 _ _ ?_
  clear cn19
  refine wp_cond_false rfl ?_
  refine wp_skip ?_
  refine cn18 _ _ ?_
  clear cn18
  refine wp_seq_k fun Kn20 cn20 => ?_
  refine wp_seq_k fun Kn21 cn21 => ?_
  refine wl_region ?_
  refine wl_pure (by kernel_rfl) (.pointer (some ⟨g1, 11, none⟩)) (by kernel_rfl) ?_
  go_frame
  refine wl_loadc (by kernel_rfl) hM 1 rfl 2 _ rfl 11 rfl Try.underlying2 rfl rfl ?_
  go_frame
  refine wl_pure (by kernel_rfl) (.pointer (some ⟨g2, 11, none⟩)) (by kernel_rfl) ?_
  go_frame
  refine wl_loadc (by kernel_rfl) hM 0 rfl 2 _ rfl 11 rfl Try.underlying2 rfl rfl ?_
  go_frame
  refine wl_pureB (by kernel_rfl) (b := (h.index != h.index)) (by kernel_rfl) ((bne_self_eq_false _)) ?_
  go_frame
  refine wl_nil ?_
  refine cn21 _ _ ?_
  clear cn21
  refine wp_cond_false rfl ?_
  refine wp_skip ?_
  refine cn20 _ _ ?_
  clear cn20
  refine wp_seq_k fun Kn22 cn22 => ?_
  refine wp_seq_k fun Kn23 cn23 => ?_
  refine wl_region ?_
  refine wl_pure (by kernel_rfl) (.pointer (some ⟨g1, 12, none⟩)) (by kernel_rfl) ?_
  go_frame
  refine wl_loadc (by kernel_rfl) hM 1 rfl 2 _ rfl 12 rfl Try.underlying2 rfl rfl ?_
  go_frame
  refine wl_pure (by kernel_rfl) (.pointer (some ⟨g2, 12, none⟩)) (by kernel_rfl) ?_
  go_frame
  refine wl_loadc (by kernel_rfl) hM 0 rfl 2 _ rfl 12 rfl Try.underlying2 rfl rfl ?_
  go_frame
  refine wl_pureB (by kernel_rfl) (b := (h.seen != h.seen)) (by kernel_rfl) ((bne_self_eq_false _)) ?_
  go_frame
  refine wl_nil ?_
  refine cn23 _ _ ?_
  clear cn23
  refine wp_cond_false rfl ?_
  refine wp_skip ?_
  refine cn22 _ _ ?_
  clear cn22
  refine wp_seq_k fun Kn24 cn24 => ?_
  refine wp_seq_k fun Kn25 cn25 => ?_
  refine wl_region ?_
  refine wl_pure (by kernel_rfl) (.pointer (some ⟨g1, 13, none⟩)) (by kernel_rfl) ?_
  go_frame
  refine wl_loadc (by kernel_rfl) hM 1 rfl 4 _ rfl 13 rfl Try.underlying4 rfl rfl ?_
  go_frame
  refine wl_pure (by kernel_rfl) (.pointer (some ⟨g2, 13, none⟩)) (by kernel_rfl) ?_
  go_frame
  refine wl_loadc (by kernel_rfl) hM 0 rfl 4 _ rfl 13 rfl Try.underlying4 rfl rfl ?_
  go_frame
  refine wl_pureB (by kernel_rfl) (b := (h.again != h.again)) (by kernel_rfl) ((bne_self_eq_false _)) ?_
  go_frame
  refine wl_nil ?_
  refine cn25 _ _ ?_
  clear cn25
  refine wp_cond_false rfl ?_
  refine wp_skip ?_
  refine cn24 _ _ ?_
  clear cn24
  refine wp_seq_k fun Kn26 cn26 => ?_
  refine wp_seq_k fun Kn27 cn27 => ?_
  refine wl_region ?_
  refine wl_pure (by kernel_rfl) (.pointer (some ⟨g1, 14, none⟩)) (by kernel_rfl) ?_
  go_frame
  refine wl_loadc (by kernel_rfl) hM 1 rfl 2 _ rfl 14 rfl Try.underlying2 rfl rfl ?_
  go_frame
  refine wl_pure (by kernel_rfl) (.pointer (some ⟨g2, 14, none⟩)) (by kernel_rfl) ?_
  go_frame
  refine wl_loadc (by kernel_rfl) hM 0 rfl 2 _ rfl 14 rfl Try.underlying2 rfl rfl ?_
  go_frame
  refine wl_pureB (by kernel_rfl) (b := (h.begin_ != h.begin_)) (by kernel_rfl) ((bne_self_eq_false _)) ?_
  go_frame
  refine wl_nil ?_
  refine cn27 _ _ ?_
  clear cn27
  refine wp_cond_false rfl ?_
  refine wp_skip ?_
  refine cn26 _ _ ?_
  clear cn26
  refine wp_seq_k fun Kn28 cn28 => ?_
  refine wp_seq_k fun Kn29 cn29 => ?_
  refine wl_region ?_
  refine wl_pure (by kernel_rfl) (.pointer (some ⟨g1, 15, none⟩)) (by kernel_rfl) ?_
  go_frame
  refine wl_loadc (by kernel_rfl) hM 1 rfl 2 _ rfl 15 rfl Try.underlying2 rfl rfl ?_
  go_frame
  refine wl_pure (by kernel_rfl) (.pointer (some ⟨g2, 15, none⟩)) (by kernel_rfl) ?_
  go_frame
  refine wl_loadc (by kernel_rfl) hM 0 rfl 2 _ rfl 15 rfl Try.underlying2 rfl rfl ?_
  go_frame
  refine wl_pureB (by kernel_rfl) (b := (h.reply != h.reply)) (by kernel_rfl) ((bne_self_eq_false _)) ?_
  go_frame
  refine wl_nil ?_
  refine cn29 _ _ ?_
  clear cn29
  refine wp_cond_false rfl ?_
  refine wp_skip ?_
  refine cn28 _ _ ?_
  clear cn28
  refine wp_seq_k fun Kn30 cn30 => ?_
  refine wp_seq_k fun Kn31 cn31 => ?_
  refine wl_region ?_
  refine wl_pure (by kernel_rfl) (.pointer (some ⟨g1, 16, none⟩)) (by kernel_rfl) ?_
  go_frame
  refine wl_loadc (by kernel_rfl) hM 1 rfl 2 _ rfl 16 rfl Try.underlying2 rfl rfl ?_
  go_frame
  refine wl_pure (by kernel_rfl) (.pointer (some ⟨g2, 16, none⟩)) (by kernel_rfl) ?_
  go_frame
  refine wl_loadc (by kernel_rfl) hM 0 rfl 2 _ rfl 16 rfl Try.underlying2 rfl rfl ?_
  go_frame
  refine wl_pureB (by kernel_rfl) (b := (h.out != h.out)) (by kernel_rfl) ((bne_self_eq_false _)) ?_
  go_frame
  refine wl_nil ?_
  refine cn31 _ _ ?_
  clear cn31
  refine wp_cond_false rfl ?_
  refine wp_skip ?_
  refine cn30 _ _ ?_
  clear cn30
  refine wp_seq_k fun Kn32 cn32 => ?_
  refine wl_region ?_
  refine wl_pure (by kernel_rfl) (.bool true) (by kernel_rfl) ?_
  go_frame
  refine wl_nil ?_
  refine cn32 _ _ ?_
  clear cn32
  refine wp_ret ?_
  exact bodyPost_ret (v := .bool true) (ret_tmp 4 rfl rfl) rfl ⟨rfl, hM.below⟩
end Go.Proofs.Ythllpgjggmdmmaa
