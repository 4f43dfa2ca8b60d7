/- Functions of the model that answer a hand. -/
import Derived.Test.YtpojbflhlfjhdaaStep7
import Derived.Test.YtpojbflhlfjhdaaMem4
namespace Go.Proofs.Ytpojbflhlfjhdaa
open Go.ChangeShapes Go.WideShapes Go.ChangeAt Go.RowKit
set_option linter.unusedVariables false
set_option linter.unusedSimpArgs false

def nd (l : List ND) (i : Int) : ND := (l[i.toNat]?).getD ⟨0, 0, 0, 0, 0, false, 0, 0⟩
theorem nd_at {l : List ND} {i : Int} (h : hasB l i = true) : ∃ (k : Nat) (n : ND), i = (k : Int) ∧ nd l i = n ∧ k < l.length ∧ l[k]? = some n := by
  obtain ⟨h0, h1⟩ := inB_t h
  obtain ⟨k, rfl⟩ := Int.eq_ofNat_of_zero_le h0
  have hk : k < l.length := by omega
  exact ⟨k, l[k], rfl, by simp [nd, List.getElem?_eq_getElem hk], hk, List.getElem?_eq_getElem hk⟩
def endH (h : HD) (r : Int) : HD := { h with at_ := 26, reply := r }
def againH (h : HD) : HD := { h with at_ := 26, again := true }
set_option maxRecDepth 100000 in
set_option maxHeartbeats 4000000 in
theorem spec_l8End (h : HD) (r : Int) (w0 : World) :
    Calls Try.prog 24 #[h.val, .int .i64 r] w0 fun e w' => e = .returned (endH h r).val ∧ Below w0.heap.size w0 w' := by
  unfold HD.val
  have hM := Mem.start w0
  go_enter Try.func24, Try.ntmps24
  refine wp_seq_k fun Kn1 cn1 => ?_
  refine wl_region ?_
  refine wl_box (by kernel_rfl) hM 36 _ rfl (HD.cells h) rfl ?_
  clear hM; intro g1 W1 hM
  go_frame
  refine wl_alloc (by kernel_rfl) hM 36 rfl (HD.cells HD.zero) Z_impl_Hand ?_
  clear hM; intro g2 W2 hM
  go_frame
  refine wl_nil ?_
  refine cn1 _ _ ?_
  clear cn1
  refine wp_seq_k fun Kn2 cn2 => ?_
  refine wl_region ?_
  refine wl_pure (by kernel_rfl) (.int .i64 r) (by kernel_rfl) ?_
  go_frame
  refine wl_pure (by kernel_rfl) (.pointer (some ⟨g1, 15, none⟩)) (by kernel_rfl) ?_
  go_frame
  refine wl_storec (by kernel_rfl) hM 1 rfl 2 _ _ rfl rfl 15 rfl (.int .i64 r) rfl rfl rfl I_int64 (by simp [HD.cells]) ?_
  clear hM; intro W3 hM
  refine wl_nil ?_
  refine cn2 _ _ ?_
  clear cn2
  refine wp_seq_k fun Kn3 cn3 => ?_
  refine wl_region ?_
  refine wl_pure (by kernel_rfl) (.pointer (some ⟨g1, 0, none⟩)) (by kernel_rfl) ?_
  go_frame
  refine wl_storec (by kernel_rfl) hM 1 rfl 2 _ _ rfl rfl 0 rfl (.int .i64 26) rfl rfl rfl I_int64 (by simp [HD.cells]) ?_
  clear hM; intro W4 hM
  refine wl_nil ?_
  refine cn3 _ _ ?_
  clear cn3
  refine wp_seq_k fun Kn4 cn4 => ?_
  refine wl_region ?_
  refine wl_load (by kernel_rfl) hM 1 rfl 36 _ rfl rfl Try.underlying36 I_impl_Hand ?_
  go_frame
  refine wl_store (by kernel_rfl) hM 0 rfl 36 _ _ rfl rfl rfl (HD.cells { h with reply := r, at_ := 26 }) rfl I_impl_Hand rfl (hd_one' _) ?_
  clear hM; intro W5 hM
  refine wl_nil ?_
  refine cn4 _ _ ?_
  clear cn4
  refine wp_ret ?_
  exact bodyPost_ret (ret_row rfl hM 0 rfl rfl Try.underlying36 I_impl_Hand) rfl ⟨congrArg (fun z => Ending.returned (Value.agg (HD.cells z).toArray)) (show { h with reply := r, at_ := 26 } = endH h r from by simp [endH]), hM.below⟩

set_option maxRecDepth 100000 in
set_option maxHeartbeats 4000000 in
theorem spec_l8Again (h : HD) (w0 : World) :
    Calls Try.prog 21 #[h.val] w0 fun e w' => e = .returned (againH h).val ∧ Below w0.heap.size w0 w' := by
  unfold HD.val
  have hM := Mem.start w0
  go_enter Try.func21, Try.ntmps21
  refine wp_seq_k fun Kn1 cn1 => ?_
  refine wl_region ?_
  refine wl_box (by kernel_rfl) hM 36 _ rfl (HD.cells h) rfl ?_
  clear hM; intro g1 W1 hM
  go_frame
  refine wl_alloc (by kernel_rfl) hM 36 rfl (HD.cells HD.zero) Z_impl_Hand ?_
  clear hM; intro g2 W2 hM
  go_frame
  refine wl_nil ?_
  refine cn1 _ _ ?_
  clear cn1
  refine wp_seq_k fun Kn2 cn2 => ?_
  refine wl_region ?_
  refine wl_pure (by kernel_rfl) (.pointer (some ⟨g1, 13, none⟩)) (by kernel_rfl) ?_
  go_frame
  refine wl_storec (by kernel_rfl) hM 1 rfl 4 _ _ rfl rfl 13 rfl (.bool true) rfl rfl rfl I_bool (by simp [HD.cells]) ?_
  clear hM; intro W3 hM
  refine wl_nil ?_
  refine cn2 _ _ ?_
  clear cn2
  refine wp_seq_k fun Kn3 cn3 => ?_
  refine wl_region ?_
  refine wl_pure (by kernel_rfl) (.pointer (some ⟨g1, 0, none⟩)) (by kernel_rfl) ?_
  go_frame
  refine wl_storec (by kernel_rfl) hM 1 rfl 2 _ _ rfl rfl 0 rfl (.int .i64 26) rfl rfl rfl I_int64 (by simp [HD.cells]) ?_
  clear hM; intro W4 hM
  refine wl_nil ?_
  refine cn3 _ _ ?_
  clear cn3
  refine wp_seq_k fun Kn4 cn4 => ?_
  refine wl_region ?_
  refine wl_load (by kernel_rfl) hM 1 rfl 36 _ rfl rfl Try.underlying36 I_impl_Hand ?_
  go_frame
  refine wl_store (by kernel_rfl) hM 0 rfl 36 _ _ rfl rfl rfl (HD.cells { h with again := true, at_ := 26 }) rfl I_impl_Hand rfl (hd_one' _) ?_
  clear hM; intro W5 hM
  refine wl_nil ?_
  refine cn4 _ _ ?_
  clear cn4
  refine wp_ret ?_
  exact bodyPost_ret (ret_row rfl hM 0 rfl rfl Try.underlying36 I_impl_Hand) rfl ⟨congrArg (fun z => Ending.returned (Value.agg (HD.cells z).toArray)) (show { h with again := true, at_ := 26 } = againH h from by simp [againH]), hM.below⟩

end Go.Proofs.Ytpojbflhlfjhdaa
