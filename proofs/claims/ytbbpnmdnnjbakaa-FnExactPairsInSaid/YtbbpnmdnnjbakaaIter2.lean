/- The iterator's function value, and its maker. -/
import Derived.Test.YtbbpnmdnnjbakaaIter
import Derived.Deep.WholeRow
namespace Go.Proofs.Ytbbpnmdnnjbakaa
open Go.ChangeShapes Go.WideShapes Go.ChangeAt Go.RowKit Go.Shelf
set_option linter.unusedVariables false
set_option linter.unusedSimpArgs false

theorem built_walk (a : Option Addr) (n c l : Nat) : Try.prog.built 59 [(0, .slice a n c), (2, .func (.yield l) #[] #[])] = some (walkC (.slice a n c) [] l).toArray := by kernel_rfl

theorem built_isSome (a : Option Addr) (n c l : Nat) : (Try.prog.built 59 [(0, .slice a n c), (2, .func (.yield l) #[] #[])]).isSome = true := by rw [built_walk]; rfl
theorem built_size (a : Option Addr) (n c l : Nat) : (Try.prog.info? 59).map (·.size) = some ((Try.prog.built 59 [(0, .slice a n c), (2, .func (.yield l) #[] #[])]).getD #[]).size := by rw [built_walk]; kernel_rfl
theorem built_old (a : Option Addr) (n c l : Nat) : (#[.slice none 0 0, .bool false, .bool false, .bool false, .bool false, .bool false, .bool false, .bool false, .bool false, .bool false, .bool false, .bool false, .bool false, .bool false, .bool false, .bool false, .bool false, .bool false, .bool false, .bool false, .bool false, .bool false, .bool false, .bool false, .bool false, .bool false, .bool false, .bool false, .bool false, .bool false, .bool false, .nilFunc] : Array Value).size = ((Try.prog.built 59 [(0, .slice a n c), (2, .func (.yield l) #[] #[])]).getD #[]).size := by rw [built_walk]; rfl
theorem built_one (a : Option Addr) (n c l : Nat) : ((Try.prog.built 59 [(0, .slice a n c), (2, .func (.yield l) #[] #[])]).getD #[]).all (·.oneCell') = true := by rw [built_walk]; simp [walkC, comeC, List.range_succ, Value.oneCell']
theorem setRow_walk (a : Option Addr) (n c l : Nat) (W : World) (z : Array Value) : (W.alloc (.cells z 59)).setRow W.heap.size ((Try.prog.built 59 [(0, .slice a n c), (2, .func (.yield l) #[] #[])]).getD #[]) = W.alloc (.cells (walkC (.slice a n c) [] l).toArray 59) := by
  rw [World.setRow_alloc_new, built_walk]; rfl
set_option maxRecDepth 100000 in
set_option maxHeartbeats 4000000 in
/-- The function value: a walk is laid, and goes down from the root's right. -/
theorem iter_in (l n₀ b off cap bx : Nat) (ns : List ND) (hL : Links ns) (J : List (Nat × Nat) → (Nat → Prop) → World → Prop) (Jx : List (Nat × Nat) → World → Prop)
    (hJ : Bides n₀ J)  {rt : Nat} {c' : List Nat} {gs : List (Nat × Nat)} (root : ND) (h0 : ns[0]? = some root) (hr : root.r = (rt : Int)) (w : Wk ns [] rt 1 c' gs) (hY : Rounds l n₀ ns.length gs.length J Jx)
    (n : Nat) (S : Nat → Prop) (W : World) (hN : NAt n₀ W b off ns) (hx : W.cell? ⟨bx, 0, none⟩ = some (.slice (some ⟨b, off, none⟩) ns.length cap)) (hj : J [] S W) :
      CallsIn Fence.wide n Try.prog 37 #[.func (.yield l) #[] #[], .pointer (some ⟨bx, 0, none⟩)] W fun e W' => (∃ v, e = .returned v) ∧ ((∃ S', J gs S' W') ∨ (∃ q, q <+: gs ∧ Jx q W')) := by
  have A1 := hN.2 0 root h0
  rw [Nat.zero_mul, Nat.add_zero] at A1
  have HN := Lib.hid hN
  have i2 : (0 : Int) < (ns.length : Int) := by have := hL.2.1; omega
  obtain ⟨_, rt', _, hr', _, hrt⟩ := hL.2.2.1 0 root h0
  obtain rfl : rt = rt' := by omega
  have hbd := hJ.2 _ _ _ hj
  -- the world where the call stands
  obtain ⟨W1, hW1⟩ : ∃ x, x = W.alloc (.cells (walkC (.slice (some ⟨b, off, none⟩) ns.length cap) [] l).toArray 59) := ⟨_, rfl⟩
  have hsep : Sep n₀ S W W1 := by rw [hW1]; exact Sep.alloc hbd.1 _
  have hB1 : Blk W1 W.heap.size 59 (walkC (.slice (some ⟨b, off, none⟩) ns.length cap) [] l) := by rw [hW1]; exact World.alloc_heap_new W _
  have hx1 : W1.cell? ⟨bx, 0, none⟩ = some (.slice (some ⟨b, off, none⟩) ns.length cap) := by
    rw [hW1, ← hx]
    exact ((Below.refl W.heap.size W).alloc (Nat.le_refl _) _).cell (p := ⟨bx, 0, none⟩) (World.block_lt_of_cell? W ⟨bx, 0, none⟩ hx)
  have A2 := A1.below hsep.below HN.out.1
  have dn := callsIn_wide.1 (down_in l W.heap.size n₀ b off cap gs.length ns hL J Jx hJ hY hbd.1 w 0 [] S W1 hrt (by simp) (by
    have : left ns [] ≤ ns.length := by unfold left; exact Nat.le_trans (List.length_filter_le _ _) (by simp)
    have := hL.1
    omega) (HN.out.below hsep.below) (fun h => by have := hbd.2 _ h; omega) hB1 (hJ.1 _ _ _ _ hj hsep))
  rw [show ((1 : Nat) : Int) = 1 from rfl] at dn
  simp only [At8, hr] at A1 A2
  have hbi := Lib.hid (built_isSome (some ⟨b, off, none⟩) ns.length cap l)
  have hsz := Lib.hid (built_size (some ⟨b, off, none⟩) ns.length cap l)
  have hol := Lib.hid (built_old (some ⟨b, off, none⟩) ns.length cap l)
  have hon := Lib.hid (built_one (some ⟨b, off, none⟩) ns.length cap l)
  have hsr := Lib.hid (fun z => (setRow_walk (some ⟨b, off, none⟩) ns.length cap l W z).trans hW1.symm)
  clear hN hsep hB1 hW1 hbd hr' hr hj hY hJ HN
  refine callsIn_wide.2 ?_
  go_enter Try.func37, Try.ntmps37
  go_wp2_with (first | (refine wpList_build rfl 59 _ rfl ?_ ?_; · go_simp; exact hbi.out) | (refine wpList_store_row rfl 59 _ _ rfl W.heap.size _ rfl rfl 59 _ (heap_alloc_last _ _) hsz.out hol.out hon.out ?_; rw [hsr.out]) | (go_at_call 38; refine dn.mono ?_; clear dn; rintro e W2 (⟨rfl, S2, hJ2, hB2, hb2, hs2, hn2⟩ | ⟨rfl, q, hq, hx2⟩)))
  case inl =>
    go_end0
    exact ⟨⟨_, rfl⟩, .inl ⟨S2, by simpa using hJ2⟩⟩
  case inr =>
    go_end0
    exact ⟨⟨_, rfl⟩, .inr ⟨q, hq, by simpa using hx2⟩⟩

set_option maxHeartbeats 1000000 in
theorem walked_at (a : Option Addr) (n c : Nat) (w : World) : Calls Try.prog 25 #[.slice a n c] w fun e w' => e = .returned (.func (.func 37) #[] #[.pointer (some ⟨w.heap.size, 0, none⟩)]) ∧ w' = w.alloc (.cells #[.slice a n c] 25) := by
  go_enter Try.func25, Try.ntmps25
  go_wp2
  go_ret
  exact ⟨rfl, rfl⟩
end Go.Proofs.Ytbbpnmdnnjbakaa
