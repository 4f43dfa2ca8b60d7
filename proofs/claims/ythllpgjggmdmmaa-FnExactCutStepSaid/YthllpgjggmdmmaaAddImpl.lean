/- Adding: what each touch of the program does; a touch that can't be done gives up. -/
import Derived.Test.YthllpgjggmdmmaaStep11
import Derived.Test.YthllpgjggmdmmaaFindImpl3
import Derived.Test.YthllpgjggmdmmaaFace
import Derived.Test.YthllpgjggmdmmaaStep14
import Derived.Test.YthllpgjggmdmmaaHeldImpl3
namespace Go.Proofs.Ythllpgjggmdmmaa
open Go.ChangeShapes Go.WideShapes Go.ChangeAt Go.RowKit
set_option linter.unusedVariables false
set_option linter.unusedSimpArgs false

theorem nodesB_setO {l : List ND} {k : Nat} {n : ND} {o : Int} (h : nodesB l = true) (hn : l[k]? = some n) (ho : inB o 0 6 = true) : nodesB (l.set k (setO n o)) = true := by
  have link : ∀ (m : ND) (many : Int), linkB m many = true → linkB (setO m o) many = true := fun m many hm => by
    simp only [linkB, setO, Bool.and_eq_true] at hm ⊢
    exact ⟨⟨⟨⟨hm.1.1.1.1, hm.1.1.1.2⟩, ho⟩, hm.1.2⟩, hm.2⟩
  match l, h, hn with
  | m :: r, h, hn =>
    simp only [nodesB, Bool.and_eq_true, List.all_eq_true] at h
    cases k with
    | zero =>
      simp at hn
      subst hn
      simp only [List.set_cons_zero, nodesB, Bool.and_eq_true, List.all_eq_true]
      exact ⟨h.1, ⟨h.2.1.1, link _ _ h.2.1.2⟩, h.2.2⟩
    | succ k =>
      have hn' : r[k]? = some n := by simpa using hn
      simp only [List.set_cons_succ, nodesB, Bool.and_eq_true, List.all_eq_true, List.length_cons, List.length_set] at h ⊢
      refine ⟨h.1, h.2.1, fun x hx => ?_⟩
      rcases List.mem_or_eq_of_mem_set hx with hx | rfl
      · exact h.2.2 x hx
      · have := h.2.2 n (List.mem_of_getElem? hn')
        exact ⟨this.1, link _ _ this.2⟩
theorem handB_at {h : HD} {t : Int} (hh : handB h = true) (h1 : 1 ≤ h.at_) (ht : 1 ≤ t ∧ t ≤ 26) : handB { h with at_ := t } = true := by
  simp only [handB, headB, Bool.and_eq_true, Bool.or_eq_true] at hh ⊢
  obtain ⟨⟨⟨h2, h3⟩, h4⟩, h5⟩ := hh
  have hc : callB h.c h.k h.v = true := by
    rcases h3 with h3 | h3
    · exact h3
    · have := h3.1
      simp at this
      omega
  exact ⟨⟨⟨by simp [inB]; omega, .inl hc⟩, h4⟩, h5⟩
end Go.Proofs.Ythllpgjggmdmmaa
namespace Go.Proofs.Ythllpgjggmdmmaa
open Go.ChangeShapes Go.WideShapes Go.ChangeAt Go.RowKit
set_option linter.unusedVariables false
set_option linter.unusedSimpArgs false

/-- What a touch does: nodes and a hand, or it gives up. -/
inductive TR where
  | done (l : List ND) (h : HD)
  | gives (k : Int)
def SaysG (R : TR) (w00 : World) (gb0 k2 n : Nat) (c : List Int) (p2 : List Value) (L : List Bk) (e : Ending) (w' : World) : Prop :=
  match R with
  | .done l h => ∃ (g k : Nat) (p : List Value), e = .returned (.tuple #[.agg #[.slice (some ⟨g, 0, none⟩) l.length k, .slice (some ⟨gb0, 0, none⟩) n k2], h.val]) ∧ (l.length ≤ k ∧ k ≤ maxLen ∧ (cellsOf l ++ p).length = k * 8) ∧ Mem w00 w' ((g, 52, cellsOf l ++ p) :: (gb0, 2, cellsI c ++ p2) :: L)
  | .gives k => e = .panicked [{ v := .iface 82 (.int .i64 k), recovered := false }] ∧ Below w00.heap.size w00 w'
theorem saysg_done {l : List ND} {h : HD} {w00 : World} {gb0 k2 n : Nat} {c : List Int} {p2 : List Value} {L : List Bk} {e : Ending} {w' : World} (hs : ∃ (g k : Nat) (p : List Value), e = .returned (.tuple #[.agg #[.slice (some ⟨g, 0, none⟩) l.length k, .slice (some ⟨gb0, 0, none⟩) n k2], h.val]) ∧ (l.length ≤ k ∧ k ≤ maxLen ∧ (cellsOf l ++ p).length = k * 8) ∧ Mem w00 w' ((g, 52, cellsOf l ++ p) :: (gb0, 2, cellsI c ++ p2) :: L)) : SaysG (.done l h) w00 gb0 k2 n c p2 L e w' := hs
theorem saysg_gives {k : Int} {w00 : World} {gb0 k2 n : Nat} {c : List Int} {p2 : List Value} {L : List Bk} {w' : World} (hs : Below w00.heap.size w00 w') : SaysG (.gives k) w00 gb0 k2 n c p2 L (.panicked [{ v := .iface 82 (.int .i64 k), recovered := false }]) w' := ⟨rfl, hs⟩
/-- A touch that is given memory of its own. -/
def TouchG (f : FuncId) (l : List ND) (c : List Int) (task : Int) (h : HD) (R : TR) : Prop :=
  ∀ (ga0 k1 : Nat) (p1 : List Value) (gb0 k2 : Nat) (p2 : List Value) (L : List Bk) (w00 w0 : World), Mem w00 w0 ((ga0, 52, cellsOf l ++ p1) :: (gb0, 2, cellsI c ++ p2) :: L) → l.length ≤ k1 → k1 ≤ maxLen → c.length ≤ k2 → k2 ≤ maxLen → (cellsOf l ++ p1).length = k1 * 8 → (cellsI c ++ p2).length = k2 * 1 →
    Calls Try.prog f #[.agg #[.slice (some ⟨ga0, 0, none⟩) l.length k1, .slice (some ⟨gb0, 0, none⟩) c.length k2], .int .i64 task, h.val] w0 (SaysG R w00 gb0 k2 c.length c p2 L)
def SaysP (k : Int) (w : World) (e : Ending) (w' : World) : Prop := e = .panicked [{ v := .iface 82 (.int .i64 k), recovered := false }] ∧ Below w.heap.size w w'
theorem wo_panics {P : Program} {ops : Array Oper} {Q : Exit → Act → World → Prop} {S : World → Prop} {fuel : Nat} {listed : Array Bool} {a : Act} {w : World} {i : Nat} {o : Oper} (ho : ops[i]? = some o) (hw : Region.wanted o (yielded ops a.tmps) = true) (f : FuncId) (args : Array Value) (hr : (execOp a.eval o).run P w = .ok (.enter f args) w) {R : Ending → World → Prop} (hc : Calls P f args w R)
    (h : ∀ e w', R e w' → ∃ ch, e = .panicked ch ∧ Q (.panic ch) a w') : WO P ops Q S fuel listed a w i :=
  wo_step ho hw fun K hK => by
    unfold Oper.wp
    rw [hr, Oper.upon_enter]
    refine hc.mono fun e w' hs => ?_
    obtain ⟨ch, rfl, hk⟩ := h e w' hs
    exact hk
theorem lockB_pos {l : List ND} {a task : Int} (hl0 : l ≠ []) (h : (lockB l a task).2 = true) : 0 < (lockB l a task).1.length := by
  have h1 := List.length_pos_iff.2 hl0
  unfold lockB at h ⊢
  split at h
  · rename_i h3
    rw [if_pos h3]
    split at h
    · rename_i h4
      rw [if_pos h4]
      show 0 < (giveO l a (task + 1)).length
      rw [giveO_len]
      exact h1
    · simp at h
  · simp at h
theorem says_lock {r : List ND × Bool} {w : World} {e : Ending} {w' : World} {b : Bool} (hs : SaysL r w e w') (hb : r.2 = b) : ∃ u, e = .returned (.tuple #[u, .bool b]) ∧ OwnR w' w.heap.size w'.heap.size 52 8 r.1.length (cellsOf r.1) u ∧ Below w.heap.size w w' := by
  subst hb
  exact hs
def holdT (l : List ND) (task : Int) (h : HD) (a t : Int) : TR := if (lockB l a task).2 then .done (lockB l a task).1 { h with at_ := t } else .gives 1
set_option maxRecDepth 100000 in
set_option maxHeartbeats 4000000 in
theorem impl_withHold_yes (u : Value) (xa : Option Addr) (xn xc : Nat) (l : List ND) (a task : Int) (w0 : World) (h1 : NSl w0 u l) (hl : l.length ≤ 1048576) (ha : In64 a) (hl0 : l ≠ []) (hlk : (lockB l a task).2 = true) :
    Calls Try.prog 68 #[.agg #[u, .slice xa xn xc], .int .i64 a, .int .i64 task] w0 fun e w' => ∃ (g j : Nat) (r : List Value), e = .returned (.agg #[.slice (some ⟨g, 0, none⟩) (lockB l a task).1.length j, .slice xa xn xc]) ∧ ((lockB l a task).1.length ≤ j ∧ j ≤ maxLen ∧ (cellsOf (lockB l a task).1 ++ r).length = j * 8) ∧ w0.heap.size ≤ g ∧ Blk w' g 52 (cellsOf (lockB l a task).1 ++ r) ∧ Below w0.heap.size w0 w' := by
  have hpos := lockB_pos hl0 hlk
  have hM := Mem.start w0
  go_enter Try.func68, Try.ntmps68
  refine wp_seq_k fun Kn1 cn1 => ?_
  refine wl_region ?_
  refine wl_box (by kernel_rfl) hM 33 _ rfl [u, .slice xa xn xc] rfl ?_
  clear hM; intro g1 W1 hM
  go_frame
  refine wl_alloc (by kernel_rfl) hM 33 rfl [.slice none 0 0, .slice none 0 0] Z_impl_Shared ?_
  clear hM; intro g2 W2 hM
  go_frame
  refine wl_nil ?_
  refine cn1 _ _ ?_
  clear cn1
  refine wp_seq_k fun Kn2 cn2 => ?_
  refine wl_region ?_
  refine wl_pure (by kernel_rfl) (.pointer (some ⟨g1, 0, none⟩)) (by kernel_rfl) ?_
  go_frame
  refine wl_loadc (by kernel_rfl) hM 1 rfl 31 _ rfl 0 rfl Try.underlying31 rfl rfl ?_
  go_frame
  refine wl_pure (by kernel_rfl) (.int .i64 a) (by kernel_rfl) ?_
  go_frame
  refine wl_pure (by kernel_rfl) (.int .i64 task) (by kernel_rfl) ?_
  go_frame
  refine wl_call (by kernel_rfl) 80 #[u, .int .i64 a, .int .i64 task] (by kernel_rfl) ((impl_Locked u l a task _ (h1.below hM.below) hl ha).mono fun _ _ hs => says_lock hs hlk) ?_
  rintro e W3 ⟨uH, rfl, hO, hb⟩
  obtain ⟨m1, j1, r1, rfl, qa1, qb1, hg1, hB1, qe1⟩ := own_blk hO hpos
  replace hM := hM.got hb hg1 hB1
  refine ⟨_, rfl, ?_⟩
  go_frame
  refine wl_pure (by kernel_rfl) (.tuple #[.slice (some ⟨m1, 0, none⟩) ((lockB l a task).1.length) j1, .bool true]) (by kernel_rfl) ?_
  go_frame
  refine wl_pure (by kernel_rfl) (.slice (some ⟨m1, 0, none⟩) ((lockB l a task).1.length) j1) (by kernel_rfl) ?_
  go_frame
  refine wl_pure (by kernel_rfl) (.bool true) (by kernel_rfl) ?_
  go_frame
  refine wl_pure (by kernel_rfl) (.slice (some ⟨m1, 0, none⟩) ((lockB l a task).1.length) j1) (by kernel_rfl) ?_
  go_frame
  refine wl_pure (by kernel_rfl) (.bool true) (by kernel_rfl) ?_
  go_frame
  refine wl_nil ?_
  refine cn2 _ _ ?_
  clear cn2
  refine wp_seq_k fun Kn3 cn3 => ?_
  refine wp_seq_k fun Kn4 cn4 => ?_
  refine wl_region ?_
  refine wl_pure (by kernel_rfl) (.bool true) (by kernel_rfl) ?_
  go_frame
  refine wl_pure (by kernel_rfl) (.bool false) (by kernel_rfl) ?_
  go_frame
  refine wl_nil ?_
  refine cn4 _ _ ?_
  clear cn4
  refine wp_cond_false rfl ?_
  refine wp_skip ?_
  refine cn3 _ _ ?_
  clear cn3
  refine wp_seq_k fun Kn5 cn5 => ?_
  refine wl_region ?_
  refine wl_pure (by kernel_rfl) (.slice (some ⟨m1, 0, none⟩) ((lockB l a task).1.length) j1) (by kernel_rfl) ?_
  go_frame
  refine wl_pure (by kernel_rfl) (.pointer (some ⟨g1, 0, none⟩)) (by kernel_rfl) ?_
  go_frame
  refine wl_storec (by kernel_rfl) hM 2 rfl 31 _ _ rfl rfl 0 rfl (.slice (some ⟨m1, 0, none⟩) ((lockB l a task).1.length) j1) rfl rfl rfl I_S_impl_Node (by simp) ?_
  clear hM; intro W4 hM
  refine wl_nil ?_
  refine cn5 _ _ ?_
  clear cn5
  refine wp_seq_k fun Kn6 cn6 => ?_
  refine wl_region ?_
  refine wl_load (by kernel_rfl) hM 2 rfl 33 _ rfl rfl Try.underlying33 I_impl_Shared ?_
  go_frame
  refine wl_store (by kernel_rfl) hM 1 rfl 33 _ _ rfl rfl rfl [.slice (some ⟨m1, 0, none⟩) ((lockB l a task).1.length) j1, .slice xa xn xc] rfl I_impl_Shared rfl rfl ?_
  clear hM; intro W5 hM
  refine wl_nil ?_
  refine cn6 _ _ ?_
  clear cn6
  refine wp_ret ?_
  exact bodyPost_ret (ret_row rfl hM 1 rfl rfl Try.underlying33 I_impl_Shared) rfl ⟨m1, j1, r1, rfl, ⟨qa1, qb1, qe1⟩, hM.base 0 rfl, hM.blk 0 rfl, hM.below⟩

set_option maxRecDepth 100000 in
set_option maxHeartbeats 4000000 in
theorem impl_withHold_no (u : Value) (xa : Option Addr) (xn xc : Nat) (l : List ND) (a task : Int) (w0 : World) (h1 : NSl w0 u l) (hl : l.length ≤ 1048576) (ha : In64 a) (hl0 : l ≠ []) (hlk : (lockB l a task).2 = false) :
    Calls Try.prog 68 #[.agg #[u, .slice xa xn xc], .int .i64 a, .int .i64 task] w0 fun e w' => e = .panicked [{ v := .iface 82 (.int .i64 1), recovered := false }] ∧ Below w0.heap.size w0 w' := by
  have hM := Mem.start w0
  go_enter Try.func68, Try.ntmps68
  refine wp_seq_k fun Kn1 cn1 => ?_
  refine wl_region ?_
  refine wl_box (by kernel_rfl) hM 33 _ rfl [u, .slice xa xn xc] rfl ?_
  clear hM; intro g1 W1 hM
  go_frame
  refine wl_alloc (by kernel_rfl) hM 33 rfl [.slice none 0 0, .slice none 0 0] Z_impl_Shared ?_
  clear hM; intro g2 W2 hM
  go_frame
  refine wl_nil ?_
  refine cn1 _ _ ?_
  clear cn1
  refine wp_seq_k fun Kn2 cn2 => ?_
  refine wl_region ?_
  refine wl_pure (by kernel_rfl) (.pointer (some ⟨g1, 0, none⟩)) (by kernel_rfl) ?_
  go_frame
  refine wl_loadc (by kernel_rfl) hM 1 rfl 31 _ rfl 0 rfl Try.underlying31 rfl rfl ?_
  go_frame
  refine wl_pure (by kernel_rfl) (.int .i64 a) (by kernel_rfl) ?_
  go_frame
  refine wl_pure (by kernel_rfl) (.int .i64 task) (by kernel_rfl) ?_
  go_frame
  refine wl_call (by kernel_rfl) 80 #[u, .int .i64 a, .int .i64 task] (by kernel_rfl) ((impl_Locked u l a task _ (h1.below hM.below) hl ha).mono fun _ _ hs => says_lock hs hlk) ?_
  rintro e W3 ⟨uH, rfl, hO, hb⟩
  obtain ⟨aH, cH, rfl, -, -⟩ := hO.slice
  replace hM := hM.call hb
  refine ⟨_, rfl, ?_⟩
  go_frame
  refine wl_pure (by kernel_rfl) (.tuple #[.slice aH ((lockB l a task).1.length) cH, .bool false]) (by kernel_rfl) ?_
  go_frame
  refine wl_pure (by kernel_rfl) (.slice aH ((lockB l a task).1.length) cH) (by kernel_rfl) ?_
  go_frame
  refine wl_pure (by kernel_rfl) (.bool false) (by kernel_rfl) ?_
  go_frame
  refine wl_pure (by kernel_rfl) (.slice aH ((lockB l a task).1.length) cH) (by kernel_rfl) ?_
  go_frame
  refine wl_pure (by kernel_rfl) (.bool false) (by kernel_rfl) ?_
  go_frame
  refine wl_nil ?_
  refine cn2 _ _ ?_
  clear cn2
  refine wp_seq_k fun Kn3 cn3 => ?_
  refine wp_seq_k fun Kn4 cn4 => ?_
  refine wl_region ?_
  refine wl_pure (by kernel_rfl) (.bool false) (by kernel_rfl) ?_
  go_frame
  refine wl_pure (by kernel_rfl) (.bool true) (by kernel_rfl) ?_
  go_frame
  refine wl_nil ?_
  refine cn4 _ _ ?_
  clear cn4
  refine wp_cond_true rfl ?_
  refine wl_region ?_
  refine wl_pure (by kernel_rfl) (.iface 82 (.int .i64 1)) (by kernel_rfl) ?_
  go_frame
  refine wl_panic (by kernel_rfl) (.iface 82 (.int .i64 1)) (by kernel_rfl) ?_
  exact ⟨rfl, rfl, hM.below⟩

end Go.Proofs.Ythllpgjggmdmmaa
