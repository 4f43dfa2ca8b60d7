/- Adding: what each touch of the program does; a touch that can't be done gives up. -/
import Derived.Test.YtpojbflhlfjhdaaStep11
import Derived.Test.YtpojbflhlfjhdaaFindImpl3
import Derived.Test.YtpojbflhlfjhdaaFace
import Derived.Test.YtpojbflhlfjhdaaStep14
import Derived.Test.YtpojbflhlfjhdaaHeldImpl3
namespace Go.Proofs.Ytpojbflhlfjhdaa
open Go.ChangeShapes Go.WideShapes Go.ChangeAt Go.RowKit
set_option linter.unusedVariables false
set_option linter.unusedSimpArgs false

theorem nodesB_setO {l : List ND} {k : Nat} {n : ND} {o : Int} (h : nodesB l = true) (hn : l[k]? = some n) (ho : inB o 0 6 = true) : nodesB (l.set k (setO n o)) = true := by
  have link : ∀ (m : ND) (many : Int), linkB m many = true → linkB (setO m o) many = true := fun m many hm => by
    simp only [linkB, setO, Bool.and_eq_true] at hm ⊢
    exact ⟨⟨⟨⟨hm.1.1.1.1, hm.1.1.1.2⟩, ho⟩, hm.1.2⟩, hm.2⟩
  match l, h, hn with
  | m :: r, h, hn =>
    simp only [nodesB, Bool.and_eq_true, List.all_eq_true] at h
    cases k with
    | zero =>
      simp at hn
      subst hn
      simp only [List.set_cons_zero, nodesB, Bool.and_eq_true, List.all_eq_true]
      exact ⟨h.1, ⟨h.2.1.1, link _ _ h.2.1.2⟩, h.2.2⟩
    | succ k =>
      have hn' : r[k]? = some n := by simpa using hn
      simp only [List.set_cons_succ, nodesB, Bool.and_eq_true, List.all_eq_true, List.length_cons, List.length_set] at h ⊢
      refine ⟨h.1, h.2.1, fun x hx => ?_⟩
      rcases List.mem_or_eq_of_mem_set hx with hx | rfl
      · exact h.2.2 x hx
      · have := h.2.2 n (List.mem_of_getElem? hn')
        exact ⟨this.1, link _ _ this.2⟩
theorem handB_at {h : HD} {t : Int} (hh : handB h = true) (h1 : 1 ≤ h.at_) (ht : 1 ≤ t ∧ t ≤ 26) : handB { h with at_ := t } = true := by
  simp only [handB, headB, Bool.and_eq_true, Bool.or_eq_true] at hh ⊢
  obtain ⟨⟨⟨h2, h3⟩, h4⟩, h5⟩ := hh
  have hc : callB h.c h.k h.v = true := by
    rcases h3 with h3 | h3
    · exact h3
    · have := h3.1
      simp at this
      omega
  exact ⟨⟨⟨by simp [inB]; omega, .inl hc⟩, h4⟩, h5⟩
end Go.Proofs.Ytpojbflhlfjhdaa
namespace Go.Proofs.Ytpojbflhlfjhdaa
open Go.ChangeShapes Go.WideShapes Go.ChangeAt Go.RowKit
set_option linter.unusedVariables false
set_option linter.unusedSimpArgs false

/-- What a touch does: nodes and a hand, or it gives up. -/
inductive TR where
  | done (l : List ND) (h : HD)
  | gives (k : Int)
def SaysG (R : TR) (w00 : World) (gb0 k2 n : Nat) (c : List Int) (p2 : List Value) (L : List Bk) (e : Ending) (w' : World) : Prop :=
  match R with
  | .done l h => ∃ (g k : Nat) (p : List Value), e = .returned (.tuple #[.agg #[.slice (some ⟨g, 0, none⟩) l.length k, .slice (some ⟨gb0, 0, none⟩) n k2], h.val]) ∧ (l.length ≤ k ∧ k ≤ maxLen ∧ (cellsOf l ++ p).length = k * 8) ∧ Mem w00 w' ((g, 51, cellsOf l ++ p) :: (gb0, 2, cellsI c ++ p2) :: L)
  | .gives k => e = .panicked [{ v := .iface 79 (.int .i64 k), recovered := false }] ∧ Below w00.heap.size w00 w'
theorem saysg_done {l : List ND} {h : HD} {w00 : World} {gb0 k2 n : Nat} {c : List Int} {p2 : List Value} {L : List Bk} {e : Ending} {w' : World} (hs : ∃ (g k : Nat) (p : List Value), e = .returned (.tuple #[.agg #[.slice (some ⟨g, 0, none⟩) l.length k, .slice (some ⟨gb0, 0, none⟩) n k2], h.val]) ∧ (l.length ≤ k ∧ k ≤ maxLen ∧ (cellsOf l ++ p).length = k * 8) ∧ Mem w00 w' ((g, 51, cellsOf l ++ p) :: (gb0, 2, cellsI c ++ p2) :: L)) : SaysG (.done l h) w00 gb0 k2 n c p2 L e w' := hs
theorem saysg_gives {k : Int} {w00 : World} {gb0 k2 n : Nat} {c : List Int} {p2 : List Value} {L : List Bk} {w' : World} (hs : Below w00.heap.size w00 w') : SaysG (.gives k) w00 gb0 k2 n c p2 L (.panicked [{ v := .iface 79 (.int .i64 k), recovered := false }]) w' := ⟨rfl, hs⟩
/-- A touch that is given memory of its own. -/
def TouchG (f : FuncId) (l : List ND) (c : List Int) (task : Int) (h : HD) (R : TR) : Prop :=
  ∀ (ga0 k1 : Nat) (p1 : List Value) (gb0 k2 : Nat) (p2 : List Value) (L : List Bk) (w00 w0 : World), Mem w00 w0 ((ga0, 51, cellsOf l ++ p1) :: (gb0, 2, cellsI c ++ p2) :: L) → l.length ≤ k1 → k1 ≤ maxLen → c.length ≤ k2 → k2 ≤ maxLen → (cellsOf l ++ p1).length = k1 * 8 → (cellsI c ++ p2).length = k2 * 1 →
    Calls Try.prog f #[.agg #[.slice (some ⟨ga0, 0, none⟩) l.length k1, .slice (some ⟨gb0, 0, none⟩) c.length k2], .int .i64 task, h.val] w0 (SaysG R w00 gb0 k2 c.length c p2 L)
def SaysP (k : Int) (w : World) (e : Ending) (w' : World) : Prop := e = .panicked [{ v := .iface 79 (.int .i64 k), recovered := false }] ∧ Below w.heap.size w w'
theorem wo_panics {P : Program} {ops : Array Oper} {Q : Exit → Act → World → Prop} {S : World → Prop} {fuel : Nat} {listed : Array Bool} {a : Act} {w : World} {i : Nat} {o : Oper} (ho : ops[i]? = some o) (hw : Region.wanted o (yielded ops a.tmps) = true) (f : FuncId) (args : Array Value) (hr : (execOp a.eval o).run P w = .ok (.enter f args) w) {R : Ending → World → Prop} (hc : Calls P f args w R)
    (h : ∀ e w', R e w' → ∃ ch, e = .panicked ch ∧ Q (.panic ch) a w') : WO P ops Q S fuel listed a w i :=
  wo_step ho hw fun K hK => by
    unfold Oper.wp
    rw [hr, Oper.upon_enter]
    refine hc.mono fun e w' hs => ?_
    obtain ⟨ch, rfl, hk⟩ := h e w' hs
    exact hk
theorem lockB_pos {l : List ND} {a task : Int} (hl0 : l ≠ []) (h : (lockB l a task).2 = true) : 0 < (lockB l a task).1.length := by
  have h1 := List.length_pos_iff.2 hl0
  unfold lockB at h ⊢
  split at h
  · rename_i h3
    rw [if_pos h3]
    split at h
    · rename_i h4
      rw [if_pos h4]
      show 0 < (giveO l a (task + 1)).length
      rw [giveO_len]
      exact h1
    · simp at h
  · simp at h
theorem says_lock {r : List ND × Bool} {w : World} {e : Ending} {w' : World} {b : Bool} (hs : SaysL r w e w') (hb : r.2 = b) : ∃ u, e = .returned (.tuple #[u, .bool b]) ∧ OwnR w' w.heap.size w'.heap.size 51 8 r.1.length (cellsOf r.1) u ∧ Below w.heap.size w w' := by
  subst hb
  exact hs
def holdT (l : List ND) (task : Int) (h : HD) (a t : Int) : TR := if (lockB l a task).2 then .done (lockB l a task).1 { h with at_ := t } else .gives 1
def lockT (l : List ND) (task : Int) (h : HD) : TR := if h.c == 2 then holdT l task h h.prev 6 else if h.c == 3 then holdT l task h h.prev 9 else .gives 0
def checkT (l : List ND) (h : HD) : TR :=
  if h.c != 2 then .gives 0 else if (nd l h.prev).g || kidF h.side (nd l h.prev).l (nd l h.prev).r != 0 || kidF h.side (nd l h.prev).lt (nd l h.prev).rt != h.tag then .done l (againH h) else .done l { h with at_ := 7 }
def makeT (l : List ND) (h : HD) : TR := if h.c != 2 then .gives 0 else .done (makeR l h).1 (makeR l h).2
def hangT (l : List ND) (h : HD) : TR := if h.c != 2 then .gives 0 else .done (setK l h.prev fun n => withK n h.side h.new) (endH h 1)

set_option maxRecDepth 100000 in
set_option maxHeartbeats 4000000 in
theorem impl_onlyOf_yes (k : Int) (h : HD) (w0 : World) (hk : (h.c != k) = false) :
    Calls Try.prog 66 #[.int .i64 k, h.val] w0 fun e w' => e = .returned (.tuple #[]) ∧ Below w0.heap.size w0 w' := by
  unfold HD.val
  have hM := Mem.start w0
  go_enter Try.func66, Try.ntmps66
  refine wp_seq_k fun Kn1 cn1 => ?_
  refine wl_region ?_
  refine wl_box (by kernel_rfl) hM 36 _ rfl (HD.cells h) rfl ?_
  clear hM; intro g1 W1 hM
  go_frame
  refine wl_nil ?_
  refine cn1 _ _ ?_
  clear cn1
  refine wp_seq_k fun Kn2 cn2 => ?_
  refine wl_region ?_
  refine wl_pure (by kernel_rfl) (.pointer (some ⟨g1, 1, none⟩)) (by kernel_rfl) ?_
  go_frame
  refine wl_pure (by kernel_rfl) (.pointer (some ⟨g1, 1, none⟩)) (by kernel_rfl) ?_
  go_frame
  refine wl_loadc (by kernel_rfl) hM 0 rfl 2 _ rfl 1 rfl Try.underlying2 rfl rfl ?_
  go_frame
  refine wl_pure (by kernel_rfl) (.int .i64 k) (by kernel_rfl) ?_
  go_frame
  refine wl_pureB (by kernel_rfl) (b := (h.c != k)) (by kernel_rfl) (hk) ?_
  go_frame
  refine wl_nil ?_
  refine cn2 _ _ ?_
  clear cn2
  refine wp_cond_false rfl ?_
  refine wp_skip ?_
  exact bodyPost_end (results_none rfl _ _ _) rfl ⟨rfl, hM.below⟩

set_option maxRecDepth 100000 in
set_option maxHeartbeats 4000000 in
theorem impl_onlyOf_no (k : Int) (h : HD) (w0 : World) (hk : (h.c != k) = true) :
    Calls Try.prog 66 #[.int .i64 k, h.val] w0 fun e w' => e = .panicked [{ v := .iface 79 (.int .i64 0), recovered := false }] ∧ Below w0.heap.size w0 w' := by
  unfold HD.val
  have hM := Mem.start w0
  go_enter Try.func66, Try.ntmps66
  refine wp_seq_k fun Kn1 cn1 => ?_
  refine wl_region ?_
  refine wl_box (by kernel_rfl) hM 36 _ rfl (HD.cells h) rfl ?_
  clear hM; intro g1 W1 hM
  go_frame
  refine wl_nil ?_
  refine cn1 _ _ ?_
  clear cn1
  refine wp_seq_k fun Kn2 cn2 => ?_
  refine wl_region ?_
  refine wl_pure (by kernel_rfl) (.pointer (some ⟨g1, 1, none⟩)) (by kernel_rfl) ?_
  go_frame
  refine wl_pure (by kernel_rfl) (.pointer (some ⟨g1, 1, none⟩)) (by kernel_rfl) ?_
  go_frame
  refine wl_loadc (by kernel_rfl) hM 0 rfl 2 _ rfl 1 rfl Try.underlying2 rfl rfl ?_
  go_frame
  refine wl_pure (by kernel_rfl) (.int .i64 k) (by kernel_rfl) ?_
  go_frame
  refine wl_pureB (by kernel_rfl) (b := (h.c != k)) (by kernel_rfl) (hk) ?_
  go_frame
  refine wl_nil ?_
  refine cn2 _ _ ?_
  clear cn2
  refine wp_cond_true rfl ?_
  refine wl_region ?_
  refine wl_pure (by kernel_rfl) (.iface 79 (.int .i64 0)) (by kernel_rfl) ?_
  go_frame
  refine wl_panic (by kernel_rfl) (.iface 79 (.int .i64 0)) (by kernel_rfl) ?_
  exact ⟨rfl, rfl, hM.below⟩

set_option maxRecDepth 100000 in
set_option maxHeartbeats 4000000 in
theorem impl_withHold_yes (u : Value) (xa : Option Addr) (xn xc : Nat) (l : List ND) (a task : Int) (w0 : World) (h1 : NSl w0 u l) (hl : l.length ≤ 1048576) (ha : In64 a) (hl0 : l ≠ []) (hlk : (lockB l a task).2 = true) :
    Calls Try.prog 65 #[.agg #[u, .slice xa xn xc], .int .i64 a, .int .i64 task] w0 fun e w' => ∃ (g j : Nat) (r : List Value), e = .returned (.agg #[.slice (some ⟨g, 0, none⟩) (lockB l a task).1.length j, .slice xa xn xc]) ∧ ((lockB l a task).1.length ≤ j ∧ j ≤ maxLen ∧ (cellsOf (lockB l a task).1 ++ r).length = j * 8) ∧ w0.heap.size ≤ g ∧ Blk w' g 51 (cellsOf (lockB l a task).1 ++ r) ∧ Below w0.heap.size w0 w' := by
  have hpos := lockB_pos hl0 hlk
  have hM := Mem.start w0
  go_enter Try.func65, Try.ntmps65
  refine wp_seq_k fun Kn1 cn1 => ?_
  refine wl_region ?_
  refine wl_box (by kernel_rfl) hM 33 _ rfl [u, .slice xa xn xc] rfl ?_
  clear hM; intro g1 W1 hM
  go_frame
  refine wl_alloc (by kernel_rfl) hM 33 rfl [.slice none 0 0, .slice none 0 0] Z_impl_Shared ?_
  clear hM; intro g2 W2 hM
  go_frame
  refine wl_nil ?_
  refine cn1 _ _ ?_
  clear cn1
  refine wp_seq_k fun Kn2 cn2 => ?_
  refine wl_region ?_
  refine wl_pure (by kernel_rfl) (.pointer (some ⟨g1, 0, none⟩)) (by kernel_rfl) ?_
  go_frame
  refine wl_loadc (by kernel_rfl) hM 1 rfl 31 _ rfl 0 rfl Try.underlying31 rfl rfl ?_
  go_frame
  refine wl_pure (by kernel_rfl) (.int .i64 a) (by kernel_rfl) ?_
  go_frame
  refine wl_pure (by kernel_rfl) (.int .i64 task) (by kernel_rfl) ?_
  go_frame
  refine wl_call (by kernel_rfl) 77 #[u, .int .i64 a, .int .i64 task] (by kernel_rfl) ((impl_Locked u l a task _ (h1.below hM.below) hl ha).mono fun _ _ hs => says_lock hs hlk) ?_
  rintro e W3 ⟨uH, rfl, hO, hb⟩
  obtain ⟨m1, j1, r1, rfl, qa1, qb1, hg1, hB1, qe1⟩ := own_blk hO hpos
  replace hM := hM.got hb hg1 hB1
  refine ⟨_, rfl, ?_⟩
  go_frame
  refine wl_pure (by kernel_rfl) (.tuple #[.slice (some ⟨m1, 0, none⟩) ((lockB l a task).1.length) j1, .bool true]) (by kernel_rfl) ?_
  go_frame
  refine wl_pure (by kernel_rfl) (.slice (some ⟨m1, 0, none⟩) ((lockB l a task).1.length) j1) (by kernel_rfl) ?_
  go_frame
  refine wl_pure (by kernel_rfl) (.bool true) (by kernel_rfl) ?_
  go_frame
  refine wl_pure (by kernel_rfl) (.slice (some ⟨m1, 0, none⟩) ((lockB l a task).1.length) j1) (by kernel_rfl) ?_
  go_frame
  refine wl_pure (by kernel_rfl) (.bool true) (by kernel_rfl) ?_
  go_frame
  refine wl_nil ?_
  refine cn2 _ _ ?_
  clear cn2
  refine wp_seq_k fun Kn3 cn3 => ?_
  refine wp_seq_k fun Kn4 cn4 => ?_
  refine wl_region ?_
  refine wl_pure (by kernel_rfl) (.bool true) (by kernel_rfl) ?_
  go_frame
  refine wl_pure (by kernel_rfl) (.bool false) (by kernel_rfl) ?_
  go_frame
  refine wl_nil ?_
  refine cn4 _ _ ?_
  clear cn4
  refine wp_cond_false rfl ?_
  refine wp_skip ?_
  refine cn3 _ _ ?_
  clear cn3
  refine wp_seq_k fun Kn5 cn5 => ?_
  refine wl_region ?_
  refine wl_pure (by kernel_rfl) (.slice (some ⟨m1, 0, none⟩) ((lockB l a task).1.length) j1) (by kernel_rfl) ?_
  go_frame
  refine wl_pure (by kernel_rfl) (.pointer (some ⟨g1, 0, none⟩)) (by kernel_rfl) ?_
  go_frame
  refine wl_storec (by kernel_rfl) hM 2 rfl 31 _ _ rfl rfl 0 rfl (.slice (some ⟨m1, 0, none⟩) ((lockB l a task).1.length) j1) rfl rfl rfl I_S_impl_Node (by simp) ?_
  clear hM; intro W4 hM
  refine wl_nil ?_
  refine cn5 _ _ ?_
  clear cn5
  refine wp_seq_k fun Kn6 cn6 => ?_
  refine wl_region ?_
  refine wl_load (by kernel_rfl) hM 2 rfl 33 _ rfl rfl Try.underlying33 I_impl_Shared ?_
  go_frame
  refine wl_store (by kernel_rfl) hM 1 rfl 33 _ _ rfl rfl rfl [.slice (some ⟨m1, 0, none⟩) ((lockB l a task).1.length) j1, .slice xa xn xc] rfl I_impl_Shared rfl rfl ?_
  clear hM; intro W5 hM
  refine wl_nil ?_
  refine cn6 _ _ ?_
  clear cn6
  refine wp_ret ?_
  exact bodyPost_ret (ret_row rfl hM 1 rfl rfl Try.underlying33 I_impl_Shared) rfl ⟨m1, j1, r1, rfl, ⟨qa1, qb1, qe1⟩, hM.base 0 rfl, hM.blk 0 rfl, hM.below⟩

set_option maxRecDepth 100000 in
set_option maxHeartbeats 4000000 in
theorem impl_withHold_no (u : Value) (xa : Option Addr) (xn xc : Nat) (l : List ND) (a task : Int) (w0 : World) (h1 : NSl w0 u l) (hl : l.length ≤ 1048576) (ha : In64 a) (hl0 : l ≠ []) (hlk : (lockB l a task).2 = false) :
    Calls Try.prog 65 #[.agg #[u, .slice xa xn xc], .int .i64 a, .int .i64 task] w0 fun e w' => e = .panicked [{ v := .iface 79 (.int .i64 1), recovered := false }] ∧ Below w0.heap.size w0 w' := by
  have hM := Mem.start w0
  go_enter Try.func65, Try.ntmps65
  refine wp_seq_k fun Kn1 cn1 => ?_
  refine wl_region ?_
  refine wl_box (by kernel_rfl) hM 33 _ rfl [u, .slice xa xn xc] rfl ?_
  clear hM; intro g1 W1 hM
  go_frame
  refine wl_alloc (by kernel_rfl) hM 33 rfl [.slice none 0 0, .slice none 0 0] Z_impl_Shared ?_
  clear hM; intro g2 W2 hM
  go_frame
  refine wl_nil ?_
  refine cn1 _ _ ?_
  clear cn1
  refine wp_seq_k fun Kn2 cn2 => ?_
  refine wl_region ?_
  refine wl_pure (by kernel_rfl) (.pointer (some ⟨g1, 0, none⟩)) (by kernel_rfl) ?_
  go_frame
  refine wl_loadc (by kernel_rfl) hM 1 rfl 31 _ rfl 0 rfl Try.underlying31 rfl rfl ?_
  go_frame
  refine wl_pure (by kernel_rfl) (.int .i64 a) (by kernel_rfl) ?_
  go_frame
  refine wl_pure (by kernel_rfl) (.int .i64 task) (by kernel_rfl) ?_
  go_frame
  refine wl_call (by kernel_rfl) 77 #[u, .int .i64 a, .int .i64 task] (by kernel_rfl) ((impl_Locked u l a task _ (h1.below hM.below) hl ha).mono fun _ _ hs => says_lock hs hlk) ?_
  rintro e W3 ⟨uH, rfl, hO, hb⟩
  obtain ⟨aH, cH, rfl, -, -⟩ := hO.slice
  replace hM := hM.call hb
  refine ⟨_, rfl, ?_⟩
  go_frame
  refine wl_pure (by kernel_rfl) (.tuple #[.slice aH ((lockB l a task).1.length) cH, .bool false]) (by kernel_rfl) ?_
  go_frame
  refine wl_pure (by kernel_rfl) (.slice aH ((lockB l a task).1.length) cH) (by kernel_rfl) ?_
  go_frame
  refine wl_pure (by kernel_rfl) (.bool false) (by kernel_rfl) ?_
  go_frame
  refine wl_pure (by kernel_rfl) (.slice aH ((lockB l a task).1.length) cH) (by kernel_rfl) ?_
  go_frame
  refine wl_pure (by kernel_rfl) (.bool false) (by kernel_rfl) ?_
  go_frame
  refine wl_nil ?_
  refine cn2 _ _ ?_
  clear cn2
  refine wp_seq_k fun Kn3 cn3 => ?_
  refine wp_seq_k fun Kn4 cn4 => ?_
  refine wl_region ?_
  refine wl_pure (by kernel_rfl) (.bool false) (by kernel_rfl) ?_
  go_frame
  refine wl_pure (by kernel_rfl) (.bool true) (by kernel_rfl) ?_
  go_frame
  refine wl_nil ?_
  refine cn4 _ _ ?_
  clear cn4
  refine wp_cond_true rfl ?_
  refine wl_region ?_
  refine wl_pure (by kernel_rfl) (.iface 79 (.int .i64 1)) (by kernel_rfl) ?_
  go_frame
  refine wl_panic (by kernel_rfl) (.iface 79 (.int .i64 1)) (by kernel_rfl) ?_
  exact ⟨rfl, rfl, hM.below⟩

set_option maxRecDepth 100000 in
set_option maxHeartbeats 4000000 in
theorem impl_lockPrev (l : List ND) (c : List Int) (task : Int) (h : HD) (hok : canB l c task h = true) : TouchG 49 l c task h (lockT l task h) := by
  intro ga0 k1 p1 gb0 k2 p2 L w00 w0 hM0 q1 q2 q3 q4 q5 q6
  obtain ⟨hl0, hc0, hl1, hc1, hat, kt, hkt0, hkt, hcnt, hnodes, qnp, qnc, qnu, qnx, qnw⟩ := ok_facts (can_ok hok)
  have ht : task.toNat = kt := by omega
  have hl30 := (nodes_some hnodes).2
  have hl : l.length ≤ 1048576 := by omega
  unfold HD.val
  have hM := hM0
  go_enter Try.func49, Try.ntmps49
  refine wp_seq_k fun Kn1 cn1 => ?_
  refine wl_region ?_
  refine wl_box (by kernel_rfl) hM 33 _ rfl [.slice (some ⟨ga0, 0, none⟩) l.length k1, .slice (some ⟨gb0, 0, none⟩) c.length k2] rfl ?_
  clear hM; intro g1 W1 hM
  go_frame
  refine wl_box (by kernel_rfl) hM 36 _ rfl (HD.cells h) rfl ?_
  clear hM; intro g2 W2 hM
  go_frame
  refine wl_alloc (by kernel_rfl) hM 33 rfl [.slice none 0 0, .slice none 0 0] Z_impl_Shared ?_
  clear hM; intro g3 W3 hM
  go_frame
  refine wl_alloc (by kernel_rfl) hM 36 rfl (HD.cells HD.zero) Z_impl_Hand ?_
  clear hM; intro g4 W4 hM
  go_frame
  refine wl_nil ?_
  refine cn1 _ _ ?_
  clear cn1
  refine wp_seq_k fun Kn2 cn2 => ?_
  refine wp_seq_k fun Kn3 cn3 => ?_
  refine wl_region ?_
  refine wl_pure (by kernel_rfl) (.pointer (some ⟨g2, 1, none⟩)) (by kernel_rfl) ?_
  go_frame
  refine wl_pure (by kernel_rfl) (.pointer (some ⟨g2, 1, none⟩)) (by kernel_rfl) ?_
  go_frame
  refine wl_loadc (by kernel_rfl) hM 2 rfl 2 _ rfl 1 rfl Try.underlying2 rfl rfl ?_
  go_frame
  refine wl_nil ?_
  refine cn3 _ _ ?_
  clear cn3
  refine wp_block ?_
  refine wp_seq_k fun Kn4 cn4 => ?_
  refine wl_region ?_
  refine wl_pure (by kernel_rfl) (.bool (h.c == 2)) (by kernel_rfl) ?_
  go_frame
  refine wl_pure (by kernel_rfl) (.bool (h.c == 2)) (by kernel_rfl) ?_
  go_frame
  refine wl_nil ?_
  refine cn4 _ _ ?_
  clear cn4
  rcases Bool.eq_false_or_eq_true ((h.c == 2)) with hx1 | hx1
  rw [hx1]
  have hc2 : h.c = 2 := by simpa using hx1
  refine wp_cond_true rfl ?_
  refine wl_region ?_
  refine wl_pure (by kernel_rfl) (.pointer (some ⟨g2, 0, none⟩)) (by kernel_rfl) ?_
  go_frame
  refine wl_storec (by kernel_rfl) hM 2 rfl 2 _ _ rfl rfl 0 rfl (.int .i64 6) rfl rfl rfl I_int64 (by simp [HD.cells]) ?_
  clear hM; intro W5 hM
  refine wl_nil ?_
  refine cn2 _ _ ?_
  clear cn2
  refine wp_seq_k fun Kn5 cn5 => ?_
  rcases Bool.eq_false_or_eq_true ((lockB l h.prev task).2) with hx2 | hx2
  -- region 7, drawn: one after the other
  refine wa_start (fun w => Below w00.heap.size w00 w ∧ Blk w g1 33 [.slice (some ⟨ga0, 0, none⟩) l.length k1, .slice (some ⟨gb0, 0, none⟩) c.length k2] ∧ Blk w g2 36 (HD.cells { h with at_ := 6 })) 8 rfl (by kernel_rfl) ?_
  replace hM := hM.drew
  refine wa_take 0 (some 18) (.agg #[.slice (some ⟨ga0, 0, none⟩) l.length k1, .slice (some ⟨gb0, 0, none⟩) c.length k2]) rfl rfl (by kernel_rfl) (by kernel_rfl) (by kernel_rfl) (fun _ _ _ h => h) (by kernel_rfl) (fun w hS => r_load hS.2.1 33 _ rfl rfl Try.underlying33 I_impl_Shared) ⟨hM.below, hM.blk 3 rfl, hM.blk 2 rfl⟩ ?_
  go_frame
  refine wa_take 1 (some 19) (.pointer (some ⟨g2, 4, none⟩)) rfl rfl (by kernel_rfl) (by kernel_rfl) (by kernel_rfl) (fun _ _ _ h => h) (by kernel_rfl) (fun w hS => by kernel_rfl) ⟨hM.below, hM.blk 3 rfl, hM.blk 2 rfl⟩ ?_
  go_frame
  refine wa_take 2 (some 20) (.int .i64 h.prev) rfl rfl (by kernel_rfl) (by kernel_rfl) (by kernel_rfl) (fun _ _ _ h => h) (by kernel_rfl) (fun w hS => r_loadc hS.2.2 2 _ rfl 4 rfl Try.underlying2 rfl rfl) ⟨hM.below, hM.blk 3 rfl, hM.blk 2 rfl⟩ ?_
  go_frame
  refine wa_take 3 (some 21) (.int .i64 task) rfl rfl (by kernel_rfl) (by kernel_rfl) (by kernel_rfl) (fun _ _ _ h => h) (by kernel_rfl) (fun w hS => by kernel_rfl) ⟨hM.below, hM.blk 3 rfl, hM.blk 2 rfl⟩ ?_
  go_frame
  refine wa_take 5 (some 23) (.agg (HD.cells { h with at_ := 6 }).toArray) rfl rfl (by kernel_rfl) (by kernel_rfl) (by kernel_rfl) (fun _ _ _ h => h) (by kernel_rfl) (fun w hS => r_load hS.2.2 36 _ rfl rfl Try.underlying36 I_impl_Hand) ⟨hM.below, hM.blk 3 rfl, hM.blk 2 rfl⟩ ?_
  go_frame
  refine wa_one 4 (by kernel_rfl) ?_
  refine wo_call (some 22) rfl rfl (by kernel_rfl) 65 #[.agg #[.slice (some ⟨ga0, 0, none⟩) l.length k1, .slice (some ⟨gb0, 0, none⟩) c.length k2], .int .i64 h.prev, .int .i64 task] (by kernel_rfl) (impl_withHold_yes (.slice (some ⟨ga0, 0, none⟩) l.length k1) (some ⟨gb0, 0, none⟩) c.length k2 l h.prev task _ (nsl_blk (hM.blk 4 rfl) q1 q2) hl (has64 qnp hl) hl0 hx2) ?_
  rintro e W6 ⟨m1, j1, r1, rfl, ⟨qa1, qb1, qe1⟩, hg, hO, hb⟩
  replace hM := hM.got hb hg hO
  refine ⟨_, rfl, ⟨hM.below, hM.blk 4 rfl, hM.blk 3 rfl⟩, ?_⟩
  go_frame
  refine wa_one 6 (by kernel_rfl) ?_
  refine wo_store rfl (by kernel_rfl) hM 2 rfl 33 _ _ rfl rfl (by kernel_rfl) [.slice (some ⟨m1, 0, none⟩) ((lockB l h.prev task).1.length) j1, .slice (some ⟨gb0, 0, none⟩) c.length k2] (by kernel_rfl) I_impl_Shared rfl rfl ?_
  clear hM; intro W7 hM
  refine ⟨⟨hM.below, hM.blk 4 rfl, hM.blk 3 rfl⟩, ?_⟩
  refine wa_one 7 (by kernel_rfl) ?_
  refine wo_store rfl (by kernel_rfl) hM 1 rfl 36 _ _ rfl rfl (by kernel_rfl) (HD.cells { h with at_ := 6 }) (by kernel_rfl) I_impl_Hand rfl (hd_one' _) ?_
  clear hM; intro W8 hM
  refine ⟨⟨hM.below, hM.blk 4 rfl, hM.blk 3 rfl⟩, ?_⟩
  refine wa_done (by kernel_rfl) ?_
  refine cn5 _ _ ?_
  clear cn5
  refine wp_ret ?_
  have hR : lockT l task h = .done ((lockB l h.prev task).1) { h with at_ := 6 } := by simp [lockT, holdT, hx1, hx2]
  rw [hR]
  have hN : ((lockB l h.prev task).1 : List ND).length = (lockB l h.prev task).1.length := by first | rfl | simp
  refine bodyPost_ret (ret_sh (p := 6) (q := 7) rfl hM 2 1 rfl rfl rfl rfl Try.underlying33 Try.underlying36 I_impl_Shared I_impl_Hand) rfl (saysg_done ⟨m1, j1, r1, congrArg (fun n : Nat => Ending.returned (.tuple #[.agg #[.slice (some ⟨m1, 0, none⟩) n j1, .slice (some ⟨gb0, 0, none⟩) c.length k2], HD.val _])) hN.symm, ⟨by rw [hN]; exact qa1, qb1, qe1⟩, ?_⟩)
  exact hM.sub (fun i => if i = 0 then 0 else i + 5) (fun i x hx => by cases i with | zero => exact hx | succ i => exact hx) (fun i j _ _ e => by (try simp only at e); split at e <;> split at e <;> omega)
  -- region 7, drawn: one after the other
  refine wa_start (fun w => Below w00.heap.size w00 w ∧ Blk w g1 33 [.slice (some ⟨ga0, 0, none⟩) l.length k1, .slice (some ⟨gb0, 0, none⟩) c.length k2] ∧ Blk w g2 36 (HD.cells { h with at_ := 6 })) 8 rfl (by kernel_rfl) ?_
  replace hM := hM.drew
  refine wa_take 0 (some 18) (.agg #[.slice (some ⟨ga0, 0, none⟩) l.length k1, .slice (some ⟨gb0, 0, none⟩) c.length k2]) rfl rfl (by kernel_rfl) (by kernel_rfl) (by kernel_rfl) (fun _ _ _ h => h) (by kernel_rfl) (fun w hS => r_load hS.2.1 33 _ rfl rfl Try.underlying33 I_impl_Shared) ⟨hM.below, hM.blk 3 rfl, hM.blk 2 rfl⟩ ?_
  go_frame
  refine wa_take 1 (some 19) (.pointer (some ⟨g2, 4, none⟩)) rfl rfl (by kernel_rfl) (by kernel_rfl) (by kernel_rfl) (fun _ _ _ h => h) (by kernel_rfl) (fun w hS => by kernel_rfl) ⟨hM.below, hM.blk 3 rfl, hM.blk 2 rfl⟩ ?_
  go_frame
  refine wa_take 2 (some 20) (.int .i64 h.prev) rfl rfl (by kernel_rfl) (by kernel_rfl) (by kernel_rfl) (fun _ _ _ h => h) (by kernel_rfl) (fun w hS => r_loadc hS.2.2 2 _ rfl 4 rfl Try.underlying2 rfl rfl) ⟨hM.below, hM.blk 3 rfl, hM.blk 2 rfl⟩ ?_
  go_frame
  refine wa_take 3 (some 21) (.int .i64 task) rfl rfl (by kernel_rfl) (by kernel_rfl) (by kernel_rfl) (fun _ _ _ h => h) (by kernel_rfl) (fun w hS => by kernel_rfl) ⟨hM.below, hM.blk 3 rfl, hM.blk 2 rfl⟩ ?_
  go_frame
  refine wa_take 5 (some 23) (.agg (HD.cells { h with at_ := 6 }).toArray) rfl rfl (by kernel_rfl) (by kernel_rfl) (by kernel_rfl) (fun _ _ _ h => h) (by kernel_rfl) (fun w hS => r_load hS.2.2 36 _ rfl rfl Try.underlying36 I_impl_Hand) ⟨hM.below, hM.blk 3 rfl, hM.blk 2 rfl⟩ ?_
  go_frame
  refine wa_one 4 (by kernel_rfl) ?_
  refine wo_panics rfl (by kernel_rfl) 65 #[.agg #[.slice (some ⟨ga0, 0, none⟩) l.length k1, .slice (some ⟨gb0, 0, none⟩) c.length k2], .int .i64 h.prev, .int .i64 task] (by kernel_rfl) (impl_withHold_no (.slice (some ⟨ga0, 0, none⟩) l.length k1) (some ⟨gb0, 0, none⟩) c.length k2 l h.prev task _ (nsl_blk (hM.blk 4 rfl) q1 q2) hl (has64 qnp hl) hl0 hx2) ?_
  rintro e W6 ⟨rfl, hb⟩
  replace hM := hM.call hb
  refine ⟨_, rfl, ?_⟩
  have hR : lockT l task h = .gives 1 := by simp [lockT, holdT, hx1, hx2]
  rw [hR]
  exact ⟨rfl, saysg_gives hM.below⟩
  rw [hx1]
  refine wp_cond_false rfl ?_
  refine wp_seq_k fun Kn5 cn5 => ?_
  refine wl_region ?_
  refine wl_pure (by kernel_rfl) (.bool (h.c == 3)) (by kernel_rfl) ?_
  go_frame
  refine wl_pure (by kernel_rfl) (.bool (h.c == 3)) (by kernel_rfl) ?_
  go_frame
  refine wl_nil ?_
  refine cn5 _ _ ?_
  clear cn5
  rcases Bool.eq_false_or_eq_true ((h.c == 3)) with hx3 | hx3
  rw [hx3]
  have hc3 : h.c = 3 := by simpa using hx3
  refine wp_cond_true rfl ?_
  refine wl_region ?_
  refine wl_pure (by kernel_rfl) (.pointer (some ⟨g2, 0, none⟩)) (by kernel_rfl) ?_
  go_frame
  refine wl_storec (by kernel_rfl) hM 2 rfl 2 _ _ rfl rfl 0 rfl (.int .i64 9) rfl rfl rfl I_int64 (by simp [HD.cells]) ?_
  clear hM; intro W5 hM
  refine wl_nil ?_
  refine cn2 _ _ ?_
  clear cn2
  refine wp_seq_k fun Kn6 cn6 => ?_
  rcases Bool.eq_false_or_eq_true ((lockB l h.prev task).2) with hx4 | hx4
  -- region 7, drawn: one after the other
  refine wa_start (fun w => Below w00.heap.size w00 w ∧ Blk w g1 33 [.slice (some ⟨ga0, 0, none⟩) l.length k1, .slice (some ⟨gb0, 0, none⟩) c.length k2] ∧ Blk w g2 36 (HD.cells { h with at_ := 9 })) 8 rfl (by kernel_rfl) ?_
  replace hM := hM.drew
  refine wa_take 0 (some 18) (.agg #[.slice (some ⟨ga0, 0, none⟩) l.length k1, .slice (some ⟨gb0, 0, none⟩) c.length k2]) rfl rfl (by kernel_rfl) (by kernel_rfl) (by kernel_rfl) (fun _ _ _ h => h) (by kernel_rfl) (fun w hS => r_load hS.2.1 33 _ rfl rfl Try.underlying33 I_impl_Shared) ⟨hM.below, hM.blk 3 rfl, hM.blk 2 rfl⟩ ?_
  go_frame
  refine wa_take 1 (some 19) (.pointer (some ⟨g2, 4, none⟩)) rfl rfl (by kernel_rfl) (by kernel_rfl) (by kernel_rfl) (fun _ _ _ h => h) (by kernel_rfl) (fun w hS => by kernel_rfl) ⟨hM.below, hM.blk 3 rfl, hM.blk 2 rfl⟩ ?_
  go_frame
  refine wa_take 2 (some 20) (.int .i64 h.prev) rfl rfl (by kernel_rfl) (by kernel_rfl) (by kernel_rfl) (fun _ _ _ h => h) (by kernel_rfl) (fun w hS => r_loadc hS.2.2 2 _ rfl 4 rfl Try.underlying2 rfl rfl) ⟨hM.below, hM.blk 3 rfl, hM.blk 2 rfl⟩ ?_
  go_frame
  refine wa_take 3 (some 21) (.int .i64 task) rfl rfl (by kernel_rfl) (by kernel_rfl) (by kernel_rfl) (fun _ _ _ h => h) (by kernel_rfl) (fun w hS => by kernel_rfl) ⟨hM.below, hM.blk 3 rfl, hM.blk 2 rfl⟩ ?_
  go_frame
  refine wa_take 5 (some 23) (.agg (HD.cells { h with at_ := 9 }).toArray) rfl rfl (by kernel_rfl) (by kernel_rfl) (by kernel_rfl) (fun _ _ _ h => h) (by kernel_rfl) (fun w hS => r_load hS.2.2 36 _ rfl rfl Try.underlying36 I_impl_Hand) ⟨hM.below, hM.blk 3 rfl, hM.blk 2 rfl⟩ ?_
  go_frame
  refine wa_one 4 (by kernel_rfl) ?_
  refine wo_call (some 22) rfl rfl (by kernel_rfl) 65 #[.agg #[.slice (some ⟨ga0, 0, none⟩) l.length k1, .slice (some ⟨gb0, 0, none⟩) c.length k2], .int .i64 h.prev, .int .i64 task] (by kernel_rfl) (impl_withHold_yes (.slice (some ⟨ga0, 0, none⟩) l.length k1) (some ⟨gb0, 0, none⟩) c.length k2 l h.prev task _ (nsl_blk (hM.blk 4 rfl) q1 q2) hl (has64 qnp hl) hl0 hx4) ?_
  rintro e W6 ⟨m1, j1, r1, rfl, ⟨qa1, qb1, qe1⟩, hg, hO, hb⟩
  replace hM := hM.got hb hg hO
  refine ⟨_, rfl, ⟨hM.below, hM.blk 4 rfl, hM.blk 3 rfl⟩, ?_⟩
  go_frame
  refine wa_one 6 (by kernel_rfl) ?_
  refine wo_store rfl (by kernel_rfl) hM 2 rfl 33 _ _ rfl rfl (by kernel_rfl) [.slice (some ⟨m1, 0, none⟩) ((lockB l h.prev task).1.length) j1, .slice (some ⟨gb0, 0, none⟩) c.length k2] (by kernel_rfl) I_impl_Shared rfl rfl ?_
  clear hM; intro W7 hM
  refine ⟨⟨hM.below, hM.blk 4 rfl, hM.blk 3 rfl⟩, ?_⟩
  refine wa_one 7 (by kernel_rfl) ?_
  refine wo_store rfl (by kernel_rfl) hM 1 rfl 36 _ _ rfl rfl (by kernel_rfl) (HD.cells { h with at_ := 9 }) (by kernel_rfl) I_impl_Hand rfl (hd_one' _) ?_
  clear hM; intro W8 hM
  refine ⟨⟨hM.below, hM.blk 4 rfl, hM.blk 3 rfl⟩, ?_⟩
  refine wa_done (by kernel_rfl) ?_
  refine cn6 _ _ ?_
  clear cn6
  refine wp_ret ?_
  have hR : lockT l task h = .done ((lockB l h.prev task).1) { h with at_ := 9 } := by simp [lockT, holdT, hx1, hx3, hx4]
  rw [hR]
  have hN : ((lockB l h.prev task).1 : List ND).length = (lockB l h.prev task).1.length := by first | rfl | simp
  refine bodyPost_ret (ret_sh (p := 6) (q := 7) rfl hM 2 1 rfl rfl rfl rfl Try.underlying33 Try.underlying36 I_impl_Shared I_impl_Hand) rfl (saysg_done ⟨m1, j1, r1, congrArg (fun n : Nat => Ending.returned (.tuple #[.agg #[.slice (some ⟨m1, 0, none⟩) n j1, .slice (some ⟨gb0, 0, none⟩) c.length k2], HD.val _])) hN.symm, ⟨by rw [hN]; exact qa1, qb1, qe1⟩, ?_⟩)
  exact hM.sub (fun i => if i = 0 then 0 else i + 5) (fun i x hx => by cases i with | zero => exact hx | succ i => exact hx) (fun i j _ _ e => by (try simp only at e); split at e <;> split at e <;> omega)
  -- region 7, drawn: one after the other
  refine wa_start (fun w => Below w00.heap.size w00 w ∧ Blk w g1 33 [.slice (some ⟨ga0, 0, none⟩) l.length k1, .slice (some ⟨gb0, 0, none⟩) c.length k2] ∧ Blk w g2 36 (HD.cells { h with at_ := 9 })) 8 rfl (by kernel_rfl) ?_
  replace hM := hM.drew
  refine wa_take 0 (some 18) (.agg #[.slice (some ⟨ga0, 0, none⟩) l.length k1, .slice (some ⟨gb0, 0, none⟩) c.length k2]) rfl rfl (by kernel_rfl) (by kernel_rfl) (by kernel_rfl) (fun _ _ _ h => h) (by kernel_rfl) (fun w hS => r_load hS.2.1 33 _ rfl rfl Try.underlying33 I_impl_Shared) ⟨hM.below, hM.blk 3 rfl, hM.blk 2 rfl⟩ ?_
  go_frame
  refine wa_take 1 (some 19) (.pointer (some ⟨g2, 4, none⟩)) rfl rfl (by kernel_rfl) (by kernel_rfl) (by kernel_rfl) (fun _ _ _ h => h) (by kernel_rfl) (fun w hS => by kernel_rfl) ⟨hM.below, hM.blk 3 rfl, hM.blk 2 rfl⟩ ?_
  go_frame
  refine wa_take 2 (some 20) (.int .i64 h.prev) rfl rfl (by kernel_rfl) (by kernel_rfl) (by kernel_rfl) (fun _ _ _ h => h) (by kernel_rfl) (fun w hS => r_loadc hS.2.2 2 _ rfl 4 rfl Try.underlying2 rfl rfl) ⟨hM.below, hM.blk 3 rfl, hM.blk 2 rfl⟩ ?_
  go_frame
  refine wa_take 3 (some 21) (.int .i64 task) rfl rfl (by kernel_rfl) (by kernel_rfl) (by kernel_rfl) (fun _ _ _ h => h) (by kernel_rfl) (fun w hS => by kernel_rfl) ⟨hM.below, hM.blk 3 rfl, hM.blk 2 rfl⟩ ?_
  go_frame
  refine wa_take 5 (some 23) (.agg (HD.cells { h with at_ := 9 }).toArray) rfl rfl (by kernel_rfl) (by kernel_rfl) (by kernel_rfl) (fun _ _ _ h => h) (by kernel_rfl) (fun w hS => r_load hS.2.2 36 _ rfl rfl Try.underlying36 I_impl_Hand) ⟨hM.below, hM.blk 3 rfl, hM.blk 2 rfl⟩ ?_
  go_frame
  refine wa_one 4 (by kernel_rfl) ?_
  refine wo_panics rfl (by kernel_rfl) 65 #[.agg #[.slice (some ⟨ga0, 0, none⟩) l.length k1, .slice (some ⟨gb0, 0, none⟩) c.length k2], .int .i64 h.prev, .int .i64 task] (by kernel_rfl) (impl_withHold_no (.slice (some ⟨ga0, 0, none⟩) l.length k1) (some ⟨gb0, 0, none⟩) c.length k2 l h.prev task _ (nsl_blk (hM.blk 4 rfl) q1 q2) hl (has64 qnp hl) hl0 hx4) ?_
  rintro e W6 ⟨rfl, hb⟩
  replace hM := hM.call hb
  refine ⟨_, rfl, ?_⟩
  have hR : lockT l task h = .gives 1 := by simp [lockT, holdT, hx1, hx3, hx4]
  rw [hR]
  exact ⟨rfl, saysg_gives hM.below⟩
  rw [hx3]
  refine wp_cond_false rfl ?_
  refine wl_region ?_
  refine wl_pure (by kernel_rfl) (.iface 79 (.int .i64 0)) (by kernel_rfl) ?_
  go_frame
  refine wl_panic (by kernel_rfl) (.iface 79 (.int .i64 0)) (by kernel_rfl) ?_
  have hR : lockT l task h = .gives 0 := by simp [lockT, holdT, hx1, hx3]
  rw [hR]
  exact ⟨rfl, saysg_gives hM.below⟩

set_option maxRecDepth 100000 in
set_option maxHeartbeats 4000000 in
theorem impl_checkPlace (l : List ND) (c : List Int) (task : Int) (h : HD) (hok : canB l c task h = true) : TouchG 50 l c task h (checkT l h) := by
  intro ga0 k1 p1 gb0 k2 p2 L w00 w0 hM0 q1 q2 q3 q4 q5 q6
  obtain ⟨hl0, hc0, hl1, hc1, hat, kt, hkt0, hkt, hcnt, hnodes, qnp, qnc, qnu, qnx, qnw⟩ := ok_facts (can_ok hok)
  have ht : task.toNat = kt := by omega
  have hl30 := (nodes_some hnodes).2
  have hl : l.length ≤ 1048576 := by omega
  obtain ⟨knp, ⟨npk, npv, npl, npr, npo, npg, nplt, nprt⟩, hknp, npe, hlnp, hnnp⟩ := nd_at qnp
  have tnp : h.prev.toNat = knp := by omega
  unfold HD.val
  have hM := hM0
  go_enter Try.func50, Try.ntmps50
  refine wp_seq_k fun Kn1 cn1 => ?_
  refine wl_region ?_
  refine wl_box (by kernel_rfl) hM 33 _ rfl [.slice (some ⟨ga0, 0, none⟩) l.length k1, .slice (some ⟨gb0, 0, none⟩) c.length k2] rfl ?_
  clear hM; intro g1 W1 hM
  go_frame
  refine wl_box (by kernel_rfl) hM 36 _ rfl (HD.cells h) rfl ?_
  clear hM; intro g2 W2 hM
  go_frame
  refine wl_alloc (by kernel_rfl) hM 33 rfl [.slice none 0 0, .slice none 0 0] Z_impl_Shared ?_
  clear hM; intro g3 W3 hM
  go_frame
  refine wl_alloc (by kernel_rfl) hM 36 rfl (HD.cells HD.zero) Z_impl_Hand ?_
  clear hM; intro g4 W4 hM
  go_frame
  refine wl_nil ?_
  refine cn1 _ _ ?_
  clear cn1
  refine wp_seq_k fun Kn2 cn2 => ?_
  refine wl_region ?_
  refine wl_load (by kernel_rfl) hM 2 rfl 36 _ rfl rfl Try.underlying36 I_impl_Hand ?_
  go_frame
  rcases Bool.eq_false_or_eq_true ((h.c != 2)) with hx2 | hx2
  refine wl_panics (by kernel_rfl) 66 #[.int .i64 2, .agg (HD.cells h).toArray] (by kernel_rfl) (impl_onlyOf_no 2 h _ hx2) ?_
  rintro e W5 ⟨rfl, hb⟩
  replace hM := hM.call hb
  refine ⟨_, rfl, ?_⟩
  have hR : checkT l h = .gives 0 := by simp [checkT, againH, hx2, npe, tnp]
  rw [hR]
  exact ⟨rfl, saysg_gives hM.below⟩
  refine wl_call (by kernel_rfl) 66 #[.int .i64 2, .agg (HD.cells h).toArray] (by kernel_rfl) (impl_onlyOf_yes 2 h _ hx2) ?_
  rintro e W5 ⟨rfl, hb⟩
  refine ⟨_, rfl, ?_⟩
  replace hM := hM.call hb
  go_frame
  refine wl_nil ?_
  refine cn2 _ _ ?_
  clear cn2
  refine wp_seq_k fun Kn3 cn3 => ?_
  refine wl_region ?_
  refine wl_pure (by kernel_rfl) (.pointer (some ⟨g1, 0, none⟩)) (by kernel_rfl) ?_
  go_frame
  refine wl_loadc (by kernel_rfl) hM 3 rfl 31 _ rfl 0 rfl Try.underlying31 rfl rfl ?_
  go_frame
  refine wl_pure (by kernel_rfl) (.pointer (some ⟨g2, 4, none⟩)) (by kernel_rfl) ?_
  go_frame
  refine wl_loadc (by kernel_rfl) hM 2 rfl 2 _ rfl 4 rfl Try.underlying2 rfl rfl ?_
  go_frame
  refine wl_index (by kernel_rfl) 31 51 _ _ rfl ga0 0 l.length k1 8 knp rfl rfl hknp (by omega) Try.underlying31 I_impl_Node ?_
  go_frame
  refine wl_part (by kernel_rfl) hM 4 rfl 51 _ rfl (0 + knp * 8) rfl Try.underlying51 (ND.cells ⟨npk, npv, npl, npr, npo, npg, nplt, nprt⟩) I_impl_Node (node_part hnnp) ?_
  go_frame
  refine wl_alloc (by kernel_rfl) hM 51 rfl [.int .i64 0, .int .i64 0, .int .i64 0, .int .i64 0, .int .i64 0, .bool false, .int .i64 0, .int .i64 0] Z_impl_Node ?_
  clear hM; intro g5 W6 hM
  go_frame
  refine wl_store (by kernel_rfl) hM 0 rfl 51 _ _ rfl rfl rfl (ND.cells ⟨npk, npv, npl, npr, npo, npg, nplt, nprt⟩) rfl I_impl_Node rfl (nd_one _) ?_
  clear hM; intro W7 hM
  refine wl_nil ?_
  refine cn3 _ _ ?_
  clear cn3
  refine wp_seq_k fun Kn4 cn4 => ?_
  refine wp_seq_k fun Kn5 cn5 => ?_
  cases npg
  rcases Bool.eq_false_or_eq_true (((kidF h.side npl npr) != 0)) with hx3 | hx3
  -- region 3, drawn: one after the other
  refine wa_start (fun w => Below w00.heap.size w00 w ∧ Blk w g5 51 (ND.cells ⟨npk, npv, npl, npr, npo, false, nplt, nprt⟩) ∧ Blk w g2 36 (HD.cells h)) 18 rfl (by kernel_rfl) ?_
  replace hM := hM.drew
  refine wa_take 0 (some 17) (.pointer (some ⟨g5, 5, none⟩)) rfl rfl (by kernel_rfl) (by kernel_rfl) (by kernel_rfl) (fun _ _ _ h => h) (by kernel_rfl) (fun w hS => by kernel_rfl) ⟨hM.below, hM.blk 0 rfl, hM.blk 3 rfl⟩ ?_
  go_frame
  refine wa_take 1 (some 18) (.bool false) rfl rfl (by kernel_rfl) (by kernel_rfl) (by kernel_rfl) (fun _ _ _ h => h) (by kernel_rfl) (fun w hS => r_loadc hS.2.1 4 _ rfl 5 rfl Try.underlying4 rfl rfl) ⟨hM.below, hM.blk 0 rfl, hM.blk 3 rfl⟩ ?_
  go_frame
  refine wa_take 2 (some 19) (.bool false) rfl rfl (by kernel_rfl) (by kernel_rfl) (by kernel_rfl) (fun _ _ _ h => h) (by kernel_rfl) (fun w hS => by kernel_rfl) ⟨hM.below, hM.blk 0 rfl, hM.blk 3 rfl⟩ ?_
  go_frame
  refine wa_take 3 (some 20) (.agg (ND.cells ⟨npk, npv, npl, npr, npo, false, nplt, nprt⟩).toArray) rfl rfl (by kernel_rfl) (by kernel_rfl) (by kernel_rfl) (fun _ _ _ h => h) (by kernel_rfl) (fun w hS => r_load hS.2.1 51 _ rfl rfl Try.underlying51 I_impl_Node) ⟨hM.below, hM.blk 0 rfl, hM.blk 3 rfl⟩ ?_
  go_frame
  refine wa_take 4 (some 21) (.pointer (some ⟨g2, 6, none⟩)) rfl rfl (by kernel_rfl) (by kernel_rfl) (by kernel_rfl) (fun _ _ _ h => h) (by kernel_rfl) (fun w hS => by kernel_rfl) ⟨hM.below, hM.blk 0 rfl, hM.blk 3 rfl⟩ ?_
  go_frame
  refine wa_take 5 (some 22) (.int .i64 h.side) rfl rfl (by kernel_rfl) (by kernel_rfl) (by kernel_rfl) (fun _ _ _ h => h) (by kernel_rfl) (fun w hS => r_loadc hS.2.2 2 _ rfl 6 rfl Try.underlying2 rfl rfl) ⟨hM.below, hM.blk 0 rfl, hM.blk 3 rfl⟩ ?_
  go_frame
  refine wa_one 6 (by kernel_rfl) ?_
  refine wo_call (some 23) rfl rfl (by kernel_rfl) 67 #[.agg (ND.cells ⟨npk, npv, npl, npr, npo, false, nplt, nprt⟩).toArray, .int .i64 h.side] (by kernel_rfl) (impl_KidOf npk npv npl npr npo false nplt nprt h.side _) ?_
  rintro e W8 ⟨rfl, hb⟩
  replace hM := hM.call hb
  refine ⟨_, rfl, ⟨hM.below, hM.blk 0 rfl, hM.blk 3 rfl⟩, ?_⟩
  go_frame
  refine wa_take 7 (some 24) (.bool true) rfl rfl (by kernel_rfl) (by kernel_rfl) (by kernel_rfl) (fun _ _ _ h => h) (by kernel_rfl) (fun w hS => r_eq (v := .bool ((kidF h.side npl npr) != 0)) (by kernel_rfl) (congrArg Value.bool hx3)) ⟨hM.below, hM.blk 0 rfl, hM.blk 3 rfl⟩ ?_
  go_frame
  refine wa_take 8 (some 25) (.bool true) rfl rfl (by kernel_rfl) (by kernel_rfl) (by kernel_rfl) (fun _ _ _ h => h) (by kernel_rfl) (fun w hS => by kernel_rfl) ⟨hM.below, hM.blk 0 rfl, hM.blk 3 rfl⟩ ?_
  go_frame
  refine wa_take 9 (some 26) (.bool true) rfl rfl (by kernel_rfl) (by kernel_rfl) (by kernel_rfl) (fun _ _ _ h => h) (by kernel_rfl) (fun w hS => by kernel_rfl) ⟨hM.below, hM.blk 0 rfl, hM.blk 3 rfl⟩ ?_
  go_frame
  refine wa_skip 10 (some 27) rfl rfl (by kernel_rfl) (by kernel_rfl) (by kernel_rfl) (fun _ _ _ h => h) (by kernel_rfl) ⟨hM.below, hM.blk 0 rfl, hM.blk 3 rfl⟩ ?_
  go_frame
  refine wa_skip 11 (some 28) rfl rfl (by kernel_rfl) (by kernel_rfl) (by kernel_rfl) (fun _ _ _ h => h) (by kernel_rfl) ⟨hM.below, hM.blk 0 rfl, hM.blk 3 rfl⟩ ?_
  go_frame
  refine wa_skip 12 (some 29) rfl rfl (by kernel_rfl) (by kernel_rfl) (by kernel_rfl) (fun _ _ _ h => h) (by kernel_rfl) ⟨hM.below, hM.blk 0 rfl, hM.blk 3 rfl⟩ ?_
  go_frame
  refine wa_skip 13 (some 30) rfl rfl (by kernel_rfl) (by kernel_rfl) (by kernel_rfl) (fun _ _ _ h => h) (by kernel_rfl) ⟨hM.below, hM.blk 0 rfl, hM.blk 3 rfl⟩ ?_
  go_frame
  refine wa_skip 14 (some 31) rfl rfl (by kernel_rfl) (by kernel_rfl) (by kernel_rfl) (fun _ _ _ h => h) (by kernel_rfl) ⟨hM.below, hM.blk 0 rfl, hM.blk 3 rfl⟩ ?_
  go_frame
  refine wa_skip 15 (some 32) rfl rfl (by kernel_rfl) (by kernel_rfl) (by kernel_rfl) (fun _ _ _ h => h) (by kernel_rfl) ⟨hM.below, hM.blk 0 rfl, hM.blk 3 rfl⟩ ?_
  go_frame
  refine wa_skip 16 (some 33) rfl rfl (by kernel_rfl) (by kernel_rfl) (by kernel_rfl) (fun _ _ _ h => h) (by kernel_rfl) ⟨hM.below, hM.blk 0 rfl, hM.blk 3 rfl⟩ ?_
  go_frame
  refine wa_take 17 (some 34) (.bool true) rfl rfl (by kernel_rfl) (by kernel_rfl) (by kernel_rfl) (fun _ _ _ h => h) (by kernel_rfl) (fun w hS => by kernel_rfl) ⟨hM.below, hM.blk 0 rfl, hM.blk 3 rfl⟩ ?_
  go_frame
  refine wa_done (by kernel_rfl) ?_
  refine cn5 _ _ ?_
  clear cn5
  refine wp_cond_true rfl ?_
  refine wp_seq_k fun Kn6 cn6 => ?_
  refine wl_region ?_
  refine wl_pure (by kernel_rfl) (.pointer (some ⟨g2, 0, none⟩)) (by kernel_rfl) ?_
  go_frame
  refine wl_storec (by kernel_rfl) hM 3 rfl 2 _ _ rfl rfl 0 rfl (.int .i64 26) rfl rfl rfl I_int64 (by simp [HD.cells]) ?_
  clear hM; intro W9 hM
  refine wl_pure (by kernel_rfl) (.pointer (some ⟨g2, 13, none⟩)) (by kernel_rfl) ?_
  go_frame
  refine wl_storec (by kernel_rfl) hM 3 rfl 4 _ _ rfl rfl 13 rfl (.bool true) rfl rfl rfl I_bool (by simp [HD.cells]) ?_
  clear hM; intro W10 hM
  refine wl_nil ?_
  refine cn6 _ _ ?_
  clear cn6
  refine wp_seq_k fun Kn7 cn7 => ?_
  -- region 5, drawn: one after the other
  refine wa_start (fun w => Below w00.heap.size w00 w ∧ Blk w g1 33 [.slice (some ⟨ga0, 0, none⟩) l.length k1, .slice (some ⟨gb0, 0, none⟩) c.length k2] ∧ Blk w g2 36 (HD.cells { h with at_ := 26, again := true })) 4 rfl (by kernel_rfl) ?_
  replace hM := hM.drew
  refine wa_take 0 (some 37) (.agg #[.slice (some ⟨ga0, 0, none⟩) l.length k1, .slice (some ⟨gb0, 0, none⟩) c.length k2]) rfl rfl (by kernel_rfl) (by kernel_rfl) (by kernel_rfl) (fun _ _ _ h => h) (by kernel_rfl) (fun w hS => r_load hS.2.1 33 _ rfl rfl Try.underlying33 I_impl_Shared) ⟨hM.below, hM.blk 4 rfl, hM.blk 3 rfl⟩ ?_
  go_frame
  refine wa_take 1 (some 38) (.agg (HD.cells { h with at_ := 26, again := true }).toArray) rfl rfl (by kernel_rfl) (by kernel_rfl) (by kernel_rfl) (fun _ _ _ h => h) (by kernel_rfl) (fun w hS => r_load hS.2.2 36 _ rfl rfl Try.underlying36 I_impl_Hand) ⟨hM.below, hM.blk 4 rfl, hM.blk 3 rfl⟩ ?_
  go_frame
  refine wa_one 2 (by kernel_rfl) ?_
  refine wo_store rfl (by kernel_rfl) hM 2 rfl 33 _ _ rfl rfl (by kernel_rfl) [.slice (some ⟨ga0, 0, none⟩) l.length k1, .slice (some ⟨gb0, 0, none⟩) c.length k2] (by kernel_rfl) I_impl_Shared rfl rfl ?_
  clear hM; intro W11 hM
  refine ⟨⟨hM.below, hM.blk 4 rfl, hM.blk 3 rfl⟩, ?_⟩
  refine wa_one 3 (by kernel_rfl) ?_
  refine wo_store rfl (by kernel_rfl) hM 1 rfl 36 _ _ rfl rfl (by kernel_rfl) (HD.cells { h with at_ := 26, again := true }) (by kernel_rfl) I_impl_Hand rfl (hd_one' _) ?_
  clear hM; intro W12 hM
  refine ⟨⟨hM.below, hM.blk 4 rfl, hM.blk 3 rfl⟩, ?_⟩
  refine wa_done (by kernel_rfl) ?_
  refine cn7 _ _ ?_
  clear cn7
  refine wp_ret ?_
  simp only [Exit.then, Exit.inBlock]
  have hR : checkT l h = .done l { h with at_ := 26, again := true } := by simp [checkT, againH, hx2, hx3, npe, tnp]
  rw [hR]
  have hN : (l : List ND).length = l.length := by first | rfl | simp
  refine bodyPost_ret (ret_sh (p := 6) (q := 7) rfl hM 2 1 rfl rfl rfl rfl Try.underlying33 Try.underlying36 I_impl_Shared I_impl_Hand) rfl (saysg_done ⟨ga0, k1, p1, congrArg (fun n : Nat => Ending.returned (.tuple #[.agg #[.slice (some ⟨ga0, 0, none⟩) n k1, .slice (some ⟨gb0, 0, none⟩) c.length k2], HD.val _])) hN.symm, ⟨by rw [hN]; exact q1, q2, q5⟩, ?_⟩)
  exact hM.sub (fun i => i + 5) (fun i b hb => hb) (fun i j _ _ e => by omega)
  -- region 3, drawn: one after the other
  refine wa_start (fun w => Below w00.heap.size w00 w ∧ Blk w g5 51 (ND.cells ⟨npk, npv, npl, npr, npo, false, nplt, nprt⟩) ∧ Blk w g2 36 (HD.cells h)) 18 rfl (by kernel_rfl) ?_
  replace hM := hM.drew
  refine wa_take 0 (some 17) (.pointer (some ⟨g5, 5, none⟩)) rfl rfl (by kernel_rfl) (by kernel_rfl) (by kernel_rfl) (fun _ _ _ h => h) (by kernel_rfl) (fun w hS => by kernel_rfl) ⟨hM.below, hM.blk 0 rfl, hM.blk 3 rfl⟩ ?_
  go_frame
  refine wa_take 1 (some 18) (.bool false) rfl rfl (by kernel_rfl) (by kernel_rfl) (by kernel_rfl) (fun _ _ _ h => h) (by kernel_rfl) (fun w hS => r_loadc hS.2.1 4 _ rfl 5 rfl Try.underlying4 rfl rfl) ⟨hM.below, hM.blk 0 rfl, hM.blk 3 rfl⟩ ?_
  go_frame
  refine wa_take 2 (some 19) (.bool false) rfl rfl (by kernel_rfl) (by kernel_rfl) (by kernel_rfl) (fun _ _ _ h => h) (by kernel_rfl) (fun w hS => by kernel_rfl) ⟨hM.below, hM.blk 0 rfl, hM.blk 3 rfl⟩ ?_
  go_frame
  refine wa_take 3 (some 20) (.agg (ND.cells ⟨npk, npv, npl, npr, npo, false, nplt, nprt⟩).toArray) rfl rfl (by kernel_rfl) (by kernel_rfl) (by kernel_rfl) (fun _ _ _ h => h) (by kernel_rfl) (fun w hS => r_load hS.2.1 51 _ rfl rfl Try.underlying51 I_impl_Node) ⟨hM.below, hM.blk 0 rfl, hM.blk 3 rfl⟩ ?_
  go_frame
  refine wa_take 4 (some 21) (.pointer (some ⟨g2, 6, none⟩)) rfl rfl (by kernel_rfl) (by kernel_rfl) (by kernel_rfl) (fun _ _ _ h => h) (by kernel_rfl) (fun w hS => by kernel_rfl) ⟨hM.below, hM.blk 0 rfl, hM.blk 3 rfl⟩ ?_
  go_frame
  refine wa_take 5 (some 22) (.int .i64 h.side) rfl rfl (by kernel_rfl) (by kernel_rfl) (by kernel_rfl) (fun _ _ _ h => h) (by kernel_rfl) (fun w hS => r_loadc hS.2.2 2 _ rfl 6 rfl Try.underlying2 rfl rfl) ⟨hM.below, hM.blk 0 rfl, hM.blk 3 rfl⟩ ?_
  go_frame
  refine wa_one 6 (by kernel_rfl) ?_
  refine wo_call (some 23) rfl rfl (by kernel_rfl) 67 #[.agg (ND.cells ⟨npk, npv, npl, npr, npo, false, nplt, nprt⟩).toArray, .int .i64 h.side] (by kernel_rfl) (impl_KidOf npk npv npl npr npo false nplt nprt h.side _) ?_
  rintro e W8 ⟨rfl, hb⟩
  replace hM := hM.call hb
  refine ⟨_, rfl, ⟨hM.below, hM.blk 0 rfl, hM.blk 3 rfl⟩, ?_⟩
  go_frame
  refine wa_take 7 (some 24) (.bool false) rfl rfl (by kernel_rfl) (by kernel_rfl) (by kernel_rfl) (fun _ _ _ h => h) (by kernel_rfl) (fun w hS => r_eq (v := .bool ((kidF h.side npl npr) != 0)) (by kernel_rfl) (congrArg Value.bool hx3)) ⟨hM.below, hM.blk 0 rfl, hM.blk 3 rfl⟩ ?_
  go_frame
  refine wa_take 8 (some 25) (.bool false) rfl rfl (by kernel_rfl) (by kernel_rfl) (by kernel_rfl) (fun _ _ _ h => h) (by kernel_rfl) (fun w hS => by kernel_rfl) ⟨hM.below, hM.blk 0 rfl, hM.blk 3 rfl⟩ ?_
  go_frame
  refine wa_take 9 (some 26) (.bool false) rfl rfl (by kernel_rfl) (by kernel_rfl) (by kernel_rfl) (fun _ _ _ h => h) (by kernel_rfl) (fun w hS => by kernel_rfl) ⟨hM.below, hM.blk 0 rfl, hM.blk 3 rfl⟩ ?_
  go_frame
  refine wa_take 10 (some 27) (.agg (ND.cells ⟨npk, npv, npl, npr, npo, false, nplt, nprt⟩).toArray) rfl rfl (by kernel_rfl) (by kernel_rfl) (by kernel_rfl) (fun _ _ _ h => h) (by kernel_rfl) (fun w hS => r_load hS.2.1 51 _ rfl rfl Try.underlying51 I_impl_Node) ⟨hM.below, hM.blk 0 rfl, hM.blk 3 rfl⟩ ?_
  go_frame
  refine wa_take 11 (some 28) (.pointer (some ⟨g2, 6, none⟩)) rfl rfl (by kernel_rfl) (by kernel_rfl) (by kernel_rfl) (fun _ _ _ h => h) (by kernel_rfl) (fun w hS => by kernel_rfl) ⟨hM.below, hM.blk 0 rfl, hM.blk 3 rfl⟩ ?_
  go_frame
  refine wa_take 12 (some 29) (.int .i64 h.side) rfl rfl (by kernel_rfl) (by kernel_rfl) (by kernel_rfl) (fun _ _ _ h => h) (by kernel_rfl) (fun w hS => r_loadc hS.2.2 2 _ rfl 6 rfl Try.underlying2 rfl rfl) ⟨hM.below, hM.blk 0 rfl, hM.blk 3 rfl⟩ ?_
  go_frame
  refine wa_take 14 (some 31) (.pointer (some ⟨g2, 7, none⟩)) rfl rfl (by kernel_rfl) (by kernel_rfl) (by kernel_rfl) (fun _ _ _ h => h) (by kernel_rfl) (fun w hS => by kernel_rfl) ⟨hM.below, hM.blk 0 rfl, hM.blk 3 rfl⟩ ?_
  go_frame
  refine wa_take 15 (some 32) (.int .i64 h.tag) rfl rfl (by kernel_rfl) (by kernel_rfl) (by kernel_rfl) (fun _ _ _ h => h) (by kernel_rfl) (fun w hS => r_loadc hS.2.2 2 _ rfl 7 rfl Try.underlying2 rfl rfl) ⟨hM.below, hM.blk 0 rfl, hM.blk 3 rfl⟩ ?_
  go_frame
  refine wa_one 13 (by kernel_rfl) ?_
  refine wo_call (some 30) rfl rfl (by kernel_rfl) 68 #[.agg (ND.cells ⟨npk, npv, npl, npr, npo, false, nplt, nprt⟩).toArray, .int .i64 h.side] (by kernel_rfl) (impl_TagAt npk npv npl npr npo false nplt nprt h.side _) ?_
  rintro e W9 ⟨rfl, hb⟩
  replace hM := hM.call hb
  refine ⟨_, rfl, ⟨hM.below, hM.blk 0 rfl, hM.blk 3 rfl⟩, ?_⟩
  go_frame
  refine wa_take 16 (some 33) (.bool ((kidF h.side nplt nprt) != h.tag)) rfl rfl (by kernel_rfl) (by kernel_rfl) (by kernel_rfl) (fun _ _ _ h => h) (by kernel_rfl) (fun w hS => by kernel_rfl) ⟨hM.below, hM.blk 0 rfl, hM.blk 3 rfl⟩ ?_
  go_frame
  refine wa_take 17 (some 34) (.bool ((kidF h.side nplt nprt) != h.tag)) rfl rfl (by kernel_rfl) (by kernel_rfl) (by kernel_rfl) (fun _ _ _ h => h) (by kernel_rfl) (fun w hS => by kernel_rfl) ⟨hM.below, hM.blk 0 rfl, hM.blk 3 rfl⟩ ?_
  go_frame
  refine wa_done (by kernel_rfl) ?_
  refine cn5 _ _ ?_
  clear cn5
  rcases Bool.eq_false_or_eq_true (((kidF h.side nplt nprt) != h.tag)) with hx4 | hx4
  rw [hx4]
  refine wp_cond_true rfl ?_
  refine wp_seq_k fun Kn6 cn6 => ?_
  refine wl_region ?_
  refine wl_pure (by kernel_rfl) (.pointer (some ⟨g2, 0, none⟩)) (by kernel_rfl) ?_
  go_frame
  refine wl_storec (by kernel_rfl) hM 3 rfl 2 _ _ rfl rfl 0 rfl (.int .i64 26) rfl rfl rfl I_int64 (by simp [HD.cells]) ?_
  clear hM; intro W10 hM
  refine wl_pure (by kernel_rfl) (.pointer (some ⟨g2, 13, none⟩)) (by kernel_rfl) ?_
  go_frame
  refine wl_storec (by kernel_rfl) hM 3 rfl 4 _ _ rfl rfl 13 rfl (.bool true) rfl rfl rfl I_bool (by simp [HD.cells]) ?_
  clear hM; intro W11 hM
  refine wl_nil ?_
  refine cn6 _ _ ?_
  clear cn6
  refine wp_seq_k fun Kn7 cn7 => ?_
  -- region 5, drawn: one after the other
  refine wa_start (fun w => Below w00.heap.size w00 w ∧ Blk w g1 33 [.slice (some ⟨ga0, 0, none⟩) l.length k1, .slice (some ⟨gb0, 0, none⟩) c.length k2] ∧ Blk w g2 36 (HD.cells { h with at_ := 26, again := true })) 4 rfl (by kernel_rfl) ?_
  replace hM := hM.drew
  refine wa_take 0 (some 37) (.agg #[.slice (some ⟨ga0, 0, none⟩) l.length k1, .slice (some ⟨gb0, 0, none⟩) c.length k2]) rfl rfl (by kernel_rfl) (by kernel_rfl) (by kernel_rfl) (fun _ _ _ h => h) (by kernel_rfl) (fun w hS => r_load hS.2.1 33 _ rfl rfl Try.underlying33 I_impl_Shared) ⟨hM.below, hM.blk 4 rfl, hM.blk 3 rfl⟩ ?_
  go_frame
  refine wa_take 1 (some 38) (.agg (HD.cells { h with at_ := 26, again := true }).toArray) rfl rfl (by kernel_rfl) (by kernel_rfl) (by kernel_rfl) (fun _ _ _ h => h) (by kernel_rfl) (fun w hS => r_load hS.2.2 36 _ rfl rfl Try.underlying36 I_impl_Hand) ⟨hM.below, hM.blk 4 rfl, hM.blk 3 rfl⟩ ?_
  go_frame
  refine wa_one 2 (by kernel_rfl) ?_
  refine wo_store rfl (by kernel_rfl) hM 2 rfl 33 _ _ rfl rfl (by kernel_rfl) [.slice (some ⟨ga0, 0, none⟩) l.length k1, .slice (some ⟨gb0, 0, none⟩) c.length k2] (by kernel_rfl) I_impl_Shared rfl rfl ?_
  clear hM; intro W12 hM
  refine ⟨⟨hM.below, hM.blk 4 rfl, hM.blk 3 rfl⟩, ?_⟩
  refine wa_one 3 (by kernel_rfl) ?_
  refine wo_store rfl (by kernel_rfl) hM 1 rfl 36 _ _ rfl rfl (by kernel_rfl) (HD.cells { h with at_ := 26, again := true }) (by kernel_rfl) I_impl_Hand rfl (hd_one' _) ?_
  clear hM; intro W13 hM
  refine ⟨⟨hM.below, hM.blk 4 rfl, hM.blk 3 rfl⟩, ?_⟩
  refine wa_done (by kernel_rfl) ?_
  refine cn7 _ _ ?_
  clear cn7
  refine wp_ret ?_
  simp only [Exit.then, Exit.inBlock]
  have hR : checkT l h = .done l { h with at_ := 26, again := true } := by simp [checkT, againH, hx2, hx3, hx4, npe, tnp]
  rw [hR]
  have hN : (l : List ND).length = l.length := by first | rfl | simp
  refine bodyPost_ret (ret_sh (p := 6) (q := 7) rfl hM 2 1 rfl rfl rfl rfl Try.underlying33 Try.underlying36 I_impl_Shared I_impl_Hand) rfl (saysg_done ⟨ga0, k1, p1, congrArg (fun n : Nat => Ending.returned (.tuple #[.agg #[.slice (some ⟨ga0, 0, none⟩) n k1, .slice (some ⟨gb0, 0, none⟩) c.length k2], HD.val _])) hN.symm, ⟨by rw [hN]; exact q1, q2, q5⟩, ?_⟩)
  exact hM.sub (fun i => i + 5) (fun i b hb => hb) (fun i j _ _ e => by omega)
  rw [hx4]
  refine wp_cond_false rfl ?_
  refine wp_skip ?_
  refine cn4 _ _ ?_
  clear cn4
  refine wp_seq_k fun Kn6 cn6 => ?_
  refine wl_region ?_
  refine wl_pure (by kernel_rfl) (.pointer (some ⟨g2, 0, none⟩)) (by kernel_rfl) ?_
  go_frame
  refine wl_storec (by kernel_rfl) hM 3 rfl 2 _ _ rfl rfl 0 rfl (.int .i64 7) rfl rfl rfl I_int64 (by simp [HD.cells]) ?_
  clear hM; intro W10 hM
  refine wl_nil ?_
  refine cn6 _ _ ?_
  clear cn6
  refine wp_seq_k fun Kn7 cn7 => ?_
  -- region 7, drawn: one after the other
  refine wa_start (fun w => Below w00.heap.size w00 w ∧ Blk w g1 33 [.slice (some ⟨ga0, 0, none⟩) l.length k1, .slice (some ⟨gb0, 0, none⟩) c.length k2] ∧ Blk w g2 36 (HD.cells { h with at_ := 7 })) 4 rfl (by kernel_rfl) ?_
  replace hM := hM.drew
  refine wa_take 0 (some 40) (.agg #[.slice (some ⟨ga0, 0, none⟩) l.length k1, .slice (some ⟨gb0, 0, none⟩) c.length k2]) rfl rfl (by kernel_rfl) (by kernel_rfl) (by kernel_rfl) (fun _ _ _ h => h) (by kernel_rfl) (fun w hS => r_load hS.2.1 33 _ rfl rfl Try.underlying33 I_impl_Shared) ⟨hM.below, hM.blk 4 rfl, hM.blk 3 rfl⟩ ?_
  go_frame
  refine wa_take 1 (some 41) (.agg (HD.cells { h with at_ := 7 }).toArray) rfl rfl (by kernel_rfl) (by kernel_rfl) (by kernel_rfl) (fun _ _ _ h => h) (by kernel_rfl) (fun w hS => r_load hS.2.2 36 _ rfl rfl Try.underlying36 I_impl_Hand) ⟨hM.below, hM.blk 4 rfl, hM.blk 3 rfl⟩ ?_
  go_frame
  refine wa_one 2 (by kernel_rfl) ?_
  refine wo_store rfl (by kernel_rfl) hM 2 rfl 33 _ _ rfl rfl (by kernel_rfl) [.slice (some ⟨ga0, 0, none⟩) l.length k1, .slice (some ⟨gb0, 0, none⟩) c.length k2] (by kernel_rfl) I_impl_Shared rfl rfl ?_
  clear hM; intro W11 hM
  refine ⟨⟨hM.below, hM.blk 4 rfl, hM.blk 3 rfl⟩, ?_⟩
  refine wa_one 3 (by kernel_rfl) ?_
  refine wo_store rfl (by kernel_rfl) hM 1 rfl 36 _ _ rfl rfl (by kernel_rfl) (HD.cells { h with at_ := 7 }) (by kernel_rfl) I_impl_Hand rfl (hd_one' _) ?_
  clear hM; intro W12 hM
  refine ⟨⟨hM.below, hM.blk 4 rfl, hM.blk 3 rfl⟩, ?_⟩
  refine wa_done (by kernel_rfl) ?_
  refine cn7 _ _ ?_
  clear cn7
  refine wp_ret ?_
  have hR : checkT l h = .done l { h with at_ := 7 } := by simp [checkT, againH, hx2, hx3, hx4, npe, tnp]
  rw [hR]
  have hN : (l : List ND).length = l.length := by first | rfl | simp
  refine bodyPost_ret (ret_sh (p := 6) (q := 7) rfl hM 2 1 rfl rfl rfl rfl Try.underlying33 Try.underlying36 I_impl_Shared I_impl_Hand) rfl (saysg_done ⟨ga0, k1, p1, congrArg (fun n : Nat => Ending.returned (.tuple #[.agg #[.slice (some ⟨ga0, 0, none⟩) n k1, .slice (some ⟨gb0, 0, none⟩) c.length k2], HD.val _])) hN.symm, ⟨by rw [hN]; exact q1, q2, q5⟩, ?_⟩)
  exact hM.sub (fun i => i + 5) (fun i b hb => hb) (fun i j _ _ e => by omega)
  -- region 3, drawn: one after the other
  refine wa_start (fun w => Below w00.heap.size w00 w ∧ Blk w g5 51 (ND.cells ⟨npk, npv, npl, npr, npo, true, nplt, nprt⟩) ∧ Blk w g2 36 (HD.cells h)) 18 rfl (by kernel_rfl) ?_
  replace hM := hM.drew
  refine wa_take 0 (some 17) (.pointer (some ⟨g5, 5, none⟩)) rfl rfl (by kernel_rfl) (by kernel_rfl) (by kernel_rfl) (fun _ _ _ h => h) (by kernel_rfl) (fun w hS => by kernel_rfl) ⟨hM.below, hM.blk 0 rfl, hM.blk 3 rfl⟩ ?_
  go_frame
  refine wa_take 1 (some 18) (.bool true) rfl rfl (by kernel_rfl) (by kernel_rfl) (by kernel_rfl) (fun _ _ _ h => h) (by kernel_rfl) (fun w hS => r_loadc hS.2.1 4 _ rfl 5 rfl Try.underlying4 rfl rfl) ⟨hM.below, hM.blk 0 rfl, hM.blk 3 rfl⟩ ?_
  go_frame
  refine wa_take 2 (some 19) (.bool true) rfl rfl (by kernel_rfl) (by kernel_rfl) (by kernel_rfl) (fun _ _ _ h => h) (by kernel_rfl) (fun w hS => by kernel_rfl) ⟨hM.below, hM.blk 0 rfl, hM.blk 3 rfl⟩ ?_
  go_frame
  refine wa_skip 3 (some 20) rfl rfl (by kernel_rfl) (by kernel_rfl) (by kernel_rfl) (fun _ _ _ h => h) (by kernel_rfl) ⟨hM.below, hM.blk 0 rfl, hM.blk 3 rfl⟩ ?_
  go_frame
  refine wa_skip 4 (some 21) rfl rfl (by kernel_rfl) (by kernel_rfl) (by kernel_rfl) (fun _ _ _ h => h) (by kernel_rfl) ⟨hM.below, hM.blk 0 rfl, hM.blk 3 rfl⟩ ?_
  go_frame
  refine wa_skip 5 (some 22) rfl rfl (by kernel_rfl) (by kernel_rfl) (by kernel_rfl) (fun _ _ _ h => h) (by kernel_rfl) ⟨hM.below, hM.blk 0 rfl, hM.blk 3 rfl⟩ ?_
  go_frame
  refine wa_skip 6 (some 23) rfl rfl (by kernel_rfl) (by kernel_rfl) (by kernel_rfl) (fun _ _ _ h => h) (by kernel_rfl) ⟨hM.below, hM.blk 0 rfl, hM.blk 3 rfl⟩ ?_
  go_frame
  refine wa_skip 7 (some 24) rfl rfl (by kernel_rfl) (by kernel_rfl) (by kernel_rfl) (fun _ _ _ h => h) (by kernel_rfl) ⟨hM.below, hM.blk 0 rfl, hM.blk 3 rfl⟩ ?_
  go_frame
  refine wa_take 8 (some 25) (.bool true) rfl rfl (by kernel_rfl) (by kernel_rfl) (by kernel_rfl) (fun _ _ _ h => h) (by kernel_rfl) (fun w hS => by kernel_rfl) ⟨hM.below, hM.blk 0 rfl, hM.blk 3 rfl⟩ ?_
  go_frame
  refine wa_take 9 (some 26) (.bool true) rfl rfl (by kernel_rfl) (by kernel_rfl) (by kernel_rfl) (fun _ _ _ h => h) (by kernel_rfl) (fun w hS => by kernel_rfl) ⟨hM.below, hM.blk 0 rfl, hM.blk 3 rfl⟩ ?_
  go_frame
  refine wa_skip 10 (some 27) rfl rfl (by kernel_rfl) (by kernel_rfl) (by kernel_rfl) (fun _ _ _ h => h) (by kernel_rfl) ⟨hM.below, hM.blk 0 rfl, hM.blk 3 rfl⟩ ?_
  go_frame
  refine wa_skip 11 (some 28) rfl rfl (by kernel_rfl) (by kernel_rfl) (by kernel_rfl) (fun _ _ _ h => h) (by kernel_rfl) ⟨hM.below, hM.blk 0 rfl, hM.blk 3 rfl⟩ ?_
  go_frame
  refine wa_skip 12 (some 29) rfl rfl (by kernel_rfl) (by kernel_rfl) (by kernel_rfl) (fun _ _ _ h => h) (by kernel_rfl) ⟨hM.below, hM.blk 0 rfl, hM.blk 3 rfl⟩ ?_
  go_frame
  refine wa_skip 13 (some 30) rfl rfl (by kernel_rfl) (by kernel_rfl) (by kernel_rfl) (fun _ _ _ h => h) (by kernel_rfl) ⟨hM.below, hM.blk 0 rfl, hM.blk 3 rfl⟩ ?_
  go_frame
  refine wa_skip 14 (some 31) rfl rfl (by kernel_rfl) (by kernel_rfl) (by kernel_rfl) (fun _ _ _ h => h) (by kernel_rfl) ⟨hM.below, hM.blk 0 rfl, hM.blk 3 rfl⟩ ?_
  go_frame
  refine wa_skip 15 (some 32) rfl rfl (by kernel_rfl) (by kernel_rfl) (by kernel_rfl) (fun _ _ _ h => h) (by kernel_rfl) ⟨hM.below, hM.blk 0 rfl, hM.blk 3 rfl⟩ ?_
  go_frame
  refine wa_skip 16 (some 33) rfl rfl (by kernel_rfl) (by kernel_rfl) (by kernel_rfl) (fun _ _ _ h => h) (by kernel_rfl) ⟨hM.below, hM.blk 0 rfl, hM.blk 3 rfl⟩ ?_
  go_frame
  refine wa_take 17 (some 34) (.bool true) rfl rfl (by kernel_rfl) (by kernel_rfl) (by kernel_rfl) (fun _ _ _ h => h) (by kernel_rfl) (fun w hS => by kernel_rfl) ⟨hM.below, hM.blk 0 rfl, hM.blk 3 rfl⟩ ?_
  go_frame
  refine wa_done (by kernel_rfl) ?_
  refine cn5 _ _ ?_
  clear cn5
  refine wp_cond_true rfl ?_
  refine wp_seq_k fun Kn6 cn6 => ?_
  refine wl_region ?_
  refine wl_pure (by kernel_rfl) (.pointer (some ⟨g2, 0, none⟩)) (by kernel_rfl) ?_
  go_frame
  refine wl_storec (by kernel_rfl) hM 3 rfl 2 _ _ rfl rfl 0 rfl (.int .i64 26) rfl rfl rfl I_int64 (by simp [HD.cells]) ?_
  clear hM; intro W8 hM
  refine wl_pure (by kernel_rfl) (.pointer (some ⟨g2, 13, none⟩)) (by kernel_rfl) ?_
  go_frame
  refine wl_storec (by kernel_rfl) hM 3 rfl 4 _ _ rfl rfl 13 rfl (.bool true) rfl rfl rfl I_bool (by simp [HD.cells]) ?_
  clear hM; intro W9 hM
  refine wl_nil ?_
  refine cn6 _ _ ?_
  clear cn6
  refine wp_seq_k fun Kn7 cn7 => ?_
  -- region 5, drawn: one after the other
  refine wa_start (fun w => Below w00.heap.size w00 w ∧ Blk w g1 33 [.slice (some ⟨ga0, 0, none⟩) l.length k1, .slice (some ⟨gb0, 0, none⟩) c.length k2] ∧ Blk w g2 36 (HD.cells { h with at_ := 26, again := true })) 4 rfl (by kernel_rfl) ?_
  replace hM := hM.drew
  refine wa_take 0 (some 37) (.agg #[.slice (some ⟨ga0, 0, none⟩) l.length k1, .slice (some ⟨gb0, 0, none⟩) c.length k2]) rfl rfl (by kernel_rfl) (by kernel_rfl) (by kernel_rfl) (fun _ _ _ h => h) (by kernel_rfl) (fun w hS => r_load hS.2.1 33 _ rfl rfl Try.underlying33 I_impl_Shared) ⟨hM.below, hM.blk 4 rfl, hM.blk 3 rfl⟩ ?_
  go_frame
  refine wa_take 1 (some 38) (.agg (HD.cells { h with at_ := 26, again := true }).toArray) rfl rfl (by kernel_rfl) (by kernel_rfl) (by kernel_rfl) (fun _ _ _ h => h) (by kernel_rfl) (fun w hS => r_load hS.2.2 36 _ rfl rfl Try.underlying36 I_impl_Hand) ⟨hM.below, hM.blk 4 rfl, hM.blk 3 rfl⟩ ?_
  go_frame
  refine wa_one 2 (by kernel_rfl) ?_
  refine wo_store rfl (by kernel_rfl) hM 2 rfl 33 _ _ rfl rfl (by kernel_rfl) [.slice (some ⟨ga0, 0, none⟩) l.length k1, .slice (some ⟨gb0, 0, none⟩) c.length k2] (by kernel_rfl) I_impl_Shared rfl rfl ?_
  clear hM; intro W10 hM
  refine ⟨⟨hM.below, hM.blk 4 rfl, hM.blk 3 rfl⟩, ?_⟩
  refine wa_one 3 (by kernel_rfl) ?_
  refine wo_store rfl (by kernel_rfl) hM 1 rfl 36 _ _ rfl rfl (by kernel_rfl) (HD.cells { h with at_ := 26, again := true }) (by kernel_rfl) I_impl_Hand rfl (hd_one' _) ?_
  clear hM; intro W11 hM
  refine ⟨⟨hM.below, hM.blk 4 rfl, hM.blk 3 rfl⟩, ?_⟩
  refine wa_done (by kernel_rfl) ?_
  refine cn7 _ _ ?_
  clear cn7
  refine wp_ret ?_
  simp only [Exit.then, Exit.inBlock]
  have hR : checkT l h = .done l { h with at_ := 26, again := true } := by simp [checkT, againH, hx2, npe, tnp]
  rw [hR]
  have hN : (l : List ND).length = l.length := by first | rfl | simp
  refine bodyPost_ret (ret_sh (p := 6) (q := 7) rfl hM 2 1 rfl rfl rfl rfl Try.underlying33 Try.underlying36 I_impl_Shared I_impl_Hand) rfl (saysg_done ⟨ga0, k1, p1, congrArg (fun n : Nat => Ending.returned (.tuple #[.agg #[.slice (some ⟨ga0, 0, none⟩) n k1, .slice (some ⟨gb0, 0, none⟩) c.length k2], HD.val _])) hN.symm, ⟨by rw [hN]; exact q1, q2, q5⟩, ?_⟩)
  exact hM.sub (fun i => i + 5) (fun i b hb => hb) (fun i j _ _ e => by omega)

set_option maxRecDepth 100000 in
set_option maxHeartbeats 4000000 in
theorem impl_makeNode (l : List ND) (c : List Int) (task : Int) (h : HD) (hok : canB l c task h = true) : TouchG 51 l c task h (makeT l h) := by
  intro ga0 k1 p1 gb0 k2 p2 L w00 w0 hM0 q1 q2 q3 q4 q5 q6
  obtain ⟨hl0, hc0, hl1, hc1, hat, kt, hkt0, hkt, hcnt, hnodes, qnp, qnc, qnu, qnx, qnw⟩ := ok_facts (can_ok hok)
  have ht : task.toNat = kt := by omega
  have hl30 := (nodes_some hnodes).2
  have hl : l.length ≤ 1048576 := by omega
  unfold HD.val
  have hM := hM0
  go_enter Try.func51, Try.ntmps51
  refine wp_seq_k fun Kn1 cn1 => ?_
  refine wl_region ?_
  refine wl_box (by kernel_rfl) hM 33 _ rfl [.slice (some ⟨ga0, 0, none⟩) l.length k1, .slice (some ⟨gb0, 0, none⟩) c.length k2] rfl ?_
  clear hM; intro g1 W1 hM
  go_frame
  refine wl_box (by kernel_rfl) hM 36 _ rfl (HD.cells h) rfl ?_
  clear hM; intro g2 W2 hM
  go_frame
  refine wl_alloc (by kernel_rfl) hM 33 rfl [.slice none 0 0, .slice none 0 0] Z_impl_Shared ?_
  clear hM; intro g3 W3 hM
  go_frame
  refine wl_alloc (by kernel_rfl) hM 36 rfl (HD.cells HD.zero) Z_impl_Hand ?_
  clear hM; intro g4 W4 hM
  go_frame
  refine wl_nil ?_
  refine cn1 _ _ ?_
  clear cn1
  refine wp_seq_k fun Kn2 cn2 => ?_
  refine wl_region ?_
  refine wl_load (by kernel_rfl) hM 2 rfl 36 _ rfl rfl Try.underlying36 I_impl_Hand ?_
  go_frame
  rcases Bool.eq_false_or_eq_true ((h.c != 2)) with hx2 | hx2
  refine wl_panics (by kernel_rfl) 66 #[.int .i64 2, .agg (HD.cells h).toArray] (by kernel_rfl) (impl_onlyOf_no 2 h _ hx2) ?_
  rintro e W5 ⟨rfl, hb⟩
  replace hM := hM.call hb
  refine ⟨_, rfl, ?_⟩
  have hR : makeT l h = .gives 0 := by simp [makeT, makeR, endH, hx2]
  rw [hR]
  exact ⟨rfl, saysg_gives hM.below⟩
  refine wl_call (by kernel_rfl) 66 #[.int .i64 2, .agg (HD.cells h).toArray] (by kernel_rfl) (impl_onlyOf_yes 2 h _ hx2) ?_
  rintro e W5 ⟨rfl, hb⟩
  refine ⟨_, rfl, ?_⟩
  replace hM := hM.call hb
  go_frame
  refine wl_nil ?_
  refine cn2 _ _ ?_
  clear cn2
  refine wp_seq_k fun Kn3 cn3 => ?_
  refine wp_seq_k fun Kn4 cn4 => ?_
  refine wl_region ?_
  refine wl_pure (by kernel_rfl) (.pointer (some ⟨g1, 0, none⟩)) (by kernel_rfl) ?_
  go_frame
  refine wl_loadc (by kernel_rfl) hM 3 rfl 31 _ rfl 0 rfl Try.underlying31 rfl rfl ?_
  go_frame
  refine wl_pure (by kernel_rfl) (.int .i64 (l.length : Int)) (by kernel_rfl) ?_
  go_frame
  refine wl_pure (by kernel_rfl) (.bool ((l.length : Int) == 30)) (by kernel_rfl) ?_
  go_frame
  refine wl_nil ?_
  refine cn4 _ _ ?_
  clear cn4
  rcases Bool.eq_false_or_eq_true (((l.length : Int) == 30)) with hx3 | hx3
  rw [hx3]
  have h30 : (30 : Int) ≤ (l.length : Int) := by simp at hx3; omega
  refine wp_cond_true rfl ?_
  refine wp_seq_k fun Kn5 cn5 => ?_
  refine wl_region ?_
  refine wl_pure (by kernel_rfl) (.pointer (some ⟨g2, 0, none⟩)) (by kernel_rfl) ?_
  go_frame
  refine wl_storec (by kernel_rfl) hM 2 rfl 2 _ _ rfl rfl 0 rfl (.int .i64 26) rfl rfl rfl I_int64 (by simp [HD.cells]) ?_
  clear hM; intro W6 hM
  refine wl_pure (by kernel_rfl) (.pointer (some ⟨g2, 15, none⟩)) (by kernel_rfl) ?_
  go_frame
  refine wl_storec (by kernel_rfl) hM 2 rfl 2 _ _ rfl rfl 15 rfl (.int .i64 3) rfl rfl rfl I_int64 (by simp [HD.cells]) ?_
  clear hM; intro W7 hM
  refine wl_nil ?_
  refine cn5 _ _ ?_
  clear cn5
  refine wp_seq_k fun Kn6 cn6 => ?_
  -- region 4, drawn: one after the other
  refine wa_start (fun w => Below w00.heap.size w00 w ∧ Blk w g1 33 [.slice (some ⟨ga0, 0, none⟩) l.length k1, .slice (some ⟨gb0, 0, none⟩) c.length k2] ∧ Blk w g2 36 (HD.cells { h with at_ := 26, reply := 3 })) 4 rfl (by kernel_rfl) ?_
  replace hM := hM.drew
  refine wa_take 0 (some 16) (.agg #[.slice (some ⟨ga0, 0, none⟩) l.length k1, .slice (some ⟨gb0, 0, none⟩) c.length k2]) rfl rfl (by kernel_rfl) (by kernel_rfl) (by kernel_rfl) (fun _ _ _ h => h) (by kernel_rfl) (fun w hS => r_load hS.2.1 33 _ rfl rfl Try.underlying33 I_impl_Shared) ⟨hM.below, hM.blk 3 rfl, hM.blk 2 rfl⟩ ?_
  go_frame
  refine wa_take 1 (some 17) (.agg (HD.cells { h with at_ := 26, reply := 3 }).toArray) rfl rfl (by kernel_rfl) (by kernel_rfl) (by kernel_rfl) (fun _ _ _ h => h) (by kernel_rfl) (fun w hS => r_load hS.2.2 36 _ rfl rfl Try.underlying36 I_impl_Hand) ⟨hM.below, hM.blk 3 rfl, hM.blk 2 rfl⟩ ?_
  go_frame
  refine wa_one 2 (by kernel_rfl) ?_
  refine wo_store rfl (by kernel_rfl) hM 1 rfl 33 _ _ rfl rfl (by kernel_rfl) [.slice (some ⟨ga0, 0, none⟩) l.length k1, .slice (some ⟨gb0, 0, none⟩) c.length k2] (by kernel_rfl) I_impl_Shared rfl rfl ?_
  clear hM; intro W8 hM
  refine ⟨⟨hM.below, hM.blk 3 rfl, hM.blk 2 rfl⟩, ?_⟩
  refine wa_one 3 (by kernel_rfl) ?_
  refine wo_store rfl (by kernel_rfl) hM 0 rfl 36 _ _ rfl rfl (by kernel_rfl) (HD.cells { h with at_ := 26, reply := 3 }) (by kernel_rfl) I_impl_Hand rfl (hd_one' _) ?_
  clear hM; intro W9 hM
  refine ⟨⟨hM.below, hM.blk 3 rfl, hM.blk 2 rfl⟩, ?_⟩
  refine wa_done (by kernel_rfl) ?_
  refine cn6 _ _ ?_
  clear cn6
  refine wp_ret ?_
  simp only [Exit.then, Exit.inBlock]
  have hR : makeT l h = .done l { h with at_ := 26, reply := 3 } := by simp [makeT, makeR, endH, hx2, hx3, h30]
  rw [hR]
  have hN : (l : List ND).length = l.length := by first | rfl | simp
  refine bodyPost_ret (ret_sh (p := 6) (q := 7) rfl hM 1 0 rfl rfl rfl rfl Try.underlying33 Try.underlying36 I_impl_Shared I_impl_Hand) rfl (saysg_done ⟨ga0, k1, p1, congrArg (fun n : Nat => Ending.returned (.tuple #[.agg #[.slice (some ⟨ga0, 0, none⟩) n k1, .slice (some ⟨gb0, 0, none⟩) c.length k2], HD.val _])) hN.symm, ⟨by rw [hN]; exact q1, q2, q5⟩, ?_⟩)
  exact hM.sub (fun i => i + 4) (fun i b hb => hb) (fun i j _ _ e => by omega)
  rw [hx3]
  have h30 : ¬ (30 : Int) ≤ (l.length : Int) := by simp at hx3; omega
  refine wp_cond_false rfl ?_
  refine wp_skip ?_
  refine cn3 _ _ ?_
  clear cn3
  refine wp_seq_k fun Kn5 cn5 => ?_
  -- region 5, drawn: one after the other
  refine wa_start (fun w => Below w00.heap.size w00 w ∧ Blk w g1 33 [.slice (some ⟨ga0, 0, none⟩) l.length k1, .slice (some ⟨gb0, 0, none⟩) c.length k2]) 7 rfl (by kernel_rfl) ?_
  replace hM := hM.drew
  refine wa_take 0 (some 18) (.pointer (some ⟨g1, 0, none⟩)) rfl rfl (by kernel_rfl) (by kernel_rfl) (by kernel_rfl) (fun _ _ _ h => h) (by kernel_rfl) (fun w hS => by kernel_rfl) ⟨hM.below, hM.blk 3 rfl⟩ ?_
  go_frame
  refine wa_take 1 (some 19) (.slice (some ⟨ga0, 0, none⟩) l.length k1) rfl rfl (by kernel_rfl) (by kernel_rfl) (by kernel_rfl) (fun _ _ _ h => h) (by kernel_rfl) (fun w hS => r_loadc hS.2 31 _ rfl 0 rfl Try.underlying31 rfl rfl) ⟨hM.below, hM.blk 3 rfl⟩ ?_
  go_frame
  refine wa_take 2 (some 20) (.int .i64 (l.length : Int)) rfl rfl (by kernel_rfl) (by kernel_rfl) (by kernel_rfl) (fun _ _ _ h => h) (by kernel_rfl) (fun w hS => by kernel_rfl) ⟨hM.below, hM.blk 3 rfl⟩ ?_
  go_frame
  refine wa_take 3 (some 21) (.pointer (some ⟨g2, 0, none⟩)) rfl rfl (by kernel_rfl) (by kernel_rfl) (by kernel_rfl) (fun _ _ _ h => h) (by kernel_rfl) (fun w hS => by kernel_rfl) ⟨hM.below, hM.blk 3 rfl⟩ ?_
  go_frame
  refine wa_one 4 (by kernel_rfl) ?_
  refine wo_storec rfl (by kernel_rfl) hM 2 rfl 2 _ _ rfl rfl 0 (by kernel_rfl) (.int .i64 8) (by kernel_rfl) rfl rfl I_int64 (by simp [HD.cells]) ?_
  clear hM; intro W6 hM
  refine ⟨⟨hM.below, hM.blk 3 rfl⟩, ?_⟩
  refine wa_take 5 (some 22) (.pointer (some ⟨g2, 10, none⟩)) rfl rfl (by kernel_rfl) (by kernel_rfl) (by kernel_rfl) (fun _ _ _ h => h) (by kernel_rfl) (fun w hS => by kernel_rfl) ⟨hM.below, hM.blk 3 rfl⟩ ?_
  go_frame
  refine wa_one 6 (by kernel_rfl) ?_
  refine wo_storec rfl (by kernel_rfl) hM 2 rfl 2 _ _ rfl rfl 10 (by kernel_rfl) (.int .i64 (l.length : Int)) (by kernel_rfl) rfl rfl I_int64 (by simp [HD.cells]) ?_
  clear hM; intro W7 hM
  refine ⟨⟨hM.below, hM.blk 3 rfl⟩, ?_⟩
  refine wa_done (by kernel_rfl) ?_
  refine cn5 _ _ ?_
  clear cn5
  refine wp_seq_k fun Kn6 cn6 => ?_
  refine wl_region ?_
  refine wl_pure (by kernel_rfl) (.pointer (some ⟨g1, 0, none⟩)) (by kernel_rfl) ?_
  go_frame
  refine wl_loadc (by kernel_rfl) hM 3 rfl 31 _ rfl 0 rfl Try.underlying31 rfl rfl ?_
  go_frame
  refine wl_pure (by kernel_rfl) (.pointer (some ⟨g2, 1, none⟩)) (by kernel_rfl) ?_
  go_frame
  refine wl_pure (by kernel_rfl) (.pointer (some ⟨g2, 2, none⟩)) (by kernel_rfl) ?_
  go_frame
  refine wl_loadc (by kernel_rfl) hM 2 rfl 2 _ rfl 2 rfl Try.underlying2 rfl rfl ?_
  go_frame
  refine wl_pure (by kernel_rfl) (.pointer (some ⟨g2, 1, none⟩)) (by kernel_rfl) ?_
  go_frame
  refine wl_pure (by kernel_rfl) (.pointer (some ⟨g2, 3, none⟩)) (by kernel_rfl) ?_
  go_frame
  refine wl_loadc (by kernel_rfl) hM 2 rfl 2 _ rfl 3 rfl Try.underlying2 rfl rfl ?_
  go_frame
  refine wl_pure (by kernel_rfl) (.agg (ND.cells ⟨h.k, h.v, 0, 0, 0, false, 0, 0⟩).toArray) (by kernel_rfl) ?_
  go_frame
  refine wl_buildSlice (by kernel_rfl) hM 51 1 (ND.cells ⟨h.k, h.v, 0, 0, 0, false, 0, 0⟩) (fun w => by kernel_rfl) ?_
  clear hM; intro g5 W8 hM
  go_frame
  refine wl_append (by kernel_rfl) hM 5 rfl 0 rfl _ _ 31 rfl Try.underlying31 infoNode rfl (by decide) l.length k1 1 1 rfl q1 q2 (cellsOf_len _) q5 rfl rfl (nd_one _) (by decide) (by (try unfold maxLen); omega) (by (try unfold maxLen); omega) ?_
  clear hM; intro ga'1 ka'2 pa'3 W9 qa'4 qb'5 qe'6 hM
  rw [node_snoc _ (⟨h.k, h.v, 0, 0, 0, false, 0, 0⟩) _] at hM qe'6
  replace hM : Mem w00 W9 ((g5, 51, (ND.cells ⟨h.k, h.v, 0, 0, 0, false, 0, 0⟩)) :: (g4, 36, (HD.cells HD.zero)) :: (g3, 33, [.slice none 0 0, .slice none 0 0]) :: (g2, 36, (HD.cells { h with at_ := 8, new := (l.length : Int) })) :: (g1, 33, [.slice (some ⟨ga0, 0, none⟩) l.length k1, .slice (some ⟨gb0, 0, none⟩) c.length k2]) :: (ga'1, 51, (cellsOf (l ++ [⟨h.k, h.v, 0, 0, 0, false, 0, 0⟩]) ++ pa'3)) :: (gb0, 2, (cellsI c ++ p2)) :: L) := hM
  go_frame
  refine wl_pure (by kernel_rfl) (.pointer (some ⟨g1, 0, none⟩)) (by kernel_rfl) ?_
  go_frame
  refine wl_storec (by kernel_rfl) hM 4 rfl 31 _ _ rfl rfl 0 rfl (.slice (some ⟨ga'1, 0, none⟩) (l.length + 1) ka'2) rfl rfl rfl I_S_impl_Node (by simp) ?_
  clear hM; intro W10 hM
  refine wl_nil ?_
  refine cn6 _ _ ?_
  clear cn6
  refine wp_seq_k fun Kn7 cn7 => ?_
  -- region 7, drawn: one after the other
  refine wa_start (fun w => Below w00.heap.size w00 w ∧ Blk w g1 33 [.slice (some ⟨ga'1, 0, none⟩) (l.length + 1) ka'2, .slice (some ⟨gb0, 0, none⟩) c.length k2] ∧ Blk w g2 36 (HD.cells { h with at_ := 8, new := (l.length : Int) })) 4 rfl (by kernel_rfl) ?_
  replace hM := hM.drew
  refine wa_take 0 (some 35) (.agg #[.slice (some ⟨ga'1, 0, none⟩) (l.length + 1) ka'2, .slice (some ⟨gb0, 0, none⟩) c.length k2]) rfl rfl (by kernel_rfl) (by kernel_rfl) (by kernel_rfl) (fun _ _ _ h => h) (by kernel_rfl) (fun w hS => r_load hS.2.1 33 _ rfl rfl Try.underlying33 I_impl_Shared) ⟨hM.below, hM.blk 4 rfl, hM.blk 3 rfl⟩ ?_
  go_frame
  refine wa_take 1 (some 36) (.agg (HD.cells { h with at_ := 8, new := (l.length : Int) }).toArray) rfl rfl (by kernel_rfl) (by kernel_rfl) (by kernel_rfl) (fun _ _ _ h => h) (by kernel_rfl) (fun w hS => r_load hS.2.2 36 _ rfl rfl Try.underlying36 I_impl_Hand) ⟨hM.below, hM.blk 4 rfl, hM.blk 3 rfl⟩ ?_
  go_frame
  refine wa_one 2 (by kernel_rfl) ?_
  refine wo_store rfl (by kernel_rfl) hM 2 rfl 33 _ _ rfl rfl (by kernel_rfl) [.slice (some ⟨ga'1, 0, none⟩) (l.length + 1) ka'2, .slice (some ⟨gb0, 0, none⟩) c.length k2] (by kernel_rfl) I_impl_Shared rfl rfl ?_
  clear hM; intro W11 hM
  refine ⟨⟨hM.below, hM.blk 4 rfl, hM.blk 3 rfl⟩, ?_⟩
  refine wa_one 3 (by kernel_rfl) ?_
  refine wo_store rfl (by kernel_rfl) hM 1 rfl 36 _ _ rfl rfl (by kernel_rfl) (HD.cells { h with at_ := 8, new := (l.length : Int) }) (by kernel_rfl) I_impl_Hand rfl (hd_one' _) ?_
  clear hM; intro W12 hM
  refine ⟨⟨hM.below, hM.blk 4 rfl, hM.blk 3 rfl⟩, ?_⟩
  refine wa_done (by kernel_rfl) ?_
  refine cn7 _ _ ?_
  clear cn7
  refine wp_ret ?_
  have hR : makeT l h = .done (l ++ [⟨h.k, h.v, 0, 0, 0, false, 0, 0⟩]) { h with at_ := 8, new := (l.length : Int) } := by simp [makeT, makeR, endH, hx2, hx3, h30]
  rw [hR]
  have hN : ((l ++ [⟨h.k, h.v, 0, 0, 0, false, 0, 0⟩]) : List ND).length = (l.length + 1) := by first | rfl | simp
  refine bodyPost_ret (ret_sh (p := 6) (q := 7) rfl hM 2 1 rfl rfl rfl rfl Try.underlying33 Try.underlying36 I_impl_Shared I_impl_Hand) rfl (saysg_done ⟨ga'1, ka'2, pa'3, congrArg (fun n : Nat => Ending.returned (.tuple #[.agg #[.slice (some ⟨ga'1, 0, none⟩) n ka'2, .slice (some ⟨gb0, 0, none⟩) c.length k2], HD.val _])) hN.symm, ⟨by rw [hN]; exact qa'4, qb'5, qe'6⟩, ?_⟩)
  exact hM.sub (fun i => i + 5) (fun i b hb => hb) (fun i j _ _ e => by omega)

set_option maxRecDepth 100000 in
set_option maxHeartbeats 4000000 in
theorem impl_hangNode (l : List ND) (c : List Int) (task : Int) (h : HD) (hok : canB l c task h = true) : TouchG 52 l c task h (hangT l h) := by
  intro ga0 k1 p1 gb0 k2 p2 L w00 w0 hM0 q1 q2 q3 q4 q5 q6
  obtain ⟨hl0, hc0, hl1, hc1, hat, kt, hkt0, hkt, hcnt, hnodes, qnp, qnc, qnu, qnx, qnw⟩ := ok_facts (can_ok hok)
  have ht : task.toNat = kt := by omega
  have hl30 := (nodes_some hnodes).2
  have hl : l.length ≤ 1048576 := by omega
  obtain ⟨knp, ⟨npk, npv, npl, npr, npo, npg, nplt, nprt⟩, hknp, npe, hlnp, hnnp⟩ := nd_at qnp
  have tnp : h.prev.toNat = knp := by omega
  unfold HD.val
  have hM := hM0
  go_enter Try.func52, Try.ntmps52
  refine wp_seq_k fun Kn1 cn1 => ?_
  refine wl_region ?_
  refine wl_box (by kernel_rfl) hM 33 _ rfl [.slice (some ⟨ga0, 0, none⟩) l.length k1, .slice (some ⟨gb0, 0, none⟩) c.length k2] rfl ?_
  clear hM; intro g1 W1 hM
  go_frame
  refine wl_box (by kernel_rfl) hM 36 _ rfl (HD.cells h) rfl ?_
  clear hM; intro g2 W2 hM
  go_frame
  refine wl_alloc (by kernel_rfl) hM 33 rfl [.slice none 0 0, .slice none 0 0] Z_impl_Shared ?_
  clear hM; intro g3 W3 hM
  go_frame
  refine wl_alloc (by kernel_rfl) hM 36 rfl (HD.cells HD.zero) Z_impl_Hand ?_
  clear hM; intro g4 W4 hM
  go_frame
  refine wl_nil ?_
  refine cn1 _ _ ?_
  clear cn1
  refine wp_seq_k fun Kn2 cn2 => ?_
  refine wl_region ?_
  refine wl_load (by kernel_rfl) hM 2 rfl 36 _ rfl rfl Try.underlying36 I_impl_Hand ?_
  go_frame
  rcases Bool.eq_false_or_eq_true ((h.c != 2)) with hx2 | hx2
  refine wl_panics (by kernel_rfl) 66 #[.int .i64 2, .agg (HD.cells h).toArray] (by kernel_rfl) (impl_onlyOf_no 2 h _ hx2) ?_
  rintro e W5 ⟨rfl, hb⟩
  replace hM := hM.call hb
  refine ⟨_, rfl, ?_⟩
  have hR : hangT l h = .gives 0 := by simp [hangT, setK, withK, endH, hx2, npe, tnp]
  rw [hR]
  exact ⟨rfl, saysg_gives hM.below⟩
  refine wl_call (by kernel_rfl) 66 #[.int .i64 2, .agg (HD.cells h).toArray] (by kernel_rfl) (impl_onlyOf_yes 2 h _ hx2) ?_
  rintro e W5 ⟨rfl, hb⟩
  refine ⟨_, rfl, ?_⟩
  replace hM := hM.call hb
  go_frame
  refine wl_nil ?_
  refine cn2 _ _ ?_
  clear cn2
  refine wp_seq_k fun Kn3 cn3 => ?_
  -- region 2, drawn: one after the other
  refine wa_start (fun w => Below w00.heap.size w00 w ∧ Blk w g1 33 [.slice (some ⟨ga0, 0, none⟩) l.length k1, .slice (some ⟨gb0, 0, none⟩) c.length k2] ∧ Blk w g2 36 (HD.cells h)) 17 rfl (by kernel_rfl) ?_
  replace hM := hM.drew
  refine wa_take 0 (some 10) (.pointer (some ⟨g1, 0, none⟩)) rfl rfl (by kernel_rfl) (by kernel_rfl) (by kernel_rfl) (fun _ _ _ h => h) (by kernel_rfl) (fun w hS => by kernel_rfl) ⟨hM.below, hM.blk 3 rfl, hM.blk 2 rfl⟩ ?_
  go_frame
  refine wa_take 1 (some 11) (.slice (some ⟨ga0, 0, none⟩) l.length k1) rfl rfl (by kernel_rfl) (by kernel_rfl) (by kernel_rfl) (fun _ _ _ h => h) (by kernel_rfl) (fun w hS => r_loadc hS.2.1 31 _ rfl 0 rfl Try.underlying31 rfl rfl) ⟨hM.below, hM.blk 3 rfl, hM.blk 2 rfl⟩ ?_
  go_frame
  refine wa_take 2 (some 12) (.pointer (some ⟨g2, 4, none⟩)) rfl rfl (by kernel_rfl) (by kernel_rfl) (by kernel_rfl) (fun _ _ _ h => h) (by kernel_rfl) (fun w hS => by kernel_rfl) ⟨hM.below, hM.blk 3 rfl, hM.blk 2 rfl⟩ ?_
  go_frame
  refine wa_take 3 (some 13) (.int .i64 h.prev) rfl rfl (by kernel_rfl) (by kernel_rfl) (by kernel_rfl) (fun _ _ _ h => h) (by kernel_rfl) (fun w hS => r_loadc hS.2.2 2 _ rfl 4 rfl Try.underlying2 rfl rfl) ⟨hM.below, hM.blk 3 rfl, hM.blk 2 rfl⟩ ?_
  go_frame
  refine wa_take 4 (some 14) (.pointer (some ⟨g1, 0, none⟩)) rfl rfl (by kernel_rfl) (by kernel_rfl) (by kernel_rfl) (fun _ _ _ h => h) (by kernel_rfl) (fun w hS => by kernel_rfl) ⟨hM.below, hM.blk 3 rfl, hM.blk 2 rfl⟩ ?_
  go_frame
  refine wa_take 5 (some 15) (.slice (some ⟨ga0, 0, none⟩) l.length k1) rfl rfl (by kernel_rfl) (by kernel_rfl) (by kernel_rfl) (fun _ _ _ h => h) (by kernel_rfl) (fun w hS => r_loadc hS.2.1 31 _ rfl 0 rfl Try.underlying31 rfl rfl) ⟨hM.below, hM.blk 3 rfl, hM.blk 2 rfl⟩ ?_
  go_frame
  refine wa_take 6 (some 16) (.pointer (some ⟨g2, 4, none⟩)) rfl rfl (by kernel_rfl) (by kernel_rfl) (by kernel_rfl) (fun _ _ _ h => h) (by kernel_rfl) (fun w hS => by kernel_rfl) ⟨hM.below, hM.blk 3 rfl, hM.blk 2 rfl⟩ ?_
  go_frame
  refine wa_take 7 (some 17) (.int .i64 h.prev) rfl rfl (by kernel_rfl) (by kernel_rfl) (by kernel_rfl) (fun _ _ _ h => h) (by kernel_rfl) (fun w hS => r_loadc hS.2.2 2 _ rfl 4 rfl Try.underlying2 rfl rfl) ⟨hM.below, hM.blk 3 rfl, hM.blk 2 rfl⟩ ?_
  go_frame
  refine wa_take 8 (some 18) (.pointer (some ⟨ga0, 0 + knp * 8, none⟩)) rfl rfl (by kernel_rfl) (by kernel_rfl) (by kernel_rfl) (fun _ _ _ h => h) (by kernel_rfl) (fun w hS => r_index 31 51 _ _ rfl ga0 0 l.length k1 8 knp rfl rfl hknp (by omega) Try.underlying31 I_impl_Node) ⟨hM.below, hM.blk 3 rfl, hM.blk 2 rfl⟩ ?_
  go_frame
  refine wa_take 10 (some 20) (.pointer (some ⟨g2, 6, none⟩)) rfl rfl (by kernel_rfl) (by kernel_rfl) (by kernel_rfl) (fun _ _ _ h => h) (by kernel_rfl) (fun w hS => by kernel_rfl) ⟨hM.below, hM.blk 3 rfl, hM.blk 2 rfl⟩ ?_
  go_frame
  refine wa_take 11 (some 21) (.int .i64 h.side) rfl rfl (by kernel_rfl) (by kernel_rfl) (by kernel_rfl) (fun _ _ _ h => h) (by kernel_rfl) (fun w hS => r_loadc hS.2.2 2 _ rfl 6 rfl Try.underlying2 rfl rfl) ⟨hM.below, hM.blk 3 rfl, hM.blk 2 rfl⟩ ?_
  go_frame
  refine wa_take 12 (some 22) (.pointer (some ⟨g2, 10, none⟩)) rfl rfl (by kernel_rfl) (by kernel_rfl) (by kernel_rfl) (fun _ _ _ h => h) (by kernel_rfl) (fun w hS => by kernel_rfl) ⟨hM.below, hM.blk 3 rfl, hM.blk 2 rfl⟩ ?_
  go_frame
  refine wa_take 13 (some 23) (.int .i64 h.new) rfl rfl (by kernel_rfl) (by kernel_rfl) (by kernel_rfl) (fun _ _ _ h => h) (by kernel_rfl) (fun w hS => r_loadc hS.2.2 2 _ rfl 10 rfl Try.underlying2 rfl rfl) ⟨hM.below, hM.blk 3 rfl, hM.blk 2 rfl⟩ ?_
  go_frame
  refine wa_one 9 (by kernel_rfl) ?_
  refine wo_pure (some 19) rfl rfl (by kernel_rfl) (.agg (ND.cells ⟨npk, npv, npl, npr, npo, npg, nplt, nprt⟩).toArray) (r_part (hM.blk 4 rfl) 51 _ rfl (0 + knp * 8) rfl Try.underlying51 (ND.cells ⟨npk, npv, npl, npr, npo, npg, nplt, nprt⟩) I_impl_Node (node_part hnnp)) ⟨hM.below, hM.blk 3 rfl, hM.blk 2 rfl⟩ ?_
  go_frame
  refine wa_one 14 (by kernel_rfl) ?_
  refine wo_call (some 24) rfl rfl (by kernel_rfl) 69 #[.agg (ND.cells ⟨npk, npv, npl, npr, npo, npg, nplt, nprt⟩).toArray, .int .i64 h.side, .int .i64 h.new] (by kernel_rfl) (impl_WithKid npk npv npl npr npo npg nplt nprt h.side h.new _) ?_
  rintro e W6 ⟨rfl, hb⟩
  replace hM := hM.call hb
  refine ⟨_, rfl, ⟨hM.below, hM.blk 3 rfl, hM.blk 2 rfl⟩, ?_⟩
  go_frame
  refine wa_take 15 (some 25) (.pointer (some ⟨ga0, 0 + knp * 8, none⟩)) rfl rfl (by kernel_rfl) (by kernel_rfl) (by kernel_rfl) (fun _ _ _ h => h) (by kernel_rfl) (fun w hS => r_index 31 51 _ _ rfl ga0 0 l.length k1 8 knp rfl rfl hknp (by omega) Try.underlying31 I_impl_Node) ⟨hM.below, hM.blk 3 rfl, hM.blk 2 rfl⟩ ?_
  go_frame
  refine wa_one 16 (by kernel_rfl) ?_
  refine wo_storep rfl (by kernel_rfl) hM 4 rfl 51 _ _ rfl rfl (0 + knp * 8) (by kernel_rfl) (ND.cells ⟨npk, npv, (leftF h.side h.new npl), (rightF h.side h.new npr), npo, npg, nplt, nprt⟩) (by kernel_rfl) I_impl_Node (node_room hlnp) (nd_one _) ?_
  clear hM; intro W7 hM; rw [splice_node hlnp] at hM
  refine ⟨⟨hM.below, hM.blk 3 rfl, hM.blk 2 rfl⟩, ?_⟩
  refine wa_done (by kernel_rfl) ?_
  refine cn3 _ _ ?_
  clear cn3
  refine wp_seq_k fun Kn4 cn4 => ?_
  refine wl_region ?_
  refine wl_pure (by kernel_rfl) (.pointer (some ⟨g2, 0, none⟩)) (by kernel_rfl) ?_
  go_frame
  refine wl_storec (by kernel_rfl) hM 2 rfl 2 _ _ rfl rfl 0 rfl (.int .i64 26) rfl rfl rfl I_int64 (by simp [HD.cells]) ?_
  clear hM; intro W8 hM
  refine wl_pure (by kernel_rfl) (.pointer (some ⟨g2, 15, none⟩)) (by kernel_rfl) ?_
  go_frame
  refine wl_storec (by kernel_rfl) hM 2 rfl 2 _ _ rfl rfl 15 rfl (.int .i64 1) rfl rfl rfl I_int64 (by simp [HD.cells]) ?_
  clear hM; intro W9 hM
  refine wl_nil ?_
  refine cn4 _ _ ?_
  clear cn4
  refine wp_seq_k fun Kn5 cn5 => ?_
  -- region 4, drawn: one after the other
  refine wa_start (fun w => Below w00.heap.size w00 w ∧ Blk w g1 33 [.slice (some ⟨ga0, 0, none⟩) l.length k1, .slice (some ⟨gb0, 0, none⟩) c.length k2] ∧ Blk w g2 36 (HD.cells { h with at_ := 26, reply := 1 })) 4 rfl (by kernel_rfl) ?_
  replace hM := hM.drew
  refine wa_take 0 (some 28) (.agg #[.slice (some ⟨ga0, 0, none⟩) l.length k1, .slice (some ⟨gb0, 0, none⟩) c.length k2]) rfl rfl (by kernel_rfl) (by kernel_rfl) (by kernel_rfl) (fun _ _ _ h => h) (by kernel_rfl) (fun w hS => r_load hS.2.1 33 _ rfl rfl Try.underlying33 I_impl_Shared) ⟨hM.below, hM.blk 3 rfl, hM.blk 2 rfl⟩ ?_
  go_frame
  refine wa_take 1 (some 29) (.agg (HD.cells { h with at_ := 26, reply := 1 }).toArray) rfl rfl (by kernel_rfl) (by kernel_rfl) (by kernel_rfl) (fun _ _ _ h => h) (by kernel_rfl) (fun w hS => r_load hS.2.2 36 _ rfl rfl Try.underlying36 I_impl_Hand) ⟨hM.below, hM.blk 3 rfl, hM.blk 2 rfl⟩ ?_
  go_frame
  refine wa_one 2 (by kernel_rfl) ?_
  refine wo_store rfl (by kernel_rfl) hM 1 rfl 33 _ _ rfl rfl (by kernel_rfl) [.slice (some ⟨ga0, 0, none⟩) l.length k1, .slice (some ⟨gb0, 0, none⟩) c.length k2] (by kernel_rfl) I_impl_Shared rfl rfl ?_
  clear hM; intro W10 hM
  refine ⟨⟨hM.below, hM.blk 3 rfl, hM.blk 2 rfl⟩, ?_⟩
  refine wa_one 3 (by kernel_rfl) ?_
  refine wo_store rfl (by kernel_rfl) hM 0 rfl 36 _ _ rfl rfl (by kernel_rfl) (HD.cells { h with at_ := 26, reply := 1 }) (by kernel_rfl) I_impl_Hand rfl (hd_one' _) ?_
  clear hM; intro W11 hM
  refine ⟨⟨hM.below, hM.blk 3 rfl, hM.blk 2 rfl⟩, ?_⟩
  refine wa_done (by kernel_rfl) ?_
  refine cn5 _ _ ?_
  clear cn5
  refine wp_ret ?_
  have hR : hangT l h = .done (l.set knp ⟨npk, npv, (leftF h.side h.new npl), (rightF h.side h.new npr), npo, npg, nplt, nprt⟩) { h with at_ := 26, reply := 1 } := by simp [hangT, setK, withK, endH, hx2, npe, tnp]
  rw [hR]
  have hN : ((l.set knp ⟨npk, npv, (leftF h.side h.new npl), (rightF h.side h.new npr), npo, npg, nplt, nprt⟩) : List ND).length = l.length := by first | rfl | simp
  refine bodyPost_ret (ret_sh (p := 6) (q := 7) rfl hM 1 0 rfl rfl rfl rfl Try.underlying33 Try.underlying36 I_impl_Shared I_impl_Hand) rfl (saysg_done ⟨ga0, k1, p1, congrArg (fun n : Nat => Ending.returned (.tuple #[.agg #[.slice (some ⟨ga0, 0, none⟩) n k1, .slice (some ⟨gb0, 0, none⟩) c.length k2], HD.val _])) hN.symm, ⟨by rw [hN]; exact q1, q2, (by rw [node_keep]; exact q5)⟩, ?_⟩)
  exact hM.sub (fun i => i + 4) (fun i b hb => hb) (fun i j _ _ e => by omega)
end Go.Proofs.Ytpojbflhlfjhdaa
