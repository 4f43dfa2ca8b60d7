/- HeldBy, Locked and Unlocked of the model. -/
import Derived.Test.YtoamnecoiicljaaLock
import Derived.Maps.RangeWalk
namespace Go.Proofs.Ytoamnecoiicljaa
open Go.ChangeShapes Go.WideShapes Go.ChangeAt Go.RowKit Go.Maps
set_option linter.unusedVariables false
set_option linter.unusedSimpArgs false

theorem spec_has (a : Option Addr) (c : Nat) (l : List ND) (x : Int) (w : World) (hl : l.length ≤ 1048576) : Calls Try.prog 51 #[.slice a l.length c, .int .i64 x] w fun e w' => e = .returned (.bool (hasB l x)) ∧ w = w' := by
  go_enter Try.func51, Try.ntmps51
  go_wp2_with (go_at_call 41; refine (spec_in _ _ _ _).mono ?_; rintro e w1 ⟨rfl, rfl⟩)
  go_ret
  exact ⟨rfl, rfl⟩
set_option maxHeartbeats 1000000 in
theorem spec_copy (v : Value) (l : List ND) (w : World) (h : NSl w v l) (hn : l ≠ []) (hl : l.length ≤ 1048576) : Calls Try.prog 52 #[v] w (Fresh w l) := by
  obtain ⟨b1, o1, c1, rfl, k1, m1, s1, H1⟩ := h.at hn
  have hl0 : 0 < l.length := List.length_pos_iff.2 hn
  obtain ⟨i0, hi0, hz0, hz1, hz2⟩ := info_parts infoNode
  have HW := Lib.hid h
  clear H1 h
  go_enter Try.func52, Try.ntmps52
  go_wp2_with (first
    | (at_builtin; refine wpList_append_lies _ rfl _ _ 28 rfl w.heap.size 60 i0 _ 8 64 Try.underlying28 hi0 hz0 hz1 hz2 rfl (by decide) (.slice (some ⟨w.heap.size, 0, none⟩) 0 0) 0 [] rfl (none_row _ _ (Below.refl _ _)) ⟨b1, o1, none⟩ l.length c1 (cellsOf l) rfl (cellsOf_len l) (cells_news HW.out ((Below.refl _ _).alloc (Nat.le_refl _) _) hn) (cellsOf_one l) hl0 (by unfold maxLen; omega) (by omega) (by simp) (w.heap.size + 1) (by simp) ?_; intro g cap w1 hown hgrow hat hgl)
    | go_in)
  go_ret
  rw [List.nil_append, Nat.zero_add] at hown
  obtain ⟨q1, q2⟩ : w.heap.size ≤ g ∧ Below w.heap.size w w1 := ⟨by
      rcases hat with h | h
      · simp [Value.ownBlock] at h; omega
      · omega, ((Below.refl _ _).alloc (Nat.le_refl _) _).grown hgrow (by simp) (fun j hj => by simp [Value.ownBlock] at hj; omega)⟩
  exact ⟨g, _, rfl, q1, own_of_row hown, q2⟩

/-- A node's Owner, written into a copy of one's own. -/
theorem own_give {w1 : World} {l : List ND} {g k : Nat} {u : Value} {n : ND} (hO : Own w1 u g 60 8 l.length (cellsOf l)) (hn : l[k]? = some n) (o : Int) : Own (w1.setCell ⟨g, k * 8 + 4, none⟩ (.int .i64 o)) u g 60 8 (l.set k (setO n o)).length (cellsOf (l.set k (setO n o))) := by
  obtain ⟨cap, sp, rfl, h1, h2, h3, h4⟩ := hO
  refine ⟨cap, sp, by simp, by simpa using h1, h2, by rw [cellsOf_len], h4.set4 hn o⟩

/-- The answer over the first k nodes. -/
def ownedTo (l : List ND) (task : Int) (k : Nat) : List Int := ((List.range k).filter fun i => match l[i]? with | some n => n.o == task + 1 | none => false).map fun (i : Nat) => (i : Int)
def heldTo (l : List ND) (task : Int) (k : Nat) : List Int := if taskB task then ownedTo l task k else []
theorem heldTo_succ {l : List ND} {k : Nat} {n : ND} (h : l[k]? = some n) (task : Int) : heldTo l task (k + 1) = if taskB task && n.o == task + 1 then heldTo l task k ++ [(k : Int)] else heldTo l task k := by
  unfold heldTo
  cases ht : taskB task
  · simp
  · by_cases h0 : n.o = task + 1
    · simp [ownedTo, List.range_succ, List.filter_append, h, h0]
    · simp [ownedTo, List.range_succ, List.filter_append, h, h0]

/-! ### How long the answers are -/
theorem heldB_len (l : List ND) (task : Int) : (heldB l task).length ≤ l.length := by
  unfold heldB
  split
  · unfold ownedBy
    rw [List.length_map]
    exact Nat.le_trans (List.length_filter_le _ _) (by simp)
  · simp
theorem lockB_len (l : List ND) (a task : Int) : (lockB l a task).1.length ≤ l.length := by
  unfold lockB
  split
  · split
    · simp only [giveO_len]; exact Nat.le_refl _
    · exact Nat.le_refl _
  · simp
theorem unlockB_len (l : List ND) (a task : Int) : (unlockB l a task).1.length ≤ l.length := by
  unfold unlockB
  split
  · split
    · simp only [giveO_len]; exact Nat.le_refl _
    · exact Nat.le_refl _
  · simp
end Go.Proofs.Ytoamnecoiicljaa
