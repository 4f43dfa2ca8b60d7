import Derived.Test.YtfjafncipjdnfaaGreatNodesSpec
import Derived.Test.YtfjafncipjdnfaaGreatOpen
import Derived.Deep.AppendLies
namespace Go.Proofs.YtfjafncipjdnfaaGreat
open Go.ChangeShapes Go.WideShapes Go.ChangeAt Go.RowKit
set_option linter.unusedVariables false
set_option linter.unusedSimpArgs false
def nD (l : List ND) (k : Nat) (x : Int) : Option Int :=
  if 0 ≤ x ∧ x < k then (match l[x.toNat]? with | some n => if n.o = 0 then none else some (n.o - 1) | none => none) else none
def tK (l : List ND) (task : Int) : List Int := ((List.range l.length).filter fun i => match l[i]? with | some n => n.o == task + 1 | none => false).map fun (i : Nat) => (i : Int)
def eF (t : Int) : Bool := XA t 0 5
def tB (l : List ND) (task : Int) : List Int := if FB l && eF task then tK l task else []
def SE (n : ND) (o : Int) : ND := { n with o := o }
def mC (l : List ND) (at' : Int) : Bool := XA at' 0 ((l.length : Int) - 1)
def NE (l : List ND) (at' : Int) : Int := match l[at'.toNat]? with | some n => n.o | none => 0
def CD (l : List ND) (at' o : Int) : List ND := match l[at'.toNat]? with | some n => l.set at'.toNat (SE n o) | none => l
def rB (l : List ND) (at' task : Int) : List ND × Bool :=
  if FB l && eF task then (if mC l at' && NE l at' == 0 then (CD l at' (task + 1), true) else (l, false)) else ([], false)
theorem gB {l : List ND} (h : FB l = true) : 1 ≤ l.length ∧ l.length ≤ 30 := by
  match l, h with
  | m :: r, h =>
    simp only [FB, Bool.and_eq_true, decide_eq_true_eq] at h
    exact h.1
theorem gI (l : List ND) : ∀ u ∈ cellsOf l, u.oneCell' = true := by
  intro u hu
  obtain ⟨n, -, hn⟩ := List.mem_flatMap.1 hu
  simp [ND.cells] at hn
  rcases hn with rfl | rfl | rfl | rfl | rfl | rfl | rfl | rfl <;> rfl
theorem XI {w w1 : World} {l : List ND} {b off c : Nat} (h : Sl w (.slice (some ⟨b, off, none⟩) l.length c) 8 l.length (cellsOf l)) (hb : Below w.heap.size w w1) (hn : l ≠ []) : ∀ j u, (cellsOf l)[j]? = some u → w1.cell? ((⟨b, off, none⟩ : Addr).add j) = some u := by
  intro j u hj
  obtain ⟨a, cap, hv, -, -, h3, h4⟩ := Sl.below (by omega) h hb
  cases hv
  rcases h4 with h4 | ⟨b', off', e, hc⟩
  · exact absurd (List.length_eq_zero_iff.1 h4) hn
  · cases e
    rw [CM, hc j (List.getElem?_eq_some_iff.1 hj).1, hj]
theorem ON {l : List ND} {k : Nat} {n : ND} (h : l[k]? = some n) (o : Int) : (cellsOf l).set (k * 8 + 4) (.int .i64 o) = cellsOf (l.set k (SE n o)) := by
  induction l generalizing k with
  | nil => simp at h
  | cons m r ih =>
    cases k with
    | zero =>
      simp at h
      subst h
      simp [cellsOf, ND.cells, SE]
    | succ k =>
      simp only [List.getElem?_cons_succ] at h
      have e : cellsOf (m :: r) = m.cells ++ cellsOf r := rfl
      rw [e, List.set_append_right _ _ (by rw [ND.cells_len]; omega), ND.cells_len, show (k + 1) * 8 + 4 - 8 = k * 8 + 4 by omega, ih h]
      rfl
theorem Blk.there4 {w : World} {g : Nat} {e : TypeId} {l : List ND} {sp : List Value} {k : Nat} {n : ND} (h : Blk w g e (cellsOf l ++ sp)) (hn : l[k]? = some n) : w.cell? ⟨g, k * 8 + 4, none⟩ = some (.int .i64 n.o) ∧ w.frozen? ⟨g, k * 8 + 4, none⟩ = false := by
  have hk : k < l.length := (List.getElem?_eq_some_iff.1 hn).1
  refine ⟨?_, h.free _⟩
  rw [h.cell, List.getElem?_append_left (by rw [kA]; omega), iI hn 4 (by omega)]
  rfl
theorem Blk.set4 {w : World} {g : Nat} {e : TypeId} {l : List ND} {sp : List Value} {k : Nat} {n : ND} (h : Blk w g e (cellsOf l ++ sp)) (hn : l[k]? = some n) (o : Int) : Blk (w.setCell ⟨g, k * 8 + 4, none⟩ (.int .i64 o)) g e (cellsOf (l.set k (SE n o)) ++ sp) := by
  have hk : k < l.length := (List.getElem?_eq_some_iff.1 hn).1
  have := h.set (k * 8 + 4) (.int .i64 o)
  rwa [List.set_append_left _ _ (by rw [kA]; omega), ON hn] at this
def SaysL (r : List ND × Bool) (w : World) (e : Ending) (w' : World) : Prop :=
  ∃ u, e = .returned (.tuple #[u, .bool r.2]) ∧ OwnR w' w.heap.size w'.heap.size 37 8 r.1.length (cellsOf r.1) u ∧ Below w.heap.size w w'
theorem SaysL.fresh {w w1 w' : World} {l : List ND} {g : Nat} {u : Value} {b : Bool} (hB : Below w.heap.size w w1) (hg : w1.heap.size ≤ g) (hO : Own w' u g 37 8 l.length (cellsOf l)) (hl : 1 ≤ l.length) (hB' : Below w1.heap.size w1 w') : SaysL (l, b) w (.returned (.tuple #[u, .bool b])) w' :=
  ⟨u, rfl, OwnR.of_own hO (show w.heap.size ≤ g by have := hB.size; omega) (show 0 < l.length from hl), hB.trans (hB'.mono hB.size)⟩
theorem BF (l : List ND) (a o : Int) : (CD l a o).length = l.length := by
  unfold CD
  split <;> simp
end Go.Proofs.YtfjafncipjdnfaaGreat
