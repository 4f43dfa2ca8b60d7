/- Walking and Counted of the model. -/
import Derived.Test.YtbfndoajchibbaaGreatNodesSpec
import Derived.Laws.ResultCell
import Derived.Test.YtbfndoajchibbaaGreatRowInt
import Derived.Maps.RangeWalk
import Derived.Deep.AppendLies
namespace Go.Proofs.YtbfndoajchibbaaGreat
open Go.ChangeShapes Go.WideShapes Go.ChangeAt Go.RowKit
set_option linter.unusedVariables false
set_option linter.unusedSimpArgs false

def atI (l : List Int) (i : Nat) : Int := (l[i]?).getD 0
def sizeB (l : List Int) : Bool := inB (l.length : Int) 1 6
@[simp] theorem atI_nil (i : Nat) : atI [] i = 0 := rfl
theorem atI_get {l : List Int} {k : Nat} {x : Int} (h : l[k]? = some x) : atI l k = x := by simp [atI, h]
/-! ### countsOf -/
def countsB (l : List Int) : Bool := sizeB l && l.all fun n => inB n 0 100000
theorem countsB_some {l : List Int} (h : countsB l = true) : 1 ≤ l.length ∧ l.length ≤ 6 ∧ ∀ (k : Nat) (n : Int), l[k]? = some n → 0 ≤ n ∧ n ≤ 100000 := by
  simp only [countsB, Bool.and_eq_true, List.all_eq_true] at h
  have := inB_t h.1
  exact ⟨by omega, by omega, fun (k : Nat) (n : Int) hk => inB_t (h.2 n (List.mem_of_getElem? hk))⟩
theorem countsB_off {l : List Int} {k : Nat} {n : Int} (hn : l[k]? = some n) (h : inB n 0 100000 = false) : countsB l = false := by
  rw [Bool.eq_false_iff]
  intro hc
  simp only [countsB, Bool.and_eq_true, List.all_eq_true] at hc
  rw [hc.2 n (List.mem_of_getElem? hn)] at h
  cases h
theorem countsB_all {l : List Int} (hs : sizeB l = true) (h : ∀ (k : Nat) (n : Int), k < l.length → l[k]? = some n → inB n 0 100000 = true) : countsB l = true := by
  simp only [countsB, Bool.and_eq_true, List.all_eq_true]
  refine ⟨hs, fun n hn => ?_⟩
  obtain ⟨k, hk, e⟩ := List.getElem_of_mem hn
  exact h k n hk (by rw [List.getElem?_eq_getElem hk, e])
set_option maxRecDepth 100000 in
set_option maxHeartbeats 1000000 in
theorem spec_CountsOk (v : Value) (l : List Int) (w : World) (h : SlI w v l) (hl : l.length ≤ 1048576) :
    Calls Tryz.prog 86 #[v] w fun e w' => e = .returned (.bool (countsB l)) ∧ w = w' := by
  by_cases hn : l = []
  · subst hn
    obtain ⟨a1, c1, rfl⟩ := h.nil
    clear h hl
    go_enter Tryz.func86, Tryz.ntmps86
    go_wp2
    go_loop [3] (fun i => i = .int .i64 0) (fun i => 0)
    case atStart => rfl
    case round =>
      obtain rfl := hrel
      go_wp2
      go_ret
      exact ⟨rfl, rfl⟩
  · obtain ⟨b1, o1, c1, rfl, k1, m1, s1, H1⟩ := h.at hn
    have hl1 : 1 ≤ l.length := List.length_pos_iff.2 hn
    unfold maxLen at m1
    clear h hn
    go_enter Tryz.func86, Tryz.ntmps86
    go_wp2
    go_loop [3] (fun i => ∃ k : Nat, k ≤ l.length ∧ i = .int .i64 k ∧ ∀ (j : Nat) (n : Int), j < k → l[j]? = some n → inB n 0 100000 = true) (fun i => l.length - (intOf i).toNat)
    case atStart => exact ⟨0, Nat.zero_le _, rfl, fun j n hj => by omega⟩
    case round =>
      obtain ⟨k, hk, rfl, hP⟩ := hrel
      by_cases hlt : k < l.length
      · obtain ⟨n, hg⟩ : ∃ n, l[k]? = some n := ⟨_, List.getElem?_eq_getElem hlt⟩
        have A1 := H1 k n hg
        have j0 : (0 : Int) ≤ (k : Int) := by omega
        have j1 : (k : Int) < (l.length : Int) := by omega
        rcases Bool.eq_false_or_eq_true (inB n 0 100000) with hin | hin
        · have HI := Lib.hid hin
          have HH := Lib.hid (And.intro hP hg)
          clear hP hg H1 hin
          go_wp2_with fail
          refine (spec_in _ _ _ _).mono ?_
          rintro e w2 ⟨rfl, rfl⟩
          rw [HI.out]
          go_wp2
          refine ⟨⟨k + 1, by omega, by go_num, fun j m hj hm => ?_⟩, by simp [intOf]; omega⟩
          by_cases e : j = k
          · subst e
            rw [HH.out.2] at hm
            cases hm
            exact HI.out
          · exact HH.out.1 j m (by omega) hm
        · have HC := Lib.hid (countsB_off hg hin)
          have HI := Lib.hid hin
          clear hP hg H1 hin
          go_wp2_with fail
          refine (spec_in _ _ _ _).mono ?_
          rintro e w2 ⟨rfl, rfl⟩
          rw [HI.out]
          go_wp2
          go_ret
          exact ⟨by first | rfl | (rw [HC.out]; rfl), rfl⟩
      · obtain rfl : k = l.length := by omega
        have HC : countsB l = sizeB l := by
          rcases Bool.eq_false_or_eq_true (sizeB l) with hs | hs
          · rw [hs]
            exact countsB_all hs (fun k n _ hk => hP k n (List.getElem?_eq_some_iff.1 hk).1 hk)
          · simp [countsB, hs]
        have HC := Lib.hid HC
        clear H1 hP
        by_cases h6 : l.length ≤ 6
        · have h6' : (l.length : Int) ≤ 6 := by omega
          have h1' : (l.length : Int) ≥ 1 := by omega
          go_wp2
          go_ret
          exact ⟨by first | rfl | (rw [HC.out]; simp [sizeB, inB, h6', h1']; done) | (simp [sizeB, inB, h6', h1']; done), rfl⟩
        · have h6' : ¬ (l.length : Int) ≤ 6 := by omega
          have h1' : (l.length : Int) ≥ 1 := by omega
          go_wp2
          go_ret
          exact ⟨by first | rfl | (rw [HC.out]; simp [sizeB, inB, h6', h1']; done) | (simp [sizeB, inB, h6', h1']; done), rfl⟩
end Go.Proofs.YtbfndoajchibbaaGreat
namespace Go.Proofs.YtbfndoajchibbaaGreat
open Go.ChangeShapes Go.WideShapes Go.ChangeAt Go.RowKit
set_option linter.unusedVariables false
set_option linter.unusedSimpArgs false

/-! ### Counted -/
theorem cellsI_one (l : List Int) : ∀ u ∈ cellsI l, u.oneCell' = true := by
  intro u hu
  simp only [cellsI, List.mem_map] at hu
  obtain ⟨n, -, rfl⟩ := hu
  rfl
theorem addr_add (b off i : Nat) : (⟨b, off, none⟩ : Addr).add i = ⟨b, off + i, none⟩ := by
  unfold Addr.add
  split <;> simp_all
theorem cells_newsI {w w1 : World} {l : List Int} {b off c : Nat} (h : SlI w (.slice (some ⟨b, off, none⟩) l.length c) l) (hb : Below w.heap.size w w1) (hn : l ≠ []) : ∀ j u, (cellsI l)[j]? = some u → w1.cell? ((⟨b, off, none⟩ : Addr).add j) = some u := by
  intro j u hj
  obtain ⟨a, cap, hv, -, -, h3, h4⟩ := h.below hb
  cases hv
  rcases h4 with h4 | ⟨b', off', e, hc⟩
  · exact absurd (List.length_eq_zero_iff.1 h4) hn
  · cases e
    rw [addr_add, hc j (List.getElem?_eq_some_iff.1 hj).1, hj]

end Go.Proofs.YtbfndoajchibbaaGreat
namespace Go.Proofs.YtbfndoajchibbaaGreat
open Go.ChangeShapes Go.WideShapes Go.ChangeAt Go.RowKit
set_option linter.unusedVariables false
set_option linter.unusedSimpArgs false

theorem SaysIB.fresh {w w1 w' : World} {l : List Int} {b : Bool} {g : Nat} {u : Value} (hg : w1.heap.size ≤ g) (hO : Own w' u g 2 1 l.length (cellsI l)) (h1 : 1 ≤ l.length) (hB : Below w.heap.size w w1) (hB1 : Below w1.heap.size w1 w') : SaysIB (l, b) w (.returned (.tuple #[u, .bool b])) w' :=
  ⟨u, rfl, OwnR.of_own hO (by have := hB.size; omega) h1, hB.trans (hB1.mono hB.size)⟩

end Go.Proofs.YtbfndoajchibbaaGreat
namespace Go.Proofs.YtbfndoajchibbaaGreat
open Go.ChangeShapes Go.WideShapes Go.ChangeAt Go.RowKit
set_option linter.unusedVariables false
set_option linter.unusedSimpArgs false

/-! ### Counted -/
set_option maxHeartbeats 1000000 in
theorem spec_copyI (v : Value) (l : List Int) (w : World) (h : SlI w v l) (hn : l ≠ []) (hl : l.length ≤ 1048576) : Calls Tryz.prog 89 #[v] w (FreshI w l) := by
  obtain ⟨b1, o1, c1, rfl, k1, m1, s1, H1⟩ := h.at hn
  have hl0 : 0 < l.length := List.length_pos_iff.2 hn
  obtain ⟨i0, hi0, hz0, hz1, hz2⟩ := info_parts infoI64
  have HW := Lib.hid h
  clear H1 h
  go_enter Tryz.func89, Tryz.ntmps89
  go_wp2_with (first
    | (at_builtin; refine wpList_append_lies _ rfl _ _ 33 rfl w.heap.size 2 i0 _ 1 8 Tryz.underlying33 hi0 hz0 hz1 hz2 rfl (by decide) (.slice (some ⟨w.heap.size, 0, none⟩) 0 0) 0 [] rfl (none_row _ _ (Below.refl _ _)) ⟨b1, o1, none⟩ l.length c1 (cellsI l) rfl (by rw [cellsI_len]; omega) (cells_newsI HW.out ((Below.refl _ _).alloc (Nat.le_refl _) _) hn) (cellsI_one l) hl0 (by unfold maxLen; omega) (by omega) (by simp) (w.heap.size + 1) (by simp) ?_; intro g cap w1 hown hgrow hat hgl)
    | go_in)
  go_ret
  rw [List.nil_append, Nat.zero_add] at hown
  obtain ⟨q1, q2⟩ : w.heap.size ≤ g ∧ Below w.heap.size w w1 := ⟨by
      rcases hat with h | h
      · simp [Value.ownBlock] at h; omega
      · omega, ((Below.refl _ _).alloc (Nat.le_refl _) _).grown hgrow (by simp) (fun j hj => by simp [Value.ownBlock] at hj; omega)⟩
  exact ⟨g, _, rfl, q1, own_of_row hown, q2⟩

end Go.Proofs.YtbfndoajchibbaaGreat
