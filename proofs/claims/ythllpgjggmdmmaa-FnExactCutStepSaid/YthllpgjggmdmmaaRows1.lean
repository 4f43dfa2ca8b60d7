/- The laws' own helpers over slices of nodes: eqNodeS. -/
import Derived.Test.YthllpgjggmdmmaaList
namespace Go.Proofs.Ythllpgjggmdmmaa
open Go.ChangeShapes Go.WideShapes Go.ChangeAt Go.RowKit
set_option linter.unusedVariables false
set_option linter.unusedSimpArgs false

def S2 (w : World) (b1 o1 : Nat) (n1 : ND) (b2 o2 : Nat) (n2 : ND) (w' : World) : Prop := b1 < w.heap.size ∧ b2 < w.heap.size ∧ Below w.heap.size w w' ∧ At8 w' b1 o1 n1 ∧ At8 w' b2 o2 n2
theorem S2.drew {w : World} {b1 o1 : Nat} {n1 : ND} {b2 o2 : Nat} {n2 : ND} {w' : World} (h : S2 w b1 o1 n1 b2 o2 n2 w') : S2 w b1 o1 n1 b2 o2 n2 w'.drew := ⟨h.1, h.2.1, h.2.2.1.drew, h.2.2.2⟩
theorem S2.out {w : World} {b1 o1 : Nat} {n1 : ND} {b2 o2 : Nat} {n2 : ND} {w' : World} (h : S2 w b1 o1 n1 b2 o2 n2 w') : Below w.heap.size w w' ∧ w'.cell? ⟨b1, o1, none⟩ = some (.int .i64 n1.k) ∧ w'.cell? ⟨b1, o1 + 1, none⟩ = some (.int .i64 n1.v) ∧ w'.cell? ⟨b1, o1 + 2, none⟩ = some (.int .i64 n1.l) ∧ w'.cell? ⟨b1, o1 + 3, none⟩ = some (.int .i64 n1.r) ∧ w'.cell? ⟨b1, o1 + 4, none⟩ = some (.int .i64 n1.o) ∧ w'.cell? ⟨b1, o1 + 5, none⟩ = some (.bool n1.g) ∧ w'.cell? ⟨b1, o1 + 6, none⟩ = some (.int .i64 n1.lt) ∧ w'.cell? ⟨b1, o1 + 7, none⟩ = some (.int .i64 n1.rt) ∧ w'.cell? ⟨b2, o2, none⟩ = some (.int .i64 n2.k) ∧ w'.cell? ⟨b2, o2 + 1, none⟩ = some (.int .i64 n2.v) ∧ w'.cell? ⟨b2, o2 + 2, none⟩ = some (.int .i64 n2.l) ∧ w'.cell? ⟨b2, o2 + 3, none⟩ = some (.int .i64 n2.r) ∧ w'.cell? ⟨b2, o2 + 4, none⟩ = some (.int .i64 n2.o) ∧ w'.cell? ⟨b2, o2 + 5, none⟩ = some (.bool n2.g) ∧ w'.cell? ⟨b2, o2 + 6, none⟩ = some (.int .i64 n2.lt) ∧ w'.cell? ⟨b2, o2 + 7, none⟩ = some (.int .i64 n2.rt) := by
  obtain ⟨_, _, hb, h1, h2⟩ := h
  simp only [At8] at h1 h2
  simp only [h1, h2, hb, and_self]
theorem S2.below {w : World} {b1 o1 : Nat} {n1 : ND} {b2 o2 : Nat} {n2 : ND} {w' w1 : World} (h : S2 w b1 o1 n1 b2 o2 n2 w') (hb : Below w'.heap.size w' w1) : S2 w b1 o1 n1 b2 o2 n2 w1 := by
  obtain ⟨g1, g2, hw, h1, h2⟩ := h
  have hz := hw.size
  exact ⟨g1, g2, hw.trans (hb.mono hz), h1.below hb (by omega), h2.below hb (by omega)⟩

set_option maxHeartbeats 1000000 in
theorem eqNodeS_same (v1 v2 : Value) (l : List ND) (w : World) (h1 : NSl w v1 l) (h2 : NSl w v2 l) :
    Calls Try.prog 29 #[v1, v2] w fun e w' => e = .returned (.bool true) ∧ Below w.heap.size w w' := by
  by_cases hn : l = []
  · subst hn
    obtain ⟨a1, c1, rfl⟩ := h1.nil
    obtain ⟨a2, c2, rfl⟩ := h2.nil
    clear h1 h2
    go_enter Try.func29, Try.ntmps29
    go_wp2
    go_loopw [5] (fun i wr => i = .int .i64 0 ∧ Below w.heap.size w wr) (fun i _ => 0)
    case atStart => exact ⟨rfl, Below.refl _ _⟩
    case round =>
      obtain ⟨rfl, hb⟩ := hrel
      go_wp2
      go_ret
      exact ⟨rfl, hb⟩
  · obtain ⟨b1, o1, c1, rfl, k1, m1, s1, H1⟩ := h1.at hn
    obtain ⟨b2, o2, c2, rfl, k2, m2, s2, H2⟩ := h2.at hn
    unfold maxLen at m1 m2
    clear h1 h2
    go_enter Try.func29, Try.ntmps29
    go_wp2
    go_loopw [5] (fun i wr => ∃ k : Nat, k ≤ l.length ∧ i = .int .i64 k ∧ Below w.heap.size w wr) (fun i _ => l.length - (intOf i).toNat)
    case atStart => exact ⟨0, Nat.zero_le _, rfl, Below.refl _ _⟩
    case round =>
      obtain ⟨k, hk, rfl, hb⟩ := hrel
      by_cases hlt : k < l.length
      · obtain ⟨n, hg⟩ : ∃ n, l[k]? = some n := ⟨_, List.getElem?_eq_getElem hlt⟩
        have A1 := (H1 k n hg).below hb s1
        have A2 := (H2 k n hg).below hb s2
        have i0 : (0 : Int) ≤ (k : Int) := by omega
        have i1 : (k : Int) < (l.length : Int) := by omega
        have HS : S2 w b1 (o1 + k * 8) n b2 (o2 + k * 8) n wr := ⟨s1, s2, hb, A1, A2⟩
        clear hg H1 H2 A1 A2 hb
        go_wp2
        go_region_held3 (fun w' => Below w.heap.size w w' ∧ w'.cell? ⟨b1, o1 + k * 8, none⟩ = some (.int .i64 n.k) ∧ w'.cell? ⟨b1, o1 + k * 8 + 1, none⟩ = some (.int .i64 n.v) ∧ w'.cell? ⟨b1, o1 + k * 8 + 2, none⟩ = some (.int .i64 n.l) ∧ w'.cell? ⟨b1, o1 + k * 8 + 3, none⟩ = some (.int .i64 n.r) ∧ w'.cell? ⟨b1, o1 + k * 8 + 4, none⟩ = some (.int .i64 n.o) ∧ w'.cell? ⟨b1, o1 + k * 8 + 5, none⟩ = some (.bool n.g) ∧ w'.cell? ⟨b1, o1 + k * 8 + 6, none⟩ = some (.int .i64 n.lt) ∧ w'.cell? ⟨b1, o1 + k * 8 + 7, none⟩ = some (.int .i64 n.rt) ∧ w'.cell? ⟨b2, o2 + k * 8, none⟩ = some (.int .i64 n.k) ∧ w'.cell? ⟨b2, o2 + k * 8 + 1, none⟩ = some (.int .i64 n.v) ∧ w'.cell? ⟨b2, o2 + k * 8 + 2, none⟩ = some (.int .i64 n.l) ∧ w'.cell? ⟨b2, o2 + k * 8 + 3, none⟩ = some (.int .i64 n.r) ∧ w'.cell? ⟨b2, o2 + k * 8 + 4, none⟩ = some (.int .i64 n.o) ∧ w'.cell? ⟨b2, o2 + k * 8 + 5, none⟩ = some (.bool n.g) ∧ w'.cell? ⟨b2, o2 + k * 8 + 6, none⟩ = some (.int .i64 n.lt) ∧ w'.cell? ⟨b2, o2 + k * 8 + 7, none⟩ = some (.int .i64 n.rt)) (first | exact S2.out (S2.drew HS) | exact S2.out (S2.below (S2.drew HS) hb1)) ((go_at_call 56; refine (eqNode_same _ _ _ _ _ _ _ _ _).mono ?_; rintro e w1 ⟨rfl, hb1⟩))
        rename_i hH
        have hB := hH.1
        clear hH HS hb1
        go_wp2
        go_roundw
        case rel => exact ⟨k + 1, by omega, by go_num, hB⟩
        case measure => simp [intOf]; omega
      · obtain rfl : k = l.length := by omega
        clear H1 H2
        go_wp2
        go_ret
        exact ⟨rfl, hb⟩
end Go.Proofs.Ythllpgjggmdmmaa
