import Derived.Test.YtfjafncipjdnfaaGreatNodesSpec
import Derived.Laws.ResultCell
import Derived.Test.YtfjafncipjdnfaaGreatRowInt
import Derived.Maps.RangeWalk
import Derived.Deep.AppendLies
namespace Go.Proofs.YtfjafncipjdnfaaGreat
open Go.ChangeShapes Go.WideShapes Go.ChangeAt Go.RowKit
set_option linter.unusedVariables false
set_option linter.unusedSimpArgs false
def aE (l : List Int) (i : Nat) : Int := (l[i]?).getD 0
def tG (l : List Int) (n : Int) : List Value := [.int .i64 (aE l 0), .int .i64 (aE l 1), .int .i64 (aE l 2), .int .i64 (aE l 3), .int .i64 (aE l 4), .int .i64 (aE l 5), .int .i64 n]
def bH (l : List Int) : Bool := ZA (l.length : Int) 1 6
@[simp] theorem atI_nil (i : Nat) : aE [] i = 0 := rfl
theorem bM {l : List Int} {k : Nat} {x : Int} (h : l[k]? = some x) : aE l k = x := by simp [aE, h]
theorem ZM (l : List Int) (k i : Nat) : aE (l.take k) i = if i < k then aE l i else 0 := by
  simp only [aE, List.getElem?_take]
  split <;> rfl
theorem JO {l : List Int} {k : Nat} {x n : Int} (h : l[k]? = some x) (hk : k < 6) : (tG (l.take k) n).set k (.int .i64 x) = tG (l.take (k + 1)) n := by
  have hx := bM h
  rcases (show k = 0 ∨ k = 1 ∨ k = 2 ∨ k = 3 ∨ k = 4 ∨ k = 5 by omega) with rfl | rfl | rfl | rfl | rfl | rfl <;> simp [tG, ZM, hx]
def PadTo (w : World) (l : List Int) (k : Nat) (wr : World) : Prop := Below w.heap.size w wr ∧ Blk wr w.heap.size 132 (tG [] 0) ∧ Blk wr (w.heap.size + 1) 132 (tG (l.take k) l.length)
theorem PadTo.step {w : World} {l : List Int} {k : Nat} {wr : World} {x : Int} (h : PadTo w l k wr) (hx : l[k]? = some x) (hk : k < 6) : PadTo w l (k + 1) (wr.setCell ⟨w.heap.size + 1, k, none⟩ (.int .i64 x)) := by
  obtain ⟨h1, h2, h3⟩ := h
  refine ⟨h1.setCell (by simp) _, (But.set _ _ _ _).blk h2 (by omega), ?_⟩
  have := h3.set k (.int .i64 x)
  rwa [JO hx hk] at this
def sD (l : List Int) : Bool := bH l && l.all fun n => ZA n 0 100000
theorem AC {l : List Int} (h : sD l = true) : 1 ≤ l.length ∧ l.length ≤ 6 ∧ ∀ (k : Nat) (n : Int), l[k]? = some n → 0 ≤ n ∧ n ≤ 100000 := by
  simp only [sD, Bool.and_eq_true, List.all_eq_true] at h
  have := QC h.1
  exact ⟨by omega, by omega, fun (k : Nat) (n : Int) hk => QC (h.2 n (List.mem_of_getElem? hk))⟩
theorem NK {l : List Int} {k : Nat} {n : Int} (hn : l[k]? = some n) (h : ZA n 0 100000 = false) : sD l = false := by
  rw [Bool.eq_false_iff]
  intro hc
  simp only [sD, Bool.and_eq_true, List.all_eq_true] at hc
  rw [hc.2 n (List.mem_of_getElem? hn)] at h
  cases h
theorem OK {l : List Int} (hs : bH l = true) (h : ∀ (k : Nat) (n : Int), k < l.length → l[k]? = some n → ZA n 0 100000 = true) : sD l = true := by
  simp only [sD, Bool.and_eq_true, List.all_eq_true]
  refine ⟨hs, fun n hn => ?_⟩
  obtain ⟨k, hk, e⟩ := List.getElem_of_mem hn
  exact h k n hk (by rw [List.getElem?_eq_getElem hk, e])
set_option maxRecDepth 100000 in
set_option maxHeartbeats 1000000 in
theorem AI (v : Value) (l : List Int) (w : World) (h : SlI w v l) (hl : l.length ≤ 1048576) :
    Calls Tryz.prog 63 #[v] w fun e w' => e = .returned (.bool (sD l)) ∧ w = w' := by
  by_cases hn : l = []
  · subst hn
    obtain ⟨a1, c1, rfl⟩ := h.nil
    clear h hl
    go_enter Tryz.func63, Tryz.ntmps63
    go_wp2
    go_loop [3] (fun i => i = .int .i64 0) (fun i => 0)
    case atStart => rfl
    case round =>
      obtain rfl := hrel
      go_wp2
      go_ret
      exact ⟨rfl, rfl⟩
  · obtain ⟨b1, o1, c1, rfl, k1, m1, s1, H1⟩ := h.at hn
    have hl1 : 1 ≤ l.length := List.length_pos_iff.2 hn
    unfold maxLen at m1
    clear h hn
    go_enter Tryz.func63, Tryz.ntmps63
    go_wp2
    go_loop [3] (fun i => ∃ k : Nat, k ≤ l.length ∧ i = .int .i64 k ∧ ∀ (j : Nat) (n : Int), j < k → l[j]? = some n → ZA n 0 100000 = true) (fun i => l.length - (intOf i).toNat)
    case atStart => exact ⟨0, Nat.zero_le _, rfl, fun j n hj => by omega⟩
    case round =>
      obtain ⟨k, hk, rfl, hP⟩ := hrel
      by_cases hlt : k < l.length
      · obtain ⟨n, hg⟩ : ∃ n, l[k]? = some n := ⟨_, List.getElem?_eq_getElem hlt⟩
        have A1 := H1 k n hg
        have j0 : (0 : Int) ≤ (k : Int) := by omega
        have j1 : (k : Int) < (l.length : Int) := by omega
        rcases Bool.eq_false_or_eq_true (ZA n 0 100000) with hin | hin
        · have HI := Lib.hid hin
          have HH := Lib.hid (And.intro hP hg)
          clear hP hg H1 hin
          go_wp2_with fail
          refine (UA _ _ _ _).mono ?_
          rintro e w2 ⟨rfl, rfl⟩
          rw [HI.out]
          go_wp2
          refine ⟨⟨k + 1, by omega, by go_num, fun j m hj hm => ?_⟩, by simp [intOf]; omega⟩
          by_cases e : j = k
          · subst e
            rw [HH.out.2] at hm
            cases hm
            exact HI.out
          · exact HH.out.1 j m (by omega) hm
        · have HC := Lib.hid (NK hg hin)
          have HI := Lib.hid hin
          clear hP hg H1 hin
          go_wp2_with fail
          refine (UA _ _ _ _).mono ?_
          rintro e w2 ⟨rfl, rfl⟩
          rw [HI.out]
          go_wp2
          go_ret
          exact ⟨by first | rfl | (rw [HC.out]; rfl), rfl⟩
      · obtain rfl : k = l.length := by omega
        have HC : sD l = bH l := by
          rcases Bool.eq_false_or_eq_true (bH l) with hs | hs
          · rw [hs]
            exact OK hs (fun k n _ hk => hP k n (List.getElem?_eq_some_iff.1 hk).1 hk)
          · simp [sD, hs]
        have HC := Lib.hid HC
        clear H1 hP
        by_cases h6 : l.length ≤ 6
        · have h6' : (l.length : Int) ≤ 6 := by omega
          have h1' : (l.length : Int) ≥ 1 := by omega
          go_wp2
          go_ret
          exact ⟨by first | rfl | (rw [HC.out]; simp [bH, ZA, h6', h1']; done) | (simp [bH, ZA, h6', h1']; done), rfl⟩
        · have h6' : ¬ (l.length : Int) ≤ 6 := by omega
          have h1' : (l.length : Int) ≥ 1 := by omega
          go_wp2
          go_ret
          exact ⟨by first | rfl | (rw [HC.out]; simp [bH, ZA, h6', h1']; done) | (simp [bH, ZA, h6', h1']; done), rfl⟩
theorem EL (l : List Int) : ∀ u ∈ CA l, u.oneCell' = true := by
  intro u hu
  simp only [CA, List.mem_map] at hu
  obtain ⟨n, -, rfl⟩ := hu
  rfl
theorem IN (b off i : Nat) : (⟨b, off, none⟩ : Addr).add i = ⟨b, off + i, none⟩ := by
  unfold Addr.add
  split <;> simp_all
theorem RK {w w1 : World} {l : List Int} {b off c : Nat} (h : SlI w (.slice (some ⟨b, off, none⟩) l.length c) l) (hb : Below w.heap.size w w1) (hn : l ≠ []) : ∀ j u, (CA l)[j]? = some u → w1.cell? ((⟨b, off, none⟩ : Addr).add j) = some u := by
  intro j u hj
  obtain ⟨a, cap, hv, -, -, h3, h4⟩ := h.below hb
  cases hv
  rcases h4 with h4 | ⟨b', off', e, hc⟩
  · exact absurd (List.length_eq_zero_iff.1 h4) hn
  · cases e
    rw [IN, hc j (List.getElem?_eq_some_iff.1 hj).1, hj]
theorem SaysIB.fresh {w w1 w' : World} {l : List Int} {b : Bool} {g : Nat} {u : Value} (hg : w1.heap.size ≤ g) (hO : Own w' u g 2 1 l.length (CA l)) (h1 : 1 ≤ l.length) (hB : Below w.heap.size w w1) (hB1 : Below w1.heap.size w1 w') : SaysIB (l, b) w (.returned (.tuple #[u, .bool b])) w' :=
  ⟨u, rfl, OwnR.of_own hO (by have := hB.size; omega) h1, hB.trans (hB1.mono hB.size)⟩
set_option maxHeartbeats 1000000 in
theorem DH (v : Value) (l : List Int) (w : World) (h : SlI w v l) (hn : l ≠ []) (hl : l.length ≤ 1048576) : Calls Tryz.prog 104 #[v] w (LN w l) := by
  obtain ⟨b1, o1, c1, rfl, k1, m1, s1, H1⟩ := h.at hn
  have hl0 : 0 < l.length := List.length_pos_iff.2 hn
  obtain ⟨i0, hi0, hz0, hz1, hz2⟩ := info_parts YL
  have HW := Lib.hid h
  clear H1 h
  go_enter Tryz.func104, Tryz.ntmps104
  go_wp2_with (first
    | (at_builtin; refine wpList_append_lies _ rfl _ _ 39 rfl w.heap.size 2 i0 _ 1 8 pB hi0 hz0 hz1 hz2 rfl (by decide) (.slice (some ⟨w.heap.size, 0, none⟩) 0 0) 0 [] rfl (wF _ _ (Below.refl _ _)) ⟨b1, o1, none⟩ l.length c1 (CA l) rfl (by rw [BA]; omega) (RK HW.out ((Below.refl _ _).alloc (Nat.le_refl _) _) hn) (EL l) hl0 (by unfold maxLen; omega) (by omega) (by simp) (w.heap.size + 1) (by simp) ?_; intro g cap w1 hown hgrow hat hgl)
    | go_in)
  go_ret
  rw [List.nil_append, Nat.zero_add] at hown
  obtain ⟨q1, q2⟩ : w.heap.size ≤ g ∧ Below w.heap.size w w1 := ⟨by
      rcases hat with h | h
      · simp [Value.ownBlock] at h; omega
      · omega, ((Below.refl _ _).alloc (Nat.le_refl _) _).grown hgrow (by simp) (fun j hj => by simp [Value.ownBlock] at hj; omega)⟩
  exact ⟨g, _, rfl, q1, MD hown, q2⟩
end Go.Proofs.YtfjafncipjdnfaaGreat
