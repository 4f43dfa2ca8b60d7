import Derived.Test.YtfjafncipjdnfaaGreatNodesSpec
import Derived.Laws.ResultCell
import Derived.Test.YtfjafncipjdnfaaGreatRowInt
import Derived.Maps.RangeWalk
import Derived.Deep.AppendLies
namespace Go.Proofs.YtfjafncipjdnfaaGreat
open Go.ChangeShapes Go.WideShapes Go.ChangeAt Go.RowKit
set_option linter.unusedVariables false
set_option linter.unusedSimpArgs false
def dD (l : List Int) (i : Nat) : Int := (l[i]?).getD 0
def xC (l : List Int) (n : Int) : List Value := [.int .i64 (dD l 0), .int .i64 (dD l 1), .int .i64 (dD l 2), .int .i64 (dD l 3), .int .i64 (dD l 4), .int .i64 (dD l 5), .int .i64 n]
def ptA (l : List Int) (n : Int) : Value := .agg #[.int .i64 (dD l 0), .int .i64 (dD l 1), .int .i64 (dD l 2), .int .i64 (dD l 3), .int .i64 (dD l 4), .int .i64 (dD l 5), .int .i64 n]
def KP (l : List Int) : Value := ptA l l.length
def YF (l : List Int) : Bool := aB (l.length : Int) 1 6
@[simp] theorem EP (i : Nat) : dD [] i = 0 := rfl
theorem NI {l : List Int} {k : Nat} {x : Int} (h : l[k]? = some x) : dD l k = x := by simp [dD, h]
theorem qO (l : List Int) (k i : Nat) : dD (l.take k) i = if i < k then dD l i else 0 := by
  simp only [dD, List.getElem?_take]
  split <;> rfl
theorem ZP {l : List Int} {k : Nat} {x n : Int} (h : l[k]? = some x) (hk : k < 6) : (xC (l.take k) n).set k (.int .i64 x) = xC (l.take (k + 1)) n := by
  have hx := NI h
  rcases (show k = 0 ∨ k = 1 ∨ k = 2 ∨ k = 3 ∨ k = 4 ∨ k = 5 by omega) with rfl | rfl | rfl | rfl | rfl | rfl <;> simp [xC, qO, hx]
theorem FF {w : World} {g : Nat} {t : TypeId} {l : List Int} {n : Int} (h : Blk w g t (xC l n)) : w.cell? ⟨g, 0, none⟩ = some (.int .i64 (dD l 0)) ∧ w.cell? ⟨g, 1, none⟩ = some (.int .i64 (dD l 1)) ∧ w.cell? ⟨g, 2, none⟩ = some (.int .i64 (dD l 2)) ∧ w.cell? ⟨g, 3, none⟩ = some (.int .i64 (dD l 3)) ∧ w.cell? ⟨g, 4, none⟩ = some (.int .i64 (dD l 4)) ∧ w.cell? ⟨g, 5, none⟩ = some (.int .i64 (dD l 5)) ∧ w.cell? ⟨g, 6, none⟩ = some (.int .i64 n) ∧ ∀ i, w.frozen? ⟨g, i, none⟩ = false :=
  ⟨h.cell 0, h.cell 1, h.cell 2, h.cell 3, h.cell 4, h.cell 5, h.cell 6, fun i => h.free i⟩
def sO (w : World) (g : Nat) (l : List Int) (n : Int) : World := ((((((w.setCell ⟨g, 0, none⟩ (.int .i64 (dD l 0))).setCell ⟨g, 1, none⟩ (.int .i64 (dD l 1))).setCell ⟨g, 2, none⟩ (.int .i64 (dD l 2))).setCell ⟨g, 3, none⟩ (.int .i64 (dD l 3))).setCell ⟨g, 4, none⟩ (.int .i64 (dD l 4))).setCell ⟨g, 5, none⟩ (.int .i64 (dD l 5))).setCell ⟨g, 6, none⟩ (.int .i64 n)
theorem GG {w : World} {g : Nat} {t : TypeId} {l l' : List Int} {n n' : Int} (h : Blk w g t (xC l' n')) : Blk (sO w g l n) g t (xC l n) :=
  ((((((h.set 0 (.int .i64 (dD l 0))).set 1 (.int .i64 (dD l 1))).set 2 (.int .i64 (dD l 2))).set 3 (.int .i64 (dD l 3))).set 4 (.int .i64 (dD l 4))).set 5 (.int .i64 (dD l 5))).set 6 (.int .i64 n)
theorem sF {B : Nat} {w0 w : World} {g : Nat} (h : Below B w0 w) (hB : B ≤ g) (l : List Int) (n : Int) : Below B w0 (sO w g l n) :=
  ((((((h.setCell (p := ⟨g, 0, none⟩) hB _).setCell (p := ⟨g, 1, none⟩) hB _).setCell (p := ⟨g, 2, none⟩) hB _).setCell (p := ⟨g, 3, none⟩) hB _).setCell (p := ⟨g, 4, none⟩) hB _).setCell (p := ⟨g, 5, none⟩) hB _).setCell (p := ⟨g, 6, none⟩) hB _
theorem uP : (Tryz.prog.info? 132).map (fun i => i.size) = some 7 := by kernel_rfl
theorem iF {fn : Func} {p u : Tmp} (h : fn.results = #[.cell p 132, .tmp u]) {tmps : Array Value} {w : World} {g : Nat} {t : TypeId} {l : List Int} {n : Int} (hp : tmps.getD p undef = .pointer (some ⟨g, 0, none⟩)) (hg : Blk w g t (xC l n)) :
    (results fn tmps).run Tryz.prog w = .ok (.tuple #[ptA l n, tmps.getD u undef]) w := by
  rw [results_cell_tmp h, hp]
  simp [asAddr, run_loadVar_row (P := Tryz.prog) w g t 132 (xC l n).toArray (0, 0) _ hg Tryz.underlying132 rfl uP, Result.andThen]
  rfl
def PadTo (w : World) (l : List Int) (k : Nat) (wr : World) : Prop := Below w.heap.size w wr ∧ Blk wr w.heap.size 132 (xC [] 0) ∧ Blk wr (w.heap.size + 1) 132 (xC (l.take k) l.length)
theorem PadTo.room {w : World} {l : List Int} {k : Nat} {wr : World} (h : PadTo w l k wr) (hk : k < 6) : ∃ x0, wr.cell? ⟨w.heap.size + 1, k, none⟩ = some x0 ∧ wr.frozen? ⟨w.heap.size + 1, k, none⟩ = false := by
  have := h.2.2.cell k
  rw [List.getElem?_eq_getElem (by simp [xC]; omega)] at this
  exact ⟨_, this, h.2.2.free k⟩
theorem PadTo.step {w : World} {l : List Int} {k : Nat} {wr : World} {x : Int} (h : PadTo w l k wr) (hx : l[k]? = some x) (hk : k < 6) : PadTo w l (k + 1) (wr.setCell ⟨w.heap.size + 1, k, none⟩ (.int .i64 x)) := by
  obtain ⟨h1, h2, h3⟩ := h
  refine ⟨h1.setCell (by simp) _, (But.set _ _ _ _).blk h2 (by omega), ?_⟩
  have := h3.set k (.int .i64 x)
  rwa [ZP hx hk] at this
set_option maxRecDepth 100000 in
set_option maxHeartbeats 2000000 in
theorem eJ (v : Value) (l : List Int) (w : World) (h : SlI w v l) (hl : l.length ≤ 1048576) :
    Calls Tryz.prog 141 #[v] w fun e w' => e = .returned (.tuple #[if YF l then KP l else KP [], .bool (YF l)]) ∧ Below w.heap.size w w' := by
  rcases Bool.eq_false_or_eq_true (YF l) with hs | hs
  · have hs' := NC hs
    have hne : l ≠ [] := by intro e; subst e; simp at hs'
    obtain ⟨b1, o1, c1, rfl, k1, m1, s1, H1⟩ := h.at hne
    unfold maxLen at m1
    have HS := Lib.hid hs
    clear h
    rw [hs, if_pos rfl]
    clear hs
    go_enter Tryz.func141, Tryz.ntmps141
    go_wp2_with fail
    refine (YB _ _ _ _).mono ?_
    rintro e w1 ⟨rfl, rfl⟩
    rw [show aB (l.length : Int) 1 6 = true from HS.out]
    go_wp2
    go_loopw [18] (fun i wr => ∃ k : Nat, k ≤ l.length ∧ i = .int .i64 k ∧ PadTo w l k wr) (fun i _ => l.length - (intOf i).toNat)
    case atStart =>
      refine ⟨0, Nat.zero_le _, rfl, ?_, ?_, ?_⟩
      · exact ((Below.refl _ _).alloc (Nat.le_refl _) _).alloc (by simp) _
      · exact Blk.below (B := w.heap.size + 1) (heap_alloc_new w _) ((Below.refl _ _).alloc (by simp) _) (by omega)
      · have := heap_alloc_new (w.alloc (.cells (xC [] 0).toArray 132)) (.cells (xC [] l.length).toArray 132)
        simpa [Blk, xC] using this
    case round =>
      obtain ⟨k, hk, rfl, hP⟩ := hrel
      by_cases hlt : k < l.length
      · obtain ⟨n, hg⟩ : ∃ n, l[k]? = some n := ⟨_, List.getElem?_eq_getElem hlt⟩
        have A1 : wr.cell? ⟨b1, o1 + k, none⟩ = some (.int .i64 n) := (hP.1.cell (p := ⟨b1, o1 + k, none⟩) s1).trans (H1 k n hg)
        have j0 : (0 : Int) ≤ (k : Int) := by omega
        have j1 : (k : Int) < (l.length : Int) := by omega
        have j2 : (k : Int) < 6 := by omega
        have j3 : k < 6 := by omega
        obtain ⟨x0, y0, yf⟩ := hP.room j3
        have HH := Lib.hid (And.intro hP hg)
        clear hP hg H1
        go_wp2
        exact ⟨⟨k + 1, by omega, by go_num, HH.out.1.step HH.out.2 j3⟩, by simp [intOf]; omega⟩
      · obtain rfl : k = l.length := by omega
        obtain ⟨z0, z1, z2, z3, z4, z5, z6, zf⟩ := FF hP.2.1
        obtain ⟨y0, y1, y2, y3, y4, y5, y6, yf⟩ := FF hP.2.2
        rw [List.take_length] at y0 y1 y2 y3 y4 y5
        have HP := Lib.hid hP
        clear H1 hP
        go_wp2
        exact bodyPost_ret (iF rfl rfl (GG (n := l.length) HP.out.2.1)) rfl ⟨rfl, sF HP.out.1 (Nat.le_refl _) l l.length⟩
  · obtain ⟨a, c, rfl, k1, m1⟩ : ∃ a c, v = .slice a l.length c ∧ l.length ≤ c ∧ c ≤ maxLen := by
      obtain ⟨a, c, rfl, k1, m1, -⟩ := h
      exact ⟨a, c, rfl, k1, m1⟩
    clear h
    have HS := Lib.hid hs
    rw [hs, if_neg (by simp)]
    clear hs
    go_enter Tryz.func141, Tryz.ntmps141
    go_wp2_with fail
    refine (YB _ _ _ _).mono ?_
    rintro e w1 ⟨rfl, rfl⟩
    rw [show aB (l.length : Int) 1 6 = false from HS.out]
    go_wp2
    exact bodyPost_ret (iF (l := []) (n := 0) rfl rfl (heap_alloc_new w _)) rfl ⟨rfl, (Below.refl _ _).alloc (Nat.le_refl _) _⟩
def MB (l : List Int) : Bool := YF l && l.all fun n => aB n 0 100000
def ptR (l : List Int) : Value := if MB l then KP l else KP []
theorem LP {l : List Int} (h : MB l = true) : ptR l = KP l := by rw [ptR, if_pos h]
theorem yO {l : List Int} (h : MB l = false) : ptR l = KP [] := by rw [ptR, if_neg (by rw [h]; simp)]
theorem mC {l : List Int} (h : MB l = true) : 1 ≤ l.length ∧ l.length ≤ 6 ∧ ∀ (k : Nat) (n : Int), l[k]? = some n → 0 ≤ n ∧ n ≤ 100000 := by
  simp only [MB, Bool.and_eq_true, List.all_eq_true] at h
  have := NC h.1
  exact ⟨by omega, by omega, fun (k : Nat) (n : Int) hk => NC (h.2 n (List.mem_of_getElem? hk))⟩
theorem tI {l : List Int} {k : Nat} {n : Int} (hn : l[k]? = some n) (h : aB n 0 100000 = false) : MB l = false := by
  rw [Bool.eq_false_iff]
  intro hc
  simp only [MB, Bool.and_eq_true, List.all_eq_true] at hc
  rw [hc.2 n (List.mem_of_getElem? hn)] at h
  cases h
theorem vI {l : List Int} (hs : YF l = true) (h : ∀ (k : Nat) (n : Int), k < l.length → l[k]? = some n → aB n 0 100000 = true) : MB l = true := by
  simp only [MB, Bool.and_eq_true, List.all_eq_true]
  refine ⟨hs, fun n hn => ?_⟩
  obtain ⟨k, hk, e⟩ := List.getElem_of_mem hn
  exact h k n hk (by rw [List.getElem?_eq_getElem hk, e])
def CntTo (w : World) (l : List Int) (g k : Nat) (wr : World) : Prop := Below w.heap.size w wr ∧ Blk wr w.heap.size 132 (xC [] 0) ∧ Blk wr g 132 (xC l l.length) ∧ ∀ (j : Nat) (n : Int), j < k → l[j]? = some n → aB n 0 100000 = true
set_option maxRecDepth 100000 in
set_option maxHeartbeats 2000000 in
theorem QJ (v : Value) (l : List Int) (w : World) (h : SlI w v l) (hl : l.length ≤ 1048576) :
    Calls Tryz.prog 109 #[v] w fun e w' => e = .returned (.tuple #[ptR l, .bool (MB l)]) ∧ Below w.heap.size w w' := by
  have C := fun w h => eJ v l w h hl
  rcases Bool.eq_false_or_eq_true (YF l) with hs | hs
  · have hs' := NC hs
    have hne : l ≠ [] := by intro e; subst e; simp at hs'
    have H0 := h.below ((Below.refl _ _).alloc (Nat.le_refl _) (.cells (xC [] 0).toArray 132))
    obtain ⟨b1, o1, c1, rfl, k1, m1, s1, H1⟩ := h.at hne
    unfold maxLen at m1
    have HS := Lib.hid hs
    simp only [hs, if_true] at C
    clear h hs
    go_enter Tryz.func109, Tryz.ntmps109
    go_wp2_with fail
    refine (C _ H0).mono ?_
    rintro e w1 ⟨rfl, hB1⟩
    have hz := hB1.size
    simp at hz
    have hB0 : Below w.heap.size w w1 := ((Below.refl _ _).alloc (Nat.le_refl _) _).trans (hB1.mono (by simp))
    have hZ : Blk w1 w.heap.size 132 (xC [] 0) := Blk.below (heap_alloc_new w _) hB1 (by simp)
    have HB := Lib.hid (And.intro hB0 hZ)
    clear hB1 hB0 hZ C H0
    unfold KP ptA
    go_wp2
    go_loopw [18] (fun i wr => ∃ k : Nat, k ≤ l.length ∧ i = .int .i64 k ∧ CntTo w l w1.heap.size k wr) (fun i _ => l.length - (intOf i).toNat)
    case atStart =>
      refine ⟨0, Nat.zero_le _, rfl, HB.out.1.alloc (by omega) _, ?_, heap_alloc_new w1 _, fun j n hj => by omega⟩
      exact HB.out.2.below ((Below.refl w1.heap.size _).alloc (Nat.le_refl _) _) (by omega)
    case round =>
      obtain ⟨k, hk, rfl, hP⟩ := hrel
      by_cases hlt : k < l.length
      · obtain ⟨n, hg⟩ : ∃ n, l[k]? = some n := ⟨_, List.getElem?_eq_getElem hlt⟩
        have A1 : wr.cell? ⟨b1, o1 + k, none⟩ = some (.int .i64 n) := (hP.1.cell (p := ⟨b1, o1 + k, none⟩) s1).trans (H1 k n hg)
        have j0 : (0 : Int) ≤ (k : Int) := by omega
        have j1 : (k : Int) < (l.length : Int) := by omega
        rcases Bool.eq_false_or_eq_true (aB n 0 100000) with hin | hin
        · have HI := Lib.hid hin
          have HH := Lib.hid (And.intro hP hg)
          clear hP hg H1 hin
          go_wp2_with fail
          refine (YB _ _ _ _).mono ?_
          rintro e w2 ⟨rfl, rfl⟩
          rw [HI.out]
          go_wp2
          refine ⟨⟨k + 1, by omega, by go_num, HH.out.1.1, HH.out.1.2.1, HH.out.1.2.2.1, fun j m hj hm => ?_⟩, by simp [intOf]; omega⟩
          by_cases e : j = k
          · subst e
            rw [HH.out.2] at hm
            cases hm
            exact HI.out
          · exact HH.out.1.2.2.2 j m (by omega) hm
        · have HC := Lib.hid (tI hg hin)
          have HI := Lib.hid hin
          obtain ⟨z0, z1, z2, z3, z4, z5, z6, zf⟩ := FF hP.2.1
          have HH := Lib.hid (And.intro hP hg)
          clear hP hg H1 hin
          go_wp2_with fail
          refine (YB _ _ _ _).mono ?_
          rintro e w2 ⟨rfl, rfl⟩
          rw [HI.out]
          go_wp2
          exact bodyPost_ret (iF rfl rfl (GG (l := []) (n := 0) HH.out.1.2.1)) rfl ⟨by rw [HC.out, yO HC.out]; rfl, sF HH.out.1.1 (Nat.le_refl _) [] 0⟩
      · obtain rfl : k = l.length := by omega
        have HC := Lib.hid (vI HS.out (fun k n _ hk => hP.2.2.2 k n (List.getElem?_eq_some_iff.1 hk).1 hk))
        obtain ⟨z0, z1, z2, z3, z4, z5, z6, zf⟩ := FF hP.2.1
        obtain ⟨y0, y1, y2, y3, y4, y5, y6, yf⟩ := FF hP.2.2.1
        have HP := Lib.hid hP
        clear H1 hP
        go_wp2
        exact bodyPost_ret (iF rfl rfl (GG (l := l) (n := l.length) HP.out.2.1)) rfl ⟨by rw [HC.out, LP HC.out]; rfl, sF HP.out.1 (Nat.le_refl _) l l.length⟩
  · have hc : MB l = false := by simp [MB, hs]
    rw [hc, yO hc]
    have H0 := h.below ((Below.refl _ _).alloc (Nat.le_refl _) (.cells (xC [] 0).toArray 132))
    obtain ⟨a, c, rfl, k1, m1⟩ : ∃ a c, v = .slice a l.length c ∧ l.length ≤ c ∧ c ≤ maxLen := by
      obtain ⟨a, c, rfl, k1, m1, -⟩ := h
      exact ⟨a, c, rfl, k1, m1⟩
    simp only [hs, Bool.false_eq_true, if_false] at C
    clear h hs hc
    go_enter Tryz.func109, Tryz.ntmps109
    go_wp2_with fail
    refine (C _ H0).mono ?_
    rintro e w1 ⟨rfl, hB1⟩
    have hz := hB1.size
    simp at hz
    have hB0 : Below w.heap.size w w1 := ((Below.refl _ _).alloc (Nat.le_refl _) _).trans (hB1.mono (by simp))
    have hZ : Blk w1 w.heap.size 132 (xC [] 0) := Blk.below (heap_alloc_new w _) hB1 (by simp)
    obtain ⟨z0, z1, z2, z3, z4, z5, z6, zf⟩ := FF hZ
    have HB := Lib.hid (And.intro hB0 hZ)
    clear hB1 hB0 hZ C H0
    simp only [EP] at z0 z1 z2 z3 z4 z5
    have ZC : ∀ i, (w1.alloc (.cells #[.int .i64 0, .int .i64 0, .int .i64 0, .int .i64 0, .int .i64 0, .int .i64 0, .int .i64 0] 132)).cell? ⟨w.heap.size, i, none⟩ = w1.cell? ⟨w.heap.size, i, none⟩ := fun i => ((Below.refl w1.heap.size w1).alloc (Nat.le_refl _) _).cell (p := ⟨w.heap.size, i, none⟩) (by simp; omega)
    have ZF : ∀ i, (w1.alloc (.cells #[.int .i64 0, .int .i64 0, .int .i64 0, .int .i64 0, .int .i64 0, .int .i64 0, .int .i64 0] 132)).frozen? ⟨w.heap.size, i, none⟩ = w1.frozen? ⟨w.heap.size, i, none⟩ := fun i => ((Below.refl w1.heap.size w1).alloc (Nat.le_refl _) _).frozen (p := ⟨w.heap.size, i, none⟩) (by simp; omega)
    unfold KP ptA
    go_wp2
    exact bodyPost_ret (iF (w := sO (w1.alloc (.cells (xC [] 0).toArray 132)) w.heap.size [] 0) rfl rfl (GG (HB.out.2.below ((Below.refl w1.heap.size _).alloc (Nat.le_refl _) _) (by omega)))) rfl ⟨rfl, sF (HB.out.1.alloc (by omega) _) (Nat.le_refl _) [] 0⟩
set_option maxHeartbeats 1000000 in
theorem RJ (v : Value) (l : List Int) (w : World) (h : SlI w v l) (hl : l.length ≤ 1048576) :
    Calls Tryz.prog 61 #[v] w fun e w' => e = .returned (.bool (MB l)) ∧ Below w.heap.size w w' := by
  have C := QJ v l w h hl
  obtain ⟨a, c, rfl, -⟩ := h
  obtain ⟨r, hr⟩ : ∃ r : List Int × Int, ptR l = ptA r.1 r.2 := by
    rcases Bool.eq_false_or_eq_true (MB l) with hs | hs
    · exact ⟨(l, l.length), LP hs⟩
    · exact ⟨([], 0), yO hs⟩
  rw [hr] at C
  generalize MB l = b at C ⊢
  clear hr
  go_enter Tryz.func61, Tryz.ntmps61
  go_wp2_with fail
  refine C.mono ?_
  rintro e w1 ⟨rfl, hB1⟩
  unfold ptA
  go_wp2
  go_ret
  exact ⟨rfl, hB1.alloc hB1.size _⟩
set_option maxRecDepth 100000 in
set_option maxHeartbeats 1000000 in
theorem MG (v : Value) (l : List Int) (w : World) (h : SlI w v l) (hl : l.length ≤ 1048576) :
    Calls Tryz.prog 63 #[v] w fun e w' => e = .returned (.bool (MB l)) ∧ w = w' := by
  by_cases hn : l = []
  · subst hn
    obtain ⟨a1, c1, rfl⟩ := h.nil
    clear h hl
    go_enter Tryz.func63, Tryz.ntmps63
    go_wp2
    go_loop [3] (fun i => i = .int .i64 0) (fun i => 0)
    case atStart => rfl
    case round =>
      obtain rfl := hrel
      go_wp2
      go_ret
      exact ⟨rfl, rfl⟩
  · obtain ⟨b1, o1, c1, rfl, k1, m1, s1, H1⟩ := h.at hn
    have hl1 : 1 ≤ l.length := List.length_pos_iff.2 hn
    unfold maxLen at m1
    clear h hn
    go_enter Tryz.func63, Tryz.ntmps63
    go_wp2
    go_loop [3] (fun i => ∃ k : Nat, k ≤ l.length ∧ i = .int .i64 k ∧ ∀ (j : Nat) (n : Int), j < k → l[j]? = some n → aB n 0 100000 = true) (fun i => l.length - (intOf i).toNat)
    case atStart => exact ⟨0, Nat.zero_le _, rfl, fun j n hj => by omega⟩
    case round =>
      obtain ⟨k, hk, rfl, hP⟩ := hrel
      by_cases hlt : k < l.length
      · obtain ⟨n, hg⟩ : ∃ n, l[k]? = some n := ⟨_, List.getElem?_eq_getElem hlt⟩
        have A1 := H1 k n hg
        have j0 : (0 : Int) ≤ (k : Int) := by omega
        have j1 : (k : Int) < (l.length : Int) := by omega
        rcases Bool.eq_false_or_eq_true (aB n 0 100000) with hin | hin
        · have HI := Lib.hid hin
          have HH := Lib.hid (And.intro hP hg)
          clear hP hg H1 hin
          go_wp2_with fail
          refine (jB _ _ _ _).mono ?_
          rintro e w2 ⟨rfl, rfl⟩
          rw [HI.out]
          go_wp2
          refine ⟨⟨k + 1, by omega, by go_num, fun j m hj hm => ?_⟩, by simp [intOf]; omega⟩
          by_cases e : j = k
          · subst e
            rw [HH.out.2] at hm
            cases hm
            exact HI.out
          · exact HH.out.1 j m (by omega) hm
        · have HC := Lib.hid (tI hg hin)
          have HI := Lib.hid hin
          clear hP hg H1 hin
          go_wp2_with fail
          refine (jB _ _ _ _).mono ?_
          rintro e w2 ⟨rfl, rfl⟩
          rw [HI.out]
          go_wp2
          go_ret
          exact ⟨by first | rfl | (rw [HC.out]; rfl), rfl⟩
      · obtain rfl : k = l.length := by omega
        have HC : MB l = YF l := by
          rcases Bool.eq_false_or_eq_true (YF l) with hs | hs
          · rw [hs]
            exact vI hs (fun k n _ hk => hP k n (List.getElem?_eq_some_iff.1 hk).1 hk)
          · simp [MB, hs]
        have HC := Lib.hid HC
        clear H1 hP
        by_cases h6 : l.length ≤ 6
        · have h6' : (l.length : Int) ≤ 6 := by omega
          have h1' : (l.length : Int) ≥ 1 := by omega
          go_wp2
          go_ret
          exact ⟨by first | rfl | (rw [HC.out]; simp [YF, aB, h6', h1']; done) | (simp [YF, aB, h6', h1']; done), rfl⟩
        · have h6' : ¬ (l.length : Int) ≤ 6 := by omega
          have h1' : (l.length : Int) ≥ 1 := by omega
          go_wp2
          go_ret
          exact ⟨by first | rfl | (rw [HC.out]; simp [YF, aB, h6', h1']; done) | (simp [YF, aB, h6', h1']; done), rfl⟩
def TC (l : List Int) : Nat → List Int
  | 0 => []
  | k + 1 => if dD l k % 2 = 1 then TC l k ++ [(k : Int)] else TC l k
theorem vM (l : List Int) (k : Nat) : (TC l k).length ≤ k := by
  induction k with
  | zero => simp [TC]
  | succ k ih =>
    rw [TC]
    split <;> (try simp) <;> omega
def VJ (l : List Int) : List Int := if MB l then TC l l.length else []
theorem rJ (l : List Int) : ∀ u ∈ AA l, u.oneCell' = true := by
  intro u hu
  simp only [AA, List.mem_map] at hu
  obtain ⟨n, -, rfl⟩ := hu
  rfl
theorem UO (b off i : Nat) : (⟨b, off, none⟩ : Addr).add i = ⟨b, off + i, none⟩ := by
  unfold Addr.add
  split <;> simp_all
theorem wI {w w1 : World} {l : List Int} {b off c : Nat} (h : SlI w (.slice (some ⟨b, off, none⟩) l.length c) l) (hb : Below w.heap.size w w1) (hn : l ≠ []) : ∀ j u, (AA l)[j]? = some u → w1.cell? ((⟨b, off, none⟩ : Addr).add j) = some u := by
  intro j u hj
  obtain ⟨a, cap, hv, -, -, h3, h4⟩ := h.below hb
  cases hv
  rcases h4 with h4 | ⟨b', off', e, hc⟩
  · exact absurd (List.length_eq_zero_iff.1 h4) hn
  · cases e
    rw [UO, hc j (List.getElem?_eq_some_iff.1 hj).1, hj]
set_option maxHeartbeats 1000000 in
theorem IM (v : Value) (l : List Int) (w : World) (h : SlI w v l) (hn : l ≠ []) (hl : l.length ≤ 1048576) : Calls Tryz.prog 135 #[v] w (RM w l) := by
  obtain ⟨b1, o1, c1, rfl, k1, m1, s1, H1⟩ := h.at hn
  have hl0 : 0 < l.length := List.length_pos_iff.2 hn
  obtain ⟨i0, hi0, hz0, hz1, hz2⟩ := info_parts zH
  have HW := Lib.hid h
  have he : ∀ w : World, (binOp .eql 39 (.slice (some ⟨b1, o1, none⟩) l.length c1) (.slice none 0 0)).run Tryz.prog w = .ok (.bool false) w := fun _ => by kernel_rfl
  clear H1 h
  go_enter Tryz.func135, Tryz.ntmps135
  go_wp2_with (first
    | (at_builtin; refine wpList_append_lies _ rfl _ _ 39 rfl w.heap.size 2 i0 _ 1 8 GA hi0 hz0 hz1 hz2 rfl (by decide) (.slice (some ⟨w.heap.size, 0, none⟩) 0 0) 0 [] rfl (lE _ _ (Below.refl _ _)) ⟨b1, o1, none⟩ l.length c1 (AA l) rfl (by rw [EA]; omega) (wI HW.out ((Below.refl _ _).alloc (Nat.le_refl _) _) hn) (rJ l) hl0 (by unfold maxLen; omega) (by omega) (by simp) (w.heap.size + 1) (by simp) ?_; intro g cap w1 hown hgrow hat hgl)
    | go_in)
  go_ret
  rw [List.nil_append, Nat.zero_add] at hown
  obtain ⟨q1, q2⟩ : w.heap.size ≤ g ∧ Below w.heap.size w w1 := ⟨by
      rcases hat with h | h
      · simp [Value.ownBlock] at h; omega
      · omega, ((Below.refl _ _).alloc (Nat.le_refl _) _).grown hgrow (by simp) (fun j hj => by simp [Value.ownBlock] at hj; omega)⟩
  exact ⟨g, _, rfl, q1, iD hown, q2⟩
theorem SaysIB.fresh {w w1 w' : World} {l : List Int} {b : Bool} {g : Nat} {u : Value} (hg : w1.heap.size ≤ g) (hO : Own w' u g 2 1 l.length (AA l)) (h1 : 1 ≤ l.length) (hB : Below w.heap.size w w1) (hB1 : Below w1.heap.size w1 w') : SaysIB (l, b) w (.returned (.tuple #[u, .bool b])) w' :=
  ⟨u, rfl, OwnR.of_own hO (by have := hB.size; omega) h1, hB.trans (hB1.mono hB.size)⟩
set_option maxRecDepth 100000 in
set_option maxHeartbeats 2000000 in
theorem nH (v : Value) (l : List Int) (w : World) (h : SlI w v l) (hl : l.length ≤ 1048576) :
    Calls Tryz.prog 32 #[v] w (PP (VJ l) w) := by
  obtain ⟨i0, hi0, hz0, hz1, hz2⟩ := info_parts zH
  by_cases hn : l = []
  · subst hn
    obtain ⟨a1, c1, rfl⟩ := h.nil
    clear h hl
    go_enter Tryz.func32, Tryz.ntmps32
    go_wp2
    go_loopw [3, 4] (fun v i wr => i = .int .i64 0 ∧ (∃ a, v = .slice a 0 0) ∧ Below w.heap.size w wr) (fun _ i _ => 0)
    case atStart => exact ⟨rfl, ⟨_, rfl⟩, (Below.refl _ _).alloc (Nat.le_refl _) _⟩
    case round =>
      obtain ⟨rfl, ⟨a, rfl⟩, hb⟩ := hrel
      go_wp2
      go_ret
      exact ⟨_, rfl, OwnR.nil _ _ _ _ _ _ _ (by simp [maxLen]), hb⟩
  · have C := fun wr hb => MG v l wr (h.below hb) hl
    obtain ⟨b1, o1, c1, rfl, k1, m1, s1, H1⟩ := h.at hn
    have hl1 : 1 ≤ l.length := List.length_pos_iff.2 hn
    unfold maxLen at m1
    have HC := Lib.hid C
    clear h hn C
    rcases Bool.eq_false_or_eq_true (MB l) with hc | hc
    · obtain ⟨l1, l6, hin⟩ := mC hc
      have HW : VJ l = TC l l.length := by rw [VJ, if_pos hc]
      rw [HW]
      have HIN := Lib.hid hin
      have HCC := Lib.hid hc
      clear hc HW hin
      go_enter Tryz.func32, Tryz.ntmps32
      go_wp2
      go_loopw [3, 4] (fun v i wr => ∃ (k : Nat) (oa : Option Addr) (oc : Nat), k ≤ l.length ∧ i = .int .i64 k ∧ v = .slice oa (TC l k).length oc ∧ Hid (wr.ownsRow w.heap.size 2 1 (.slice oa (TC l k).length oc) (TC l k).length (AA (TC l k))) ∧ Below w.heap.size w wr) (fun _ i _ => l.length - (intOf i).toNat)
      case atStart => exact ⟨0, _, _, Nat.zero_le _, rfl, rfl, Lib.hid (lE _ _ (Below.refl _ _)), (Below.refl _ _).alloc (Nat.le_refl _) _⟩
      case round =>
        obtain ⟨k, oa, oc, hk, rfl, rfl, hrow, hb⟩ := hrel
        have hz := hb.size
        have HB := Lib.hid hb
        by_cases hlt : k < l.length
        · obtain ⟨n, hg⟩ : ∃ n, l[k]? = some n := ⟨_, List.getElem?_eq_getElem hlt⟩
          have A1 : wr.cell? ⟨b1, o1 + k, none⟩ = some (.int .i64 n) := (hb.cell (p := ⟨b1, o1 + k, none⟩) s1).trans (H1 k n hg)
          have i0' : (0 : Int) ≤ (k : Int) := by omega
          have i1' : (k : Int) < (l.length : Int) := by omega
          obtain ⟨n0, n1⟩ := HIN.out k n hg
          have HA := Lib.hid (NI hg)
          have hol := vM l k
          clear hg H1 hb
          go_wp2_with fail
          refine (HC.out _ HB.out).mono ?_
          rintro e w2 ⟨rfl, rfl⟩
          rw [HCC.out]
          by_cases ho : n % 2 = 1
          · have ho' : ¬ n % 2 = 0 := by omega
            go_wp2_with (first
              | (at_builtin; refine wpList_append_lies _ rfl _ _ 39 rfl w.heap.size 2 i0 (.int .i64 0) 1 8 GA hi0 hz0 hz1 hz2 rfl (by decide) (.slice oa (TC l k).length oc) (TC l k).length (AA (TC l k)) rfl (hrow.out.alloc _) ⟨wr.heap.size, 0, none⟩ 1 1 [.int .i64 k] rfl rfl (cell_one_new _ _ _) (by simp [Value.oneCell']) (by omega) (by unfold maxLen; omega) (by omega) (by simp; omega) (wr.heap.size + 1) (by simp) ?_; intro g' cap' w5 hown' hg5 hat5 hgl5; go_frame)
              | go_in)
            have e1 : TC l (k + 1) = TC l k ++ [(k : Int)] := by rw [TC, HA.out, if_pos ho]
            have e2 : (TC l (k + 1)).length = (TC l k).length + 1 := by rw [e1]; simp
            refine ⟨⟨k + 1, some ⟨g', 0, none⟩, cap', by omega, by go_num, by rw [e2], Lib.hid ?_, ?_⟩, by simp [intOf]; omega⟩
            · rw [e2, e1, zG]
              exact hown'
            · exact (HB.out.alloc hz _).grown hg5 (by simp; omega) (fun j hj => (hrow.out.lt j hj).1)
          · have ho' : n % 2 = 0 := by omega
            go_wp2
            have e1 : TC l (k + 1) = TC l k := by rw [TC, HA.out, if_neg ho]
            refine ⟨⟨k + 1, oa, oc, by omega, by go_num, by rw [e1], ?_, HB.out⟩, by simp [intOf]; omega⟩
            rw [e1]
            exact hrow
        · obtain rfl : k = l.length := by omega
          clear H1 hb
          go_wp2
          go_ret
          exact ⟨_, rfl, OwnR.of_row hrow.out, HB.out⟩
    · have HW : VJ l = [] := by rw [VJ, if_neg (by rw [hc]; simp)]
      rw [HW]
      have HCC := Lib.hid hc
      clear hc HW H1
      have i1' : (0 : Int) < (l.length : Int) := by omega
      go_enter Tryz.func32, Tryz.ntmps32
      go_wp2
      go_loopw [3, 4] (fun v i wr => i = .int .i64 0 ∧ (∃ a, v = .slice a 0 0) ∧ Below w.heap.size w wr) (fun _ i _ => 0)
      case atStart => exact ⟨rfl, ⟨_, rfl⟩, (Below.refl _ _).alloc (Nat.le_refl _) _⟩
      case round =>
        obtain ⟨rfl, ⟨a, rfl⟩, hb⟩ := hrel
        have HB := Lib.hid hb
        clear hb
        go_wp2_with fail
        refine (HC.out _ HB.out).mono ?_
        rintro e w2 ⟨rfl, rfl⟩
        rw [HCC.out]
        go_wp2
        go_ret
        exact ⟨_, rfl, OwnR.nil _ _ _ _ _ _ _ (by simp [maxLen]), HB.out⟩
set_option maxHeartbeats 1000000 in
theorem QI (v : Value) (l : List Int) (w : World) (h : SlI w v l) (hn : l ≠ []) (hl : l.length ≤ 1048576) : Calls Tryz.prog 104 #[v] w (RM w l) := by
  obtain ⟨b1, o1, c1, rfl, k1, m1, s1, H1⟩ := h.at hn
  have hl0 : 0 < l.length := List.length_pos_iff.2 hn
  obtain ⟨i0, hi0, hz0, hz1, hz2⟩ := info_parts zH
  have HW := Lib.hid h
  clear H1 h
  go_enter Tryz.func104, Tryz.ntmps104
  go_wp2_with (first
    | (at_builtin; refine wpList_append_lies _ rfl _ _ 39 rfl w.heap.size 2 i0 _ 1 8 GA hi0 hz0 hz1 hz2 rfl (by decide) (.slice (some ⟨w.heap.size, 0, none⟩) 0 0) 0 [] rfl (lE _ _ (Below.refl _ _)) ⟨b1, o1, none⟩ l.length c1 (AA l) rfl (by rw [EA]; omega) (wI HW.out ((Below.refl _ _).alloc (Nat.le_refl _) _) hn) (rJ l) hl0 (by unfold maxLen; omega) (by omega) (by simp) (w.heap.size + 1) (by simp) ?_; intro g cap w1 hown hgrow hat hgl)
    | go_in)
  go_ret
  rw [List.nil_append, Nat.zero_add] at hown
  obtain ⟨q1, q2⟩ : w.heap.size ≤ g ∧ Below w.heap.size w w1 := ⟨by
      rcases hat with h | h
      · simp [Value.ownBlock] at h; omega
      · omega, ((Below.refl _ _).alloc (Nat.le_refl _) _).grown hgrow (by simp) (fun j hj => by simp [Value.ownBlock] at hj; omega)⟩
  exact ⟨g, _, rfl, q1, iD hown, q2⟩
theorem nP {w1 : World} {l : List Int} {g k : Nat} {u : Value} (hO : Own w1 u g 2 1 l.length (AA l)) (hk : k < l.length) (o : Int) : Own (w1.setCell ⟨g, k, none⟩ (.int .i64 o)) u g 2 1 (l.set k o).length (AA (l.set k o)) := by
  obtain ⟨cap, sp, rfl, h1, h2, h3, h4⟩ := hO
  refine ⟨cap, sp, by simp, by simpa using h1, h2, ⟨by rw [EA]; omega, ?_⟩, ?_⟩
  · have h5 := h3.2
    simp only [List.length_append, EA, List.length_set] at h5 ⊢
    exact h5
  have := h4.set k (.int .i64 o)
  rw [List.set_append_left _ _ (by rw [EA]; exact hk)] at this
  simpa [AA] using this
theorem aQ {w1 : World} {l : List Int} {g k : Nat} {n c : Nat} (hO : Own w1 (.slice (some ⟨g, 0, none⟩) n c) g 2 1 l.length (AA l)) (hk : k < l.length) : w1.cell? ⟨g, k, none⟩ = some (.int .i64 (dD l k)) ∧ w1.frozen? ⟨g, k, none⟩ = false := by
  obtain ⟨cap, sp, hv, h1, h2, h3, h4⟩ := hO
  refine ⟨?_, h4.free k⟩
  rw [h4.cell, List.getElem?_append_left (by rw [EA]; exact hk), sJ (List.getElem?_eq_getElem hk), NI (List.getElem?_eq_getElem hk)]
end Go.Proofs.YtfjafncipjdnfaaGreat
